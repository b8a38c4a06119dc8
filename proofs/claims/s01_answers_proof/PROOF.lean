import PyProof.Rows.All
import Wide.All
import OpenK.AllK
import Wide.FinOn
import PyProof.EqAt
import PyProof.EqKinds
import PyProof.TupleCall
import KE.BitLaws
import Open.SpecLaws
import KE.OsHead
import KE.OsGo
import PyProof.Draws
import PyProof.EnumMake
import PyProof.WalksMore
import KE.KDictList
import PySem.Challenge.RW_oneleader_s01_answers
section
set_option Elab.async false
set_option linter.all false
set_option maxRecDepth 100000
/-! THE HAND LAYER, for ints, bools, texts, own classes, lists, tuples, dicts, comprehensions, walks over dicts, enumerate, zip, reversed, texts, calls, loops. Paste it whole ahead of your own text; what your proof does not reach may be deleted. -/
namespace L2
open PySem PySem.Spec PyProof.Rows

/-- a key: an int or a str -/
abbrev Key := Sum Int Str
def keyIs : Key → Value → Bool
  | .inl k, v => Value.isInt k v
  | .inr x, v => Value.isStrOf x v
def keyH (w : World) : Key → Int
  | .inl k => hashInt k
  | .inr x => hashStr w x
theorem keyIs_shape : ∀ {k : Key} {v : Value}, keyIs k v = true → (∃ i t, k = Sum.inl i ∧ v = Value.int i t) ∨ (∃ x t, k = Sum.inr x ∧ v = Value.str x t)
  | .inl i, v, h => by
    obtain ⟨t, e⟩ := Value.isInt_shape (k := i) (v := v) h
    exact .inl ⟨i, t, rfl, e⟩
  | .inr x, v, h => by
    obtain ⟨t, e⟩ := Value.isStrOf_shape (x := x) (v := v) h
    exact .inr ⟨x, t, rfl, e⟩
theorem keyIs_int (i : Int) (t : Tok) : keyIs (.inl i) (.int i t) = true := by simp [keyIs, Value.isInt]
theorem keyIs_str (x : Str) (t : Tok) : keyIs (.inr x) (.str x t) = true := by simp [keyIs, Value.isStrOf]
theorem key_ll (a b : Int) : decide ((Sum.inl a : Key) = Sum.inl b) = (a == b) := by
  by_cases e : a = b
  · subst e; simp
  · have h : ¬ (Sum.inl a : Key) = Sum.inl b := fun q => e (Sum.inl.inj q)
    rw [decide_eq_false h]
    exact (beq_eq_false_iff_ne.mpr e).symm
theorem key_rr (a b : Str) : decide ((Sum.inr a : Key) = Sum.inr b) = decide (a = b) := by
  by_cases e : a = b
  · subst e; simp
  · have h : ¬ (Sum.inr a : Key) = Sum.inr b := fun q => e (Sum.inr.inj q)
    rw [decide_eq_false h, decide_eq_false e]
theorem key_lr (a : Int) (b : Str) : decide ((Sum.inl a : Key) = Sum.inr b) = false := decide_eq_false (fun q => nomatch q)
theorem key_rl (a : Str) (b : Int) : decide ((Sum.inr a : Key) = Sum.inl b) = false := decide_eq_false (fun q => nomatch q)

def mixKind (prog : Program) (w : World) : PySem.KeyKind prog w Key where
  is := keyIs
  hash := keyH w
  inj := fun v a b ha hb => by
    rcases keyIs_shape ha with ⟨i, t, rfl, rfl⟩ | ⟨x, t, rfl, rfl⟩
    · rcases keyIs_shape hb with ⟨j, u, rfl, e⟩ | ⟨y, u, rfl, e⟩
      · injection e with e1 _; rw [e1]
      · exact nomatch e
    · rcases keyIs_shape hb with ⟨j, u, rfl, e⟩ | ⟨y, u, rfl, e⟩
      · exact nomatch e
      · injection e with e1 _; rw [e1]
  byValue := fun k v h => by
    rcases keyIs_shape h with ⟨i, t, rfl, rfl⟩ | ⟨x, t, rfl, rfl⟩ <;> rfl
  pyHash := fun hv h => by
    rcases keyIs_shape hv with ⟨i, t, rfl, rfl⟩ | ⟨x, t, rfl, rfl⟩
    · exact wpAny_pyHash_int h
    · exact wpAny_pyHash_str h
  eqBool := fun hu hv h => by
    rcases keyIs_shape hu with ⟨i, t, rfl, rfl⟩ | ⟨x, t, rfl, rfl⟩
    · rcases keyIs_shape hv with ⟨j, u, rfl, rfl⟩ | ⟨y, u, rfl, rfl⟩
      · rw [key_ll] at h; exact wpAny_eqBool_int h
      · rw [key_lr] at h; exact SeqAt.EqAt.int_str i t y u _ _ _ _ h
    · rcases keyIs_shape hv with ⟨j, u, rfl, rfl⟩ | ⟨y, u, rfl, rfl⟩
      · rw [key_rl] at h; exact SeqAt.EqAt.str_int x t j u _ _ _ _ h
      · rw [key_rr] at h; exact wpAny_eqBool_str h
  «strs» := fun k x t v h => by
    rcases keyIs_shape h with ⟨i, u, rfl, e⟩ | ⟨y, u, rfl, e⟩
    · exact nomatch e
    · injection e with e1 _
      subst e1
      cases v <;> rfl

theorem mixKind_int (prog : Program) (w : World) (i : Int) (t : Tok) : (mixKind prog w).is (.inl i) (.int i t) = true := keyIs_int i t
theorem mixKind_str (prog : Program) (w : World) (x : Str) (t : Tok) : (mixKind prog w).is (.inr x) (.str x t) = true := keyIs_str x t
end L2

namespace L2
open PySem PySem.Spec PyProof.Rows

/-- a value, without the heap -/
inductive V where
  | non | bl (b : Bool) | int (i : Int) | str (x : Str) | byt (b : Array UInt8) | flt (b : UInt64) | ref (a : Addr) | ty (n : String)
  deriving DecidableEq

def RelV : V → Value → Prop
  | .non, u => u = Value.none
  | .bl b, u => u = Value.bool b
  | .int i, u => ∃ t, u = Value.int i t
  | .str x, u => ∃ t, u = Value.str x t
  | .byt b, u => ∃ t, u = Value.bytes b t
  | .flt b, u => ∃ t, u = Value.float b t
  | .ref a, u => u = Value.ref a
  | .ty n, u => u = Value.type n

abbrev Vals : List V → List Value → Prop := Paired RelV
theorem Vals.length {xs : List V} {us : List Value} (r : Vals xs us) : xs.length = us.length := Paired.length r
theorem Vals.get : ∀ {xs : List V} {us : List Value} {i : Nat} {x : V}, Vals xs us → xs[i]? = some x → ∃ u, us[i]? = some u ∧ RelV x u
  | _, _, _, _, .nil, e => by simp at e
  | _, _, 0, _, .cons r _, e => by simp at e; subst e; exact ⟨_, rfl, r⟩
  | _, _, i + 1, x, .cons _ t, e => by
    obtain ⟨u, h1, h2⟩ := Vals.get (i := i) (x := x) t (by simpa using e)
    exact ⟨u, by simpa using h1, h2⟩
theorem Vals.set {x : V} {u : Value} (r : RelV x u) : ∀ {xs : List V} {us : List Value} (i : Nat), Vals xs us → Vals (xs.set i x) (us.set i u)
  | _, _, _, .nil => .nil
  | _, _, 0, .cons _ t => .cons r t
  | _, _, i + 1, .cons q t => .cons q (Vals.set r i t)
theorem Vals.append : ∀ {xs ys : List V} {us ws : List Value}, Vals xs us → Vals ys ws → Vals (xs ++ ys) (us ++ ws)
  | _, _, _, _, .nil, s => s
  | _, _, _, _, .cons r t, s => .cons r (Vals.append t s)
theorem Vals.take : ∀ {xs : List V} {us : List Value} (n : Nat), Vals xs us → Vals (xs.take n) (us.take n)
  | _, _, 0, _ => .nil
  | _, _, _ + 1, .nil => .nil
  | _, _, n + 1, .cons r t => .cons r (Vals.take n t)
theorem Vals.drop : ∀ {xs : List V} {us : List Value} (n : Nat), Vals xs us → Vals (xs.drop n) (us.drop n)
  | _, _, 0, r => r
  | _, _, _ + 1, .nil => .nil
  | _, _, n + 1, .cons _ t => Vals.drop n t

def RelO : Option V → Option Value → Prop
  | some v, some u => RelV v u
  | none, none => True
  | _, _ => False
def KV {κ : Type} : List (κ × V) → List (κ × Value) → Prop := Paired fun (p : κ × V) (q : κ × Value) => p.1 = q.1 ∧ RelV p.2 q.2

/-- a key of a dict (00_mix): an int or a text -/
def kV : Key → V
  | .inl i => .int i
  | .inr x => .str x

/-- what stands at a tracked address -/
inductive HO where
  /-- a list -/
  | lst (xs : List V)
  /-- a tuple (never changes) -/
  | tup (xs : List V)
  /-- a dict whose keys are ints and texts; one whose keys are tuples of ints and texts (the empty one is both) -/
  | dK (kvs : List (Key × V)) | dT (kvs : List (List Key × V))
  /-- a set of ints: its members, its size -/
  | set (S : Int → Bool) (n : Nat)
  /-- an instance of the class at C, its dict at dx, its attributes -/
  | ins (C dx : Addr) (fs : List (Str × V))
  /-- the dict of the instance at x -/
  | own (x : Addr)
  /-- the dict of an exception -/
  | xd (fs : List (Str × V))
  /-- a bound method, f of x -/
  | met (f x : Addr)
  /-- a range object lo, lo + 1, .. below hi -/
  | rng (lo hi : Int)
  /-- a thing that is known to the object (the script; a dict while a loop walks it): read, never written while it is so -/
  | frz (o : Obj) (u : HO)
  /-- a code object's table -/
  | tbl (ps : Array Value)
  /-- any other thing, by what is true of its one object (a def of one's own: SetO a S n := HO.ext fun h => ..) -/
  | ext (φ : Heap → Prop)

abbrev Hp := Addr → Option HO
def upd (H : Hp) (a : Addr) (o : HO) : Hp := fun b => if b = a then some o else H b
theorem upd_same {H : Hp} {a : Addr} {o : HO} : upd H a o a = some o := by unfold upd; rw [if_pos rfl]
theorem upd_ne {H : Hp} {a b : Addr} {o : HO} (h : b ≠ a) : upd H a o b = H b := by unfold upd; rw [if_neg h]
/-- two objects of different content stand apart -/
theorem ne_of {H : Hp} {a b : Addr} {o u : HO} (h : H a = some o) (h' : H b = some u) (d : o ≠ u) : a ≠ b := by
  intro e; subst e; rw [h] at h'; exact d (Option.some.inj h')
theorem ne_of_none {H : Hp} {a b : Addr} {o : HO} (h : H a = some o) (h' : H b = none) : a ≠ b := by
  intro e; subst e; rw [h] at h'; cases h'

section
variable (P : Program) (w : World)
def ObjOk (H : Hp) (h : Heap) (a : Addr) : HO → Prop
  | .lst xs => xs.length ≤ sizeLine ∧ ∃ (its : List Value) (n : Nat), Vals xs its ∧ h.get? a = some { cls := .type "list", data := .seq its.toArray n }
  | .tup xs => xs.length ≤ sizeLine ∧ ∃ its : List Value, Vals xs its ∧ IsTup h a its.toArray
  | .dK kvs => kvs.length ≤ sizeLine ∧ (a == sysModules) = false ∧ ∃ vs, KV kvs vs ∧ h.DictOf (mixKind P w) a vs
  | .dT kvs => kvs.length ≤ sizeLine ∧ (a == sysModules) = false ∧ ∃ xs : List (List Key × Addr × Value),
      Paired (fun (p : List Key × V) (q : List Key × Addr × Value) => p.1 = q.1 ∧ H q.2.1 = some (.tup (p.1.map kV)) ∧ RelV p.2 q.2.2) kvs xs ∧
      ∃ o es ep, h.get? a = some o ∧ o.ExactDict ∧ o.data = .dict es ep ∧ es.toList = xs.map (entryOfKey (tupleKind (mixKind P w))) ∧ (xs.map (·.1)).Nodup
  | .set S n => h.SetOf (intKind P w) a S n
  | .ins C dx fs => H dx = some (.own a) ∧ fs.length ≤ 1000 ∧ dx ≠ a ∧ h.get? a = some (PySem.W.instObj C dx) ∧
      ∃ mA, h.Ns1 dx mA ∧ (∀ f, RelO (fs.lookup f) (mA f)) ∧ PySem.Within mA (fs.map (·.1))
  | .own _ => ∃ o, h.get? a = some o
  | .xd fs => ∃ mA, h.Ns1 a mA ∧ ∀ f, RelO (fs.lookup f) (mA f)
  | .rng lo hi => ∃ t u v, h.get? a = some { cls := .type "range", data := .fields #[.int lo t, .int hi u, .int 1 v] }
  | .frz o u => h.get? a = some o ∧ ObjOk H h a u
  | .tbl ps => h.get? a = some { cls := .none, data := .fields ps }
  | .met f x => h.get? a = some (PySem.W.methodObj (.ref f) (.ref x))
  | .ext φ => φ h ∧ (∃ o, h.get? a = some o) ∧ ∀ h1 h2 : Heap, φ h1 → (∀ o, h1.get? a = some o → h2.get? a = some o) → φ h2
/-- the abstract heap is held -/
def HOk (H : Hp) (h : Heap) : Prop := ∀ a o, H a = some o → ObjOk P w H h a o
end

section
variable {P : Program} {w : World} {H H' : Hp} {h h' : Heap} {a : Addr} {o : HO}
theorem ObjOk.lt (x : ObjOk P w H h a o) : a < h.objs.size := by
  cases o with
  | lst xs => obtain ⟨_, _, _, _, e⟩ := x; exact Heap.lt_size e
  | tup xs => obtain ⟨_, _, _, p⟩ := x; exact p.lt
  | dK kvs => obtain ⟨_, _, _, _, o, _, _, e, _⟩ := x; exact Heap.lt_size e
  | dT kvs => obtain ⟨_, _, _, _, o, _, _, e, _⟩ := x; exact Heap.lt_size e
  | set S n => obtain ⟨o, _, _, _, e, _⟩ := x; exact Heap.lt_size e
  | ins C dx fs => obtain ⟨_, _, _, e, _⟩ := x; exact Heap.lt_size e
  | own y => obtain ⟨_, e⟩ := x; exact Heap.lt_size e
  | xd fs => obtain ⟨_, ⟨_, _, _, e, _⟩, _⟩ := x; exact Heap.lt_size e
  | rng lo hi => obtain ⟨_, _, _, e⟩ := x; exact Heap.lt_size e
  | frz ob u => obtain ⟨e, _⟩ := x; exact Heap.lt_size e
  | tbl ps => exact Heap.lt_size (show h.get? a = some _ from x)
  | met f y => exact Heap.lt_size (show h.get? a = some _ from x)
  | ext φ => obtain ⟨_, ⟨_, e⟩, _⟩ := x; exact Heap.lt_size e
theorem Paired.mapP {α β : Type} {F G : α → β → Prop} : ∀ {l₁ : List α} {l₂ : List β}, Paired F l₁ l₂ → (∀ a b, F a b → G a b) → Paired G l₁ l₂
  | _, _, .nil, _ => .nil
  | _, _, .cons r t, f => .cons (f _ _ r) (Paired.mapP t f)
/-- what an object's description leans on: its own object, its own dict, the tuples -/
theorem ObjOk.stay (x : ObjOk P w H h a o) (k : ∀ b u, (b = a ∨ H b = some (.own a)) → h.get? b = some u → h'.get? b = some u)
    (ho : ∀ b, H b = some (.own a) → H' b = some (.own a)) (ht : ∀ b xs, H b = some (.tup xs) → H' b = some (.tup xs)) : ObjOk P w H' h' a o := by
  induction o with
  | lst xs => obtain ⟨z, its, n, r, e⟩ := x; exact ⟨z, its, n, r, k _ _ (.inl rfl) e⟩
  | tup xs => obtain ⟨z, its, r, ob, e, c⟩ := x; exact ⟨z, its, r, ob, k _ _ (.inl rfl) e, c⟩
  | dK kvs => obtain ⟨z, y, vs, r, ob, es, ep, e, c⟩ := x; exact ⟨z, y, vs, r, ob, es, ep, k _ _ (.inl rfl) e, c⟩
  | dT kvs =>
    obtain ⟨z, y, xs, r, ob, es, ep, e, c⟩ := x
    exact ⟨z, y, xs, Paired.mapP r fun p q z => ⟨z.1, ht _ _ z.2.1, z.2.2⟩, ob, es, ep, k _ _ (.inl rfl) e, c⟩
  | set S n => obtain ⟨ob, es, ep, t, e, c⟩ := x; exact ⟨ob, es, ep, t, k _ _ (.inl rfl) e, c⟩
  | ins C dx fs =>
    obtain ⟨d, z, ne, e, mA, ⟨od, es, ep, e2, c⟩, r⟩ := x
    exact ⟨ho _ d, z, ne, k _ _ (.inl rfl) e, mA, ⟨od, es, ep, k _ _ (.inr d) e2, c⟩, r⟩
  | own y => obtain ⟨ob, e⟩ := x; exact ⟨ob, k _ _ (.inl rfl) e⟩
  | xd fs => obtain ⟨mA, ⟨od, es, ep, e, c⟩, r⟩ := x; exact ⟨mA, ⟨od, es, ep, k _ _ (.inl rfl) e, c⟩, r⟩
  | rng lo hi => obtain ⟨t, u, v, e⟩ := x; exact ⟨t, u, v, k _ _ (.inl rfl) e⟩
  | frz ob u ih => obtain ⟨e, q⟩ := x; exact ⟨k _ _ (.inl rfl) e, ih q⟩
  | tbl ps =>
    have e : h.get? a = some { cls := .none, data := .fields ps } := x
    show h'.get? a = some { cls := .none, data := .fields ps }
    exact k a _ (.inl rfl) e
  | met f y =>
    have e : h.get? a = some (PySem.W.methodObj (.ref f) (.ref y)) := x
    show h'.get? a = some (PySem.W.methodObj (.ref f) (.ref y))
    exact k a _ (.inl rfl) e
  | ext φ => obtain ⟨p, ⟨o, e⟩, st⟩ := x; exact ⟨st _ _ p fun o q => k _ _ (.inl rfl) q, ⟨o, k _ _ (.inl rfl) e⟩, st⟩
theorem HOk.lt (x : HOk P w H h) (e : H a = some o) : a < h.objs.size := (x a o e).lt
theorem HOk.fresh (x : HOk P w H h) (e : h.objs.size ≤ a) : H a = none := by
  cases q : H a with
  | none => rfl
  | some u => exact absurd (Nat.lt_of_lt_of_le (x.lt q) e) (Nat.lt_irrefl _)
/-- every object of the heap is kept -/
theorem HOk.kept (x : HOk P w H h) (k : ∀ b u, h.get? b = some u → h'.get? b = some u) : HOk P w H h' := fun a o e =>
  (x a o e).stay (fun b u _ q => k b u q) (fun _ q => q) fun _ _ q => q
/-- a new object is laid and tracked -/
theorem HOk.laid (x : HOk P w H h) (k : ∀ b u, h.get? b = some u → h'.get? b = some u) (hp : h.objs.size ≤ a) (new : ObjOk P w (upd H a o) h' a o) : HOk P w (upd H a o) h' := fun b u e => by
  have hn := x.fresh hp
  by_cases hb : b = a
  · subst hb; rw [upd_same] at e; cases e; exact new
  · rw [upd_ne hb] at e
    exact (x b u e).stay (fun c v _ q => k c v q) (fun c q => by rw [upd_ne (ne_of_none q hn)]; exact q) fun c xs q => by rw [upd_ne (ne_of_none q hn)]; exact q
end

/-- what may be read as u: it is u, or a known u -/
def Rd (H : Hp) (a : Addr) (u : HO) : Prop := H a = some u ∨ ∃ o, H a = some (.frz o u)
theorem Rd.ok {P : Program} {w : World} {H : Hp} {h : Heap} {a : Addr} {u : HO} (r : Rd H a u) (x : HOk P w H h) : ObjOk P w H h a u := by
  rcases r with r | ⟨o, r⟩
  · exact x a u r
  · obtain ⟨_, q⟩ := x a _ r
    exact q
/-- what may be written -/
def Mut : Option HO → Prop
  | some (.lst _) => True
  | some (.dK _) => True
  | some (.dT _) => True
  | some (.set _ _) => True
  | some (.ins _ _ _) => True
  | some (.ext _) => True
  | _ => False
section
variable {P : Program} {w : World} {H : Hp} {h h' : Heap} {x e : Addr} {o' : HO}
/-- the object at e is changed: x itself, or the dict of the instance x -/
theorem HOk.write (ok : HOk P w H h) (mu : Mut (H x)) (he : e = x ∨ H e = some (.own x)) (k : ∀ b u, b ≠ e → h.get? b = some u → h'.get? b = some u) (heo : ∃ u, h'.get? e = some u)
    (new : ObjOk P w (upd H x o') h' x o') : HOk P w (upd H x o') h' := fun b u q => by
  have nown : ∀ c y, H c = some (.own y) → c ≠ x := fun c y r z => by subst z; rw [r] at mu; exact mu
  have ntup : ∀ c xs, H c = some (.tup xs) → c ≠ x := fun c xs r z => by subst z; rw [r] at mu; exact mu
  by_cases hb : b = x
  · subst hb; rw [upd_same] at q; cases q; exact new
  · rw [upd_ne hb] at q
    by_cases hbe : b = e
    · have q' : H b = some (.own x) := by
        rcases he with z | z
        · exact absurd (hbe.trans z) hb
        · rw [hbe]; exact z
      rw [q] at q'; cases q'
      obtain ⟨v, hv⟩ := heo
      exact ⟨v, by rw [hbe]; exact hv⟩
    · refine (ok b u q).stay (fun c v hc r => k c v ?_ r) (fun c r => by rw [upd_ne (nown c b r)]; exact r) fun c xs r => by rw [upd_ne (ntup c xs r)]; exact r
      rcases hc with rfl | hc
      · exact hbe
      · rintro rfl
        rcases he with z | z
        · exact nown c b hc z
        · rw [hc] at z; cases z; exact hb rfl
end

/-! ### kept unless tracked; of the frames at fs (the callers') the slots may change (an exception that passes writes there); of the records at ex (iterators) nothing is said -/
structure Un (fs ex : List Addr) (H H' : Hp) (h h' : Heap) : Prop where
  keep : ∀ b o, h.get? b = some o → H b = none → b ∉ fs → b ∉ ex → h'.get? b = some o
  slot : ∀ b o, h.get? b = some o → H b = none → b ∈ fs → b ∉ ex → ∃ sl, h'.get? b = some { o with slots := sl }
  free : ∀ b o, h.get? b = some o → H b = none → b ∉ ex → H' b = none
  there : ∀ b o, h.get? b = some o → b ∉ ex → ∃ o', h'.get? b = some o'
  tups : ∀ b xs, H b = some (.tup xs) → H' b = some (.tup xs)
  frzs : ∀ b o u, H b = some (.frz o u) → H' b = some (.frz o u)
  tbls : ∀ b ps, H b = some (.tbl ps) → ∃ more, H' b = some (.tbl (ps ++ more))
section
variable {fs fs' ex ex' : List Addr} {H H1 H2 : Hp} {h h1 h2 h' : Heap} {a x e : Addr} {o : HO}
theorem Un.any (u : Un fs ex H H1 h h1) {b : Addr} {ob : Obj} (q : h.get? b = some ob) (n : H b = none) (hx : b ∉ ex) : ∃ sl, h1.get? b = some { ob with slots := sl } := by
  by_cases hb : b ∈ fs
  · exact u.slot b ob q n hb hx
  · exact ⟨ob.slots, u.keep b ob q n hb hx⟩
theorem Un.kept (k : ∀ b u, h.get? b = some u → h'.get? b = some u) : Un fs ex H H h h' :=
  ⟨fun b ob q _ _ _ => k b ob q, fun b ob q _ _ _ => ⟨ob.slots, k b ob q⟩, fun _ _ _ n _ => n, fun b ob q _ => ⟨ob, k b ob q⟩, fun _ _ q => q, fun _ _ _ q => q, fun _ ps q => ⟨#[], by rw [q]; simp⟩⟩
theorem Un.refl : Un fs ex H H h h := Un.kept fun _ _ q => q
theorem Un.laid (k : ∀ b u, h.get? b = some u → h'.get? b = some u) (hp : h.objs.size ≤ a) (hn : H a = none) : Un fs ex H (upd H a o) h h' where
  keep := fun b u q _ _ _ => k b u q
  slot := fun b u q _ _ _ => ⟨u.slots, k b u q⟩
  free := fun b u q n _ => by rw [upd_ne (Nat.ne_of_lt (Nat.lt_of_lt_of_le (Heap.lt_size q) hp))]; exact n
  there := fun b u q _ => ⟨u, k b u q⟩
  tups := fun b xs q => by rw [upd_ne (ne_of_none q hn)]; exact q
  frzs := fun b u xs q => by rw [upd_ne (ne_of_none q hn)]; exact q
  tbls := fun b ps q => ⟨#[], by rw [upd_ne (ne_of_none q hn), q]; simp⟩
theorem Un.write (mu : Mut (H x)) (he : e = x ∨ H e = some (.own x)) (k : ∀ b u, b ≠ e → h.get? b = some u → h'.get? b = some u) (heo : ∃ u, h'.get? e = some u) : Un fs ex H (upd H x o) h h' := by
  have hx : ∀ b, H b = none → b ≠ x := fun b n z => by subst z; rw [n] at mu; exact mu
  have hb : ∀ b, H b = none → b ≠ e := fun b n z => by
    subst z
    rcases he with r | r
    · exact hx b n r
    · rw [n] at r; cases r
  have hm : ∀ b u, H b = some u → ¬ Mut (some u) → b ≠ x := fun b u q nm z => by subst z; rw [q] at mu; exact nm mu
  refine ⟨fun b u q n _ _ => k b u (hb b n) q, fun b u q n _ _ => ⟨u.slots, k b u (hb b n) q⟩, fun b u q n _ => by rw [upd_ne (hx b n)]; exact n, fun b u q _ => ?_,
    fun b xs q => by rw [upd_ne (hm b _ q fun z => z)]; exact q, fun b u xs q => by rw [upd_ne (hm b _ q fun z => z)]; exact q, fun b ps q => ⟨#[], by rw [upd_ne (hm b _ q fun z => z), q]; simp⟩⟩
  by_cases hbe : b = e
  · subst hbe; exact heo
  · exact ⟨u, k b u hbe q⟩
end

/-! ### the heap without what is tracked -/
def trk (h : Heap) (H : Hp) : List Addr := (List.range h.objs.size).filter fun a => (H a).isSome
def hidT (h : Heap) (H : Hp) : Heap := PySem.W.hideAll h (trk h H)
theorem hidT_size (h : Heap) (H : Hp) : (hidT h H).objs.size = h.objs.size := PySem.W.hideAll_size _ _
theorem hidT_get {h : Heap} {H : Hp} {b : Addr} {o : Obj} (e : h.get? b = some o) (n : H b = none) : (hidT h H).get? b = some o :=
  PySem.W.hideAll_get _ e fun hm => by
    have q : (H b).isSome = true := (List.mem_filter.mp hm).2
    rw [n] at q; simp at q
theorem of_hidT {h : Heap} {H : Hp} {b : Addr} {o : Obj} (e : (hidT h H).get? b = some o) : h.get? b = some o ∧ H b = none := by
  have e' : h.get? b = some o := PySem.W.of_hideAll (trk h H) e
  refine ⟨e', ?_⟩
  cases q : H b with
  | none => rfl
  | some x =>
    have hm : b ∈ trk h H := List.mem_filter.mpr ⟨List.mem_range.mpr (Heap.lt_size e'), by simp [q]⟩
    have z : (hidT h H).get? b = none := PySem.W.hideAll_none (trk h H) hm
    rw [z] at e; cases e

/-! ### OpenK's ledger, filled with every new object but one -/
end L2

namespace L2
open PySem PySem.Spec PyProof.Rows

/-- the module's facts, over the base: the heap at the law's entry without what is tracked there -/
structure Mod (K : PySem.W.Frag) (mg : Str → Option Value) (base : Heap) : Prop where
  kin : K.In base
  glob : base.Ns mainGlobals mg
  blt : ∃ mb, base.Ns builtinsNs mb ∧ ∀ x : Str, x ≠ "__name__" → mb x = bootBuiltins x
  nolimit : base.NoLimit

/-- the context: a def's body (or a comprehension's block) running. base: fixed through the whole law; s₀, H₀: the entry; outer: the frames whose slots others may change (a def's callers); stack: all frames that run;
   ex: iterators that were made ahead of the entry and are walked here (a comprehension's); fn: the names whose cells were made at the entry (a def: all; a comprehension's block: its own); calm: not within an except suite; pn: pins that every state bears; xe: what is wanted of an exception that leaves the code -/
structure Cx where
  prog : Program
  w : World
  K : PySem.W.Frag
  mg : Str → Option Value
  base : Heap
  A : Around
  N : List Str
  s_0 : Shared
  H_0 : Hp
  env : Env
  outer : List Env
  stack : List Env
  ex : List Addr
  fn : Str → Bool
  calm : Bool
  pn : List (Addr × Obj)
  xe : Value → Shared → Prop
/-- the callers' frames -/
def frs (l : List Env) : List Addr := l.filterMap (·.frame)
abbrev Cx.fs (X : Cx) : List Addr := frs X.outer

def Vis (sc : Scope) (x : Str) : Prop := sc.names.lookup x = some .local ∨ sc.names.lookup x = some .cell ∨ sc.names.lookup x = some .free
def Loc (sc : Scope) (x : Str) : Prop := sc.names.lookup x = some .local ∨ sc.names.lookup x = some .cell
def Look (env : Env) (h : Heap) (m : Str → Option Value) (x : Str) (u : Value) : Prop :=
  (env.kindOf x = some .local ∧ m x = some u) ∨ ((env.kindOf x = some .cell ∨ env.kindOf x = some .free) ∧ ∃ c, env.cells.lookup x = some c ∧ h.IsCell c (some u))

structure Cx.Ok (X : Cx) : Prop where
  mod : Mod X.K X.mg X.base
  kind : X.env.scope.kind = .function
  glob : X.env.globals = mainGlobals
  blt : X.env.builtins = builtinsNs
  above : X.s_0.heap.objs.size ≤ X.env.locals
  inj : ∀ x y c, X.env.cells.lookup x = some c → X.env.cells.lookup y = some c → x = y
  has : ∀ x, (X.env.kindOf x = some .cell ∨ X.env.kindOf x = some .free) → ∃ c, X.env.cells.lookup x = some c
  cab : ∀ x c, X.fn x = true → X.env.cells.lookup x = some c → X.s_0.heap.objs.size ≤ c
  hd : X.calm = true → X.A.handled = none
  frames : X.A.frames = some X.stack
  stk : X.stack = X.outer ∨ (X.stack = X.env :: X.outer ∧ X.env.frame = some X.env.locals)
  exf : ∀ b ∈ X.ex, b ≠ X.env.locals ∧ ∀ x c, X.env.cells.lookup x = some c → c ≠ b
  bs : ∀ b o, X.base.get? b = some o → X.s_0.heap.get? b = some o ∧ X.H_0 b = none
  bsz : X.base.objs.size ≤ X.s_0.heap.objs.size
  noex : ∀ b o, X.base.get? b = some o → b ∉ X.ex
  exfs : ∀ b ∈ X.ex, b ∉ X.fs
  funs : X.s_0.heap.FunFrames X.base X.outer
  frf : ∀ b ∈ X.fs, X.H_0 b = none

structure Inv (X : Cx) (pins : List (Addr × Obj)) (σ : List (Option V)) (H : Hp) (s : Shared) : Prop where
  ok : X.Ok
  os : s.os = X.s_0.os
  bare : AllBare s.gens
  base : Un X.fs X.ex X.H_0 H X.s_0.heap s.heap
  loc : ∃ m, s.heap.Ns X.env.locals m ∧ ∀ (i : Nat) (x : Str) (v : V), X.N[i]? = some x → σ[i]? = some (some v) → Vis X.env.scope x → ∃ u, RelV v u ∧ Look X.env s.heap m x u
  cell : ∀ x c, X.env.cells.lookup x = some c → ∃ v, s.heap.IsCell c v
  free : H X.env.locals = none
  freeC : ∀ x c, X.env.cells.lookup x = some c → H c = none
  pin : ∀ p ∈ X.pn ++ pins, s.heap.get? p.1 = some p.2 ∧ H p.1 = none ∧ p.1 ≠ X.env.locals ∧ p.1 ∉ X.fs ∧ ∀ v, p.2.data ≠ .cell v
  hok : HOk X.prog X.w H s.heap
  len : σ.length = X.N.length

section
variable {X : Cx} {pins : List (Addr × Obj)} {σ : List (Option V)} {H H' : Hp} {s : Shared} {h' : Heap}

theorem Cx.Ok.nofr (ok : X.Ok) {b : Addr} {o : Obj} (e : X.base.get? b = some o) : b ∉ X.fs := fun hb => by
  have := (ok.funs.mem hb).1
  rw [e] at this; cases this
theorem Inv.bs (I : Inv X pins σ H s) : ∀ b o, X.base.get? b = some o → s.heap.get? b = some o ∧ H b = none := fun b o e =>
  ⟨I.base.keep b o (I.ok.bs b o e).1 (I.ok.bs b o e).2 (I.ok.nofr e) (I.ok.noex b o e), I.base.free b o (I.ok.bs b o e).1 (I.ok.bs b o e).2 (I.ok.noex b o e)⟩
theorem Inv.bk (I : Inv X pins σ H s) : ∀ b o, X.base.get? b = some o → s.heap.get? b = some o := fun b o e => (I.bs b o e).1
theorem Inv.mod (I : Inv X pins σ H s) : Mod X.K X.mg X.base := I.ok.mod
theorem Inv.kIn (I : Inv X pins σ H s) : X.K.In s.heap := I.ok.mod.kin.keeps I.bk
/-- the frame over the base: for OpenK's rules (K.In X.base is I.mod.kin) -/
theorem Inv.fr (I : Inv X pins σ H s) : ∃ m, Fr X.base X.env.locals s.heap m :=
  let ⟨m, hn, _⟩ := I.loc
  ⟨m, hn, I.bk, Nat.le_trans I.ok.bsz I.ok.above⟩
theorem Inv.lt (I : Inv X pins σ H s) : X.env.locals < s.heap.objs.size := let ⟨_, hn, _⟩ := I.loc; hn.lt
theorem Inv.sz (I : Inv X pins σ H s) : X.s_0.heap.objs.size ≤ s.heap.objs.size := Nat.le_trans I.ok.above (Nat.le_of_lt I.lt)
theorem Inv.nofs (I : Inv X pins σ H s) {a : Addr} (h : s.heap.objs.size ≤ a) : a ∉ X.fs := fun hb => by
  obtain ⟨_, o, ho, _⟩ := I.ok.funs.mem hb
  exact absurd (Nat.lt_of_lt_of_le (Heap.lt_size ho) (Nat.le_trans I.sz h)) (Nat.lt_irrefl _)
theorem Inv.cne (I : Inv X pins σ H s) : ∀ x c, X.env.cells.lookup x = some c → c ≠ X.env.locals := fun x c e z => by
  obtain ⟨v, o, ho, hd⟩ := I.cell x c e
  obtain ⟨m, ⟨o', es, ep, ho', hd', _⟩, _⟩ := I.loc
  rw [z, ho'] at ho; cases ho; rw [hd'] at hd; cases hd
theorem Inv.funs (I : Inv X pins σ H s) : s.heap.FunFrames X.base X.outer := by
  have all : ∀ (l : List Env), (∀ b ∈ frs l, b ∈ X.fs) → X.s_0.heap.FunFrames X.base l → s.heap.FunFrames X.base l := by
    intro l
    induction l with
    | nil => intro _ _; trivial
    | cons env r ih =>
      intro hs hl
      obtain ⟨hk, ⟨L, o, hf, hn, ho, hd⟩, hr⟩ := hl
      have hL : L ∈ X.fs := hs L (by unfold frs; rw [List.filterMap_cons, hf]; exact List.mem_cons_self)
      obtain ⟨sl, e⟩ := I.base.slot L o ho (I.ok.frf L hL) hL fun z => I.ok.exfs L z hL
      exact ⟨hk, ⟨L, _, hf, hn, e, hd⟩, ih (fun b hb => hs b (by unfold frs; rw [List.filterMap_cons, hf]; exact List.mem_cons_of_mem _ hb)) hr⟩
  exact all X.outer (fun _ hb => hb) I.ok.funs

/-- the frames that run, for a call -/
theorem Inv.stack (I : Inv X pins σ H s) : s.heap.FunFrames X.base X.stack := by
  rcases I.ok.stk with e | ⟨e, hf⟩
  · rw [e]; exact I.funs
  · rw [e]
    obtain ⟨m, hn, _⟩ := I.loc
    refine .cons (by rw [I.ok.kind]; decide) hf hn ?_ I.funs
    exact Heap.get?_none_of_le (Nat.le_trans I.ok.bsz I.ok.above)
theorem Inv.stkSub (I : Inv X pins σ H s) : ∀ b ∈ frs X.stack, b ∈ X.env.locals :: X.fs := fun b hb => by
  rcases I.ok.stk with e | ⟨e, hf⟩
  · rw [e] at hb; exact List.mem_cons_of_mem _ hb
  · rw [e] at hb
    unfold frs at hb
    rw [List.filterMap_cons, hf] at hb
    exact hb
theorem Inv.stkFree (I : Inv X pins σ H s) : ∀ b ∈ frs X.stack, H b = none := fun b hb => by
  rcases List.mem_cons.mp (I.stkSub b hb) with e | hb
  · rw [e]; exact I.free
  · obtain ⟨_, o, ho, _⟩ := I.ok.funs.mem hb
    exact I.base.free b o ho (I.ok.frf b hb) fun z => I.ok.exfs b z hb

/-- THE STEP: the untracked objects but the frame and the records at ch are kept (the callers' frames up to slots), the frame's map is kept, the new abstract heap is held -/
theorem Inv.step {g' : Array GenState} {t' : Nat} {d' : Drawn} {ch : List Addr} (I : Inv X pins σ H s)
    (hch : ∀ b ∈ ch, (b ∈ X.ex ∨ X.s_0.heap.objs.size ≤ b) ∧ b ≠ X.env.locals ∧ (∀ x c, X.env.cells.lookup x = some c → c ≠ b) ∧ ∀ p ∈ X.pn ++ pins, p.1 ≠ b)
    (keep : ∀ b o, b ≠ X.env.locals → b ∉ X.fs → b ∉ ch → s.heap.get? b = some o → H b = none → h'.get? b = some o)
    (slot : ∀ b o, b ≠ X.env.locals → b ∈ X.fs → b ∉ ch → s.heap.get? b = some o → H b = none → ∃ sl, h'.get? b = some { o with slots := sl }) (free : ∀ b o, b ∉ ch → s.heap.get? b = some o → H b = none → H' b = none)
    (there : ∀ b o, b ∉ ch → s.heap.get? b = some o → ∃ o', h'.get? b = some o')
    (tups : ∀ b xs, H b = some (.tup xs) → H' b = some (.tup xs)) (frzs : ∀ b o u, H b = some (.frz o u) → H' b = some (.frz o u)) (tbls : ∀ b ps, H b = some (.tbl ps) → ∃ more, H' b = some (.tbl (ps ++ more)))
    (ns : ∀ m, s.heap.Ns X.env.locals m → h'.Ns X.env.locals m) (hok : HOk X.prog X.w H' h') (hg : AllBare g') :
    Inv X pins σ H' { s with heap := h', gens := g', drawn := d', toks := t' } := by
  have neL : ∀ b o, X.s_0.heap.get? b = some o → b ≠ X.env.locals := fun b o e => Nat.ne_of_lt (Nat.lt_of_lt_of_le (Heap.lt_size e) I.ok.above)
  have neC : ∀ b o, X.s_0.heap.get? b = some o → b ∉ X.ex → b ∉ ch := fun b o e hx hb => by
    rcases (hch b hb).1 with z | z
    · exact hx z
    · exact absurd (Nat.lt_of_lt_of_le (Heap.lt_size e) z) (Nat.lt_irrefl _)
  have cellK : ∀ x c, X.env.cells.lookup x = some c → ∀ v, s.heap.IsCell c v → h'.IsCell c v := fun x c e v ⟨o, ho, hd⟩ => by
    have nch : c ∉ ch := fun z => (hch c z).2.2.1 x c e rfl
    by_cases hc : c ∈ X.fs
    · obtain ⟨sl, q⟩ := slot c o (I.cne x c e) hc nch ho (I.freeC x c e)
      exact ⟨_, q, hd⟩
    · exact ⟨o, keep c o (I.cne x c e) hc nch ho (I.freeC x c e), hd⟩
  refine ⟨I.ok, I.os, hg, ⟨fun b o e n hb hx => ?_, fun b o e n hb hx => ?_, fun b o e n hx => ?_, fun b o e hx => ?_, fun b xs e => tups b xs (I.base.tups b xs e), fun b o xs e => frzs b o xs (I.base.frzs b o xs e), fun b ps e => ?_⟩, ?_, fun x c e => ?_, ?_, fun x c e => ?_, fun p hp => ?_, hok, I.len⟩
  · exact keep b o (neL b o e) hb (neC b o e hx) (I.base.keep b o e n hb hx) (I.base.free b o e n hx)
  · obtain ⟨sl, e1⟩ := I.base.slot b o e n hb hx
    obtain ⟨sl', e2⟩ := slot b _ (neL b o e) hb (neC b o e hx) e1 (I.base.free b o e n hx)
    exact ⟨sl', e2⟩
  · obtain ⟨o', e1⟩ := I.base.there b o e hx
    exact free b o' (neC b o e hx) e1 (I.base.free b o e n hx)
  · obtain ⟨o', e1⟩ := I.base.there b o e hx
    exact there b o' (neC b o e hx) e1
  · obtain ⟨m1, e1⟩ := I.base.tbls b ps e
    obtain ⟨m2, e2⟩ := tbls b _ e1
    exact ⟨m1 ++ m2, by rw [e2, Array.append_assoc]⟩
  · obtain ⟨m, hn, hl⟩ := I.loc
    refine ⟨m, ns m hn, fun i x v e1 e2 e3 => ?_⟩
    obtain ⟨u, r, l⟩ := hl i x v e1 e2 e3
    refine ⟨u, r, ?_⟩
    rcases l with l | ⟨k, c, e, z⟩
    · exact .inl l
    · exact .inr ⟨k, c, e, cellK x c e _ z⟩
  · obtain ⟨v, z⟩ := I.cell x c e
    exact ⟨v, cellK x c e v z⟩
  · obtain ⟨m, ⟨o, _, _, ho, _⟩, _⟩ := I.loc
    exact free _ o (fun z => (hch _ z).2.1 rfl) ho I.free
  · obtain ⟨v, o, ho, hd⟩ := I.cell x c e
    exact free c o (fun z => (hch c z).2.2.1 x c e rfl) ho (I.freeC x c e)
  · obtain ⟨e, n, ne, nf, d⟩ := I.pin p hp
    have nch : p.1 ∉ ch := fun z => (hch p.1 z).2.2.2 p hp rfl
    exact ⟨keep p.1 p.2 ne nf nch e n, free p.1 p.2 nch e n, ne, nf, d⟩
/-- .. where the frame's own object is kept too -/
theorem Inv.un {t' : Nat} (I : Inv X pins σ H s) (u : Un X.fs [] H H' s.heap h') (hok : HOk X.prog X.w H' h') : Inv X pins σ H' { s with heap := h', toks := t' } := by
  obtain ⟨m, ⟨o, es, ep, ho, r⟩, _⟩ := id I.loc
  obtain ⟨sl, hL⟩ := u.any ho I.free (by simp)
  exact I.step (g' := s.gens) (d' := s.drawn) (ch := []) (fun _ z => nomatch z) (fun b o _ hb _ e n => u.keep b o e n hb (by simp)) (fun b o _ hb _ e n => u.slot b o e n hb (by simp)) (fun b o _ e n => u.free b o e n (by simp)) (fun b o _ e => u.there b o e (by simp)) u.tups u.frzs u.tbls (fun m' hm => by
    obtain ⟨o', es', ep', ho', r'⟩ := hm
    rw [ho] at ho'; cases ho'
    exact ⟨_, es', ep', hL, r'⟩) hok I.bare
/-- behind a call (or a comprehension's block): the slots of this frame may have changed too, the records at ch may have turned -/
theorem Inv.call {g' : Array GenState} {t' : Nat} {d' : Drawn} {ch : List Addr} (I : Inv X pins σ H s) (u : Un (frs X.stack) ch H H' s.heap h') (hok : HOk X.prog X.w H' h') (hg : AllBare g')
    (hch : ∀ b ∈ ch, (b ∈ X.ex ∨ X.s_0.heap.objs.size ≤ b) ∧ b ≠ X.env.locals ∧ (∀ x c, X.env.cells.lookup x = some c → c ≠ b) ∧ ∀ p ∈ X.pn ++ pins, p.1 ≠ b) :
    Inv X pins σ H' { s with heap := h', gens := g', drawn := d', toks := t' } := by
  obtain ⟨m, ⟨o, es, ep, ho, r⟩, _⟩ := id I.loc
  obtain ⟨sl, hL⟩ := u.any ho I.free fun z => (hch _ z).2.1 rfl
  exact I.step (ch := ch) hch (fun b o hL hb hc e n => u.keep b o e n (fun z => (List.mem_cons.mp (I.stkSub b z)).elim hL hb) hc) (fun b o _ _ hc e n => u.any e n hc) (fun b o hc e n => u.free b o e n hc) (fun b o hc e => u.there b o e hc) u.tups u.frzs u.tbls (fun m' hm => by
    obtain ⟨o', es', ep', ho', r'⟩ := hm
    rw [ho] at ho'; cases ho'
    exact ⟨_, es', ep', hL, r'⟩) hok hg
/-- an untracked record of ours (an iterator) has turned -/
theorem Inv.turned {t' : Nat} {it : Addr} (I : Inv X pins σ H s) (k : ∀ b o, b ≠ it → s.heap.get? b = some o → h'.get? b = some o) (hn : H it = none) (hL : it ≠ X.env.locals)
    (h1 : it ∈ X.ex ∨ X.s_0.heap.objs.size ≤ it) (h2 : ∀ x c, X.env.cells.lookup x = some c → c ≠ it) (h3 : ∀ p ∈ X.pn ++ pins, p.1 ≠ it) : Inv X pins σ H { s with heap := h', toks := t' } := by
  have nit : ∀ b u, H b = some u → b ≠ it := fun b u e z => by rw [z, hn] at e; cases e
  refine I.step (g' := s.gens) (d' := s.drawn) (ch := [it]) (fun b hb => ?_) (fun b o _ _ hc e _ => k b o (fun z => hc (by simp [z])) e) (fun b o _ _ hc e _ => ⟨o.slots, k b o (fun z => hc (by simp [z])) e⟩) (fun _ _ _ _ n => n)
    (fun b o hc e => ⟨o, k b o (fun z => hc (by simp [z])) e⟩) (fun _ _ e => e) (fun _ _ _ e => e) (fun b ps e => ⟨#[], by rw [e]; simp⟩) (fun m hm => ?_) (fun b u e => ?_) I.bare
  · have e : b = it := by simpa using hb
    subst e
    exact ⟨h1, hL, h2, h3⟩
  · obtain ⟨o, es, ep, ho, r⟩ := hm
    exact ⟨o, es, ep, k _ o (Ne.symm hL) ho, r⟩
  · refine (I.hok b u e).stay (fun c v hc q => k c v ?_ q) (fun _ q => q) fun _ _ q => q
    rcases hc with z | z
    · rw [z]; exact nit b u e
    · exact nit c _ z
theorem Inv.tok (I : Inv X pins σ H s) (t : Nat) : Inv X pins σ H { s with toks := t } := I.un (h' := s.heap) (t' := t) Un.refl I.hok
/-- all objects kept -/
theorem Inv.kept {t' : Nat} (I : Inv X pins σ H s) (k : ∀ b u, s.heap.get? b = some u → h'.get? b = some u) : Inv X pins σ H { s with heap := h', toks := t' } := I.un (Un.kept k) (I.hok.kept k)
/-- a new object laid and tracked -/
theorem Inv.laid {a : Addr} {o : HO} {t' : Nat} (I : Inv X pins σ H s) (k : ∀ b u, s.heap.get? b = some u → h'.get? b = some u) (hp : s.heap.objs.size ≤ a) (new : ObjOk X.prog X.w (upd H a o) h' a o) :
    Inv X pins σ (upd H a o) { s with heap := h', toks := t' } := I.un (Un.laid k hp (I.hok.fresh hp)) (I.hok.laid k hp new)
/-- an object written -/
theorem Inv.write {x e : Addr} {o : HO} {t' : Nat} (I : Inv X pins σ H s) (mu : Mut (H x)) (he : e = x ∨ H e = some (.own x)) (k : ∀ b u, b ≠ e → s.heap.get? b = some u → h'.get? b = some u) (heo : ∃ u, h'.get? e = some u)
    (new : ObjOk X.prog X.w (upd H x o) h' x o) : Inv X pins σ (upd H x o) { s with heap := h', toks := t' } := I.un (Un.write mu he k heo) (I.hok.write mu he k heo new)
/-- forgetting slots, pins -/
theorem Inv.weak {σ' : List (Option V)} (I : Inv X pins σ H s) (hl : σ'.length = σ.length) (w : ∀ (i : Nat) v, σ'[i]? = some (some v) → σ[i]? = some (some v)) : Inv X pins σ' H s :=
  ⟨I.ok, I.os, I.bare, I.base, let ⟨m, hn, hl'⟩ := I.loc; ⟨m, hn, fun i x v e1 e2 e3 => hl' i x v e1 (w i v e2) e3⟩, I.cell, I.free, I.freeC, I.pin, I.hok, hl.trans I.len⟩
theorem Inv.pins_of {pins' : List (Addr × Obj)} (I : Inv X pins σ H s) (h : ∀ p ∈ pins', s.heap.get? p.1 = some p.2 ∧ H p.1 = none ∧ p.1 ≠ X.env.locals ∧ p.1 ∉ X.fs ∧ ∀ v, p.2.data ≠ .cell v) : Inv X pins' σ H s :=
  ⟨I.ok, I.os, I.bare, I.base, I.loc, I.cell, I.free, I.freeC, fun p hp => (List.mem_append.mp hp).elim (fun z => I.pin p (List.mem_append_left _ z)) (h p), I.hok, I.len⟩

theorem nodup_ix {N : List Str} (hN : N.Nodup) {i j : Nat} {x : Str} (a : N[i]? = some x) (b : N[j]? = some x) : i = j := by
  obtain ⟨h1, e1⟩ := List.getElem?_eq_some_iff.mp a
  obtain ⟨h2, e2⟩ := List.getElem?_eq_some_iff.mp b
  exact (List.getElem_inj hN).mp (e1.trans e2.symm)

/-- a name is stored; what changed -/
theorem store_ok2 {M : Model} {A : Around} {E : Value → Shared → Prop} {i : Nat} {x : Str} {v : V} {u : Value} {Q : Unit → Shared → Prop} (I : Inv X pins σ H s) (hN : X.N.Nodup) (hi : X.N[i]? = some x) (hx : Loc X.env.scope x) (r : RelV v u)
    (h : ∀ s', Inv X pins (σ.set i (some v)) H s' → (∃ a, Heap.SameBut a s.heap s'.heap ∧ (a = X.env.locals ∨ X.env.cells.lookup x = some a)) → Q () s') (hf : X.fn x = true ∨ X.env.scope.names.lookup x = some .local := by first | exact .inl rfl | exact .inr rfl | assumption) : wpAny M A (storeName X.env x u) Q E s := by
  obtain ⟨m, hn, hl⟩ := id I.loc
  have hcls : (X.env.scope.kind == .class || (X.env.scope.kind == .module && X.env.locals != X.env.globals)) = false := by rw [I.ok.kind]; rfl
  have hiσ : i < σ.length := by rw [I.len]; exact (List.getElem?_eq_some_iff.mp hi).1
  have cne := I.cne
  have tracked : ∀ {a : Addr} {h' : Heap}, (∃ o, s.heap.get? a = some o ∧ H a = none) → Heap.SameBut a s.heap h' → HOk X.prog X.w H h' := fun {a h'} ha hs b ob e => by
    obtain ⟨_, _, hfree⟩ := ha
    refine (I.hok b ob e).stay (fun c w' hc q => (hs.2 c ?_).trans q) (fun _ q => q) fun _ _ q => q
    rintro rfl
    rcases hc with rfl | hc
    · rw [hfree] at e; cases e
    · rw [hfree] at hc; cases hc
  rcases hx with hk | hk
  · refine wpAny_storeName_local hk hn (fun h' hn' hs => ?_) hcls
    obtain ⟨oL, _, _, hoL, _⟩ := id hn
    refine h _ ⟨I.ok, I.os, I.bare, ⟨fun b o e n hb hx => ?_, fun b o e n hb hx => ?_, I.base.free, fun b o e hx => ?_, I.base.tups, I.base.frzs, I.base.tbls⟩, ⟨_, hn', fun j y v' e1 e2 e3 => ?_⟩, fun y c e => ?_, I.free, I.freeC, fun p hp => ?_, tracked ⟨oL, hoL, I.free⟩ hs, by simpa using I.len⟩ ⟨_, hs, .inl rfl⟩
    · exact (hs.2 b (Nat.ne_of_lt (Nat.lt_of_lt_of_le (Heap.lt_size e) I.ok.above))).trans (I.base.keep b o e n hb hx)
    · obtain ⟨sl, e1⟩ := I.base.slot b o e n hb hx
      exact ⟨sl, (hs.2 b (Nat.ne_of_lt (Nat.lt_of_lt_of_le (Heap.lt_size e) I.ok.above))).trans e1⟩
    · obtain ⟨o', e1⟩ := I.base.there b o e hx
      exact ⟨o', (hs.2 b (Nat.ne_of_lt (Nat.lt_of_lt_of_le (Heap.lt_size e) I.ok.above))).trans e1⟩
    · by_cases hj : j = i
      · subst hj
        rw [hi] at e1; cases e1
        rw [List.getElem?_set_self hiσ] at e2
        cases e2
        exact ⟨u, r, .inl ⟨hk, by simp⟩⟩
      · rw [List.getElem?_set_ne (Ne.symm hj)] at e2
        obtain ⟨u', r', q⟩ := hl j y v' e1 e2 e3
        refine ⟨u', r', ?_⟩
        rcases q with ⟨k, e⟩ | ⟨k, c, e, z⟩
        · refine .inl ⟨k, ?_⟩
          have : y ≠ x := fun e => hj (nodup_ix hN e1 (e ▸ hi))
          simp [this, e]
        · exact .inr ⟨k, c, e, z.sameBut hs (cne y c e)⟩
    · obtain ⟨w', z⟩ := I.cell y c e
      exact ⟨w', z.sameBut hs (cne y c e)⟩
    · obtain ⟨e, n, ne, nf, d⟩ := I.pin p hp
      exact ⟨(hs.2 p.1 ne).trans e, n, ne, nf, d⟩
  · have hfn : X.fn x = true := by
      rcases hf with z | z
      · exact z
      · rw [z] at hk; cases hk
    obtain ⟨c, hc⟩ := I.ok.has x (.inl hk)
    obtain ⟨w', z⟩ := I.cell x c hc
    refine wpAny_storeName_cell I.ok.kind hk hc z (fun h' hc' hs => ?_)
    obtain ⟨oc, hoc, hocd⟩ := id z
    refine h { s with heap := h' } ⟨I.ok, I.os, I.bare, ⟨fun b o e n hb hx => ?_, fun b o e n hb hx => ?_, I.base.free, fun b o e hx => ?_, I.base.tups, I.base.frzs, I.base.tbls⟩, ⟨m, hn.sameBut hs (Ne.symm (cne x c hc)), fun j y v' e1 e2 e3 => ?_⟩, fun y c' e => ?_, I.free, I.freeC, fun p hp => ?_, tracked ⟨oc, hoc, I.freeC x c hc⟩ hs, by simpa using I.len⟩ ⟨c, hs, .inr hc⟩
    · exact (hs.2 b (Nat.ne_of_lt (Nat.lt_of_lt_of_le (Heap.lt_size e) (I.ok.cab x c hfn hc)))).trans (I.base.keep b o e n hb hx)
    · obtain ⟨sl, e1⟩ := I.base.slot b o e n hb hx
      exact ⟨sl, (hs.2 b (Nat.ne_of_lt (Nat.lt_of_lt_of_le (Heap.lt_size e) (I.ok.cab x c hfn hc)))).trans e1⟩
    · obtain ⟨o', e1⟩ := I.base.there b o e hx
      exact ⟨o', (hs.2 b (Nat.ne_of_lt (Nat.lt_of_lt_of_le (Heap.lt_size e) (I.ok.cab x c hfn hc)))).trans e1⟩
    · by_cases hj : j = i
      · subst hj
        rw [hi] at e1; cases e1
        rw [List.getElem?_set_self hiσ] at e2
        cases e2
        exact ⟨u, r, .inr ⟨.inl hk, c, hc, hc'⟩⟩
      · rw [List.getElem?_set_ne (Ne.symm hj)] at e2
        obtain ⟨u', r', q⟩ := hl j y v' e1 e2 e3
        refine ⟨u', r', ?_⟩
        rcases q with q | ⟨k, c', e, z'⟩
        · exact .inl q
        · refine .inr ⟨k, c', e, z'.sameBut hs ?_⟩
          rintro rfl
          exact hj (nodup_ix hN e1 (I.ok.inj _ _ _ e hc ▸ hi))
    · by_cases hcc : c' = c
      · subst hcc; exact ⟨_, hc'⟩
      · obtain ⟨w2, z2⟩ := I.cell y c' e
        exact ⟨w2, z2.sameBut hs hcc⟩
    · obtain ⟨e, n, ne, nf, d⟩ := I.pin p hp
      refine ⟨(hs.2 p.1 ?_).trans e, n, ne, nf, d⟩
      intro q
      rw [q, hoc] at e
      have q' : oc = p.2 := Option.some.inj e
      exact d w' (by rw [← q']; exact hocd)
theorem store_ok {M : Model} {A : Around} {E : Value → Shared → Prop} {i : Nat} {x : Str} {v : V} {u : Value} {Q : Unit → Shared → Prop} (I : Inv X pins σ H s) (hN : X.N.Nodup) (hi : X.N[i]? = some x) (hx : Loc X.env.scope x) (r : RelV v u)
    (h : ∀ s', Inv X pins (σ.set i (some v)) H s' → Q () s') (hf : X.fn x = true ∨ X.env.scope.names.lookup x = some .local := by first | exact .inl rfl | exact .inr rfl | assumption) : wpAny M A (storeName X.env x u) Q E s :=
  store_ok2 I hN hi hx r (fun s' I' _ => h s' I') hf
/-- behind a call or a block, the state as it is -/
theorem Inv.call' {s' : Shared} {ch : List Addr} (I : Inv X pins σ H s) (ho : s'.os = s.os) (u : Un (frs X.stack) ch H H' s.heap s'.heap) (hok : HOk X.prog X.w H' s'.heap) (hg : AllBare s'.gens)
    (hch : ∀ b ∈ ch, (b ∈ X.ex ∨ X.s_0.heap.objs.size ≤ b) ∧ b ≠ X.env.locals ∧ (∀ x c, X.env.cells.lookup x = some c → c ≠ b) ∧ ∀ p ∈ X.pn ++ pins, p.1 ≠ b) : Inv X pins σ H' s' := by
  obtain ⟨h', g', d', t', o'⟩ := s'
  have e : o' = s.os := ho
  subst e
  exact I.call (g' := g') (t' := t') (d' := d') u hok hg hch
end

/-! ### the judgements -/
/-- an exception: its class, its own dict's address (where it has one), the abstract heap behind it -/
abbrev XK := Value → Option Addr → Hp → Prop
abbrev St := List (Option V)
abbrev VK := V → Hp → Prop
/-- an expression's reading; a test's; an argument list's -/
abbrev TE := St → Hp → VK → Prop
abbrev TT := St → Hp → (Bool → Hp → Prop) → Prop
abbrev TA := St → Hp → (List V → Hp → Prop) → Prop
/-- what is wanted behind a statement -/
structure Ends where
  nx : St → Hp → Prop
  rt : VK
  bk : St → Hp → Prop := fun _ _ => False
  ct : St → Hp → Prop := fun _ _ => False
abbrev TS := Ends → St → Hp → Prop

def EP (X : Cx) (pins : List (Addr × Obj)) (σ : St) (Q : VK) (u : Value) (s' : Shared) : Prop := ∃ v H', Inv X pins σ H' s' ∧ RelV v u ∧ Q v H'
def TP (X : Cx) (pins : List (Addr × Obj)) (σ : St) (Q : Bool → Hp → Prop) (b : Bool) (s' : Shared) : Prop := ∃ H', Inv X pins σ H' s' ∧ Q b H'
def AP (X : Cx) (pins : List (Addr × Obj)) (σ : St) (Q : List V → Hp → Prop) (us : List Value) (s' : Shared) : Prop := ∃ vs H', Inv X pins σ H' s' ∧ Vals vs us ∧ Q vs H'
def SP (X : Cx) (pins : List (Addr × Obj)) (D : Ends) (f : Flow) (s' : Shared) : Prop :=
  match f with
  | .next => ∃ σ' H', Inv X pins σ' H' s' ∧ D.nx σ' H'
  | .brk => ∃ σ' H', Inv X pins σ' H' s' ∧ D.bk σ' H'
  | .cont => ∃ σ' H', Inv X pins σ' H' s' ∧ D.ct σ' H'
  | .ret u => ∃ v σ' H', Inv X pins σ' H' s' ∧ RelV v u ∧ D.rt v H'

def PE (X : Cx) (e : Expr) (t : TE) : Prop :=
  ∀ (pins : List (Addr × Obj)) (s : Shared) (σ : St) (H : Hp) (Q : VK), Inv X pins σ H s → t σ H Q → wpAny (model X.prog X.w) X.A (eval e X.env) (EP X pins σ Q) X.xe s
def PT (X : Cx) (e : Expr) (t : TT) : Prop :=
  ∀ (pins : List (Addr × Obj)) (s : Shared) (σ : St) (H : Hp) (Q : Bool → Hp → Prop), Inv X pins σ H s → t σ H Q → wpAny (model X.prog X.w) X.A (isTrue e X.env (eval e X.env)) (TP X pins σ Q) X.xe s
/-- a test whatever its 'whole' is (and, or) -/
def PW (X : Cx) (e : Expr) (t : TT) : Prop :=
  ∀ (whole : Sem Value) (pins : List (Addr × Obj)) (s : Shared) (σ : St) (H : Hp) (Q : Bool → Hp → Prop), Inv X pins σ H s → t σ H Q → wpAny (model X.prog X.w) X.A (isTrue e X.env whole) (TP X pins σ Q) X.xe s
theorem PW.pt {X : Cx} {e : Expr} {t : TT} (h : PW X e t) : PT X e t := h _
/-- an argument list (no star), from the left -/
def PA (X : Cx) (es : List Expr) (t : TA) : Prop :=
  ∀ (pos : Pos) (pins : List (Addr × Obj)) (s : Shared) (σ : St) (H : Hp) (Q : List V → Hp → Prop), Inv X pins σ H s → t σ H Q → wpAny (model X.prog X.w) X.A (spliced (backTo pos (starEach es X.env))) (AP X pins σ Q) X.xe s
def PS (X : Cx) (st : Stmt) (t : TS) : Prop :=
  ∀ (pins : List (Addr × Obj)) (s : Shared) (σ : St) (H : Hp) (D : Ends), Inv X pins σ H s → t D σ H → wpAny (model X.prog X.w) X.A (exec st X.env) (SP X pins D) X.xe s
def PSs (X : Cx) (st : List Stmt) (t : TS) : Prop :=
  ∀ (pins : List (Addr × Obj)) (s : Shared) (σ : St) (H : Hp) (D : Ends), Inv X pins σ H s → t D σ H → wpAny (model X.prog X.w) X.A (execs st X.env) (SP X pins D) X.xe s
/-- weaken the end -/
theorem thn {α : Type} {t : Sem α} {Q Q' : α → Shared → Prop} {M : Model} {A : Around} {E : Value → Shared → Prop} {s : Shared} (h : wpAny M A t Q E s) (hQ : ∀ a s, Q a s → Q' a s) : wpAny M A t Q' E s := wpAny_mono h hQ fun _ _ x => x
end L2

namespace L2
open PySem PySem.Spec PyProof.Rows
section
variable {X : Cx}

/-- two expressions in a row -/
theorem bin {a b : Expr} {ta tb : TE} (ha : PE X a ta) (hb : PE X b tb) {pins : List (Addr × Obj)} {s : Shared} {σ : St} {H : Hp} {R : V → V → Hp → Prop} (I : Inv X pins σ H s) (h : ta σ H fun x H1 => tb σ H1 fun y H2 => R x y H2)
    {α : Type} {Q : α → Shared → Prop} {f : Value → Value → Sem α}
    (hf : ∀ v u s2 x y H2, Inv X pins σ H2 s2 → RelV x v → RelV y u → R x y H2 → wpAny (model X.prog X.w) X.A (f v u) Q X.xe s2) :
    wpAny (model X.prog X.w) X.A (eval a X.env) (fun v s₁ => wpAny (model X.prog X.w) X.A (eval b X.env) (fun u s₂ => wpAny (model X.prog X.w) X.A (f v u) Q X.xe s₂) X.xe s₁) X.xe s := by
  refine thn (ha pins s σ H _ I h) fun v s1 ⟨x, H1, I1, r1, q1⟩ => ?_
  refine thn (hb pins s1 σ H1 _ I1 q1) fun u s2 ⟨y, H2, I2, r2, q2⟩ => ?_
  exact hf v u s2 x y H2 I2 r1 r2 q2

/-! ### names and constants -/
def tVar (i : Nat) : TE := fun σ H Q => ∃ v, σ[i]? = some (some v) ∧ Q v H
def tC (v : V) : TE := fun _ H Q => Q v H
theorem pe_var {i : Nat} {x : Str} {pos : Pos} (hN : X.N[i]? = some x) (hv : Vis X.env.scope x) (hd : (x == ("__debug__" : Str)) = false := by decide) (hcd : (x == ("__classdict__" : Str)) = false := by decide) : PE X (.Name x pos) (tVar i) := by
  intro pins s σ H Q I h
  obtain ⟨v, e, h⟩ := h
  obtain ⟨m, hn, hl⟩ := I.loc
  obtain ⟨u, r, l⟩ := hl i x v hN e hv
  have fin : EP X pins σ Q u s := ⟨v, H, I, r, h⟩
  rcases l with ⟨hk, hm⟩ | ⟨hk, c, hc, hcell⟩
  · exact wpAny_Name (wpAny_loadName_local I.ok.kind hk hn hm fin) hd
  · rcases hk with hk | hk
    · exact wpAny_Name (wpAny_loadName_cell I.ok.kind hk hc hcell fin) hd
    · exact wpAny_Name (wpAny_loadName_free I.ok.kind hk hc hcell fin hcd) hd
theorem pe_int {i j pos} : PE X (.Constant (.int i) j pos) (tC (.int i)) := fun _ _ _ H _ I h => wpAny_Constant_int ⟨.int i, H, I.tok _, ⟨_, rfl⟩, h⟩
theorem pe_non {j pos} : PE X (.Constant .none j pos) (tC .non) := fun _ _ _ H _ I h => Constant_none ⟨.non, H, I, rfl, h⟩

/-- a global name of the def -/
def Gl (X : Cx) (x : Str) : Prop := X.env.kindOf x = some .globalImplicit
theorem ld_glob {E : Value → Shared → Prop} {pins : List (Addr × Obj)} {s : Shared} {σ : St} {H : Hp} {x : Str} {u : Value} {pos : Pos} {Q : Value → Shared → Prop} (I : Inv X pins σ H s) (hg : Gl X x) (hm : X.mg x = some u) (h : Q u s)
    (hd : (x == ("__debug__" : Str)) = false := by decide) : wpAny (model X.prog X.w) X.A (eval (.Name x pos) X.env) Q E s :=
  Calls.Name_function_global I.ok.kind hg (Calls.loadGlobal_global (by rw [I.ok.glob]; exact I.mod.glob.keeps I.bk) hm h) hd
theorem ld_blt {E : Value → Shared → Prop} {pins : List (Addr × Obj)} {s : Shared} {σ : St} {H : Hp} {x : Str} {u : Value} {pos : Pos} {Q : Value → Shared → Prop} (I : Inv X pins σ H s) (hg : Gl X x) (hm : X.mg x = none) (hv : bootBuiltins x = some u) (h : Q u s)
    (hn : x ≠ "__name__" := by decide) (hd : (x == ("__debug__" : Str)) = false := by decide) : wpAny (model X.prog X.w) X.A (eval (.Name x pos) X.env) Q E s := by
  obtain ⟨mb, h1, h2⟩ := I.mod.blt
  exact Calls.Name_function_global I.ok.kind hg (Calls.loadGlobal_builtin (by rw [I.ok.glob]; exact I.mod.glob.keeps I.bk) hm (by rw [I.ok.blt]; exact h1.keeps I.bk) ((h2 x hn).trans hv) h) hd
/-- a module's constant, a class, a function, as a value -/
theorem pe_glob {x : Str} {v : V} {u : Value} {pos : Pos} (hg : Gl X x) (hm : X.mg x = some u) (r : RelV v u) (hd : (x == ("__debug__" : Str)) = false := by decide) : PE X (.Name x pos) (tC v) :=
  fun _ _ _ H _ I h => ld_glob I hg hm ⟨v, H, I, r, h⟩ hd

/-! ### arithmetic -/
variable {a b : Expr} {ta tb : TE} {pos : Pos}

/-! ### comparisons -/
def PC (X : Cx) (op : CmpOp) (a b : Expr) (t : TE) : Prop :=
  ∀ (pins : List (Addr × Obj)) (s : Shared) (σ : St) (H : Hp) (Q : VK), Inv X pins σ H s → t σ H Q →
    wpAny (model X.prog X.w) X.A (eval a X.env) (fun v s₁ => wpAny (model X.prog X.w) X.A (eval b X.env) (fun u s₂ => wpAny (model X.prog X.w) X.A (compareOp op v u) (EP X pins σ Q) X.xe s₂) X.xe s₁) X.xe s
/-- a comparison as a value, as a test -/
def tB (t : TE) : TT := fun σ H Q => t σ H fun x H1 => ∃ c, x = .bl c ∧ Q c H1
theorem pt_cmp {op : CmpOp} {t : TE} (h : PC X op a b t) (h1 : behindInMarks op b = false := by first | exact nobehind _ (by decide) (by decide) | rfl) : PT X (.Compare a [op] [b] pos) (tB t) := by
  intro pins s σ H Q I hw
  refine wpAny_isTrue_Compare1 (thn (h pins s σ H _ I hw) fun v s1 h1 => thn h1 fun u s2 h2 => thn h2 fun c s3 ⟨x, H1, I1, r1, q1⟩ => ?_) h1
  obtain ⟨d, rfl, q⟩ := q1
  cases r1
  exact wpAny_truthy_bool ⟨H1, I1, q⟩
/-- an expression whose value is a bool, as a test -/
theorem pt_val {e : Expr} {t : TE} (h : PE X e t) (he : ∀ whole, isTrue e X.env whole = (do let v ← whole; standAt e.pos; holding [v] (truthy v)) := by intro _; rfl) : PT X e (tB t) := by
  intro pins s σ H Q I hw
  refine isTrue_plain (thn (h pins s σ H _ I hw) fun v s1 ⟨x, H1, I1, r1, q1⟩ => ?_) (he _)
  obtain ⟨d, rfl, q⟩ := q1
  cases r1
  exact wpAny_truthy_bool ⟨H1, I1, q⟩

/-! ### and, or, not -/
variable {tA tB' : TT} {rest : List Expr}
def tAnd (t u : TT) : TT := fun σ H Q => t σ H fun c H1 => if c = true then u σ H1 Q else Q false H1
def tOr (t u : TT) : TT := fun σ H Q => t σ H fun c H1 => if c = true then Q true H1 else u σ H1 Q
def tNot (t : TT) : TT := fun σ H Q => t σ H fun c H1 => Q (!c) H1
theorem pw_and1 (ha : PT X a tA) : PW X (.BoolOp .And [a] pos) tA := by
  intro wh pins s σ H Q I h
  refine isTrue_and (thn (ha pins s σ H Q I h) fun c s1 e => ?_)
  cases c with
  | true => exact isTrue_and_nil e
  | false => exact e
theorem pw_or1 (ha : PT X a tA) : PW X (.BoolOp .Or [a] pos) tA := by
  intro wh pins s σ H Q I h
  refine isTrue_or (thn (ha pins s σ H Q I h) fun c s1 e => ?_)
  cases c with
  | false => exact isTrue_or_nil e
  | true => exact e
theorem pw_and (ha : PT X a tA) (hb : PW X (.BoolOp .And (b :: rest) pos) tB') : PW X (.BoolOp .And (a :: b :: rest) pos) (tAnd tA tB') := by
  intro wh pins s σ H Q I h
  refine isTrue_and (thn (ha pins s σ H _ I h) fun c s1 ⟨H1, I1, q1⟩ => ?_)
  cases c with
  | true => exact hb wh pins s1 σ H1 Q I1 q1
  | false => exact ⟨H1, I1, q1⟩
theorem pw_or (ha : PT X a tA) (hb : PW X (.BoolOp .Or (b :: rest) pos) tB') : PW X (.BoolOp .Or (a :: b :: rest) pos) (tOr tA tB') := by
  intro wh pins s σ H Q I h
  refine isTrue_or (thn (ha pins s σ H _ I h) fun c s1 ⟨H1, I1, q1⟩ => ?_)
  cases c with
  | true => exact ⟨H1, I1, q1⟩
  | false => exact hb wh pins s1 σ H1 Q I1 q1
theorem pt_not (ha : PT X a tA) : PT X (.UnaryOp .Not a pos) (tNot tA) := by
  intro pins s σ H Q I h
  exact isTrue_not (ha pins s σ H (fun c H1 => Q (!c) H1) I h)
/-- .. as values (bools) -/
def tAndV (ta tb : TE) : TE := fun σ H Q => ta σ H fun x H1 => ∃ c, x = .bl c ∧ if c = true then tb σ H1 Q else Q (.bl false) H1
def tOrV (ta tb : TE) : TE := fun σ H Q => ta σ H fun x H1 => ∃ c, x = .bl c ∧ if c = true then Q (.bl true) H1 else tb σ H1 Q
theorem pe_one {op} {t : TE} (h : PE X a t) : PE X (.BoolOp op [a] pos) t := fun pins s σ H Q I hw => BoolOp_one (h pins s σ H Q I hw)
theorem pe_and (ha : PE X a ta) (hb : PE X (.BoolOp .And (b :: rest) pos) tb) : PE X (.BoolOp .And (a :: b :: rest) pos) (tAndV ta tb) := by
  intro pins s σ H Q I h
  refine BoolOp_and (thn (ha pins s σ H _ I h) fun v s1 ⟨x, H1, I1, r1, q1⟩ => ?_)
  obtain ⟨c, rfl, q1⟩ := q1
  cases r1
  refine wpAny_truthy_bool ?_
  cases c with
  | true => exact hb pins s1 σ H1 Q I1 q1
  | false => exact ⟨.bl false, H1, I1, rfl, q1⟩
theorem pe_or (ha : PE X a ta) (hb : PE X (.BoolOp .Or (b :: rest) pos) tb) : PE X (.BoolOp .Or (a :: b :: rest) pos) (tOrV ta tb) := by
  intro pins s σ H Q I h
  refine BoolOp_or (thn (ha pins s σ H _ I h) fun v s1 ⟨x, H1, I1, r1, q1⟩ => ?_)
  obtain ⟨c, rfl, q1⟩ := q1
  cases r1
  refine wpAny_truthy_bool ?_
  cases c with
  | false => exact hb pins s1 σ H1 Q I1 q1
  | true => exact ⟨.bl true, H1, I1, rfl, q1⟩
/-- a if t else b -/
def tIf (t : TT) (ta tb : TE) : TE := fun σ H Q => t σ H fun c H1 => if c = true then ta σ H1 Q else tb σ H1 Q
theorem pe_ifExp {c : Expr} (hc : PT X c tA) (ha : PE X a ta) (hb : PE X b tb) : PE X (.IfExp c a b pos) (tIf tA ta tb) := by
  intro pins s σ H Q I h
  refine wpAny_IfExp (thn (hc pins s σ H _ I h) fun d s1 ⟨H1, I1, q1⟩ => ?_)
  cases d with
  | true => exact ha pins s1 σ H1 Q I1 q1
  | false => exact hb pins s1 σ H1 Q I1 q1
end
end L2

namespace L2
open PySem PySem.Spec PyProof.Rows

/-! ### a list, a tuple that is read: tracked, frozen, or an object of the module -/
def SqL (K : PySem.W.Frag) (H : Hp) (a : Addr) (xs : List V) : Prop :=
  Rd H a (.lst xs) ∨
    ∃ (o : Obj) (its : Array Value) (n : Nat), K.lookup a = some o ∧ o.cls = .type "list" ∧ o.dict = none ∧ o.data = .seq its n ∧ its.size ≤ sizeLine ∧ Vals xs its.toList
def SqT (K : PySem.W.Frag) (H : Hp) (a : Addr) (xs : List V) : Prop :=
  Rd H a (.tup xs) ∨
    ∃ (o : Obj) (its : Array Value) (n : Nat), K.lookup a = some o ∧ o.cls = .type "tuple" ∧ o.data = .seq its n ∧ its.size ≤ sizeLine ∧ Vals xs its.toList
def absV : Value → Option V
  | .none => some .non
  | .bool b => some (.bl b)
  | .int i _ => some (.int i)
  | .str x _ => some (.str x)
  | .bytes b _ => some (.byt b)
  | .float b _ => some (.flt b)
  | .ref a => some (.ref a)
  | .type n => some (.ty n)
  | _ => none
theorem RelV.abs {x : V} {u : Value} (r : RelV x u) : absV u = some x := by
  cases x with
  | non => cases r; rfl
  | bl _ => cases r; rfl
  | int _ => obtain ⟨t, rfl⟩ := r; rfl
  | str _ => obtain ⟨t, rfl⟩ := r; rfl
  | byt _ => obtain ⟨t, rfl⟩ := r; rfl
  | flt _ => obtain ⟨t, rfl⟩ := r; rfl
  | ref _ => cases r; rfl
  | ty _ => cases r; rfl
theorem RelV.inj {x y : V} {u : Value} (r : RelV x u) (q : RelV y u) : x = y := Option.some.inj (r.abs.symm.trans q.abs)
theorem Vals.inj : ∀ {xs ys : List V} {us : List Value}, Vals xs us → Vals ys us → xs = ys
  | _, _, _, .nil, .nil => rfl
  | _, _, _, .cons r t, .cons r' t' => by rw [r.inj r', Vals.inj t t']
section
variable {X : Cx} {pins : List (Addr × Obj)} {σ : St} {H : Hp} {s : Shared} {a : Addr} {xs ys : List V}
theorem SqL.of {K : PySem.W.Frag} (h : H a = some (.lst xs)) : SqL K H a xs := .inl (.inl h)
theorem SqT.of {K : PySem.W.Frag} (h : H a = some (.tup xs)) : SqT K H a xs := .inl (.inl h)
theorem Inv.list (I : Inv X pins σ H s) (h : SqL X.K H a xs) : ∃ its : List Value, Vals xs its ∧ PlainL s.heap a its.toArray ∧ xs.length ≤ sizeLine := by
  rcases h with h | ⟨o, its, n, hk, hc, hd, hs, hz, r⟩
  · obtain ⟨z, its, n, r, e⟩ := h.ok I.hok
    exact ⟨its, r, ⟨_, n, e, rfl, rfl, rfl⟩, z⟩
  · refine ⟨its.toList, r, ⟨o, n, I.kIn a o hk, hc, hd, by simpa using hs⟩, ?_⟩
    have e := r.length
    simp only [Array.length_toList] at e
    omega
theorem Inv.tuple (I : Inv X pins σ H s) (h : SqT X.K H a xs) : ∃ its : List Value, Vals xs its ∧ IsTup s.heap a its.toArray ∧ xs.length ≤ sizeLine := by
  rcases h with h | ⟨o, its, n, hk, hc, hs, hz, r⟩
  · obtain ⟨z, its, r, p⟩ := h.ok I.hok
    exact ⟨its, r, p, z⟩
  · refine ⟨its.toList, r, ⟨o, I.kIn a o hk, hc, n, by simpa using hs⟩, ?_⟩
    have e := r.length
    simp only [Array.length_toList] at e
    omega
theorem Inv.list_inj (I : Inv X pins σ H s) (h : SqL X.K H a xs) (h' : SqL X.K H a ys) : xs = ys := by
  obtain ⟨its, r, ⟨o, n, e, _, _, d⟩, _⟩ := I.list h
  obtain ⟨its', r', ⟨o', n', e', _, _, d'⟩, _⟩ := I.list h'
  rw [e] at e'; cases e'
  rw [d] at d'
  injection d' with d1 _
  have : its = its' := by simpa using congrArg Array.toList d1
  subst this
  exact r.inj r'
theorem Inv.tuple_inj (I : Inv X pins σ H s) (h : SqT X.K H a xs) (h' : SqT X.K H a ys) : xs = ys := by
  obtain ⟨its, r, ⟨o, e, _, n, d⟩, _⟩ := I.tuple h
  obtain ⟨its', r', ⟨o', e', _, n', d'⟩, _⟩ := I.tuple h'
  rw [e] at e'; cases e'
  rw [d] at d'
  injection d' with d1 _
  have : its = its' := by simpa using congrArg Array.toList d1
  subst this
  exact r.inj r'
end

/-! ### another wish about exceptions -/
abbrev Cx.wish (X : Cx) (E : Value → Shared → Prop) : Cx := { X with xe := E }
/-- no exception leaves -/
abbrev Cx.nox (X : Cx) : Cx := X.wish fun _ _ => False
theorem Cx.Ok.wish {X : Cx} (ok : X.Ok) (E : Value → Shared → Prop) : (X.wish E).Ok :=
  ⟨ok.mod, ok.kind, ok.glob, ok.blt, ok.above, ok.inj, ok.has, ok.cab, ok.hd, ok.frames, ok.stk, ok.exf, ok.bs, ok.bsz, ok.noex, ok.exfs, ok.funs, ok.frf⟩
theorem Cx.Ok.unwish {X : Cx} {E : Value → Shared → Prop} (ok : (X.wish E).Ok) : X.Ok :=
  ⟨ok.mod, ok.kind, ok.glob, ok.blt, ok.above, ok.inj, ok.has, ok.cab, ok.hd, ok.frames, ok.stk, ok.exf, ok.bs, ok.bsz, ok.noex, ok.exfs, ok.funs, ok.frf⟩
section
variable {X : Cx} {pins : List (Addr × Obj)} {σ : St} {H : Hp} {s : Shared} {E : Value → Shared → Prop}
theorem Inv.wish (I : Inv X pins σ H s) (E : Value → Shared → Prop) : Inv (X.wish E) pins σ H s := ⟨I.ok.wish E, I.os, I.bare, I.base, I.loc, I.cell, I.free, I.freeC, I.pin, I.hok, I.len⟩
theorem Inv.unwish (I : Inv (X.wish E) pins σ H s) : Inv X pins σ H s := ⟨I.ok.unwish, I.os, I.bare, I.base, I.loc, I.cell, I.free, I.freeC, I.pin, I.hok, I.len⟩
theorem SP.unwish {D : Ends} {f : Flow} {s' : Shared} (h : SP (X.wish E) pins D f s') : SP X pins D f s' := by
  cases f with
  | next => obtain ⟨σ', H', I, q⟩ := h; exact ⟨σ', H', I.unwish, q⟩
  | brk => obtain ⟨σ', H', I, q⟩ := h; exact ⟨σ', H', I.unwish, q⟩
  | cont => obtain ⟨σ', H', I, q⟩ := h; exact ⟨σ', H', I.unwish, q⟩
  | ret u => obtain ⟨v, σ', H', I, r, q⟩ := h; exact ⟨v, σ', H', I.unwish, r, q⟩
theorem PSs.nox {st : List Stmt} {t : TS} (h : PSs X.nox st t) : PSs X st t := fun pins s σ H D I hw =>
  wpAny_mono (h pins s σ H D (I.wish _) hw) (fun _ _ q => q.unwish) fun _ _ z => False.elim z
end

/-! ### blocks and small statements -/
section
variable {X : Cx} {st : Stmt} {rest : List Stmt} {t u : TS} {e : Expr} {te : TE} {pos : Pos}
def tNext : TS := fun D σ H => D.nx σ H
def tSeq (t u : TS) : TS := fun D σ H => t { D with nx := u D } σ H
theorem pss_nil : PSs X [] tNext := fun _ _ σ H _ I h => wpAny_execs_nil ⟨σ, H, I, h⟩
theorem pss_cons (h1 : PS X st t) (h2 : PSs X rest u) : PSs X (st :: rest) (tSeq t u) := by
  intro pins s σ H D I h
  refine wpAny_execs_cons (thn (h1 pins s σ H { D with nx := u D } I h) fun f s1 q => ?_)
  cases f with
  | next =>
    obtain ⟨σ', H', I', q⟩ := q
    exact h2 pins s1 σ' H' D I' q
  | ret v => exact q
  | brk => exact q
  | cont => exact q
theorem pss_one (h1 : PS X st t) : PSs X [st] t := by
  intro pins s σ H D I h
  refine wpAny_execs_cons (thn (h1 pins s σ H D I h) fun f s1 q => ?_)
  cases f with
  | next => exact wpAny_execs_nil q
  | ret v => exact q
  | brk => exact q
  | cont => exact q
/-- in a def's body nothing is shown -/
theorem Inv.quiet {pins : List (Addr × Obj)} {σ : St} {H : Hp} {s : Shared} (I : Inv X pins σ H s) : interactive X.env = false := by simp [interactive, I.ok.kind]
/-- an expression whose value is dropped -/
def tDrop (te : TE) : TS := fun D σ H => te σ H fun _ H1 => D.nx σ H1
theorem ps_expr (he : PE X e te) (hs : swapsWith e none pos.line X.env = pure false := by rfl) : PS X (.Expr e pos) (tDrop te) := by
  intro pins s σ H D I h
  exact wpAny_Expr_any (thn (he pins s σ H _ I h) fun v s1 ⟨x, H1, I1, r1, q1⟩ => ⟨σ, H1, I1, q1⟩) I.quiet hs
def tRet (te : TE) : TS := fun D σ H => te σ H D.rt
theorem ps_ret (he : PE X e te) : PS X (.Return (some e) pos) (tRet te) := by
  intro pins s σ H D I h
  exact wpAny_Return_some (thn (he pins s σ H _ I h) fun v s1 ⟨x, H1, I1, r1, q1⟩ => ⟨x, σ, H1, I1, r1, q1⟩)
def tRetN : TS := fun D _ H => D.rt .non H
theorem ps_retN : PS X (.Return none pos) tRetN := fun _ _ σ H _ I h => wpAny_Return_none ⟨.non, σ, H, I, rfl, h⟩
def tIfS (c : TT) (t u : TS) : TS := fun D σ H => c σ H fun b H1 => if b = true then t D σ H1 else u D σ H1
theorem ps_if {c : Expr} {a b : List Stmt} {tc : TT} (hc : PT X c tc) (ha : PSs X a t) (hb : PSs X b u) : PS X (.If c a b pos) (tIfS tc t u) := by
  intro pins s σ H D I h
  refine wpAny_If (thn (hc pins s σ H _ I h) fun d s1 ⟨H1, I1, q1⟩ => ?_)
  cases d with
  | true => exact ha pins s1 σ H1 D I1 q1
  | false => exact hb pins s1 σ H1 D I1 q1
end

/-! ### targets -/
abbrev TG := V → St → Hp → (St → Hp → Prop) → Prop
abbrev TGs := List V → St → Hp → (St → Hp → Prop) → Prop
def PG (X : Cx) (target : Expr) (t : TG) : Prop :=
  ∀ (pins : List (Addr × Obj)) (s : Shared) (σ : St) (H : Hp) (v : V) (u : Value) (Q : St → Hp → Prop), Inv X pins σ H s → RelV v u → t v σ H Q →
    wpAny (model X.prog X.w) X.A (assign target X.env u) (fun _ s' => ∃ σ' H', Inv X pins σ' H' s' ∧ Q σ' H') X.xe s
/-- several targets, one after another -/
def PGs (X : Cx) (ts : List Expr) (t : TGs) : Prop :=
  ∀ (pins : List (Addr × Obj)) (s : Shared) (σ : St) (H : Hp) (vs : List V) (us : List Value) (Q : St → Hp → Prop), Inv X pins σ H s → Vals vs us → t vs σ H Q →
    wpAny (model X.prog X.w) X.A (assignInOrder ((assignEach ts X.env).map (·.2)) us) (fun _ s' => ∃ σ' H', Inv X pins σ' H' s' ∧ Q σ' H') X.xe s
/-- o[i] = v, by values -/
abbrev TSet := V → V → V → Hp → (Hp → Prop) → Prop
def PSet (X : Cx) (t : TSet) : Prop :=
  ∀ (pins : List (Addr × Obj)) (s : Shared) (σ : St) (H : Hp) (o i v : V) (ov iv u : Value) (Q : Hp → Prop), Inv X pins σ H s → RelV o ov → RelV i iv → RelV v u → t o i v H Q →
    wpAny (model X.prog X.w) X.A (setItem ov iv u) (fun _ s' => ∃ H', Inv X pins σ H' s' ∧ Q H') X.xe s
section
variable {X : Cx} {pos : Pos}
def gName (i : Nat) : TG := fun v σ H Q => Q (σ.set i (some v)) H
theorem pg_name {i : Nat} {x : Str} (hN : X.N.Nodup) (hi : X.N[i]? = some x) (hx : Loc X.env.scope x) (hf : X.fn x = true ∨ X.env.scope.names.lookup x = some .local := by first | exact .inl rfl | exact .inr rfl | assumption) : PG X (.Name x pos) (gName i) := by
  intro pins s σ H v u Q I r h
  exact wpAny_assign_Name (store_ok I hN hi hx r (fun s' I' => ⟨_, H, I', h⟩) hf)
def gNil : TGs := fun vs σ H Q => vs = [] ∧ Q σ H
def gCons (t : TG) (u : TGs) : TGs := fun vs σ H Q => ∃ v r, vs = v :: r ∧ t v σ H fun σ' H' => u r σ' H' Q
theorem pgs_nil : PGs X [] gNil := by
  intro pins s σ H vs us Q I r h
  obtain ⟨e, h⟩ := h
  subst e
  cases r
  exact assignInOrder_nil ⟨σ, H, I, h⟩
theorem pgs_cons {e : Expr} {es : List Expr} {t : TG} {u : TGs} (h1 : PG X e t) (h2 : PGs X es u)
    (hs : (assignEach (e :: es) X.env).map (·.2) = assign e X.env :: (assignEach es X.env).map (·.2) := by rfl) : PGs X (e :: es) (gCons t u) := by
  intro pins s σ H vs us Q I r h
  obtain ⟨v, vr, e1, h⟩ := h
  subst e1
  cases r with
  | cons r rr =>
    rw [hs]
    refine assignInOrder_cons (thn (h1 pins s σ H _ _ _ I r h) fun _ s1 ⟨σ1, H1, I1, q1⟩ => ?_)
    exact h2 pins s1 σ1 H1 _ _ Q I1 rr q1
/-- (a, b, ..) = a tuple of that length -/
def gTup (K : PySem.W.Frag) (n : Nat) (t : TGs) : TG := fun v σ H Q => ∃ a xs, v = .ref a ∧ SqT K H a xs ∧ xs.length = n ∧ t xs σ H Q
theorem pg_tup {es : List Expr} {k : Nat} {t : TGs} {n : Nat} (hc : X.calm = true) (h : PGs X es t)
    (hn : (assignEach es X.env).length = n := by rfl) (hst : (assignEach es X.env).findIdx? (·.1) = none := by rfl) : PG X (.Tuple es k pos) (gTup X.K n t) := by
  intro pins s σ H v u Q I r hw
  obtain ⟨a, xs, e1, hq, hl, hw⟩ := hw
  subst e1
  cases r
  obtain ⟨its, rv, ht, hz⟩ := I.tuple hq
  refine assign_Tuple_tuple (I.ok.hd hc) ht (by simp [hn, ← hl, rv.length]) hst fun h' hx => ?_
  have I1 : Inv X pins σ H { s with heap := h' } := I.kept (t' := s.toks) fun b o e => hx b o (Nat.ne_of_lt (Heap.lt_size e)) e
  exact h pins _ σ H xs _ Q I1 (by simpa using rv) hw
/-- o[i] = .. -/
def gSub (to ti : TE) (t : TSet) : TG := fun v σ H Q => to σ H fun o H1 => ti σ H1 fun i H2 => t o i v H2 fun H3 => Q σ H3
theorem pg_sub {o i : Expr} {to ti : TE} {t : TSet} (ho : PE X o to) (hi : PE X i ti) (hs : PSet X t)
    (ha : ∀ v, assign (.Subscript o i pos) X.env v = (do
      let ov ← holding [v] (eval o X.env)
      let iv ← holding [v, ov] (eval i X.env)
      standAt pos
      holding [v, ov, iv] (setItem ov iv v)
      release [v, ov, iv] []) := by intro _; rfl) : PG X (.Subscript o i pos) (gSub to ti t) := by
  intro pins s σ H v u Q I r h
  rw [ha]
  refine wpAny_bind (wpAny_holding (thn (ho pins s σ H _ I h) fun ov s1 ⟨x, H1, I1, r1, q1⟩ => ?_))
  refine wpAny_bind (wpAny_holding (thn (hi pins s1 σ H1 _ I1 q1) fun iv s2 ⟨y, H2, I2, r2, q2⟩ => ?_))
  refine wpAny_bind (wpAny_standAt (wpAny_bind (wpAny_holding (thn (hs pins s2 σ H2 x y v ov iv u _ I2 r1 r2 r q2) fun _ s3 ⟨H3, I3, q3⟩ => ?_))))
  exact wpAny_release ⟨σ, H3, I3, q3⟩
/-- target = value -/
def tAsg (te : TE) (g : TG) : TS := fun D σ H => te σ H fun x H1 => g x σ H1 D.nx
theorem ps_asg {tg e : Expr} {te : TE} {g : TG} (he : PE X e te) (hg : PG X tg g) (hs : swapsWithSole [tg] e pos.line X.env = pure false := by rfl) (hw : swappedStores [tg] e X.env = pure none := by rfl)
    (h1 : (assignEach [tg] X.env).map (·.2) = [assign tg X.env] := by rfl) : PS X (.Assign [tg] e pos) (tAsg te g) := by
  intro pins s σ H D I h
  refine wpAny_Assign_stores (thn (he pins s σ H _ I h) fun v s1 ⟨x, H1, I1, r1, q1⟩ => ?_) hs hw
  rw [h1]
  exact thn (hg pins s1 σ H1 x v _ I1 r1 q1) fun _ s2 q => q
/-- name = value -/
theorem ps_set {i : Nat} {x : Str} {e : Expr} {te : TE} {pos' : Pos} (hN : X.N.Nodup) (hi : X.N[i]? = some x) (hx : Loc X.env.scope x) (he : PE X e te) (hs : swapsWith e (some (.Name x pos')) pos.line X.env = pure false := by rfl) (hf : X.fn x = true ∨ X.env.scope.names.lookup x = some .local := by first | exact .inl rfl | exact .inr rfl | assumption) :
    PS X (.Assign [.Name x pos'] e pos) (tAsg te (gName i)) := by
  intro pins s σ H D I h
  refine wpAny_Assign_Name (thn (he pins s σ H _ I h) fun v s1 ⟨y, H1, I1, r1, q1⟩ => ?_) hs
  exact store_ok I1 hN hi hx r1 (fun s2 I2 => ⟨_, H1, I2, q1⟩) hf
end

/-! ### while -/
section
variable {X : Cx} {pos : Pos}
/-- the invariant W with its measure -/
def tWhile (c : TT) (tb : TS) : TS := fun D σ H => ∃ W : Nat → St → Hp → Prop, (∃ m, W m σ H) ∧ ∀ m σ H, W m σ H →
  c σ H fun b H1 => if b = true then ∃ N : St → Hp → Prop, (∀ σ' H', N σ' H' → ∃ m', m' < m ∧ W m' σ' H') ∧ tb { D with nx := N, ct := N, bk := D.nx } σ H1 else D.nx σ H1
theorem ps_while {c : Expr} {body : List Stmt} {tc : TT} {tb : TS} (hp : PassesOwn (model X.prog X.w) X.A X.env X.xe) (hc : PT X c tc) (hb : PSs X body tb) : PS X (.While c body [] pos) (tWhile tc tb) := by
  intro pins s σ H D I h
  obtain ⟨W, ⟨m0, w0⟩, turn⟩ := h
  refine wpAny_While (codeAny_whileLoop (fun n s' => ∃ σ' H', Inv X pins σ' H' s' ∧ W n σ' H') ?_ m0 ⟨σ, H, I, w0⟩)
  rintro n s1 ⟨σ1, H1, I1, w1⟩
  refine wpAny_passesOwn hp (thn (hc pins s1 σ1 H1 _ I1 (turn n σ1 H1 w1)) fun b s2 ⟨H2, I2, q2⟩ => ?_)
  cases b with
  | true =>
    obtain ⟨N, hN, q2⟩ := q2
    rw [if_pos rfl]
    refine wpAny_passesOwn hp (thn (hb pins s2 σ1 H2 _ I2 q2) fun f s3 q3 => ?_)
    cases f with
    | next =>
      obtain ⟨σ3, H3, I3, n3⟩ := q3
      obtain ⟨m', hm, w3⟩ := hN σ3 H3 n3
      exact ⟨m', hm, σ3, H3, I3, w3⟩
    | cont =>
      obtain ⟨σ3, H3, I3, n3⟩ := q3
      obtain ⟨m', hm, w3⟩ := hN σ3 H3 n3
      exact ⟨m', hm, σ3, H3, I3, w3⟩
    | brk => exact q3
    | ret v => exact q3
  | false =>
    rw [if_neg Bool.false_ne_true]
    exact wpAny_execs_nil ⟨σ1, H2, I2, q2⟩
end

/-! ### what a loop or a comprehension walks -/
/-- at turn i: it yields x (the heap may grow), or it stops -/
structure It where
  go : Nat → Hp → Prop
  yld : Nat → Hp → V → Hp → Prop
  stop : Nat → Hp → Prop
/-- the iterator's own objects may turn: they are not the frame's, not pinned, younger than the entry (or a comprehension's own) -/
def FpOk (X : Cx) (pins : List (Addr × Obj)) (H : Hp) (b : Addr) : Prop :=
  H b = none ∧ b ≠ X.env.locals ∧ b ∉ X.fs ∧ (b ∈ X.ex ∨ X.s_0.heap.objs.size ≤ b) ∧ (∀ x c, X.env.cells.lookup x = some c → c ≠ b) ∧ ∀ p ∈ X.pn ++ pins, p.1 ≠ b
theorem Inv.fpOk {X : Cx} {pins : List (Addr × Obj)} {σ : St} {H H' : Hp} {s : Shared} {b : Addr} (I : Inv X pins σ H s) (hb : s.heap.objs.size ≤ b) (hn : H' b = none) : FpOk X pins H' b := by
  refine ⟨hn, Nat.ne_of_gt (Nat.lt_of_lt_of_le I.lt hb), I.nofs hb, .inr (Nat.le_trans I.sz hb), fun x c e z => ?_, fun p hp z => ?_⟩
  · obtain ⟨v, q⟩ := I.cell x c e
    exact absurd (Nat.lt_of_lt_of_le q.lt (by rw [z]; exact hb)) (Nat.lt_irrefl _)
  · exact absurd (Nat.lt_of_lt_of_le (Heap.lt_size (I.pin p hp).1) (by rw [z]; exact hb)) (Nat.lt_irrefl _)
structure Turn (P : Program) (w : World) (K : PySem.W.Frag) (tg : Expr) (J : It) (fp : List Addr) (it : Addr) (tn : Nat → Heap → Prop) : Prop where
  mem : it ∈ fp
  obj : ∀ i h, tn i h → ∀ b ∈ fp, ∃ o, h.get? b = some o ∧ ∀ v, o.data ≠ .cell v
  keep : ∀ i h h', tn i h → (∀ b ∈ fp, ∀ o, h.get? b = some o → h'.get? b = some o) → tn i h'
  item : ∀ (X : Cx), X.prog = P → X.w = w → X.K = K → X.calm = true → ∀ (i : Nat) (pins : List (Addr × Obj)) (s : Shared) (σ : St) (H : Hp) (E : Value → Shared → Prop), Inv X pins σ H s → (∀ b ∈ fp, FpOk X pins H b) → tn i s.heap → J.go i H →
    wpAny (model P w) X.A (pyNext (.ref it)) (fun r s1 => ∃ u, r = some u ∧
      wpAny (model P w) X.A (letOwnedTupleGo tg (.ref it) u) (fun _ s2 => ∃ x H', Inv X pins σ H' s2 ∧ RelV x u ∧ J.yld i H x H' ∧ tn (i + 1) s2.heap ∧ ∀ b ∈ fp, H' b = none) E s1) E s
  done : ∀ (X : Cx), X.prog = P → X.w = w → X.K = K → X.calm = true → ∀ (i : Nat) (pins : List (Addr × Obj)) (s : Shared) (σ : St) (H : Hp) (E : Value → Shared → Prop), Inv X pins σ H s → (∀ b ∈ fp, FpOk X pins H b) → tn i s.heap → J.stop i H →
    wpAny (model P w) X.A (pyNext (.ref it)) (fun r s1 => r = none ∧ Inv X pins σ H s1) E s
  self : ∀ (A : Around) (i : Nat) (s : Shared) (Q : Value → Shared → Prop) (E : Value → Shared → Prop), tn i s.heap → Q (.ref it) s → wpAny (model P w) A (pyIter (.ref it)) Q E s
abbrev TI := St → Hp → (It → Hp → Prop) → Prop
/-- an iterator has come -/
def PIE (X : Cx) (pins : List (Addr × Obj)) (σ : St) (tg : Expr) (R : It → Hp → Prop) (itv : Value) (s2 : Shared) : Prop :=
  ∃ (it : Addr) (fp : List Addr) (tn : Nat → Heap → Prop) (J : It) (H' : Hp), itv = .ref it ∧ Inv X pins σ H' s2 ∧ Turn X.prog X.w X.K tg J fp it tn ∧ tn 0 s2.heap ∧ (∀ b ∈ fp, FpOk X pins H' b) ∧ R J H'
def PI (X : Cx) (tg iter : Expr) (wi : TI) : Prop :=
  ∀ (pins : List (Addr × Obj)) (s : Shared) (σ : St) (H : Hp) (R : It → Hp → Prop), Inv X pins σ H s → wi σ H R →
    wpAny (model X.prog X.w) X.A (eval iter X.env) (fun v s1 => wpAny (model X.prog X.w) X.A (pyIter v) (PIE X pins σ tg R) X.xe s1) X.xe s

/-- the step ahead of the store is nothing for an iterator that keeps no tuple -/
theorem go_of {M : Model} {A : Around} {E : Value → Shared → Prop} {s : Shared} {tg : Expr} {it : Addr} {u : Value} {o : Obj} {n : String} {vs : Array Value} {Q : Unit → Shared → Prop} (ho : s.heap.get? it = some o) (hc : o.cls = .type n) (hd : o.data = .fields vs)
    (hn : ["enumerate", "zip", "dict_itemiterator", "dict_reverseitemiterator", "odict_iterator", "itertools.zip_longest", "itertools.pairwise"].contains n = false) (hQ : Q () s) : wpAny M A (letOwnedTupleGo tg (.ref it) u) Q E s := by
  unfold letOwnedTupleGo
  cases tg <;> first
    | exact wpAny_pure hQ
    | (cases u <;> first
        | exact wpAny_pure hQ
        | (refine wpAny_bind (wpAny_load ho ?_)
           rw [hc, hd]
           show wpAny M A (if (["enumerate", "zip", "dict_itemiterator", "dict_reverseitemiterator", "odict_iterator", "itertools.zip_longest", "itertools.pairwise"].contains n && vs[0]? == some (rawInt _)) = true then _ else _) Q E s
           rw [if_neg (by intro h; rw [hn, Bool.false_and] at h; cases h)]
           exact wpAny_pure hQ))

/-- the list at a, as it stands at each turn (a loop may append to it) -/
def Itl (K : PySem.W.Frag) (a : Addr) : It :=
  ⟨fun i H => ∃ xs x, SqL K H a xs ∧ xs[i]? = some x, fun i H x H' => H' = H ∧ ∀ xs, SqL K H a xs → xs[i]? = some x, fun i H => ∃ xs, SqL K H a xs ∧ xs.length ≤ i⟩
def Itt (K : PySem.W.Frag) (a : Addr) : It :=
  ⟨fun i H => ∃ xs x, SqT K H a xs ∧ xs[i]? = some x, fun i H x H' => H' = H ∧ ∀ xs, SqT K H a xs → xs[i]? = some x, fun i H => ∃ xs, SqT K H a xs ∧ xs.length ≤ i⟩
/-- lo, lo + 1, .. (n of them) -/
def Itr (lo : Int) (n : Nat) : It := ⟨fun i _ => i < n, fun i H x H' => H' = H ∧ x = .int (lo + i), fun i _ => n ≤ i⟩
theorem turn_list {P : Program} {w : World} {K : PySem.W.Frag} {tg : Expr} (a it : Addr) : Turn P w K tg (Itl K a) [it] it (fun i h => h.IsListIter it a i) where
  mem := by simp
  obj := fun i h st b hb => by
    have e : b = it := by simpa using hb
    subst e
    obtain ⟨o, e, c, d⟩ := st
    exact ⟨o, e, fun v z => by rw [d] at z; cases z⟩
  keep := fun i h h' st k => st.at fun o e => k it (by simp) o e
  item := by
    intro X hP hw hK hc i pins s σ H E I hf st hg
    subst hP hw hK
    obtain ⟨xs, x, hq, hx⟩ := hg
    obtain ⟨its, rv, p, hz⟩ := I.list hq
    obtain ⟨u, hu, ru⟩ := rv.get hx
    obtain ⟨f0, f1, f2, f3, f4, f5⟩ := hf it (by simp)
    refine wpAny_pyNext_list_item st p.isList (x := u) (by simpa using hu) fun h' st' sb => ?_
    have I1 : Inv X pins σ H { s with heap := h' } := I.turned (t' := s.toks) (fun b o hb e => (sb.2 b hb).trans e) f0 f1 f3 f4 f5
    obtain ⟨o, e, c, d⟩ := id st'
    exact ⟨u, rfl, go_of (s := { s with heap := h' }) e c d (by decide) ⟨x, H, I1, ru, ⟨rfl, fun ys hy => by rw [I.list_inj hy hq]; exact hx⟩, st', fun b hb => (hf b hb).1⟩⟩
  done := by
    intro X hP hw hK hc i pins s σ H E I hf st hg
    subst hP hw hK
    obtain ⟨xs, hq, hx⟩ := hg
    obtain ⟨its, rv, p, hz⟩ := I.list hq
    obtain ⟨f0, f1, f2, f3, f4, f5⟩ := hf it (by simp)
    have hl := rv.length
    exact wpAny_pyNext_list_end (I.ok.hd hc) st p.isList (by simp; omega) fun h' eb => ⟨rfl, I.turned (t' := s.toks) (fun b o hb e => eb b o hb e) f0 f1 f3 f4 f5⟩
  self := fun _ _ _ _ _ st h => wpAny_pyIter_listiter st h
theorem turn_tuple {P : Program} {w : World} {K : PySem.W.Frag} {tg : Expr} (a it : Addr) : Turn P w K tg (Itt K a) [it] it (fun i h => h.IsTupleIter it a i) where
  mem := by simp
  obj := fun i h st b hb => by
    have e : b = it := by simpa using hb
    subst e
    obtain ⟨o, e, c, d⟩ := st
    exact ⟨o, e, fun v z => by rw [d] at z; cases z⟩
  keep := fun i h h' st k => st.at fun o e => k it (by simp) o e
  item := by
    intro X hP hw hK hc i pins s σ H E I hf st hg
    subst hP hw hK
    obtain ⟨xs, x, hq, hx⟩ := hg
    obtain ⟨its, rv, p, hz⟩ := I.tuple hq
    obtain ⟨u, hu, ru⟩ := rv.get hx
    obtain ⟨f0, f1, f2, f3, f4, f5⟩ := hf it (by simp)
    refine wpAny_pyNext_tuple_item st (show s.heap.IsTuple a its.toArray from p) (x := u) (by simpa using hu) fun h' st' sb => ?_
    have I1 : Inv X pins σ H { s with heap := h' } := I.turned (t' := s.toks) (fun b o hb e => (sb.2 b hb).trans e) f0 f1 f3 f4 f5
    obtain ⟨o, e, c, d⟩ := id st'
    exact ⟨u, rfl, go_of (s := { s with heap := h' }) e c d (by decide) ⟨x, H, I1, ru, ⟨rfl, fun ys hy => by rw [I.tuple_inj hy hq]; exact hx⟩, st', fun b hb => (hf b hb).1⟩⟩
  done := by
    intro X hP hw hK hc i pins s σ H E I hf st hg
    subst hP hw hK
    obtain ⟨xs, hq, hx⟩ := hg
    obtain ⟨its, rv, p, hz⟩ := I.tuple hq
    obtain ⟨f0, f1, f2, f3, f4, f5⟩ := hf it (by simp)
    have hl := rv.length
    exact wpAny_pyNext_tuple_end (I.ok.hd hc) st (show s.heap.IsTuple a its.toArray from p) (by simp; omega) fun h' eb => ⟨rfl, I.turned (t' := s.toks) (fun b o hb e => eb b o hb e) f0 f1 f3 f4 f5⟩
  self := fun _ _ _ _ _ st h => wpAny_pyIter_tupleiter st h
theorem turn_range {P : Program} {w : World} {K : PySem.W.Frag} {tg : Expr} (it : Addr) (lo : Int) (n : Nat) : Turn P w K tg (Itr lo n) [it] it (fun i h => IsRangeIter h it (lo + (i : Nat) * 1) ((n : Int) - (i : Nat)) 1) where
  mem := by simp
  obj := fun i h st b hb => by
    have e : b = it := by simpa using hb
    subst e
    exact ⟨_, st, fun v z => by
      have z' : Data.fields _ = Data.cell v := z
      cases z'⟩
  keep := fun i h h' st k => k it (by simp) _ st
  item := by
    intro X hP hw hK hc i pins s σ H E I hf st hg
    subst hP hw hK
    obtain ⟨f0, f1, f2, f3, f4, f5⟩ := hf it (by simp)
    have W := Walks.range (prog := X.prog) (w := X.w) (I.ok.hd hc) it lo 1 n
    refine W.item i s _ _ hg st fun v h' tk hv st' kk => ?_
    obtain ⟨t, rfl⟩ := hv
    have I1 : Inv X pins σ H { s with heap := h', toks := tk } := I.turned (fun b o hb e => kk b o (by simpa using hb) e) f0 f1 f3 f4 f5
    refine ⟨_, rfl, go_of (s := { s with heap := h', toks := tk }) (n := "range_iterator") st' rfl rfl (by decide) ⟨.int (lo + i), H, I1, ⟨t, ?_⟩, ⟨rfl, rfl⟩, st', fun b hb => (hf b hb).1⟩⟩
    rw [Int.mul_one]
  done := by
    intro X hP hw hK hc i pins s σ H E I hf st hg
    subst hP hw hK
    obtain ⟨f0, f1, f2, f3, f4, f5⟩ := hf it (by simp)
    exact wpAny_pyNext_range_end (I.ok.hd hc) st (by have : n ≤ i := hg; omega) fun h' eb => ⟨rfl, I.turned (t' := s.toks) (fun b o hb e => eb b o hb e) f0 f1 f3 f4 f5⟩
  self := fun _ _ _ _ _ st h => wpAny_pyIter_rangeiter st h
end L2

namespace L2
open PySem PySem.Spec PyProof.Rows
section
variable {X : Cx} {tg : Expr}
def iList (K : PySem.W.Frag) (tl : TE) : TI := fun σ H R => tl σ H fun x H1 => ∃ a, x = .ref a ∧ (∃ xs, SqL K H1 a xs) ∧ R (Itl K a) H1
def iTup (K : PySem.W.Frag) (tl : TE) : TI := fun σ H R => tl σ H fun x H1 => ∃ a, x = .ref a ∧ (∃ xs, SqT K H1 a xs) ∧ R (Itt K a) H1
theorem pi_list {l : Expr} {tl : TE} (hl : PE X l tl) : PI X tg l (iList X.K tl) := by
  intro pins s σ H R I h
  refine thn (hl pins s σ H _ I h) fun v s1 ⟨x, H1, I1, r1, q1⟩ => ?_
  obtain ⟨a, e, ⟨xs, hq⟩, q⟩ := q1
  subst e
  cases r1
  obtain ⟨its, rv, p, hz⟩ := I1.list hq
  refine wpAny_pyIter_list p.isList ?_
  refine ⟨s1.heap.objs.size, [s1.heap.objs.size], _, _, H1, rfl, I1.kept (t' := s1.toks) fun b o e => Heap.get?_push_of_some _ e, turn_list a _, ⟨_, Heap.get?_push_size _ rfl, rfl, rfl⟩, fun b hb => ?_, q⟩
  have e : b = s1.heap.objs.size := by simpa using hb
  subst e
  exact I1.fpOk (Nat.le_refl _) (I1.hok.fresh (Nat.le_refl _))
theorem pi_tup {l : Expr} {tl : TE} (hl : PE X l tl) : PI X tg l (iTup X.K tl) := by
  intro pins s σ H R I h
  refine thn (hl pins s σ H _ I h) fun v s1 ⟨x, H1, I1, r1, q1⟩ => ?_
  obtain ⟨a, e, ⟨xs, hq⟩, q⟩ := q1
  subst e
  cases r1
  obtain ⟨its, rv, p, hz⟩ := I1.tuple hq
  refine wpAny_pyIter_tuple (show s1.heap.IsTuple a its.toArray from p) ?_
  refine ⟨s1.heap.objs.size, [s1.heap.objs.size], _, _, H1, rfl, I1.kept (t' := s1.toks) fun b o e => Heap.get?_push_of_some _ e, turn_tuple a _, ⟨_, Heap.get?_push_size _ rfl, rfl, rfl⟩, fun b hb => ?_, q⟩
  have e : b = s1.heap.objs.size := by simpa using hb
  subst e
  exact I1.fpOk (Nat.le_refl _) (I1.hok.fresh (Nat.le_refl _))
/-- a range object just made, walked -/
theorem range_it {pins : List (Addr × Obj)} {σ : St} {H : Hp} {s : Shared} {R : It → Hp → Prop} {E : Value → Shared → Prop} {lo hi : Int} {t u v : Tok} {tk : Nat} (I : Inv X pins σ H s) (h1 : -(2 ^ 62) ≤ lo) (h2 : lo < 2 ^ 62) (h3 : -(2 ^ 62) ≤ hi) (h4 : hi < 2 ^ 62)
    (q : R (Itr lo (hi - lo).toNat) H) : wpAny (model X.prog X.w) X.A (pyIter (.ref s.heap.objs.size)) (PIE X pins σ tg R) E { s with heap := s.heap.push { cls := .type "range", data := .fields #[.int lo t, .int hi u, .int 1 v] }, toks := tk } := by
  refine wpAny_pyIter_range (IsRange.new ..) (small_one h1 h2 h3 h4) ?_
  have I1 : Inv X pins σ H { s with heap := s.heap.push { cls := .type "range", data := .fields #[.int lo t, .int hi u, .int 1 v] }, toks := tk } := I.kept fun b o e => Heap.get?_push_of_some _ e
  refine ⟨(s.heap.push { cls := .type "range", data := .fields #[.int lo t, .int hi u, .int 1 v] }).objs.size, [(s.heap.push { cls := .type "range", data := .fields #[.int lo t, .int hi u, .int 1 v] }).objs.size], _, _, H, rfl,
    I1.kept (t' := tk) fun b o e => Heap.get?_push_of_some _ e, turn_range _ lo (hi - lo).toNat, ?_, fun b hb => ?_, q⟩
  · have e1 : lo + ((0 : Nat) : Int) * 1 = lo := by simp
    have e2 : (((hi - lo).toNat : Nat) : Int) - ((0 : Nat) : Int) = Builtin.Range.rangeSize lo hi 1 := by rw [rangeSize_one]; split <;> omega
    show IsRangeIter _ _ (lo + ((0 : Nat) : Int) * 1) ((((hi - lo).toNat : Nat) : Int) - ((0 : Nat) : Int)) 1
    rw [e1, e2]
    exact Heap.get?_push_size _ rfl
  · have e : b = (s.heap.push { cls := .type "range", data := .fields #[.int lo t, .int hi u, .int 1 v] }).objs.size := by simpa using hb
    subst e
    exact I1.fpOk (Nat.le_refl _) (I1.hok.fresh (Nat.le_refl _))
def iRng1 (ta : TA) : TI := fun σ H R => ta σ H fun vs H1 => ∃ j : Int, vs = [.int j] ∧ -(2 ^ 62) ≤ j ∧ j < 2 ^ 62 ∧ R (Itr 0 j.toNat) H1
theorem pi_range1 {a : Expr} {ta : TA} {p pos : Pos} (hg : Gl X "range") (hm : X.mg "range" = none) (ha : PA X [a] ta) (hs : starEach [a] X.env = [(false, eval a X.env)] := by rfl) : PI X tg (.Call (.Name "range" p) [a] [] pos) (iRng1 ta) := by
  intro pins s σ H R I h
  refine Call_ (ld_blt I hg hm boot_range (PyProof.Rows.callWith_type1 (thn (ha pos pins s σ H _ I h) fun us s1 ⟨vs, H1, I1, r1, q1⟩ => ?_) hs rfl))
  obtain ⟨j, e, q1, q2, q⟩ := q1
  subst e
  cases r1 with
  | cons r rr =>
    cases rr
    obtain ⟨t, rfl⟩ := r
    exact call_range_1 (range_it I1 (by omega) (by omega) q1 q2 (by simpa using q))

/-! ### for -/
/-- W: the invariant by the turn and a measure; N: what the body is to reach -/
def tFor (wi : TI) (g : TG) (tb : TS) : TS := fun D σ H => wi σ H fun J H1 => ∃ W : Nat → Nat → St → Hp → Prop, (∃ m, W 0 m σ H1) ∧ ∀ i m σ H, W i m σ H →
  (J.stop i H ∧ D.nx σ H) ∨ (J.go i H ∧ ∃ N : St → Hp → Prop, (∀ σ' H', N σ' H' → ∃ m', m' < m ∧ W (i + 1) m' σ' H') ∧ ∀ x H', J.yld i H x H' → g x σ H' fun σ2 H2 => tb { D with nx := N, ct := N, bk := D.nx } σ2 H2)
/-- the records at fp as they stand -/
def pinsAt (fp : List Addr) (h : Heap) : List (Addr × Obj) := fp.filterMap fun b => (h.get? b).map fun o => (b, o)
theorem mem_pinsAt {fp : List Addr} {h : Heap} {b : Addr} {o : Obj} (hb : b ∈ fp) (e : h.get? b = some o) : (b, o) ∈ pinsAt fp h := List.mem_filterMap.mpr ⟨b, hb, by rw [e]; rfl⟩
theorem of_pinsAt {fp : List Addr} {h : Heap} {p : Addr × Obj} (hp : p ∈ pinsAt fp h) : p.1 ∈ fp ∧ h.get? p.1 = some p.2 := by
  obtain ⟨b, hb, e⟩ := List.mem_filterMap.mp hp
  cases q : h.get? b with
  | none => rw [q] at e; cases e
  | some o =>
    rw [q] at e
    have e' : (b, o) = p := Option.some.inj e
    subst e'
    exact ⟨hb, q⟩
theorem Inv.pinned {pins : List (Addr × Obj)} {σ : St} {H : Hp} {s : Shared} {fp : List Addr} (I : Inv X pins σ H s) (hf : ∀ b ∈ fp, FpOk X pins H b) (ho : ∀ b ∈ fp, ∃ o, s.heap.get? b = some o ∧ ∀ v, o.data ≠ .cell v) : Inv X (pins ++ pinsAt fp s.heap) σ H s :=
  I.pins_of fun p hp => (List.mem_append.mp hp).elim (fun z => I.pin p (List.mem_append_right _ z)) fun z => by
    obtain ⟨hb, e⟩ := of_pinsAt z
    obtain ⟨f0, f1, f2, _⟩ := hf p.1 hb
    obtain ⟨o, e', d⟩ := ho p.1 hb
    rw [e] at e'; cases e'
    exact ⟨e, f0, f1, f2, d⟩
theorem Inv.unpinned {pins pl : List (Addr × Obj)} {σ : St} {H : Hp} {s : Shared} (I : Inv X (pins ++ pl) σ H s) : Inv X pins σ H s := I.pins_of fun p hp => I.pin p (List.mem_append_right _ (List.mem_append_left _ hp))
theorem ps_for {iter : Expr} {body : List Stmt} {wi : TI} {g : TG} {tb : TS} {pos : Pos} (hp : PassesOwn (model X.prog X.w) X.A X.env X.xe) (hc : X.calm = true) (hi : PI X tg iter wi) (hg : PG X tg g) (hb : PSs X body tb)
    (hs : ∀ x, foldedSetIterable iter X.env x = pure x := by intro _; rfl) : PS X (.For tg iter body [] pos) (tFor wi g tb) := by
  intro pins s σ H D I h
  refine wpAny_For (thn (hi pins s σ H _ I h) fun v s1 h1 => thn h1 fun itv s2 h2 => ?_) hs
  obtain ⟨it, fp, tn, J, H2, e, I2, T, st2, f2, W, ⟨m0, w0⟩, turn⟩ := h2
  subst e
  -- what stays true of the iterator's objects through the loop
  have stat : ∀ {H' : Hp}, (∀ b ∈ fp, H' b = none) → ∀ b ∈ fp, FpOk X pins H' b := fun hn b hb => ⟨hn b hb, (f2 b hb).2⟩
  refine codeAny_forLoop_any (fun n s' => ∃ i σ' H', Inv X pins σ' H' s' ∧ tn i s'.heap ∧ (∀ b ∈ fp, H' b = none) ∧ W i n σ' H') ?_ m0 ⟨0, σ, H2, I2, st2, fun b hb => (f2 b hb).1, w0⟩
  rintro n s3 ⟨i, σ3, H3, I3, st3, fr3, w3⟩
  rcases turn i n σ3 H3 w3 with ⟨stop, qn⟩ | ⟨go, N, hN, step⟩
  · refine wpAny_passesOwn hp (thn (T.done X rfl rfl rfl hc i pins s3 σ3 H3 X.xe I3 (stat fr3) st3 stop) fun r s4 ⟨hr, I4⟩ => ?_)
    subst hr
    exact wpAny_execs_nil ⟨σ3, H3, I4, qn⟩
  · refine wpAny_passesOwn hp (thn (T.item X rfl rfl rfl hc i pins s3 σ3 H3 X.xe I3 (stat fr3) st3 go) fun r s4 ⟨u, hr, h4⟩ => ?_)
    subst hr
    refine wpAny_passesOwn hp (thn h4 fun _ s5 ⟨x, H5, I5, r5, y5, st5, fr5⟩ => ?_)
    have I5' := I5.pinned (stat fr5) (T.obj _ _ st5)
    refine wpAny_passesOwn hp (thn (hg _ s5 σ3 H5 x u _ I5' r5 (step x H5 y5)) fun _ s6 ⟨σ6, H6, I6, q6⟩ => ?_)
    refine wpAny_passesOwn hp (thn (hb _ s6 σ6 H6 _ I6 q6) fun f s7 q7 => ?_)
    have again : ∀ {σ7 : St} {H7 : Hp}, Inv X (pins ++ pinsAt fp s5.heap) σ7 H7 s7 → N σ7 H7 → ∃ m, m < n ∧ ∃ i σ' H', Inv X pins σ' H' s7 ∧ tn i s7.heap ∧ (∀ b ∈ fp, H' b = none) ∧ W i m σ' H' := fun {σ7 H7} I7 n7 => by
      obtain ⟨m', hm, w7⟩ := hN σ7 H7 n7
      refine ⟨m', hm, i + 1, σ7, H7, I7.unpinned, T.keep _ _ _ st5 fun b hb o e => (I7.pin (b, o) (List.mem_append_right _ (List.mem_append_right _ (mem_pinsAt hb e)))).1, fun b hb => ?_, w7⟩
      obtain ⟨o, e, d⟩ := T.obj _ _ st5 b hb
      exact (I7.pin (b, o) (List.mem_append_right _ (List.mem_append_right _ (mem_pinsAt hb e)))).2.1
    cases f with
    | next => obtain ⟨σ7, H7, I7, n7⟩ := q7; exact again I7 n7
    | cont => obtain ⟨σ7, H7, I7, n7⟩ := q7; exact again I7 n7
    | brk => obtain ⟨σ7, H7, I7, q7⟩ := q7; exact ⟨σ7, H7, I7.unpinned, q7⟩
    | ret v => obtain ⟨x7, σ7, H7, I7, r7, q7⟩ := q7; exact ⟨x7, σ7, H7, I7.unpinned, r7, q7⟩
end

/-! ### the forms one uses -/
/-- over a list that the body leaves as it is -/
theorem for_list {K : PySem.W.Frag} {a : Addr} {xs : List V} {g : TG} {tb : TS} {D : Ends} {σ : St} {H : Hp} (Pv : Nat → St → Hp → Prop) (h0 : Pv 0 σ H) (hl : ∀ i σ H, i ≤ xs.length → Pv i σ H → SqL K H a xs)
    (hs : ∀ i x σ H, xs[i]? = some x → Pv i σ H → g x σ H fun σ2 H2 => tb { D with nx := Pv (i + 1), ct := Pv (i + 1), bk := D.nx } σ2 H2) (hd : ∀ σ H, Pv xs.length σ H → D.nx σ H) :
    ∃ W : Nat → Nat → St → Hp → Prop, (∃ m, W 0 m σ H) ∧ ∀ i m σ H, W i m σ H →
      ((Itl K a).stop i H ∧ D.nx σ H) ∨ ((Itl K a).go i H ∧ ∃ N : St → Hp → Prop, (∀ σ' H', N σ' H' → ∃ m', m' < m ∧ W (i + 1) m' σ' H') ∧ ∀ x H', (Itl K a).yld i H x H' → g x σ H' fun σ2 H2 => tb { D with nx := N, ct := N, bk := D.nx } σ2 H2) := by
  refine ⟨fun i m σ H => m = xs.length - i ∧ i ≤ xs.length ∧ Pv i σ H, ⟨xs.length, by simp, Nat.zero_le _, h0⟩, ?_⟩
  rintro i m σ H ⟨rfl, hi, p⟩
  have q := hl i σ H hi p
  by_cases hlt : i < xs.length
  · refine .inr ⟨⟨xs, xs[i], q, by simp [hlt]⟩, Pv (i + 1), fun σ' H' p' => ⟨xs.length - (i + 1), by omega, rfl, hlt, p'⟩, fun x H' y => ?_⟩
    obtain ⟨e, y⟩ := y
    subst e
    exact hs i x σ _ (y xs q) p
  · have e : i = xs.length := by omega
    subst e
    exact .inl ⟨⟨xs, q, Nat.le_refl _⟩, hd σ H p⟩
theorem for_tup {K : PySem.W.Frag} {a : Addr} {xs : List V} {g : TG} {tb : TS} {D : Ends} {σ : St} {H : Hp} (Pv : Nat → St → Hp → Prop) (h0 : Pv 0 σ H) (hl : ∀ i σ H, i ≤ xs.length → Pv i σ H → SqT K H a xs)
    (hs : ∀ i x σ H, xs[i]? = some x → Pv i σ H → g x σ H fun σ2 H2 => tb { D with nx := Pv (i + 1), ct := Pv (i + 1), bk := D.nx } σ2 H2) (hd : ∀ σ H, Pv xs.length σ H → D.nx σ H) :
    ∃ W : Nat → Nat → St → Hp → Prop, (∃ m, W 0 m σ H) ∧ ∀ i m σ H, W i m σ H →
      ((Itt K a).stop i H ∧ D.nx σ H) ∨ ((Itt K a).go i H ∧ ∃ N : St → Hp → Prop, (∀ σ' H', N σ' H' → ∃ m', m' < m ∧ W (i + 1) m' σ' H') ∧ ∀ x H', (Itt K a).yld i H x H' → g x σ H' fun σ2 H2 => tb { D with nx := N, ct := N, bk := D.nx } σ2 H2) := by
  refine ⟨fun i m σ H => m = xs.length - i ∧ i ≤ xs.length ∧ Pv i σ H, ⟨xs.length, by simp, Nat.zero_le _, h0⟩, ?_⟩
  rintro i m σ H ⟨rfl, hi, p⟩
  have q := hl i σ H hi p
  by_cases hlt : i < xs.length
  · refine .inr ⟨⟨xs, xs[i], q, by simp [hlt]⟩, Pv (i + 1), fun σ' H' p' => ⟨xs.length - (i + 1), by omega, rfl, hlt, p'⟩, fun x H' y => ?_⟩
    obtain ⟨e, y⟩ := y
    subst e
    exact hs i x σ _ (y xs q) p
  · have e : i = xs.length := by omega
    subst e
    exact .inl ⟨⟨xs, q, Nat.le_refl _⟩, hd σ H p⟩
theorem for_range {lo : Int} {n : Nat} {g : TG} {tb : TS} {D : Ends} {σ : St} {H : Hp} (Pv : Nat → St → Hp → Prop) (h0 : Pv 0 σ H)
    (hs : ∀ i σ H, i < n → Pv i σ H → g (.int (lo + i)) σ H fun σ2 H2 => tb { D with nx := Pv (i + 1), ct := Pv (i + 1), bk := D.nx } σ2 H2) (hd : ∀ σ H, Pv n σ H → D.nx σ H) :
    ∃ W : Nat → Nat → St → Hp → Prop, (∃ m, W 0 m σ H) ∧ ∀ i m σ H, W i m σ H →
      ((Itr lo n).stop i H ∧ D.nx σ H) ∨ ((Itr lo n).go i H ∧ ∃ N : St → Hp → Prop, (∀ σ' H', N σ' H' → ∃ m', m' < m ∧ W (i + 1) m' σ' H') ∧ ∀ x H', (Itr lo n).yld i H x H' → g x σ H' fun σ2 H2 => tb { D with nx := N, ct := N, bk := D.nx } σ2 H2) := by
  refine ⟨fun i m σ H => m = n - i ∧ i ≤ n ∧ Pv i σ H, ⟨n, by simp, Nat.zero_le _, h0⟩, ?_⟩
  rintro i m σ H ⟨rfl, hi, p⟩
  by_cases hlt : i < n
  · refine .inr ⟨hlt, Pv (i + 1), fun σ' H' p' => ⟨n - (i + 1), by omega, rfl, hlt, p'⟩, fun x H' y => ?_⟩
    obtain ⟨e, y⟩ := y
    subst e y
    exact hs i σ _ hlt p
  · have e : i = n := by omega
    subst e
    exact .inl ⟨Nat.le_refl _, hd σ H p⟩
/-- while, by a word and a measure of the state -/
theorem while_by {c : TT} {tb : TS} {D : Ends} {σ : St} {H : Hp} (Pv : St → Hp → Prop) (μ : St → Hp → Nat) (h0 : Pv σ H)
    (hs : ∀ σ H, Pv σ H → c σ H fun b H1 => if b = true then tb { D with nx := fun σ' H' => Pv σ' H' ∧ μ σ' H' < μ σ H, ct := fun σ' H' => Pv σ' H' ∧ μ σ' H' < μ σ H, bk := D.nx } σ H1 else D.nx σ H1)
    (mono : ∀ σ H Q Q', (∀ b H1, Q b H1 → Q' b H1) → c σ H Q → c σ H Q') : tWhile c tb D σ H := by
  refine ⟨fun m σ H => m = μ σ H ∧ Pv σ H, ⟨_, rfl, h0⟩, ?_⟩
  rintro m σ H ⟨rfl, p⟩
  refine mono σ H _ _ (fun b H1 q => ?_) (hs σ H p)
  cases b with
  | true => exact ⟨_, fun σ' H' ⟨p', l⟩ => ⟨_, l, rfl, p'⟩, q⟩
  | false => exact q
end L2

namespace L2
open PySem PySem.Spec PyProof.Rows

abbrev R2 := V → V → Hp → VK → Prop
/-- a two-place operation on values: f is binaryOp op, inplaceOp op or compareOp op -/
def OpR (X : Cx) (f : Value → Value → Sem Value) (r : R2) : Prop :=
  ∀ (pins : List (Addr × Obj)) (s : Shared) (σ : St) (H : Hp) (x y : V) (v u : Value) (Q : VK), Inv X pins σ H s → RelV x v → RelV y u → r x y H Q →
    wpAny (model X.prog X.w) X.A (f v u) (EP X pins σ Q) X.xe s
/-- a one-place operation -/
def UnR (X : Cx) (f : Value → Sem Value) (r : V → Hp → VK → Prop) : Prop :=
  ∀ (pins : List (Addr × Obj)) (s : Shared) (σ : St) (H : Hp) (x : V) (v : Value) (Q : VK), Inv X pins σ H s → RelV x v → r x H Q →
    wpAny (model X.prog X.w) X.A (f v) (EP X pins σ Q) X.xe s
/-- a call of a value that is known (a builtin, a type) with values -/
def CallR (X : Cx) (f : Value) (r : List V → Hp → VK → Prop) : Prop :=
  ∀ (pins : List (Addr × Obj)) (s : Shared) (σ : St) (H : Hp) (xs : List V) (us : List Value) (Q : VK), Inv X pins σ H s → Vals xs us → r xs H Q →
    wpAny (model X.prog X.w) X.A (call f us) (EP X pins σ Q) X.xe s

def tOp (r : R2) (ta tb : TE) : TE := fun σ H Q => ta σ H fun x H1 => tb σ H1 fun y H2 => r x y H2 Q
def tUn (r : V → Hp → VK → Prop) (ta : TE) : TE := fun σ H Q => ta σ H fun x H1 => r x H1 Q
/-- ints in, under C, and a value out -/
def rI (C : Int → Int → Prop) (g : Int → Int → V) : R2 := fun x y H Q => ∃ i j, x = .int i ∧ y = .int j ∧ C i j ∧ Q (g i j) H
def rI0 (g : Int → Int → V) : R2 := fun x y H Q => ∃ i j, x = .int i ∧ y = .int j ∧ Q (g i j) H
def rU (g : Int → V) : V → Hp → VK → Prop := fun x H Q => ∃ i, x = .int i ∧ Q (g i) H

section
variable {X : Cx} {a b c : Expr} {ta tb tc : TE} {pos : Pos}

theorem binT (ha : PE X a ta) (hb : PE X b tb) {pins : List (Addr × Obj)} {s : Shared} {σ : St} {H : Hp} {R : V → V → Hp → Prop} (I : Inv X pins σ H s)
    (h : ta σ H fun x H1 => tb σ H1 fun y H2 => R x y H2) {Q : Value → Shared → Prop} {f : Value → Value → Sem Value}
    (hf : ∀ v u s2 x y H2, Inv X pins σ H2 s2 → RelV x v → RelV y u → R x y H2 → wpAny (model X.prog X.w) X.A (f v u) Q X.xe s2) :
    wpAny (model X.prog X.w) X.A (eval a X.env) (fun v s₁ => wpAny (model X.prog X.w) X.A (eval b X.env) (fun u s₂ => wpAny (model X.prog X.w) X.A (f v u) Q X.xe s₂) X.xe s₁) X.xe s := by
  refine thn (ha pins s σ H _ I h) fun v s1 ⟨x, H1, I1, r1, q1⟩ => ?_
  refine thn (hb pins s1 σ H1 _ I1 q1) fun u s2 ⟨y, H2, I2, r2, q2⟩ => ?_
  exact hf v u s2 x y H2 I2 r1 r2 q2

theorem pe_op {op : Operator} {r : R2} (ho : OpR X (binaryOp op) r) (ha : PE X a ta) (hb : PE X b tb) : PE X (.BinOp a op b pos) (tOp r ta tb) := by
  intro pins s σ H Q I h
  exact wpAny_BinOp (binT ha hb I h fun v u s2 x y H2 I2 rx ry q => ho pins s2 σ H2 x y v u Q I2 rx ry q)
theorem pe_un {op : UnaryOp} {r : V → Hp → VK → Prop} (ho : UnR X (unaryOp op) r) (ha : PE X a ta) : PE X (.UnaryOp op a pos) (tUn r ta) := by
  intro pins s σ H Q I h
  exact UnaryOp_ (thn (ha pins s σ H _ I h) fun v s1 ⟨x, H1, I1, r1, q1⟩ => ho pins s1 σ H1 x v Q I1 r1 q1)

/-! ### ints -/
theorem opI {f : Value → Value → Sem Value} {C : Int → Int → Prop} {g : Int → Int → Int}
    (rule : ∀ (i j : Int) (t u : Tok) (s : Shared) (Q : Value → Shared → Prop) (E : Value → Shared → Prop), C i j → Q (.int (g i j) s.toks) { s with toks := s.toks + 1 } → wpAny (model X.prog X.w) X.A (f (.int i t) (.int j u)) Q E s) :
    OpR X f (rI C fun i j => .int (g i j)) := by
  intro pins s σ H x y v u Q I rx ry h
  obtain ⟨i, j, rfl, rfl, hc, q⟩ := h
  obtain ⟨t, rfl⟩ := rx
  obtain ⟨t', rfl⟩ := ry
  exact rule i j t t' s _ _ hc ⟨.int (g i j), H, I.tok _, ⟨_, rfl⟩, q⟩
theorem opI0 {f : Value → Value → Sem Value} {g : Int → Int → Int}
    (rule : ∀ (i j : Int) (t u : Tok) (s : Shared) (Q : Value → Shared → Prop) (E : Value → Shared → Prop), Q (.int (g i j) s.toks) { s with toks := s.toks + 1 } → wpAny (model X.prog X.w) X.A (f (.int i t) (.int j u)) Q E s) :
    OpR X f (rI0 fun i j => .int (g i j)) := by
  intro pins s σ H x y v u Q I rx ry h
  obtain ⟨i, j, rfl, rfl, q⟩ := h
  obtain ⟨t, rfl⟩ := rx
  obtain ⟨t', rfl⟩ := ry
  exact rule i j t t' s _ _ ⟨.int (g i j), H, I.tok _, ⟨_, rfl⟩, q⟩
theorem opB0 {f : Value → Value → Sem Value} {g : Int → Int → Bool}
    (rule : ∀ (i j : Int) (t u : Tok) (s : Shared) (Q : Value → Shared → Prop) (E : Value → Shared → Prop), Q (.bool (g i j)) s → wpAny (model X.prog X.w) X.A (f (.int i t) (.int j u)) Q E s) :
    OpR X f (rI0 fun i j => .bl (g i j)) := by
  intro pins s σ H x y v u Q I rx ry h
  obtain ⟨i, j, rfl, rfl, q⟩ := h
  obtain ⟨t, rfl⟩ := rx
  obtain ⟨t', rfl⟩ := ry
  exact rule i j t t' s _ _ ⟨.bl (g i j), H, I, rfl, q⟩

def CMul (i j : Int) : Prop := (-(2 ^ 64) < i ∧ i < 2 ^ 64) ∨ (-(2 ^ 64) < j ∧ j < 2 ^ 64)
theorem CMul.ok {i j : Int} (h : CMul i j) : IntMulOk i j := by
  rcases h with ⟨h1, h2⟩ | ⟨h1, h2⟩
  · exact .of_left (intBits_le_64 h1 h2)
  · exact .of_right (intBits_le_64 h1 h2)

theorem op_add : OpR X (binaryOp .Add) (rI0 fun i j => .int (i + j)) := opI0 fun _ _ _ _ _ _ _ q => add_int q
theorem op_sub : OpR X (binaryOp .Sub) (rI0 fun i j => .int (i - j)) := opI0 fun _ _ _ _ _ _ _ q => sub_int q
theorem op_mul : OpR X (binaryOp .Mult) (rI CMul fun i j => .int (i * j)) := opI fun _ _ _ _ _ _ _ hc q => mul_int q hc.ok

theorem unI {f : Value → Sem Value} {g : Int → Int}
    (rule : ∀ (i : Int) (t : Tok) (s : Shared) (Q : Value → Shared → Prop) (E : Value → Shared → Prop), Q (.int (g i) s.toks) { s with toks := s.toks + 1 } → wpAny (model X.prog X.w) X.A (f (.int i t)) Q E s) :
    UnR X f (rU fun i => .int (g i)) := by
  intro pins s σ H x v Q I rx h
  obtain ⟨i, rfl, q⟩ := h
  obtain ⟨t, rfl⟩ := rx
  exact rule i t s _ _ ⟨.int (g i), H, I.tok _, ⟨_, rfl⟩, q⟩
theorem un_neg : UnR X (unaryOp .USub) (rU fun i => .int (-i)) := unI fun _ _ _ _ _ q => neg_int q

/-! ### bools among ints: n += (a < b) -/
end

/-! ### comparisons -/
/-- the scalars that == tells apart as data does -/
def scal : V → V → Bool
  | .non, .non => true | .non, .int _ => true | .int _, .non => true | .non, .bl _ => true | .bl _, .non => true | .non, .str _ => true | .str _, .non => true
  | .int _, .int _ => true | .bl _, .bl _ => true | .str _, .str _ => true | .byt _, .byt _ => true
  | .int _, .str _ => true | .str _, .int _ => true | .bl _, .str _ => true | .str _, .bl _ => true
  | _, _ => false
def rEq : R2 := fun x y H Q => scal x y = true ∧ Q (.bl (decide (x = y))) H
def rNe : R2 := fun x y H Q => scal x y = true ∧ Q (.bl (!decide (x = y))) H

theorem dec_int {i j : Int} : decide (V.int i = V.int j) = (i == j) := by
  rw [Bool.eq_iff_iff]
  simp
theorem dec_bl {i j : Bool} : decide (V.bl i = V.bl j) = (i == j) := by
  rw [Bool.eq_iff_iff]
  simp
theorem dec_str {i j : Str} : decide (V.str i = V.str j) = (i == j) := by
  rw [Bool.eq_iff_iff]
  simp
theorem dec_byt {i j : Array UInt8} : decide (V.byt i = V.byt j) = (i.toList == j.toList) := by
  rw [Bool.eq_iff_iff]
  cases i
  cases j
  simp

section
variable {X : Cx} {a b c : Expr} {ta tb tc : TE} {pos : Pos}
theorem fin_bl {pins : List (Addr × Obj)} {σ : St} {H : Hp} {s : Shared} {Q : VK} {k k' : Bool} (I : Inv X pins σ H s) (q : Q (.bl k) H) (e : k = k') : EP X pins σ Q (.bool k') s := by
  subst e
  exact ⟨.bl k, H, I, rfl, q⟩
theorem op_eq : OpR X (compareOp .Eq) rEq := by
  intro pins s σ H x y v u Q I rx ry h
  obtain ⟨hs, q⟩ := h
  cases x with
  | non =>
    cases rx
    cases y with
    | non => cases ry; exact PySem.EqNone.eq_none_none (fin_bl I q (by simp))
    | bl j => cases ry; exact PySem.EqNone.eq_none_bool (fin_bl I q (by simp))
    | int j => obtain ⟨t', rfl⟩ := ry; exact PySem.EqNone.eq_none_int (fin_bl I q (by simp))
    | str j => obtain ⟨t', rfl⟩ := ry; exact PySem.EqNone.eq_none_str (fin_bl I q (by simp))
    | _ => exact absurd (show false = true from hs) Bool.false_ne_true
  | bl i =>
    cases rx
    cases y with
    | non => cases ry; exact PySem.EqNone.eq_bool_none (fin_bl I q (by simp))
    | bl j => cases ry; exact eq_bool (fin_bl I q dec_bl)
    | str j => obtain ⟨t', rfl⟩ := ry; exact PySem.EqMixed.eq_bool_str (fin_bl I q (by simp))
    | _ => exact absurd (show false = true from hs) Bool.false_ne_true
  | int i =>
    obtain ⟨t, rfl⟩ := rx
    cases y with
    | non => cases ry; exact PySem.EqNone.eq_int_none (fin_bl I q (by simp))
    | int j => obtain ⟨t', rfl⟩ := ry; exact eq_int (fin_bl I q dec_int)
    | str j => obtain ⟨t', rfl⟩ := ry; exact PySem.EqMixed.eq_int_str (fin_bl I q (by simp))
    | _ => exact absurd (show false = true from hs) Bool.false_ne_true
  | str i =>
    obtain ⟨t, rfl⟩ := rx
    cases y with
    | non => cases ry; exact PySem.EqNone.eq_str_none (fin_bl I q (by simp))
    | bl j => cases ry; exact PySem.EqMixed.eq_str_bool (fin_bl I q (by simp))
    | int j => obtain ⟨t', rfl⟩ := ry; exact PySem.EqMixed.eq_str_int (fin_bl I q (by simp))
    | str j => obtain ⟨t', rfl⟩ := ry; exact eq_str (fin_bl I q dec_str)
    | _ => exact absurd (show false = true from hs) Bool.false_ne_true
  | byt i =>
    obtain ⟨t, rfl⟩ := rx
    cases y with
    | byt j => obtain ⟨t', rfl⟩ := ry; exact PySem.W.eq_bytes (fin_bl I q dec_byt)
    | _ => exact absurd (show false = true from hs) Bool.false_ne_true
  | _ => cases y <;> exact absurd (show false = true from hs) Bool.false_ne_true
theorem op_ne : OpR X (compareOp .NotEq) rNe := by
  intro pins s σ H x y v u Q I rx ry h
  obtain ⟨hs, q⟩ := h
  cases x with
  | non =>
    cases rx
    cases y with
    | non => cases ry; exact PySem.EqNone.ne_none_none (fin_bl I q (by simp))
    | bl j => cases ry; exact PySem.EqNone.ne_none_bool (fin_bl I q (by simp))
    | int j => obtain ⟨t', rfl⟩ := ry; exact PySem.EqNone.ne_none_int (fin_bl I q (by simp))
    | str j => obtain ⟨t', rfl⟩ := ry; exact PySem.EqNone.ne_none_str (fin_bl I q (by simp))
    | _ => exact absurd (show false = true from hs) Bool.false_ne_true
  | bl i =>
    cases rx
    cases y with
    | non => cases ry; exact PySem.EqNone.ne_bool_none (fin_bl I q (by simp))
    | bl j => cases ry; exact ne_bool (fin_bl I q (congrArg not dec_bl))
    | str j => obtain ⟨t', rfl⟩ := ry; exact PySem.EqMixed.ne_bool_str (fin_bl I q (by simp))
    | _ => exact absurd (show false = true from hs) Bool.false_ne_true
  | int i =>
    obtain ⟨t, rfl⟩ := rx
    cases y with
    | non => cases ry; exact PySem.EqNone.ne_int_none (fin_bl I q (by simp))
    | int j => obtain ⟨t', rfl⟩ := ry; exact ne_int (fin_bl I q (congrArg not dec_int))
    | str j => obtain ⟨t', rfl⟩ := ry; exact PySem.EqMixed.ne_int_str (fin_bl I q (by simp))
    | _ => exact absurd (show false = true from hs) Bool.false_ne_true
  | str i =>
    obtain ⟨t, rfl⟩ := rx
    cases y with
    | non => cases ry; exact PySem.EqNone.ne_str_none (fin_bl I q (by simp))
    | bl j => cases ry; exact PySem.EqMixed.ne_str_bool (fin_bl I q (by simp))
    | int j => obtain ⟨t', rfl⟩ := ry; exact PySem.EqMixed.ne_str_int (fin_bl I q (by simp))
    | str j => obtain ⟨t', rfl⟩ := ry; exact ne_str (fin_bl I q (congrArg not dec_str))
    | _ => exact absurd (show false = true from hs) Bool.false_ne_true
  | byt i =>
    obtain ⟨t, rfl⟩ := rx
    cases y with
    | byt j => obtain ⟨t', rfl⟩ := ry; exact PySem.W.ne_bytes (fin_bl I q (congrArg not dec_byt))
    | _ => exact absurd (show false = true from hs) Bool.false_ne_true
  | _ => cases y <;> exact absurd (show false = true from hs) Bool.false_ne_true

theorem op_lt : OpR X (compareOp .Lt) (rI0 fun i j => .bl (decide (i < j))) := opB0 fun _ _ _ _ _ _ _ q => lt_int q
theorem op_le : OpR X (compareOp .LtE) (rI0 fun i j => .bl (decide (i ≤ j))) := opB0 fun _ _ _ _ _ _ _ q => le_int q
theorem op_gt : OpR X (compareOp .Gt) (rI0 fun i j => .bl (decide (j < i))) := opB0 fun _ _ _ _ _ _ _ q => gt_int q
theorem op_ge : OpR X (compareOp .GtE) (rI0 fun i j => .bl (decide (j ≤ i))) := opB0 fun _ _ _ _ _ _ _ q => ge_int q

/-- is None, is not None: the right side a value none -/
theorem op_isN : OpR X (compareOp .Is) (fun x y H Q => y = .non ∧ Q (.bl (decide (x = .non))) H) := by
  intro pins s σ H x y v u Q I rx ry h
  obtain ⟨rfl, q⟩ := h
  cases ry
  refine is_none_gen (fin_bl I q ?_)
  cases x <;> first
    | (cases rx; rfl)
    | (obtain ⟨t, rfl⟩ := rx; rfl)

theorem nomark (b : Expr) {op : CmpOp} (h : op ≠ .In := by decide) (h2 : op ≠ .NotIn := by decide) : behindInMarks op b = false := by
  have e1 : (op == CmpOp.In) = false := by cases op <;> first | rfl | exact absurd rfl h
  have e2 : (op == CmpOp.NotIn) = false := by cases op <;> first | rfl | exact absurd rfl h2
  cases b <;> simp [behindInMarks, e1, e2]
/-- a comparison as a value; hm: nomark b, or (for in, not in) by with_unfolding_all rfl -/
theorem pe_cmpR {op : CmpOp} {r : R2} (ho : OpR X (compareOp op) r) (ha : PE X a ta) (hb : PE X b tb) (hm : behindInMarks op b = false) : PE X (.Compare a [op] [b] pos) (tOp r ta tb) := by
  intro pins s σ H Q I h
  exact wpAny_Compare1 (binT ha hb I h fun v u s2 x y H2 I2 rx ry q => ho pins s2 σ H2 x y v u Q I2 rx ry q) hm
/-- a reading of a value as a test -/
def tTest (t : TE) : TT := fun σ H Q => t σ H fun x H' => ∃ k, x = .bl k ∧ Q k H'
theorem pt_cmpR {op : CmpOp} {r : R2} (ho : OpR X (compareOp op) r) (ha : PE X a ta) (hb : PE X b tb) (hm : behindInMarks op b = false) : PT X (.Compare a [op] [b] pos) (tTest (tOp r ta tb)) := by
  intro pins s σ H Q I h
  refine wpAny_isTrue_Compare1 (thn (ha pins s σ H _ I h) fun v s1 ⟨x, H1, I1, r1, q1⟩ => thn (hb pins s1 σ H1 _ I1 q1) fun u s2 ⟨y, H2, I2, r2, q2⟩ =>
    thn (ho pins s2 σ H2 x y v u _ I2 r1 r2 q2) fun c s3 ⟨z, H3, I3, r3, k, e, q3⟩ => ?_) hm
  subst e
  cases r3
  exact wpAny_truthy_bool ⟨H3, I3, q3⟩

/-! ### truth -/
theorem line63 : (sizeLine : Nat) < 2 ^ 63 := by rw [sizeLine_eq]; decide

/-! ### strs and bytes -/

/-! ### scalar builtins, by CallR -/
theorem vals1 {x : V} {us : List Value} (r : Vals [x] us) : ∃ u, us = [u] ∧ RelV x u := by
  cases r with
  | cons r1 r2 => cases r2; exact ⟨_, rfl, r1⟩
theorem vals2 {x y : V} {us : List Value} (r : Vals [x, y] us) : ∃ u w', us = [u, w'] ∧ RelV x u ∧ RelV y w' := by
  cases r with
  | cons r1 r2 =>
    cases r2 with
    | cons r3 r4 => cases r4; exact ⟨_, _, rfl, r1, r3⟩
theorem call_max2 (hc : X.calm = true) : CallR X (.builtin "max") (fun xs H Q => ∃ i j, xs = [.int i, .int j] ∧ Q (.int (if j > i then j else i)) H) := by
  intro pins s σ H xs us Q I r h
  obtain ⟨i, j, rfl, q⟩ := h
  obtain ⟨u, w', rfl, ⟨t, rfl⟩, ⟨t', rfl⟩⟩ := vals2 r
  refine max_two_ints (I.ok.hd hc) fun h' tk k => ⟨_, H, I.kept k, ?_, q⟩
  by_cases hj : j > i
  · rw [if_pos hj, if_pos hj]; exact ⟨_, rfl⟩
  · rw [if_neg hj, if_neg hj]; exact ⟨_, rfl⟩
theorem call_min2 (hc : X.calm = true) : CallR X (.builtin "min") (fun xs H Q => ∃ i j, xs = [.int i, .int j] ∧ Q (.int (if j < i then j else i)) H) := by
  intro pins s σ H xs us Q I r h
  obtain ⟨i, j, rfl, q⟩ := h
  obtain ⟨u, w', rfl, ⟨t, rfl⟩, ⟨t', rfl⟩⟩ := vals2 r
  refine min_two_ints (I.ok.hd hc) fun h' tk k => ⟨_, H, I.kept k, ?_, q⟩
  by_cases hj : j < i
  · rw [if_pos hj, if_pos hj]; exact ⟨_, rfl⟩
  · rw [if_neg hj, if_neg hj]; exact ⟨_, rfl⟩
end
end L2

namespace L2
open PySem PySem.Spec PyProof.Rows

/-! ### an instance, its attributes a map -/
structure ObjM (h : Heap) (x dx C : Addr) (mA : Str → Option Value) : Prop where
  obj : h.get? x = some (PySem.W.instObj C dx)
  ns : h.Ns1 dx mA
  ne : dx ≠ x

theorem lookIn_ns {h : Heap} {dx : Addr} {mA : Str → Option Value} (n : h.Ns1 dx mA) : ∃ od, h.get? dx = some od ∧ ∀ name, PySem.W.lookIn name od = some (mA name) := by
  obtain ⟨o, es, ep, ho, hd, hk, _, hm⟩ := n
  refine ⟨o, ho, fun name => ?_⟩
  have e := hm name
  unfold nsFind findBy at e
  rw [← Array.find?_toList] at e
  unfold PySem.W.lookIn
  rw [hd]
  dsimp only
  split
  · rename_i y q
    rw [q] at e
    exact congrArg some e
  · rename_i q
    rw [q] at e
    have a : es.toList.any (·.refKey) = false := by
      rw [List.any_eq_false]
      intro y hy
      obtain ⟨z, t, hkey⟩ := hk y (Array.mem_toList_iff.mp hy)
      simp [DictEntry.refKey, hkey]
    have a' : ¬ es.toList.any (·.refKey) = true := by rw [a]; exact Bool.false_ne_true
    rw [if_neg a']
    exact congrArg some e

theorem ObjM.look {h : Heap} {x dx C : Addr} {mA : Str → Option Value} (I : ObjM h x dx C mA) : ∃ od, PySem.W.InstAt h x (PySem.W.instObj C dx) C (some od) ∧ ∀ name, PySem.W.lookIn name od = some (mA name) :=
  let ⟨od, ho, hl⟩ := lookIn_ns I.ns
  ⟨od, ⟨I.obj, rfl, rfl, ho⟩, hl⟩

section
variable {prog : Program} {w : World} {A : Around} {E : Value → Shared → Prop} {s : Shared} {K : PySem.W.Frag} {x dx C f : Addr} {mA : Str → Option Value} {name : Str} {v : Value}

theorem get_map {expr : Bool} {Q : Value → Shared → Prop} (X : K.In s.heap) (I : ObjM s.heap x dx C mA) (hg : PySem.W.plainGet K C name = true) (hh : PySem.W.hasDictIn K C = true)
    (ha : PySem.W.findIn K (.ref C) name = some none) (hv : mA name = some v) (hv' : PySem.W.handedIn v = true) (h : Q v { s with toks := s.toks + 1 }) :
    wpAny (model prog w) A (getAttr (.ref x) name expr) Q E s := by
  obtain ⟨od, J, hl⟩ := I.look
  exact PySem.W.get_value X J (PySem.W.plainGet_of hg).1 (PySem.W.findObj_own hh ha rfl (by rw [hl, hv])) hv' h

theorem get_meth {pl : Sem Bool} {Q : Value × List Value → Shared → Prop} (X : K.In s.heap) (I : ObjM s.heap x dx C mA) (hg : PySem.W.plainGet K C name = true)
    (hf : PySem.W.findIn K (.ref C) name = some (some (.ref f))) (ht : PySem.W.isFn K (.ref f) = true) (hv : mA name = none) (h : Q (.ref f, [.ref x]) s) :
    wpAny (model prog w) A (getMethod (.ref x) name pl) Q E s := by
  obtain ⟨od, J, hl⟩ := I.look
  exact PySem.W.method_fn X J (PySem.W.plainGet_of hg).1 (PySem.W.plainGet_of hg).2 hf (beq_iff_eq.mp ht) (by show (PySem.W.lookIn name od).map (·.isSome) = some false; rw [hl, hv]; rfl) h

theorem set_map {ns : List Str} {Q : Unit → Shared → Prop} (X : K.In s.heap) (I : ObjM s.heap x dx C mA)
    (hs : PySem.W.findIn K (.ref C) "__setattr__" = some (some (.builtin "object.__setattr__"))) (hp : PySem.W.plainOver K C = true) (ht : PySem.W.takerIn K C name = some none) (hh : PySem.W.hasDictIn K C = true)
    (hw : PySem.Within mA ns) (hsz : ns.length ≤ sizeLine)
    (h : ∀ h', ObjM h' x dx C (fun y => if y = name then some v else mA y) → Heap.SameBut dx s.heap h' → Q () { s with heap := h', toks := s.toks + 2 }) :
    wpAny (model prog w) A (setAttr (.ref x) name v) Q E s := by
  obtain ⟨od, J, hl⟩ := I.look
  refine PySem.W.set_plain X J hs (PySem.W.osa_open (s := { s with toks := s.toks + 1 }) (r := none) X J hp ht fun b => ?_)
  obtain ⟨cd, hc, hd'⟩ := PySem.W.any_some hh
  have hx : s.heap.get? x = some ⟨.ref C, some dx, .plain, #[]⟩ := I.obj
  refine wpAny_bind (wpAny_pure (wpAny_bind (wpAny_bind (wpAny_loadPart hx (wpAny_bind (PySem.W.Looks.here (s := { s with toks := s.toks + 1 }) (PySem.W.looks_clsIn X hc) ?_))))))
  rw [hd']
  refine wpAny_pure (a := some dx) (wpAny_bind (wpAny_pure (wpAny_bind ?_)))
  refine wpAny_nsSet1 (s := { s with toks := s.toks + 1 }) I.ns fun h' hn2 hs2 => ?_
  obtain ⟨oD, esD, epD, hoD, hdD, hcD⟩ := hn2.count (PySem.Within.cons name v hw)
  refine wpAny_bind (wpAny_lookBehind hoD (by rw [hdD]; exact pastItsLine_dict (Nat.le_trans hcD (by rw [List.length_cons]; omega))) ?_)
  exact wpAny_pure (h _ ⟨(hs2.2 _ (Ne.symm I.ne)).trans I.obj, hn2, I.ne⟩ hs2)

/-- C(..): the dict at the heap's end, the instance behind it; then its __init__ -/
theorem make_map {R : Result → Shared → Prop} {vs : List Value} {kw : List (Str × Value)} (X : K.In s.heap) (hm : PySem.W.makesIn K C = true)
    (hi : PySem.W.findIn K (.ref C) "__init__" = some (some (.ref f))) (hf : PySem.W.typeIn K (.ref f) = some (.type "function"))
    (h : codeAny (model prog w) (A.under (.builtin "type.__call__" ⟨.ref C :: vs, kw⟩)) (.call (.ref f) ⟨.ref (s.heap.objs.size + 1) :: vs, kw⟩) (PySem.W.InitBack (s.heap.objs.size + 1) R)
      { s with heap := (s.heap.push PySem.W.emptyDict).push (PySem.W.instObj C s.heap.objs.size) }) :
    codeAny (model prog w) A (.call (.ref C) ⟨vs, kw⟩) R s := by
  obtain ⟨hh, g, d, t, os⟩ := s
  exact PySem.W.make_core (PySem.W.makes_of X hm) (PySem.W.looks_findIn X hi) (fun self => PySem.W.bind_fn X self hf) (.inl rfl) h
end

/-! ### the attributes as a list of pairs -/
def putF (f : Str) (v : V) : List (Str × V) → List (Str × V)
  | [] => [(f, v)]
  | (g, x) :: r => if g = f then (g, v) :: r else (g, x) :: putF f v r
theorem lookup_putF (f g : Str) (v : V) : ∀ fs : List (Str × V), (putF f v fs).lookup g = if g = f then some v else fs.lookup g
  | [] => by
    show List.lookup g [(f, v)] = _
    by_cases h : g = f
    · have hb : (g == f) = true := beq_iff_eq.mpr h
      simp only [List.lookup, hb, if_pos h]
    · have hb : (g == f) = false := beq_eq_false_iff_ne.mpr h
      simp only [List.lookup, hb, if_neg h]
  | (k, x) :: r => by
    have ih := lookup_putF f g v r
    rw [show putF f v ((k, x) :: r) = (if k = f then (k, v) :: r else (k, x) :: putF f v r) from rfl]
    by_cases hk : k = f
    · rw [if_pos hk]
      by_cases h : g = k
      · have hb : (g == k) = true := beq_iff_eq.mpr h
        simp only [List.lookup, hb, if_pos (h.trans hk)]
      · have hb : (g == k) = false := beq_eq_false_iff_ne.mpr h
        simp only [List.lookup, hb, if_neg (fun e : g = f => h (e.trans hk.symm))]
    · rw [if_neg hk]
      by_cases h : g = k
      · have hb : (g == k) = true := beq_iff_eq.mpr h
        simp only [List.lookup, hb, if_neg (fun e : g = f => hk (h.symm.trans e))]
      · have hb : (g == k) = false := beq_eq_false_iff_ne.mpr h
        simp only [List.lookup, hb]
        exact ih
theorem keys_putF (f : Str) (v : V) : ∀ fs : List (Str × V), f ∈ (putF f v fs).map (·.1) ∧ ∀ g, g ∈ fs.map (·.1) → g ∈ (putF f v fs).map (·.1)
  | [] => ⟨by simp [putF], fun g h => by simp at h⟩
  | (k, x) :: r => by
    obtain ⟨i1, i2⟩ := keys_putF f v r
    rw [show putF f v ((k, x) :: r) = (if k = f then (k, v) :: r else (k, x) :: putF f v r) from rfl]
    by_cases hk : k = f
    · rw [if_pos hk]
      subst hk
      exact ⟨by simp, fun g h => by simpa using h⟩
    · rw [if_neg hk]
      refine ⟨?_, fun g h => ?_⟩
      · rw [List.map_cons]
        exact List.mem_cons_of_mem _ i1
      · rw [List.map_cons] at h ⊢
        rcases List.mem_cons.mp h with e | e
        · exact List.mem_cons.mpr (.inl e)
        · exact List.mem_cons_of_mem _ (i2 g e)
theorem length_putF (f : Str) (v : V) : ∀ fs : List (Str × V), (putF f v fs).length ≤ fs.length + 1
  | [] => by simp [putF]
  | (k, x) :: r => by
    have ih := length_putF f v r
    rw [show putF f v ((k, x) :: r) = (if k = f then (k, v) :: r else (k, x) :: putF f v r) from rfl]
    by_cases hk : k = f
    · rw [if_pos hk, List.length_cons, List.length_cons]; omega
    · rw [if_neg hk, List.length_cons, List.length_cons]; omega

theorem RelO.some_of {v : V} {o : Option Value} (r : RelO (some v) o) : ∃ u, o = some u ∧ RelV v u := by
  cases o with
  | none => exact (show False from r).elim
  | some u => exact ⟨u, rfl, r⟩
theorem RelO.none_of {o : Option Value} (r : RelO none o) : o = none := by
  cases o with
  | none => rfl
  | some u => exact (show False from r).elim
theorem handed_of {v : V} {u : Value} (r : RelV v u) : PySem.W.handedIn u = true := by
  cases v with
  | non => cases (show u = Value.none from r); rfl
  | bl b => cases (show u = Value.bool b from r); rfl
  | int i => obtain ⟨t, e⟩ := (show ∃ t, u = Value.int i t from r); cases e; rfl
  | str x => obtain ⟨t, e⟩ := (show ∃ t, u = Value.str x t from r); cases e; rfl
  | byt b => obtain ⟨t, e⟩ := (show ∃ t, u = Value.bytes b t from r); cases e; rfl
  | flt b => obtain ⟨t, e⟩ := (show ∃ t, u = Value.float b t from r); cases e; rfl
  | ref a => cases (show u = Value.ref a from r); rfl
  | ty n => cases (show u = Value.type n from r); rfl

section
variable {P : Program} {w : World} {H H' : Hp} {h h' : Heap} {a C dx : Addr} {fs fs' : List (Str × V)}
theorem ins_get (hok : HOk P w H h) (e : H a = some (.ins C dx fs)) : ∃ mA, ObjM h a dx C mA ∧ (∀ f, RelO (fs.lookup f) (mA f)) ∧ PySem.Within mA (fs.map (·.1)) ∧ fs.length ≤ 1000 ∧ H dx = some (.own a) := by
  obtain ⟨d, z, ne, ob, mA, n, r, q⟩ := (show ObjOk P w H h a (.ins C dx fs) from hok a _ e)
  exact ⟨mA, ⟨ob, n, ne⟩, r, q, z, d⟩
end

/-! ### what of the text a class must have -/
structure Cls (K : PySem.W.Frag) (C : Addr) : Prop where
  pg : PySem.W.plainGet K C Str.empty = true
  hd : PySem.W.hasDictIn K C = true
  po : PySem.W.plainOver K C = true
  sa : PySem.W.findIn K (.ref C) "__setattr__" = some (some (.builtin "object.__setattr__"))
theorem Cls.get {K : PySem.W.Frag} {C : Addr} (c : Cls K C) (f : Str) : PySem.W.plainGet K C f = true := c.pg
/-- no class of it has the name -/
def NoAttr (K : PySem.W.Frag) (C : Addr) (f : Str) : Prop := PySem.W.findIn K (.ref C) f = some none
theorem NoAttr.taker {K : PySem.W.Frag} {C : Addr} {f : Str} (n : NoAttr K C f) : PySem.W.takerIn K C f = some none := by
  unfold PySem.W.takerIn
  rw [show PySem.W.findIn K (.ref C) f = some none from n]
  rfl
/-- a method: a plain def of the class or of one above it -/
structure Meth (K : PySem.W.Frag) (C : Addr) (m : Str) (f : Addr) : Prop where
  at_ : PySem.W.findIn K (.ref C) m = some (some (.ref f))
  fn : PySem.W.isFn K (.ref f) = true
  kp : PySem.W.keepIn K (.ref f) = true

section
variable {X : Cx} {pins : List (Addr × Obj)} {σ : St} {H : Hp} {s : Shared} {a C dx : Addr} {fs : List (Str × V)} {f : Str} {v : V} {A : Around} {E : Value → Shared → Prop}

theorem getattr_ok {b : Bool} {Q : Value → Shared → Prop} (I : Inv X pins σ H s) (e : H a = some (.ins C dx fs)) (c : Cls X.K C) (n : NoAttr X.K C f) (l : fs.lookup f = some v)
    (h : ∀ u s', Inv X pins σ H s' → RelV v u → Q u s') : wpAny (model X.prog X.w) A (getAttr (.ref a) f b) Q E s := by
  obtain ⟨mA, O, r, _, _, _⟩ := ins_get I.hok e
  obtain ⟨u, hu, ru⟩ := RelO.some_of (v := v) (o := mA f) (by rw [← l]; exact r f)
  exact get_map I.kIn O (c.get f) c.hd n hu (handed_of ru) (h u _ (I.tok _) ru)

theorem getmeth_ok {m : Str} {g : Addr} {pl : Sem Bool} {Q : Value × List Value → Shared → Prop} (I : Inv X pins σ H s) (e : H a = some (.ins C dx fs)) (c : Cls X.K C) (k : Meth X.K C m g) (l : fs.lookup m = none)
    (h : Q (.ref g, [.ref a]) s) : wpAny (model X.prog X.w) A (getMethod (.ref a) m pl) Q E s := by
  obtain ⟨mA, O, r, _, _, _⟩ := ins_get I.hok e
  have hn : mA m = none := RelO.none_of (by rw [← l]; exact r m)
  exact get_meth I.kIn O (c.get m) k.at_ k.fn hn h

theorem setattr_ok {y : V} {u : Value} {Q : Unit → Shared → Prop} (I : Inv X pins σ H s) (e : H a = some (.ins C dx fs)) (c : Cls X.K C) (n : NoAttr X.K C f) (hl : fs.length < 1000) (ry : RelV y u)
    (h : ∀ s', Inv X pins σ (upd H a (.ins C dx (putF f y fs))) s' → Q () s') : wpAny (model X.prog X.w) A (setAttr (.ref a) f u) Q E s := by
  obtain ⟨mA, O, r, wi, _, ho⟩ := ins_get I.hok e
  have hz : (fs.map (·.1)).length ≤ sizeLine := by rw [List.length_map, sizeLine_eq]; omega
  refine set_map I.kIn O c.sa c.po n.taker c.hd wi hz fun h' O' sb => h _ ?_
  have hd : ∃ o, h'.get? dx = some o := let ⟨o, _, _, e', _⟩ := O'.ns; ⟨o, e'⟩
  refine I.write (x := a) (e := dx) (by rw [e]; exact True.intro) (.inr ho) (fun b q hb z => (sb.2 b hb).trans z) hd ?_
  refine ⟨by rw [upd_ne O.ne]; exact ho, ?_, O.ne, O'.obj, _, O'.ns, fun g => ?_, fun g hg => ?_⟩
  · have := length_putF f y fs; omega
  · show RelO ((putF f y fs).lookup g) (if g = f then some u else mA g)
    rw [lookup_putF]
    by_cases q : g = f
    · rw [if_pos q, if_pos q]; exact ry
    · rw [if_neg q, if_neg q]; exact r g
  · by_cases q : g = f
    · rw [q]; exact (keys_putF f y fs).1
    · refine (keys_putF f y fs).2 g (wi g fun z => hg ?_)
      show (if g = f then some u else mA g) = none
      rw [if_neg q]; exact z

/-- a new instance, tracked, without attributes -/
theorem Inv.made (I : Inv X pins σ H s) : Inv X pins σ (upd (upd H s.heap.objs.size (.own (s.heap.objs.size + 1))) (s.heap.objs.size + 1) (.ins C s.heap.objs.size []))
    { s with heap := (s.heap.push PySem.W.emptyDict).push (PySem.W.instObj C s.heap.objs.size) } := by
  have e1 : (s.heap.push PySem.W.emptyDict).get? s.heap.objs.size = some PySem.W.emptyDict := Heap.get?_push_size s.heap rfl
  have e2 : ((s.heap.push PySem.W.emptyDict).push (PySem.W.instObj C s.heap.objs.size)).get? (s.heap.objs.size + 1) = some (PySem.W.instObj C s.heap.objs.size) := by
    have := Heap.get?_push_size (s.heap.push PySem.W.emptyDict) (o := PySem.W.instObj C s.heap.objs.size) rfl
    rwa [Heap.size_push] at this
  have e3 : (s.heap.push PySem.W.emptyDict).Ns s.heap.objs.size (fun _ => none) := ⟨PySem.W.emptyDict, #[], _, e1, rfl, (fun e he => absurd he (by simp)), fun _ => rfl⟩
  have I1 := I.laid (a := s.heap.objs.size) (o := .own (s.heap.objs.size + 1)) (h' := s.heap.push PySem.W.emptyDict) (t' := s.toks) (fun b u q => Heap.get?_push_of_some _ q) (Nat.le_refl _) ⟨_, e1⟩
  refine I1.laid (a := s.heap.objs.size + 1) (o := .ins C s.heap.objs.size []) (t' := s.toks) (fun b u q => Heap.get?_push_of_some _ q) (Nat.le_of_eq (Heap.size_push _ _)) ?_
  have ne : s.heap.objs.size ≠ s.heap.objs.size + 1 := Nat.ne_of_lt (Nat.lt_succ_self _)
  refine ⟨by rw [upd_ne ne, upd_same], Nat.zero_le _, ne, e2, fun _ => none, (Heap.Ns1.of_empty e3).at fun o q => Heap.get?_push_of_some _ q, fun _ => True.intro, fun y hy => absurd rfl hy⟩

/-- e.f where nothing but the object is asked: through attributeBase (super) and the last hold -/
theorem attr_of {prog : Program} {w : World} {env : Env} {e : Expr} {f : Str} {pos : Pos} {s : Shared} {Q : Value → Shared → Prop} (hb : attributeBase e f env (eval e env) = eval e env)
    (h : wpAny (model prog w) A (eval e env) (fun o s₁ => wpAny (model prog w) A (getAttr o f true) Q E s₁) E s) : wpAny (model prog w) A (eval (.Attribute e f pos) env) Q E s :=
  Attribute_any_ h (by rw [arm_eval_Attribute, hb])
end

/-! ### readings and rules -/
/-- e.f, an attribute of the instance -/
def tFld (K : PySem.W.Frag) (ta : TE) (f : Str) : TE := fun σ H Q => ta σ H fun x H1 => ∃ a C dx fs v, x = .ref a ∧ H1 a = some (.ins C dx fs) ∧ Cls K C ∧ NoAttr K C f ∧ fs.lookup f = some v ∧ Q v H1
/-- e.f = value -/
def sFld (K : PySem.W.Frag) (ta tv : TE) (f : Str) : TS := fun D σ H => tv σ H fun y H1 => ta σ H1 fun x H2 => ∃ a C dx fs, x = .ref a ∧ H2 a = some (.ins C dx fs) ∧ Cls K C ∧ NoAttr K C f ∧ fs.length < 1000 ∧
  D.nx σ (upd H2 a (.ins C dx (putF f y fs)))

section
variable {X : Cx} {o e value : Expr} {f : Str} {pos pos' tpos : Pos} {ta tv : TE}
theorem pe_fld (he : PE X e ta) (hb : attributeBase e f X.env (eval e X.env) = eval e X.env) : PE X (.Attribute e f pos) (tFld X.K ta f) := by
  intro pins s σ H Q I h
  refine attr_of hb (thn (he pins s σ H _ I h) fun u s1 ⟨x, H1, I1, rx, a, C, dx, fs, v, ex, ea, c, n, l, q⟩ => ?_)
  subst ex
  obtain rfl : u = Value.ref a := rx
  exact getattr_ok I1 ea c n l fun u' s2 I2 ru => ⟨v, H1, I2, ru, q⟩
theorem ps_fld (ha : PE X o ta) (hv : PE X value tv) (hs : swapsWith value (some (.Attribute o f pos')) pos.line X.env = pure false) : PS X (.Assign [.Attribute o f pos'] value pos) (sFld X.K ta tv f) := by
  intro pins s σ H D I h
  refine plainObj_wpAny_Assign_Attribute (thn (hv pins s σ H _ I h) fun u s1 ⟨y, H1, I1, ry, q⟩ => thn (ha pins s1 σ H1 _ I1 q) fun ov s2 ⟨x, H2, I2, rx, a, C, dx, fs, ex, ea, c, n, l, q2⟩ => ?_) hs
  subst ex
  obtain rfl : ov = Value.ref a := rx
  exact setattr_ok I2 ea c n l ry fun s3 I3 => ⟨σ, _, I3, q2⟩

/-- what is between an instance and its method: the tree of a method call -/
theorem methcall_of {pl : Sem Bool} {m : Str} {apos : Pos} {args : List Expr} {pins : List (Addr × Obj)} {s : Shared} {σ : St} {H : Hp} {Q : Value → Shared → Prop} {te : TE} (he : PE X e te) (I : Inv X pins σ H s)
    (h : te σ H fun x H1 => ∃ a C dx fs g, x = .ref a ∧ H1 a = some (.ins C dx fs) ∧ Cls X.K C ∧ Meth X.K C m g ∧ fs.lookup m = none ∧
      ∀ s1, Inv X pins σ H1 s1 → wpAny (model X.prog X.w) X.A (callWith pos (.ref g) [.ref a] (backTo pos (starEach args X.env)) (backToKw pos (keywordEach [] X.env))) Q X.xe s1)
    (ht : eval (.Call (.Attribute e m apos) args [] pos) X.env = (do
      let ov ← eval e X.env
      standAt apos.atName
      let (f, first) ← holding [ov] (getMethod ov m pl)
      callWith pos f first (backTo pos (starEach args X.env)) (backToKw pos (keywordEach [] X.env)))) :
    wpAny (model X.prog X.w) X.A (eval (.Call (.Attribute e m apos) args [] pos) X.env) Q X.xe s := by
  refine PySem.W.methodCall_KW (pl := pl) (thn (he pins s σ H _ I h) fun u s1 ⟨x, H1, I1, rx, a, C, dx, fs, g, ex, ea, c, k, l, q⟩ => ?_) ht
  subst ex
  obtain rfl : u = Value.ref a := rx
  exact getmeth_ok I1 ea c k l (q s1 I1)
end

/-! ### isinstance -/
end L2

namespace L2
open PySem PySem.Spec PyProof.Rows

/-! ### room -/
structure Room (k : Nat) (A : Around) : Prop where
  hd : A.handled = none
  dp : A.depth + 3 * k + 5 < recursionLimit
  un : A.units + 16 * k + 200 < cLine
theorem Room.mono {j k : Nat} {A : Around} (r : Room k A) (h : j ≤ k) : Room j A := ⟨r.hd, by have := r.dp; omega, by have := r.un; omega⟩
theorem Room.deeper {k : Nat} {A : Around} (r : Room (k + 1) A) (env : Env) : Room k (A.deeper env) :=
  ⟨r.hd, by have := r.dp; show A.depth + 1 + 3 * k + 5 < _; omega, by have := r.un; show A.units + 3 + 16 * k + 200 < _; omega⟩
theorem make_depth {A : Around} {C : Addr} {us : List Value} {kw : List (Str × Value)} : (A.under (.builtin "type.__call__" ⟨.ref C :: us, kw⟩)).depth = A.depth + 1 := by
  first | rfl | simp [Around.under, Code.weight, Code.isCreation, Code.isGuard, Code.isCaller, Code.frames, Code.isFrame, guardIds]
theorem make_units {A : Around} {C : Addr} {us : List Value} {kw : List (Str × Value)} : (A.under (.builtin "type.__call__" ⟨.ref C :: us, kw⟩)).units = A.units + 1 := by
  first | rfl | simp [Around.under, Code.cUnits, Code.frames, Code.isFrame]
theorem Room.make {k : Nat} {A : Around} (r : Room (k + 1) A) (C : Addr) (us : List Value) (kw : List (Str × Value)) : Room k (A.under (.builtin "type.__call__" ⟨.ref C :: us, kw⟩)) :=
  ⟨r.hd, by have := r.dp; rw [make_depth]; omega, by have := r.un; rw [make_units]; omega⟩
theorem Room.depth {k : Nat} {A : Around} (r : Room k A) : A.depth < recursionLimit := by have := r.dp; omega
theorem Room.units {k : Nat} {A : Around} (r : Room k A) : A.units + 64 < cLine := by have := r.un; omega

/-! ### argument lists and displays -/
def tNil : TA := fun _ H Q => Q [] H
def tCons (ta : TE) (tr : TA) : TA := fun σ H Q => ta σ H fun x H1 => tr σ H1 fun xs H2 => Q (x :: xs) H2
section
variable {X : Cx} {e : Expr} {es : List Expr} {te : TE} {t : TA} {pos : Pos}
theorem pa_nil : PA X [] tNil := fun _ _ _ _ H Q I h => Calls.spliced_nil ⟨[], H, I, .nil, h⟩
theorem pa_cons (ha : PE X e te) (hr : PA X es t) (hs : starEach (e :: es) X.env = (false, eval e X.env) :: starEach es X.env := by rfl) : PA X (e :: es) (tCons te t) := by
  intro pos pins s σ H Q I h
  rw [hs]
  show wpAny _ _ (spliced ((false, eval e X.env) :: backTo pos (starEach es X.env))) _ _ s
  refine Calls.spliced_cons (thn (ha pins s σ H _ I h) fun u s1 ⟨x, H1, I1, r1, q1⟩ => ?_)
  exact thn (hr pos pins s1 σ H1 _ I1 q1) fun us s2 ⟨xs, H2, I2, r2, q2⟩ => ⟨x :: xs, H2, I2, .cons r1 r2, q2⟩

/-- a tuple, a list of written items -/
def tTup (t : TA) : TE := fun σ H Q => t σ H fun xs H1 => xs.length ≤ sizeLine ∧ ∀ p, H1 p = none → Q (.ref p) (upd H1 p (.tup xs))
def tLst (t : TA) : TE := fun σ H Q => t σ H fun xs H1 => xs.length ≤ sizeLine ∧ ∀ p, H1 p = none → Q (.ref p) (upd H1 p (.lst xs))
theorem pe_tup {x1} (h : PA X es t) : PE X (.Tuple es x1 pos) (tTup t) := by
  intro pins s σ H Q I hq
  refine wpAny_Tuple_spliced (thn (h pos pins s σ H _ I hq) fun us s1 ⟨xs, H1, I1, r, z, q⟩ => ⟨by rw [← r.length]; exact z, ?_⟩)
  have hf : H1 s1.heap.objs.size = none := I1.hok.fresh (Nat.le_refl _)
  refine ⟨.ref s1.heap.objs.size, upd H1 s1.heap.objs.size (.tup xs), I1.laid (t' := s1.toks) (fun b u e => Heap.get?_push_of_some _ e) (Nat.le_refl _) ?_, rfl, q _ hf⟩
  exact ⟨z, us, r, ⟨_, Heap.get?_push_size _ rfl, rfl, _, rfl⟩⟩
theorem pe_lst (h : PA X es t) : PE X (.List es pos) (tLst t) := by
  intro pins s σ H Q I hq
  refine wpAny_List_spliced (thn (h pos pins s σ H _ I hq) fun us s1 ⟨xs, H1, I1, r, z, q⟩ => ⟨by rw [← r.length]; exact z, ?_⟩)
  have hf : H1 s1.heap.objs.size = none := I1.hok.fresh (Nat.le_refl _)
  refine ⟨.ref s1.heap.objs.size, upd H1 s1.heap.objs.size (.lst xs), I1.laid (t' := s1.toks) (fun b u e => Heap.get?_push_of_some _ e) (Nat.le_refl _) ?_, rfl, q _ hf⟩
  exact ⟨z, us, 0, r, Heap.get?_push_size _ rfl⟩
end

/-! ### what a def promises -/
/-- a def's promise: the bound arguments in the parameters' order, the heap, the wanted end, the wanted exception -/
abbrev Sp := List V → Hp → VK → XK → Prop
/-- how an exception lies behind a call (file 08 gives it): the callers' frames, abstract heap and state ahead of the call, the wish, the exception, the state -/
abbrev CXT := List Env → Hp → Shared → XK → Value → Shared → Prop

/-- the state at a call -/
structure Env0 (P : Program) (w : World) (K : PySem.W.Frag) (mg : Str → Option Value) (base : Heap) (A : Around) (outer : List Env) (s : Shared) (H : Hp) : Prop where
  frames : A.frames = some outer
  mod : Mod K mg base
  bs : ∀ b o, base.get? b = some o → s.heap.get? b = some o ∧ H b = none
  bsz : base.objs.size ≤ s.heap.objs.size
  funs : s.heap.FunFrames base outer
  frf : ∀ b ∈ frs outer, H b = none
  hok : HOk P w H s.heap
  bare : AllBare s.gens
/-- a call's end -/
def CE (outer : List Env) (P : Program) (w : World) (H : Hp) (s : Shared) (Q : VK) (u : Value) (s' : Shared) : Prop :=
  ∃ v H', s'.os = s.os ∧ AllBare s'.gens ∧ Un (frs outer) [] H H' s.heap s'.heap ∧ HOk P w H' s'.heap ∧ RelV v u ∧ Q v H'
def CR (CX : CXT) (outer : List Env) (P : Program) (w : World) (H : Hp) (s : Shared) (Q : VK) (E : XK) (r : Result) (s' : Shared) : Prop :=
  match r with
  | .ok (.ret u) => CE outer P w H s Q u s'
  | .ok _ => False
  | .error e => CX outer H s E e s'
structure FnOk (P : Program) (w : World) (K : PySem.W.Frag) (mg : Str → Option Value) (base : Heap) (CX : CXT) (k : Nat) (f : Addr) (fd : FuncData) (ps : List Str) (sp : Sp) : Prop where
  len : ∀ vs H Q E, sp vs H Q E → vs.length = ps.length
  run : ∀ (A : Around) (outer : List Env) (s : Shared) (H : Hp) (args : Args) (us : List Value) (vs : List V) (Q : VK) (E : XK), Room k A → Env0 P w K mg base A outer s H → BindsTo s fd args (ps.zip us) → Vals vs us → sp vs H Q E →
    codeAny (model P w) A (.call (.ref f) args) (CR CX outer P w H s Q E) s

theorem Env0.make {P : Program} {w : World} {K : PySem.W.Frag} {mg : Str → Option Value} {base : Heap} {A : Around} {outer : List Env} {s : Shared} {H : Hp} (e : Env0 P w K mg base A outer s H) (C : Addr) (us : List Value) (kw : List (Str × Value)) :
    Env0 P w K mg base (A.under (.builtin "type.__call__" ⟨.ref C :: us, kw⟩)) outer s H := ⟨by first | exact e.frames | (simpa [Around.under, Code.envs, Code.isFrame, pushEnvs] using e.frames), e.mod, e.bs, e.bsz, e.funs, e.frf, e.hok, e.bare⟩

section
variable {X : Cx} {pins : List (Addr × Obj)} {σ : St} {H : Hp} {s s' : Shared}
/-- from a body: what a callee wants -/
theorem Inv.env0 (I : Inv X pins σ H s) : Env0 X.prog X.w X.K X.mg X.base X.A X.stack s H :=
  ⟨I.ok.frames, I.ok.mod, I.bs, Nat.le_trans I.ok.bsz I.sz, I.stack, I.stkFree, I.hok, I.bare⟩
/-- behind a call -/
theorem Inv.after {Q : VK} {u : Value} (I : Inv X pins σ H s) (h : CE X.stack X.prog X.w H s Q u s') : EP X pins σ Q u s' := by
  obtain ⟨v, H', os, bare, un, hok, r, q⟩ := h
  obtain ⟨hh, g, d, t, os'⟩ := s'
  obtain rfl : os' = s.os := os
  exact ⟨v, H', I.call (h' := hh) (g' := g) (d' := d) (t' := t) (ch := []) un hok bare (fun b z => absurd z (by simp)), r, q⟩
end

/-! ### calls -/
/-- f(..): the written arguments, then the defaults dvs; E: what is wanted of an exception -/
def tCall (sp : Sp) (dvs : List V) (E : XK) (t : TA) : TE := fun σ H Q => t σ H fun vs H1 => sp (vs ++ dvs) H1 Q E
/-- o.m(..) of an instance of the class at C -/
def tMeth (C : Addr) (m : Str) (sp : Sp) (dvs : List V) (E : XK) (ta : TE) (t : TA) : TE := fun σ H Q => ta σ H fun x H1 => ∃ a dx fs, x = .ref a ∧ H1 a = some (.ins C dx fs) ∧ fs.lookup m = none ∧
  t σ H1 fun vs H2 => sp (x :: (vs ++ dvs)) H2 Q E
/-- C(..): a new instance and its dict, then __init__ -/
def tMake (C : Addr) (sp : Sp) (dvs : List V) (E : XK) (t : TA) : TE := fun σ H Q => t σ H fun vs H1 => ∀ x dx, H1 x = none → H1 dx = none → dx ≠ x →
  sp (.ref x :: (vs ++ dvs)) (upd (upd H1 dx (.own x)) x (.ins C dx [])) (fun v H2 => v = .non ∧ Q (.ref x) H2) E

/-- how the parameters are bound: us the positional arguments, kw the keywords' values by name, ds the defaults that fill up -/
def Binds (K : PySem.W.Frag) (fd : FuncData) (ps : List Str) (ds : List Value) : Prop :=
  ∀ (s : Shared) (us : List Value), K.In s.heap → (us ++ ds).length = ps.length → BindsTo s fd ⟨us, []⟩ (ps.zip (us ++ ds))
/-- every parameter is given -/
theorem Binds.all {K : PySem.W.Frag} {fd : FuncData} {ps : List Str} (h : ∀ us : List Value, us.length = ps.length → bindArgs fd ⟨us, []⟩ = pure (ps.zip us)) : Binds K fd ps [] := fun s us _ hl => by
  rw [List.append_nil] at hl ⊢
  exact .of_eq (h us hl)

/-- an exception of a callee reaches what this body wants of exceptions -/
def Passes (CX : CXT) (X : Cx) (E : XK) : Prop := ∀ (pins : List (Addr × Obj)) (σ : St) (H : Hp) (s : Shared) (e : Value) (s' : Shared), Inv X pins σ H s → CX X.stack H s E e s' → X.xe e s'

section
variable {X : Cx} {CX : CXT} {k : Nat} {f C : Addr} {fd : FuncData} {ps : List Str} {sp : Sp} {dvs : List V} {ds : List Value} {E : XK} {x m : Str} {p pos apos : Pos} {e o : Expr} {es : List Expr} {ta : TE} {t : TA}

/-- the callee runs -/
theorem run_fn {pins : List (Addr × Obj)} {σ : St} {H : Hp} {s : Shared} {Q : VK} {us : List Value} {vs : List V} (F : FnOk X.prog X.w X.K X.mg X.base CX k f fd ps sp) (hr : Room k X.A) (hb : Binds X.K fd ps ds) (hd : Vals dvs ds) (hx : Passes CX X E)
    (I : Inv X pins σ H s) (r : Vals vs us) (h : sp (vs ++ dvs) H Q E) : wpAny (model X.prog X.w) X.A (call (.ref f) us) (EP X pins σ Q) X.xe s := by
  have r2 : Vals (vs ++ dvs) (us ++ ds) := r.append hd
  have hl : (us ++ ds).length = ps.length := by rw [← r2.length]; exact F.len _ _ _ _ h
  refine wpAny_call (codeAny_mono (F.run X.A X.stack s H ⟨us, []⟩ (us ++ ds) (vs ++ dvs) Q E hr I.env0 (hb s us I.kIn hl) r2 h) fun r s' hq => ?_)
  cases r with
  | error e => exact hx pins σ H s e s' I hq
  | ok fl =>
    cases fl with
    | ret u => exact I.after hq
    | next => exact False.elim hq
    | brk => exact False.elim hq
    | cont => exact False.elim hq

theorem pe_call (F : FnOk X.prog X.w X.K X.mg X.base CX k f fd ps sp) (hr : Room k X.A) (hg : Gl X x) (hm : X.mg x = some (.ref f)) (hk : PySem.W.keepIn X.K (.ref f) = true) (hb : Binds X.K fd ps ds) (hd : Vals dvs ds) (hx : Passes CX X E)
    (ha : PA X (e :: es) t) (hdb : (x == ("__debug__" : Str)) = false := by decide) (he : starEach (e :: es) X.env = (false, eval e X.env) :: starEach es X.env := by rfl) (hpl : (backTo pos (starEach es X.env)).any (·.1) = false := by rfl) :
    PE X (.Call (.Name x p) (e :: es) [] pos) (tCall sp dvs E t) := by
  intro pins s σ H Q I h
  refine wpAny_Call_Name_kw (ld_glob I hg hm ?_ hdb)
  refine PySem.W.callWith_K (h₀ := X.base) I.ok.mod.kin hk (thn (ha pos pins s σ H _ I h) fun us s1 ⟨vs, H1, I1, r, q⟩ => ⟨I1.kIn, ?_⟩) he hpl
  exact run_fn F hr hb hd hx I1 r q

/-- o.m(e, ..) -/
theorem pe_meth {pl : Sem Bool} (he : PE X o ta) (c : Cls X.K C) (hm : Meth X.K C m f) (F : FnOk X.prog X.w X.K X.mg X.base CX k f fd ps sp) (hr : Room k X.A) (hb : Binds X.K fd ps ds) (hd : Vals dvs ds) (hx : Passes CX X E) (ha : PA X (e :: es) t)
    (hst : starEach (e :: es) X.env = (false, eval e X.env) :: starEach es X.env := by rfl) (hpl : (backTo pos (starEach es X.env)).any (·.1) = false := by rfl)
    (ht : eval (.Call (.Attribute o m apos) (e :: es) [] pos) X.env = (do
      let ov ← eval o X.env
      standAt apos.atName
      let (f, first) ← holding [ov] (getMethod ov m pl)
      callWith pos f first (backTo pos (starEach (e :: es) X.env)) (backToKw pos (keywordEach [] X.env))) := by rfl) :
    PE X (.Call (.Attribute o m apos) (e :: es) [] pos) (tMeth C m sp dvs E ta t) := by
  intro pins s σ H Q I h
  refine PySem.W.methodCall_KW (pl := pl) (thn (he pins s σ H _ I h) fun u s1 ⟨x, H1, I1, rx, a, dx, fs, ex, ea, l, q⟩ => ?_) ht
  subst ex
  obtain rfl : u = Value.ref a := rx
  refine getmeth_ok I1 ea c hm l ?_
  refine PySem.W.callWith_K (first := [.ref a]) (h₀ := X.base) I.ok.mod.kin hm.kp (thn (ha pos pins s1 σ H1 _ I1 q) fun us s2 ⟨vs, H2, I2, r, q2⟩ => ⟨I2.kIn, ?_⟩) hst hpl
  exact run_fn (us := .ref a :: us) (vs := .ref a :: vs) F hr hb hd hx I2 (.cons rfl r) q2
/-- o.m() -/
theorem pe_meth0 {pl : Sem Bool} (he : PE X o ta) (c : Cls X.K C) (hm : Meth X.K C m f) (F : FnOk X.prog X.w X.K X.mg X.base CX k f fd ps sp) (hr : Room k X.A) (hb : Binds X.K fd ps ds) (hd : Vals dvs ds) (hx : Passes CX X E)
    (ht : eval (.Call (.Attribute o m apos) [] [] pos) X.env = (do
      let ov ← eval o X.env
      standAt apos.atName
      let (f, first) ← holding [ov] (getMethod ov m pl)
      callWith pos f first (backTo pos (starEach [] X.env)) (backToKw pos (keywordEach [] X.env))) := by rfl) :
    PE X (.Call (.Attribute o m apos) [] [] pos) (tMeth C m sp dvs E ta tNil) := by
  intro pins s σ H Q I h
  refine PySem.W.methodCall_KW (pl := pl) (thn (he pins s σ H _ I h) fun u s1 ⟨x, H1, I1, rx, a, dx, fs, ex, ea, l, q⟩ => ?_) ht
  subst ex
  obtain rfl : u = Value.ref a := rx
  refine getmeth_ok I1 ea c hm l ?_
  exact PySem.W.callWith_K0 (first := [.ref a]) I1.kIn hm.kp (run_fn (us := [.ref a]) (vs := [.ref a]) F hr hb hd hx I1 (.cons rfl .nil) q)

/-- what a class must have to be made -/
structure Mk (K : PySem.W.Frag) (C f : Addr) : Prop where
  makes : PySem.W.makesIn K C = true
  init : PySem.W.findIn K (.ref C) "__init__" = some (some (.ref f))
  fn : PySem.W.isFn K (.ref f) = true
  kp : PySem.W.keepIn K (.ref C) = true

theorem run_make {pins : List (Addr × Obj)} {σ : St} {H : Hp} {s : Shared} {Q : VK} {us : List Value} {vs : List V} (M : Mk X.K C f) (F : FnOk X.prog X.w X.K X.mg X.base CX k f fd ps sp) (hr : Room (k + 1) X.A) (hb : Binds X.K fd ps ds) (hd : Vals dvs ds)
    (hx : Passes CX X E) (I : Inv X pins σ H s) (r : Vals vs us)
    (h : ∀ x dx, H x = none → H dx = none → dx ≠ x → sp (.ref x :: (vs ++ dvs)) (upd (upd H dx (.own x)) x (.ins C dx [])) (fun v H2 => v = .non ∧ Q (.ref x) H2) E) :
    wpAny (model X.prog X.w) X.A (call (.ref C) us) (EP X pins σ Q) X.xe s := by
  have hq := h (s.heap.objs.size + 1) s.heap.objs.size (I.hok.fresh (Nat.le_succ _)) (I.hok.fresh (Nat.le_refl _)) (Nat.ne_of_lt (Nat.lt_succ_self _))
  have I2 := Inv.made (C := C) I
  have r2 : Vals (V.ref (s.heap.objs.size + 1) :: (vs ++ dvs)) (Value.ref (s.heap.objs.size + 1) :: (us ++ ds)) := .cons rfl (r.append hd)
  have hl : (Value.ref (s.heap.objs.size + 1) :: us ++ ds).length = ps.length := by
    have e := r2.length
    rw [F.len _ _ _ _ hq] at e
    exact e.symm
  refine wpAny_call (make_map (f := f) I.kIn M.makes M.init (beq_iff_eq.mp M.fn) (codeAny_mono (F.run _ X.stack _ _ ⟨Value.ref (s.heap.objs.size + 1) :: us, []⟩ (Value.ref (s.heap.objs.size + 1) :: (us ++ ds)) _ _ E (hr.make C us [])
    (I2.env0.make C us []) (hb _ (Value.ref (s.heap.objs.size + 1) :: us) I2.kIn hl) r2 hq) fun r s' hq' => ?_))
  cases r with
  | error e => exact hx pins σ _ _ e s' I2 hq'
  | ok fl =>
    cases fl with
    | ret u =>
      obtain ⟨v, H', I3, rv, ev, q3⟩ := I2.after hq'
      subst ev
      exact ⟨rv, ⟨V.ref (s.heap.objs.size + 1), H', I3, rfl, q3⟩⟩
    | next => exact False.elim hq'
    | brk => exact False.elim hq'
    | cont => exact False.elim hq'
theorem pe_make (M : Mk X.K C f) (F : FnOk X.prog X.w X.K X.mg X.base CX k f fd ps sp) (hr : Room (k + 1) X.A) (hg : Gl X x) (hm : X.mg x = some (.ref C)) (hb : Binds X.K fd ps ds) (hd : Vals dvs ds) (hx : Passes CX X E)
    (ha : PA X (e :: es) t) (hdb : (x == ("__debug__" : Str)) = false := by decide) (he : starEach (e :: es) X.env = (false, eval e X.env) :: starEach es X.env := by rfl) (hpl : (backTo pos (starEach es X.env)).any (·.1) = false := by rfl) :
    PE X (.Call (.Name x p) (e :: es) [] pos) (tMake C sp dvs E t) := by
  intro pins s σ H Q I h
  refine wpAny_Call_Name_kw (ld_glob I hg hm ?_ hdb)
  refine PySem.W.callWith_K (h₀ := X.base) I.ok.mod.kin M.kp (thn (ha pos pins s σ H _ I h) fun us s1 ⟨vs, H1, I1, r, q⟩ => ⟨I1.kIn, ?_⟩) he hpl
  exact run_make M F hr hb hd hx I1 r q
theorem pe_make0 (M : Mk X.K C f) (F : FnOk X.prog X.w X.K X.mg X.base CX k f fd ps sp) (hr : Room (k + 1) X.A) (hg : Gl X x) (hm : X.mg x = some (.ref C)) (hb : Binds X.K fd ps ds) (hd : Vals dvs ds) (hx : Passes CX X E)
    (hdb : (x == ("__debug__" : Str)) = false := by decide) : PE X (.Call (.Name x p) [] [] pos) (tMake C sp dvs E tNil) := by
  intro pins s σ H Q I h
  refine wpAny_Call_Name_kw (ld_glob I hg hm ?_ hdb)
  exact PySem.W.callWith_K0 I.kIn M.kp (run_make (us := []) M F hr hb hd hx I .nil h)
end

/-! ### keywords -/
/-- the values of the keywords, from the left -/
def PK (X : Cx) (kws : List Keyword) (t : TA) : Prop :=
  ∀ (pos : Pos) (pins : List (Addr × Obj)) (s : Shared) (σ : St) (H : Hp) (Q : List V → Hp → Prop), Inv X pins σ H s → t σ H Q → wpAny (model X.prog X.w) X.A (evalAll ((backToKw pos (keywordEach kws X.env)).map (·.2))) (AP X pins σ Q) X.xe s
section
variable {X : Cx} {CX : CXT} {k : Nat} {f C : Addr} {fd : FuncData} {ps ks : List Str} {sp : Sp} {E : XK} {x m : Str} {p pos apos kpos : Pos} {e o : Expr} {es : List Expr} {kws : List Keyword} {te ta : TE} {t tk : TA} {nm : Option Str}
theorem pk_nil : PK X [] tNil := fun _ _ _ _ H Q I h => wpAny_evalAll_nil ⟨[], H, I, .nil, h⟩
theorem pk_cons (ha : PE X e te) (hr : PK X kws t) : PK X (⟨nm, e, kpos⟩ :: kws) (tCons te t) := by
  intro pos pins s σ H Q I h
  show wpAny _ _ (evalAll ((do let v ← eval e X.env; standAt pos; pure v) :: (backToKw pos (keywordEach kws X.env)).map (·.2))) _ _ s
  refine wpAny_evalAll_cons (wpAny_bind (thn (ha pins s σ H _ I h) fun u s1 ⟨x, H1, I1, r1, q1⟩ => wpAny_bind (wpAny_standAt (wpAny_pure ?_))))
  exact thn (hr pos pins s1 σ H1 _ I1 q1) fun us s2 ⟨xs, H2, I2, r2, q2⟩ => ⟨x :: xs, H2, I2, .cons r1 r2, q2⟩

variable {g : List Value → List Value → List Value} {gV : List V → List V → List V}
end

/-! ### a def's body keeps its promise -/
/-- names: the parameters first -/
structure FnScope (N P : List Str) (sc : Scope) : Prop where
  kind : sc.kind = .function
  co : sc.isCoroutine = false
  gen : sc.isGenerator = false
  nd : N.Nodup
  pre : N.take P.length = P
  par : ∀ x ∈ P, sc.names.lookup x = some .local ∨ sc.names.lookup x = some .cell
  nofree : ∀ y ∈ sc.names, y.2 ≠ .free

theorem bindL_out {kindOf : Str → Option NameKind} {x : Str} : ∀ {binds : List (Str × Value)} {m : Str → Option Value}, (∀ v, (x, v) ∉ binds) → bindL kindOf binds m x = m x
  | [], _, _ => rfl
  | (n, v) :: r, m, h => by
    unfold bindL
    rw [bindL_out fun w hw => h w (List.mem_cons_of_mem _ hw)]
    split
    · have : x ≠ n := by rintro rfl; exact h v List.mem_cons_self
      simp [this]
    · rfl
theorem bindC_out {kindOf : Str → Option NameKind} {x : Str} : ∀ {binds : List (Str × Value)} {m : Str → Option Value}, (∀ v, (x, v) ∉ binds) → bindC kindOf binds m x = m x
  | [], _, _ => rfl
  | (n, v) :: r, m, h => by
    unfold bindC
    rw [bindC_out fun w hw => h w (List.mem_cons_of_mem _ hw)]
    split
    · rfl
    · have : x ≠ n := by rintro rfl; exact h v List.mem_cons_self
      simp [this]
theorem bindL_get {kindOf : Str → Option NameKind} {x : Str} {v : Value} : ∀ {P : List Str} {vs : List Value} {i : Nat} {m : Str → Option Value}, P.Nodup → P[i]? = some x → vs[i]? = some v → kindOf x = some .local →
    bindL kindOf (P.zip vs) m x = some v
  | [], _, _, _, _, h, _, _ => by simp at h
  | _ :: _, [], _, _, _, _, h, _ => by simp at h
  | p :: P, w :: vs, 0, m, nd, h1, h2, hk => by
    simp at h1 h2; subst h1; subst h2
    show bindL kindOf ((p, w) :: P.zip vs) m p = _
    unfold bindL
    rw [bindL_out fun v hv => (List.nodup_cons.mp nd).1 (List.of_mem_zip hv).1, if_pos hk]
    simp
  | p :: P, w :: vs, i + 1, m, nd, h1, h2, hk => by
    show bindL kindOf ((p, w) :: P.zip vs) m x = _
    unfold bindL
    exact bindL_get (i := i) (List.nodup_cons.mp nd).2 (by simpa using h1) (by simpa using h2) hk
theorem bindC_get {kindOf : Str → Option NameKind} {x : Str} {v : Value} : ∀ {P : List Str} {vs : List Value} {i : Nat} {m : Str → Option Value}, P.Nodup → P[i]? = some x → vs[i]? = some v → kindOf x ≠ some .local →
    bindC kindOf (P.zip vs) m x = some v
  | [], _, _, _, _, h, _, _ => by simp at h
  | _ :: _, [], _, _, _, _, h, _ => by simp at h
  | p :: P, w :: vs, 0, m, nd, h1, h2, hk => by
    simp at h1 h2; subst h1; subst h2
    show bindC kindOf ((p, w) :: P.zip vs) m p = _
    unfold bindC
    rw [bindC_out fun v hv => (List.nodup_cons.mp nd).1 (List.of_mem_zip hv).1, if_neg hk]
    simp
  | p :: P, w :: vs, i + 1, m, nd, h1, h2, hk => by
    show bindC kindOf ((p, w) :: P.zip vs) m x = _
    unfold bindC
    exact bindC_get (i := i) (List.nodup_cons.mp nd).2 (by simpa using h1) (by simpa using h2) hk

/-- the names' values at the entry -/
def start (N : List Str) (vs : List V) : St := vs.map some ++ List.replicate (N.length - vs.length) none

/-- the context of a def's body, at its entry; an exception leaves the frame, then lies as CX says -/
def cxOf (CX : CXT) (P : Program) (w : World) (K : PySem.W.Frag) (mg : Str → Option Value) (base : Heap) (N : List Str) (qual : Str) (scope : Scope) (f : Addr) (cd : Value) (A : Around) (outer : List Env) (s : Shared) (H : Hp) (E : XK) : Cx where
  prog := P
  w := w
  K := K
  mg := mg
  base := base
  A := A.deeper (envOfC qual scope s.heap.objs.size f cd)
  N := N
  s_0 := s
  H_0 := H
  env := envOfC qual scope s.heap.objs.size f cd
  outer := outer
  stack := envOfC qual scope s.heap.objs.size f cd :: outer
  ex := []
  calm := true
  fn := fun _ => true
  pn := []
  xe := fun e s' => wpAny (model P w) (A.deeper (envOfC qual scope s.heap.objs.size f cd)) (leaving (envOfC qual scope s.heap.objs.size f cd) e) (fun _ s'' => CX outer H s E e s'') (fun e' s'' => CX outer H s E e' s'') s'

theorem cell_has {sc : Scope} {n : Nat} {x : Str} (h : sc.names.lookup x = some .cell) : ∃ c, (cellsFrom n sc.names []).lookup x = some c := by
  have q := PySem.W.cellsFrom_some sc.names n [] (.inl h)
  exact Option.isSome_iff_exists.mp q

theorem inv_start {CX : CXT} {P : Program} {w : World} {K : PySem.W.Frag} {mg : Str → Option Value} {base : Heap} {N ps : List Str} {qual : Str} {scope : Scope} {f : Addr} {cd : Value} {A : Around} {outer : List Env} {s s1 : Shared} {H : Hp} {E : XK} {us : List Value} {vs : List V}
    (S : FnScope N ps scope) (hd : A.handled = none) (e0 : Env0 P w K mg base A outer s H) (hl : vs.length = ps.length) (r : Vals vs us)
    (x : InCallC s s.heap.objs.size (bindL (envOfC qual scope s.heap.objs.size f cd).kindOf (ps.zip us) fun _ => none) (cellsFrom (s.heap.objs.size + 1) scope.names []) (bindC (envOfC qual scope s.heap.objs.size f cd).kindOf (ps.zip us) fun _ => none) s1) :
    Inv (cxOf CX P w K mg base N qual scope f cd A outer s H E) [] (start N vs) H s1 := by
  have hpl : ps.length ≤ N.length := by have := congrArg List.length S.pre; rw [List.length_take] at this; omega
  obtain ⟨h1, tk, rfl, hk⟩ := x.done
  have noA : ∀ b : Addr, b ∉ (cxOf CX P w K mg base N qual scope f cd A outer s H E).ex := fun b z => absurd (show b ∈ ([] : List Addr) from z) (by simp)
  refine ⟨⟨e0.mod, S.kind, rfl, rfl, Nat.le_refl _, fun y z c h1 h2 => ?_, fun y hy => ?_, fun y c _ h => ?_, fun _ => hd, Around.frames_deeper e0.frames, .inr ⟨rfl, rfl⟩, fun b z => absurd z (noA b), e0.bs, e0.bsz, fun b _ _ => noA b, fun b z => absurd z (noA b), e0.funs, e0.frf⟩,
    rfl, e0.bare, Un.kept hk, ⟨_, x.toInCall.ns, fun i y v h1 h2 h3 => ?_⟩, fun y c h => ⟨_, x.cell y c h⟩, e0.hok.fresh (Nat.le_refl _), fun y c h => ?_, fun p hp => absurd (show p ∈ ([] : List (Addr × Obj)) from hp) (by simp), e0.hok.kept hk, ?_⟩
  · exact name_of_addr x.apart (PySem.mem_of_lookup h1) (PySem.mem_of_lookup h2)
  · have hy : scope.names.lookup y = some .cell ∨ scope.names.lookup y = some .free := hy
    rcases hy with hy | hy
    · exact cell_has hy
    · exact absurd rfl (S.nofree _ (PySem.mem_of_lookup hy))
  · exact Nat.le_of_lt (x.above y c (PySem.mem_of_lookup h))
  · have hi : i < vs.length := by
      unfold start at h2
      by_cases hi : i < vs.length
      · exact hi
      · rw [List.getElem?_append_right (by simpa using hi)] at h2
        rw [List.getElem?_replicate] at h2
        split at h2 <;> cases h2
    have ha : vs[i]? = some v := by
      unfold start at h2
      rw [List.getElem?_append_left (by simpa using hi), List.getElem?_map] at h2
      cases e : vs[i]? with
      | none => rw [e] at h2; cases h2
      | some a => rw [e] at h2; cases h2; rfl
    obtain ⟨u, hu, rv⟩ := r.get ha
    have hp : ps[i]? = some y := by
      rw [← S.pre, List.getElem?_take_of_lt (by omega)]; exact h1
    have ndP : ps.Nodup := by rw [← S.pre]; exact S.nd.sublist (List.take_sublist _ _)
    refine ⟨u, rv, ?_⟩
    rcases S.par y (List.mem_of_getElem? hp) with k | k
    · exact .inl ⟨k, bindL_get ndP hp hu k⟩
    · obtain ⟨c, e⟩ := cell_has (n := s.heap.objs.size + 1) k
      refine .inr ⟨.inl k, c, e, ?_⟩
      have q := x.cell y c e
      rw [bindC_get ndP hp hu (by show scope.names.lookup y ≠ _; rw [k]; decide)] at q
      exact q
  · exact e0.hok.fresh (Nat.le_of_lt (x.above y c (PySem.mem_of_lookup h)))
  · unfold start
    show _ = N.length
    rw [List.length_append, List.length_map, List.length_replicate]
    omega

/-- THE RULE: a def (or a method) of the text, by its body. The body's reading t is chosen for each entry; it is run at the parameters' values -/
theorem fn_of {CX : CXT} {P : Program} {w : World} {K : PySem.W.Frag} {mg : Str → Option Value} {base : Heap} {k : Nat} {f : Addr} {name qual : Str} {params : Arguments} {body : List Stmt} {scope : Scope} {dV kV doc pm cdv ct oc : Value} {an od : Option Addr}
    {osl : Array (Option Value)} {N ps : List Str} {sp : Sp} (lk : K.lookup f = some ⟨oc, od, .func (PySem.W.fnOf name qual params body scope dV kV doc pm an cdv ct), osl⟩) (hcd : PySem.W.codeIn K cdv qual = true) (S : FnScope N ps scope)
    (len : ∀ vs H Q E, sp vs H Q E → vs.length = ps.length)
    (hbody : ∀ (A : Around) (outer : List Env) (s : Shared) (H : Hp) (vs : List V) (Q : VK) (E : XK), Room k (A.deeper (envOfC qual scope s.heap.objs.size f cdv)) → sp vs H Q E →
      ∃ t, PSs (cxOf CX P w K mg base N qual scope f cdv A outer s H E) body t ∧ t { nx := fun _ H' => Q .non H', rt := Q } (start N vs) H) :
    FnOk P w K mg base CX (k + 1) f (PySem.W.fnOf name qual params body scope dV kV doc pm an cdv ct) ps sp := by
  refine ⟨len, fun A outer s H args us vs Q E hr e0 hb r hsp => ?_⟩
  have hl := len _ _ _ _ hsp
  have KX : K.In s.heap := e0.mod.kin.keeps fun b o e => (e0.bs b o e).1
  have lim : s.heap.NoLimit := e0.mod.nolimit.keeps fun b o e => (e0.bs b o e).1
  have hkind : ∀ y ∈ ps.zip us, scope.names.lookup y.1 = some .local ∨ (scope.names.lookup y.1 = some .cell ∧ ((cellsFrom (s.heap.objs.size + 1) scope.names []).lookup y.1).isSome = true) := fun ⟨n, v⟩ hy => by
    rcases S.par n (List.of_mem_zip hy).1 with q | q
    · exact .inl q
    · exact .inr ⟨q, PySem.W.cellsFrom_some _ _ _ (.inl q)⟩
  refine codeAny_call_function hr.depth (KX _ _ lk) rfl S.co S.gen rfl (PySem.W.codeRec_of KX hcd) (hb _ _ _ _ ?_)
  refine wpAny_newFunctionEnv_cells S.kind hkind fun env he s1 x => ?_
  subst he
  refine ⟨lim.keeps x.toInCall.keep, codeAny_func ?_⟩
  obtain ⟨t, ht, hq⟩ := hbody A outer s H vs Q E (hr.deeper _) hsp
  have I : Inv (cxOf CX P w K mg base N qual scope f cdv A outer s H E) [] (start N vs) H s1 := inv_start S hr.hd e0 hl r x
  refine wpAny_mono (ht [] s1 (start N vs) H _ I hq) (fun fl s' hs => ?_) fun e s' hs => hs
  have fin : ∀ {σ' : St} {H' : Hp} {v : V} {u : Value}, Inv (cxOf CX P w K mg base N qual scope f cdv A outer s H E) [] σ' H' s' → RelV v u → Q v H' → CE outer P w H s Q u s' :=
    fun {σ' H' v u} J rv q => ⟨v, H', J.os, J.bare, J.base, J.hok, rv, q⟩
  cases fl with
  | ret u =>
    obtain ⟨v, σ', H', J, rv, q⟩ := hs
    exact fin J rv q
  | next =>
    obtain ⟨σ', H', J, q⟩ := hs
    exact fin (v := V.non) (u := Value.none) J rfl q
  | brk =>
    obtain ⟨_, _, _, q⟩ := hs
    exact False.elim q
  | cont =>
    obtain ⟨_, _, _, q⟩ := hs
    exact False.elim q
end L2

namespace L2
open PySem PySem.Spec PyProof.Rows
section
variable {X : Cx} {x : Str} {p pos : Pos} {e : Expr} {es : List Expr} {t : TA} {id T : String} {r : List V → Hp → VK → Prop}

def tCB (r : List V → Hp → VK → Prop) (t : TA) : TE := fun σ H Q => t σ H fun vs H1 => r vs H1 Q
/-- f(e, ..), f a built-in function -/
theorem pe_callB (hc : CallR X (.builtin id) r) (hg : Gl X x) (hm : X.mg x = none) (hv : bootBuiltins x = some (.builtin id)) (ha : PA X (e :: es) t) (hn : x ≠ "__name__" := by decide) (hdb : (x == ("__debug__" : Str)) = false := by decide)
    (he : starEach (e :: es) X.env = (false, eval e X.env) :: starEach es X.env := by rfl) (hpl : (backTo pos (starEach es X.env)).any (·.1) = false := by rfl) : PE X (.Call (.Name x p) (e :: es) [] pos) (tCB r t) := by
  intro pins s σ H Q I h
  refine wpAny_Call_Name_kw (ld_blt I hg hm hv ?_ hn hdb)
  exact PyProof.Rows.callWith_builtin1 (thn (ha pos pins s σ H _ I h) fun us s1 ⟨vs, H1, I1, r1, q1⟩ => hc pins s1 σ H1 vs us Q I1 r1 q1) he hpl
/-- T(e, ..), T a built-in type -/
theorem pe_callTy (hc : CallR X (.type T) r) (hg : Gl X x) (hm : X.mg x = none) (hv : bootBuiltins x = some (.type T)) (ha : PA X (e :: es) t) (hn : x ≠ "__name__" := by decide) (hdb : (x == ("__debug__" : Str)) = false := by decide)
    (he : starEach (e :: es) X.env = (false, eval e X.env) :: starEach es X.env := by rfl) (hpl : (backTo pos (starEach es X.env)).any (·.1) = false := by rfl) : PE X (.Call (.Name x p) (e :: es) [] pos) (tCB r t) := by
  intro pins s σ H Q I h
  refine wpAny_Call_Name_kw (ld_blt I hg hm hv ?_ hn hdb)
  exact PyProof.Rows.callWith_type1 (thn (ha pos pins s σ H _ I h) fun us s1 ⟨vs, H1, I1, r1, q1⟩ => hc pins s1 σ H1 vs us Q I1 r1 q1) he hpl
end
end L2

namespace HT
open PySem PyProof.Rows

section
open PySem.SeqAt
open PySem.AutoSeq1 (wpAny_loadPart')
open PySem.MeetsSeq PySem.MeetsSeq2 PySem.MeetsSeq3

end

section
variable {prog : Program} {w : World} {A : Around} {E : Value → Shared → Prop} {s : Shared}

/-! ### t[a:b], not the whole -/
/-- a slice's bound as a place among n (d where it is left out) -/
def sIx (n d : Nat) : Option Int → Nat
  | none => d
  | some v => if v < 0 then (v + (n : Int)).toNat else min v.toNat n
theorem sIx_none (n d : Nat) : sIx n d none = d := rfl
theorem sIx_nat (n d k : Nat) : sIx n d (some (k : Int)) = min k n := by
  show (if (k : Int) < 0 then ((k : Int) + (n : Int)).toNat else min (k : Int).toNat n) = min k n
  rw [if_neg (by omega), Int.toNat_natCast]
theorem sIx_le (n d : Nat) (hd : d ≤ n) (o : Option Int) : sIx n d o ≤ n := by
  cases o with
  | none => exact hd
  | some v =>
    show (if v < 0 then (v + (n : Int)).toNat else min v.toNat n) ≤ n
    by_cases hv : v < 0
    · rw [if_pos hv]; omega
    · rw [if_neg hv]; exact Nat.min_le_right _ _
theorem clip_eq (v : Int) (n d : Nat) : (if v < 0 then max (v + (n : Int)) 0 else min v (n : Int)) = ((sIx n d (some v) : Nat) : Int) := by
  show (if v < 0 then max (v + (n : Int)) 0 else min v (n : Int)) = (((if v < 0 then (v + (n : Int)).toNat else min v.toNat n) : Nat) : Int)
  by_cases hv : v < 0
  · simp only [if_pos hv]; omega
  · simp only [if_neg hv]; omega
theorem adjust_gen (lo hi : Option Int) (n : Nat) : Builtin.Slice.sliceAdjust lo hi 1 (n : Int) = (((sIx n 0 lo : Nat) : Int), ((sIx n n hi : Nat) : Int)) := by
  have h1 : ¬ ((1 : Int) < 0) := by omega
  unfold Builtin.Slice.sliceAdjust
  simp only [h1, if_false]
  refine Prod.ext ?_ ?_
  · cases lo with
    | none => rfl
    | some v => exact clip_eq v n 0
  · cases hi with
    | none => rfl
    | some v => exact clip_eq v n n
theorem places_gen (i j : Nat) : Builtin.Slice.slicePlaces (i : Int) (j : Int) 1 = j - i := by
  unfold Builtin.Slice.slicePlaces
  have h1 : (1 : Int) > 0 := by omega
  simp only [h1, if_true, Int.ediv_one]
  split <;> omega
theorem slicePart_ {v : Value} {o : Option Int} {Q : Option Int → Shared → Prop} (p : IsPart v o) (h : Q o s) : wpAny (model prog w) A (Builtin.Slice.slicePartIndex v) Q E s := by
  cases p with
  | none => exact slicePart_none h
  | int i t => exact slicePart_int h
theorem sliceApplied_gen {sl : Addr} {vl vu : Value} {lo hi : Option Int} {n : Nat} {Q : Int × Int × Nat → Shared → Prop} (hs : s.heap.IsSliceOf sl vl vu .none) (pl : IsPart vl lo) (pu : IsPart vu hi)
    (h : Q (((sIx n 0 lo : Nat) : Int), 1, sIx n n hi - sIx n 0 lo) s) : wpAny (model prog w) A (Builtin.Slice.sliceApplied (.ref sl) (pure (n : Int))) Q E s := by
  obtain ⟨os, hos, hcs, hds⟩ := id hs
  unfold Builtin.Slice.sliceApplied Builtin.Slice.sliceFields
  refine wpAny_bind (wpAny_bind (wpAny_field hos hds (x := vl) rfl (wpAny_bind (wpAny_field hos hds (x := vu) rfl (wpAny_bind (wpAny_field hos hds (x := .none) rfl (wpAny_pure ?_)))))))
  refine wpAny_bind (slicePart_none ?_)
  show wpAny _ _ (if ((1 : Int) == 0) = true then _ else _) _ _ s
  rw [if_neg (by decide)]
  refine wpAny_bind (slicePart_ pl (wpAny_bind (slicePart_ pu (wpAny_bind (wpAny_pure ?_)))))
  show wpAny _ _ (match Builtin.Slice.sliceAdjust lo hi 1 (n : Int) with | (lo, hi) => pure (lo, (1 : Int), Builtin.Slice.slicePlaces lo hi 1)) _ _ s
  rw [adjust_gen lo hi n]
  show wpAny _ _ (pure (((sIx n 0 lo : Nat) : Int), (1 : Int), Builtin.Slice.slicePlaces ((sIx n 0 lo : Nat) : Int) ((sIx n n hi : Nat) : Int) 1)) _ _ s
  rw [places_gen]
  exact wpAny_pure h
theorem pick_gen (xs : Array Value) (i k : Nat) : ((List.range k).filterMap fun (m : Nat) => xs[((i : Int) + (m : Int) * 1).toNat]?).toArray = ((xs.toList.drop i).take k).toArray := by
  have e : (fun (m : Nat) => xs[((i : Int) + (m : Int) * 1).toNat]?) = fun m => xs[i + m]? := by
    funext m
    have : ((i : Int) + (m : Int) * 1).toNat = i + m := by omega
    rw [this]
  rw [e]
  have := pick_run xs i k
  rw [List.filterMap_map] at this
  have e2 : ((fun x => xs[x]?) ∘ fun x => i + x) = fun m => xs[i + m]? := rfl
  rw [e2] at this
  rw [this]

theorem getItem_tuple_cut {t sl : Addr} {items : Array Value} {vl vu : Value} {lo hi : Option Int} {Q : Value → Shared → Prop} (ht : IsTup s.heap t items) (hs : s.heap.IsSliceOf sl vl vu .none) (pl : IsPart vl lo) (pu : IsPart vu hi)
    (hw : ¬ (sIx items.size 0 lo = 0 ∧ sIx items.size items.size hi = items.size))
    (h : Q (.ref s.heap.objs.size) { s with heap := s.heap.push { cls := .type "tuple", data := .seq ((items.toList.drop (sIx items.size 0 lo)).take (sIx items.size items.size hi - sIx items.size 0 lo)).toArray } })
    (hsz : items.size ≤ sizeLine) : wpAny (model prog w) A (getItem (.ref t) (.ref sl)) Q E s := by
  have htake : sizeOk (.seq ((items.toList.drop (sIx items.size 0 lo)).take (sIx items.size items.size hi - sIx items.size 0 lo)).toArray) := by
    show ((items.toList.drop (sIx items.size 0 lo)).take (sIx items.size items.size hi - sIx items.size 0 lo)).toArray.size ≤ sizeLine
    rw [List.size_toArray, List.length_take, List.length_drop, Array.length_toList]
    omega
  have hj : sIx items.size items.size hi ≤ items.size := sIx_le _ _ (Nat.le_refl _) hi
  obtain ⟨os, hos, hcs, hds⟩ := id hs
  have hTs : s.TypeIs (.ref sl) "slice" := ⟨os, hos, hcs⟩
  unfold getItem
  try with_reducible refine wpAny_holding ?_
  first | refine wpAny_bind (wpAny_pure ?_) | skip
  refine wpAny_bind (wpAny_sequenceKey ht.typeIs (by decide) ?_)
  refine wpAny_bind (wpAny_callSpecial?_slot (name := Str.ofString "__getitem__") ht.typeIs PyProof.Rows.slot_tuple_getitem
    (wpAny_call_entry PyProof.Rows.slot_tuple_getitem ht.typeIs entry_tuple_getitem ?_ (args_tuple_getitem _ _)))
  show wpAny _ _ (Builtin.Tuple.tupleItemsOf (.ref t) >>= _) _ _ s
  refine wpAny_bind (tupleItemsOf_ ht ?_)
  refine wpAny_bind (wpAny_typeOf hTs ?_)
  rw [if_pos (by decide)]
  refine wpAny_bind (sliceApplied_gen hs pl pu ?_)
  have hno : ¬ ((((sIx items.size 0 lo : Nat) : Int) == 0 && (1 : Int) == 1 && (sIx items.size items.size hi - sIx items.size 0 lo) == items.size) = true) := by
    intro q
    rw [Bool.and_eq_true, Bool.and_eq_true] at q
    have q1 : ((sIx items.size 0 lo : Nat) : Int) = 0 := eq_of_beq q.1.1
    have q2 : sIx items.size items.size hi - sIx items.size 0 lo = items.size := eq_of_beq q.2
    exact hw ⟨by omega, by omega⟩
  show wpAny _ _ (if (((sIx items.size 0 lo : Nat) : Int) == 0 && (1 : Int) == 1 && (sIx items.size items.size hi - sIx items.size 0 lo) == items.size) = true then _ else _) _ _ s
  rw [if_neg hno, pick_gen]
  first
    | exact wpAny_bind (m := Builtin.Tuple.tupleExact _) (wpAny_newObj_type (wpAny_pure ⟨_, rfl, wpAny_pure h⟩) htake)
    | exact wpAny_bind (m := Builtin.Tuple.tupleExact _) (wpAny_newObj_type (wpAny_bind (wpAny_pure (wpAny_pure ⟨_, rfl, wpAny_pure h⟩))) htake)
    | exact wpAny_bind (wpAny_bind (m := Builtin.Tuple.tupleExact _) (wpAny_newObj_type (wpAny_pure (wpAny_pure ⟨_, rfl, wpAny_pure h⟩)) htake))
    | exact wpAny_bind (wpAny_bind (m := Builtin.Tuple.tupleExact _) (wpAny_newObj_type (wpAny_pure ⟨_, rfl, wpAny_pure h⟩) htake))
end
end HT

namespace L2
open PySem PySem.Spec PyProof.Rows

/-! ### the parts of a slice -/
abbrev TO := St → Hp → (Option Int → Hp → Prop) → Prop
/-- a slice's part (left out, or an int) -/
def PO (X : Cx) (e : Option Expr) (t : TO) : Prop :=
  ∀ (pins : List (Addr × Obj)) (s : Shared) (σ : St) (H : Hp) (Q : Option Int → Hp → Prop), Inv X pins σ H s → t σ H Q →
    wpAny (model X.prog X.w) X.A (evalPart e X.env) (fun u s' => ∃ o H', Inv X pins σ H' s' ∧ IsPart u o ∧ Q o H') X.xe s
def tNoPart : TO := fun _ H Q => Q none H
def tPart (t : TE) : TO := fun σ H Q => t σ H fun x H1 => ∃ i, x = .int i ∧ Q (some i) H1

section
variable {X : Cx} {e : Expr} {te : TE} {lo hi : Option Expr} {tl th : TO} {pos p2 : Pos}

theorem po_none : PO X none tNoPart := by
  intro pins s σ H Q I h
  rw [evalPart_none]
  exact wpAny_pure ⟨none, H, I, .none, h⟩
theorem po_some (h : PE X e te) : PO X (some e) (tPart te) := by
  intro pins s σ H Q I hw
  rw [evalPart_some]
  refine thn (h pins s σ H _ I hw) fun u s1 ⟨x, H1, I1, r1, q1⟩ => ?_
  obtain ⟨i, rfl, q⟩ := q1
  obtain ⟨t, rfl⟩ := r1
  exact ⟨some i, H1, I1, .int i t, q⟩

/-- what a slice of a value is, by values: the slice object stands at sl -/
def SlR (X : Cx) (r : V → Option Int → Option Int → Hp → VK → Prop) : Prop :=
  ∀ (pins : List (Addr × Obj)) (s : Shared) (σ : St) (H : Hp) (x : V) (v vl vu : Value) (lo hi : Option Int) (sl : Addr) (Q : VK), Inv X pins σ H s → RelV x v → s.heap.IsSliceOf sl vl vu .none → IsPart vl lo → IsPart vu hi → r x lo hi H Q →
    ∃ T id, typeLookup (.type T) "__getitem__" = pure (some (.builtin id)) ∧ s.TypeIs v T ∧ wpAny (model X.prog X.w) X.A (getItem v (.ref sl)) (EP X pins σ Q) X.xe s
def tSl (r : V → Option Int → Option Int → Hp → VK → Prop) (te : TE) (tl th : TO) : TE := fun σ H Q => te σ H fun x H1 => tl σ H1 fun l H2 => th σ H2 fun u H3 => r x l u H3 Q
/-- a[lo:hi], any a -/
theorem pe_slice {r : V → Option Int → Option Int → Hp → VK → Prop} (hr : SlR X r) (he : PE X e te) (hl : PO X lo tl) (hu : PO X hi th) : PE X (.Subscript e (.Slice lo hi none p2) pos) (tSl r te tl th) := by
  intro pins s σ H Q I h
  refine Subscript_ (thn (he pins s σ H _ I h) fun v s1 ⟨x, H1, I1, r1, q1⟩ => ?_)
  refine wpAny_Slice (thn (hl pins s1 σ H1 _ I1 q1) fun vl s2 ⟨l, H2, I2, pl, q2⟩ => thn (hu pins s2 σ H2 _ I2 q2) fun vu s3 ⟨u, H3, I3, pu, q3⟩ => ?_)
  rw [evalPart_none]
  refine wpAny_pure ?_
  have I4 : Inv X pins σ H3 { s3 with heap := s3.heap.push { cls := .type "slice", data := .fields #[vl, vu, .none] } } := I3.kept (t' := s3.toks) fun b ob q => Heap.get?_push_of_some _ q
  obtain ⟨T, id, hT, ht, hg⟩ := hr pins { s3 with heap := s3.heap.push { cls := .type "slice", data := .fields #[vl, vu, .none] } } σ H3 x v vl vu l u s3.heap.objs.size Q I4 r1 (Heap.IsSliceOf.new ..) pl pu q3
  show wpAny (model X.prog X.w) X.A (subscriptTail e (.Slice lo hi none p2) v (.ref s3.heap.objs.size)) (EP X pins σ Q) X.xe { s3 with heap := s3.heap.push { cls := .type "slice", data := .fields #[vl, vu, .none] } }
  exact tail_any (ops := [.ref s3.heap.objs.size, v]) ht hT hg (by with_unfolding_all rfl)

/-- the items of xs[lo:hi] -/
def cutV (xs : List V) (lo hi : Option Int) : List V := (xs.drop (HT.sIx xs.length 0 lo)).take (HT.sIx xs.length xs.length hi - HT.sIx xs.length 0 lo)
theorem cutV_length (xs : List V) (lo hi : Option Int) : (cutV xs lo hi).length ≤ xs.length := by
  unfold cutV
  rw [List.length_take, List.length_drop]
  omega
/-- t[lo:hi], not the whole of it (the whole would be t itself) -/
def rSlT (K : PySem.W.Frag) : V → Option Int → Option Int → Hp → VK → Prop := fun x lo hi H Q => ∃ a xs, x = .ref a ∧ SqT K H a xs ∧
  ¬ (HT.sIx xs.length 0 lo = 0 ∧ HT.sIx xs.length xs.length hi = xs.length) ∧ ∀ p, H p = none → Q (.ref p) (upd H p (.tup (cutV xs lo hi)))
theorem sl_tup : SlR X (rSlT X.K) := by
  intro pins s σ H x v vl vu lo hi sl Q I rx hs pl pu h
  obtain ⟨a, xs, rfl, hx, hw, q⟩ := h
  cases rx
  obtain ⟨its, r, ht, hz⟩ := I.tuple hx
  have hlen : its.toArray.size = xs.length := by rw [List.size_toArray]; exact r.length.symm
  refine ⟨"tuple", _, PyProof.Rows.slot_tuple_getitem.lookup, ht.typeIs, ?_⟩
  refine HT.getItem_tuple_cut ht hs pl pu (by rw [hlen]; exact hw) ?_ (by rw [hlen]; exact hz)
  rw [hlen]
  refine ⟨.ref s.heap.objs.size, _, I.laid (t' := s.toks) (o := .tup (cutV xs lo hi)) (fun b ob q => Heap.get?_push_of_some _ q) (Nat.le_refl _) ?_, rfl, q _ (I.hok.fresh (Nat.le_refl _))⟩
  exact ⟨Nat.le_trans (cutV_length xs lo hi) hz, _, (r.drop (HT.sIx xs.length 0 lo)).take (HT.sIx xs.length xs.length hi - HT.sIx xs.length 0 lo), IsTup.new _ _⟩

/-! ### t < u, t + u -/
end
end L2

namespace L2
open PySem PySem.Spec PyProof.Rows

/-! ### places -/
/-- the place that an index of any sign means -/
def ixN (n : Nat) (i : Int) : Option Nat := if 0 ≤ i then (if i < n then some i.toNat else none) else if -(n : Int) ≤ i then some (i + n).toNat else none
def atI {α : Type} (xs : List α) (i : Int) : Option α := (ixN xs.length i).bind fun j => xs[j]?
theorem ixN_seq {n : Nat} {i : Int} {j : Nat} (h : ixN n i = some j) : seqIndex? i n = some j ∧ j < n ∧ -(n : Int) ≤ i ∧ i < n := by
  unfold ixN at h
  by_cases h0 : 0 ≤ i
  · rw [if_pos h0] at h
    by_cases h1 : i < n
    · rw [if_pos h1] at h
      have e : i.toNat = j := Option.some.inj h
      exact ⟨by rw [seqIndex_of h0 h1, e], by omega, by omega, h1⟩
    · rw [if_neg h1] at h; cases h
  · rw [if_neg h0] at h
    by_cases h1 : -(n : Int) ≤ i
    · rw [if_pos h1] at h
      have e : (i + n).toNat = j := Option.some.inj h
      exact ⟨by rw [seqIndex_neg (by omega) h1, e], by omega, h1, by omega⟩
    · rw [if_neg h1] at h; cases h
theorem atI_get {α : Type} {xs : List α} {i : Int} {v : α} (h : atI xs i = some v) : ∃ j, seqIndex? i xs.length = some j ∧ xs[j]? = some v ∧ j < xs.length ∧ -(xs.length : Int) ≤ i ∧ i < xs.length := by
  unfold atI at h
  cases e : ixN xs.length i with
  | none => rw [e] at h; cases h
  | some j =>
    rw [e] at h
    obtain ⟨h1, h2, h3, h4⟩ := ixN_seq e
    exact ⟨j, h1, h, h2, h3, h4⟩
theorem atI_nat {α : Type} {xs : List α} {j : Nat} {v : α} (h : xs[j]? = some v) : atI xs (j : Int) = some v := by
  have hj : j < xs.length := (List.getElem?_eq_some_iff.mp h).1
  have e : ixN xs.length (j : Int) = some j := by
    unfold ixN
    rw [if_pos (by omega), if_pos (by omega)]; simp
  unfold atI; rw [e]; exact h

/-! ### what may be subscripted -/
/-- what stands as an index of a plain subscript -/
def PlainIx (b : Expr) : Prop := ∀ o i, subscripted b false o i = operate [o, i] (getItem o i)
/-- a subscript by values -/
def IxR (X : Cx) (r : R2) : Prop :=
  ∀ (value slice : Expr) (pins : List (Addr × Obj)) (s : Shared) (σ : St) (H : Hp) (x y : V) (v u : Value) (Q : VK), Inv X pins σ H s → RelV x v → RelV y u → r x y H Q →
    subscripted slice false v u = operate [v, u] (getItem v u) → wpAny (model X.prog X.w) X.A (subscriptTail value slice v u) (EP X pins σ Q) X.xe s
/-- a call of a builtin's method by values: the receiver, the arguments -/
def MtR (X : Cx) (id : String) (r : V → List V → Hp → VK → Prop) : Prop :=
  ∀ (pins : List (Addr × Obj)) (s : Shared) (σ : St) (H : Hp) (x : V) (xs : List V) (v : Value) (us : List Value) (Q : VK), Inv X pins σ H s → RelV x v → Vals xs us → r x xs H Q →
    wpAny (model X.prog X.w) X.A (call (.builtin id) (v :: us)) (EP X pins σ Q) X.xe s
section
variable {X : Cx} {a b : Expr} {ta tb : TE} {pos : Pos}
/-- a[b] -/
theorem pe_ix {r : R2} (hr : IxR X r) (ha : PE X a ta) (hb : PE X b tb) (hs : PlainIx b) : PE X (.Subscript a b pos) (tOp r ta tb) := by
  intro pins s σ H Q I h
  exact Subscript_ (binT ha hb I h fun v u s2 x y H2 I2 rx ry q => hr a b pins s2 σ H2 x y v u Q I2 rx ry q (hs _ _))

def rIxL (K : PySem.W.Frag) : R2 := fun x y H Q => ∃ p xs i v, x = .ref p ∧ y = .int i ∧ SqL K H p xs ∧ atI xs i = some v ∧ Q v H
def rIxT (K : PySem.W.Frag) : R2 := fun x y H Q => ∃ p xs i v, x = .ref p ∧ y = .int i ∧ SqT K H p xs ∧ atI xs i = some v ∧ Q v H
theorem ix_list : IxR X (rIxL X.K) := by
  intro value slice pins s σ H x y v u Q I rx ry h hs
  obtain ⟨p, xs, i, z, rfl, rfl, hq, he, q⟩ := h
  cases rx
  obtain ⟨t, rfl⟩ := ry
  obtain ⟨its, r, pl, hz⟩ := I.list hq
  obtain ⟨j, h1, h2, h3, h4, h5⟩ := atI_get he
  obtain ⟨w, ew, rw'⟩ := r.get h2
  have hl := r.length
  have hn := line63
  have fin : EP X pins σ Q w s := ⟨z, H, I, rw', q⟩
  by_cases h0 : 0 ≤ i
  · have hj : i.toNat = j := by
      rw [seqIndex_of h0 h5] at h1
      exact Option.some.inj h1
    exact item_listR pl.isList h0 (by omega) (by rw [hj]; simpa using ew) fin hs
  · have hj : (i + (its.toArray.size : Int)).toNat = j := by
      rw [seqIndex_neg (by omega) h4] at h1
      rw [List.size_toArray, ← hl]
      exact Option.some.inj h1
    exact subscriptTail_builtinR (x := w) pl.isList.typeIs slot_list_getitem.lookup
      (wpAny_getItem_list_neg (Q := fun r s' => r = w ∧ EP X pins σ Q r s') pl.isList (by omega) (by rw [List.size_toArray] <;> omega) (by omega) (by rw [hj]; simpa using ew) ⟨rfl, fin⟩) hs
theorem ix_tup : IxR X (rIxT X.K) := by
  intro value slice pins s σ H x y v u Q I rx ry h hs
  obtain ⟨p, xs, i, z, rfl, rfl, hq, he, q⟩ := h
  cases rx
  obtain ⟨t, rfl⟩ := ry
  obtain ⟨its, r, pl, hz⟩ := I.tuple hq
  obtain ⟨j, h1, h2, h3, h4, h5⟩ := atI_get he
  obtain ⟨w, ew, rw'⟩ := r.get h2
  have hl := r.length
  have hn := line63
  have fin : EP X pins σ Q w s := ⟨z, H, I, rw', q⟩
  exact subscriptTail_builtinR (x := w) pl.typeIs slot_tuple_getitem.lookup
    (getItem_tuple (j := j) (Q := fun r s' => r = w ∧ EP X pins σ Q r s') pl (by omega) (by omega) (by rw [List.size_toArray, ← hl]; exact h1) (by simpa using ew) ⟨rfl, fin⟩) hs

/-! ### xs[i] = v, any sign -/
/-- the list's object behind a store -/
theorem mapSeq_set (its : List Value) (n j : Nat) (u : Value) : Obj.mapSeq (·.setIfInBounds j u) { cls := .type "list", data := .seq its.toArray n } = { cls := .type "list", data := .seq (its.set j u).toArray n } := by
  simp [Obj.mapSeq]
theorem Inv.lst {pins : List (Addr × Obj)} {σ : St} {H : Hp} {s : Shared} {p : Addr} {xs : List V} (I : Inv X pins σ H s) (h : H p = some (.lst xs)) :
    ∃ (its : List Value) (n : Nat), Vals xs its ∧ s.heap.get? p = some { cls := .type "list", data := .seq its.toArray n } ∧ xs.length ≤ sizeLine := by
  obtain ⟨z, its, n, r, e⟩ := I.hok p _ h
  exact ⟨its, n, r, e, z⟩
/-- the list at p is written by an update of its object -/
theorem Inv.lstUpd {pins : List (Addr × Obj)} {σ : St} {H : Hp} {s : Shared} {p : Addr} {xs ys : List V} {its its' : List Value} {n n' : Nat} {f : Obj → Obj} (I : Inv X pins σ H s) (h : H p = some (.lst xs))
    (ho : s.heap.get? p = some { cls := .type "list", data := .seq its.toArray n }) (hf : f { cls := .type "list", data := .seq its.toArray n } = { cls := .type "list", data := .seq its'.toArray n' }) (r : Vals ys its') (hz : ys.length ≤ sizeLine) (t : Nat) :
    Inv X pins σ (upd H p (.lst ys)) { s with heap := s.heap.update p f, toks := t } := by
  have e : (s.heap.update p f).get? p = some { cls := .type "list", data := .seq its'.toArray n' } := by
    rw [Heap.get?_update_self f ho (by rw [hf] <;> rfl), hf]
  refine I.write (x := p) (e := p) (by rw [h]; trivial) (.inl rfl) (fun b u hb q => (Heap.get?_update_other _ _ (Ne.symm hb)).trans q) ⟨_, e⟩ ?_
  exact ⟨hz, its', n', r, e⟩
def rSetL : V → V → V → Hp → (Hp → Prop) → Prop := fun o i v H Q => ∃ p xs k j, o = .ref p ∧ i = .int k ∧ H p = some (.lst xs) ∧ ixN xs.length k = some j ∧ Q (upd H p (.lst (xs.set j v)))
theorem set_list : PSet X rSetL := by
  intro pins s σ H o i v ov iv u Q I ro ri rv h
  obtain ⟨p, xs, k, j, rfl, rfl, hp, hj, q⟩ := h
  cases ro
  obtain ⟨t, rfl⟩ := ri
  obtain ⟨its, n, r, ho, hz⟩ := I.lst hp
  obtain ⟨h1, h2, h3, h4⟩ := ixN_seq hj
  have hl := r.length
  have hn := line63
  have I' : Inv X pins σ (upd H p (.lst (xs.set j v))) { s with heap := s.heap.update p (Obj.mapSeq (·.setIfInBounds j u)) } :=
    I.lstUpd hp ho (mapSeq_set its n j u) (r.set rv j) (by rw [List.length_set]; exact hz) s.toks
  by_cases h0 : 0 ≤ k
  · have hk : k.toNat = j := by
      rw [seqIndex_of h0 h4] at h1
      exact Option.some.inj h1
    exact PySem.W.ki_setAt ho h0 (by omega) (by rw [List.size_toArray, ← hl]; exact h4) (by rw [hk]; exact ⟨_, I', q⟩)
  · have hk : (k + (its.toArray.size : Int)).toNat = j := by
      rw [seqIndex_neg (by omega) h3] at h1
      rw [List.size_toArray, ← hl]
      exact Option.some.inj h1
    exact PySem.W.ki_setBack ho (by omega) (by rw [List.size_toArray, ← hl]; exact h3) (by omega) (by rw [hk]; exact ⟨_, I', q⟩)

/-! ### slices -/
theorem slice_bounds (lo hi : Option Int) (n : Nat) : (sliceBounds lo hi none n).1 = ((HT.sIx n 0 lo : Nat) : Int) ∧ (sliceBounds lo hi none n).2.1 = ((HT.sIx n n hi : Nat) : Int) ∧ (sliceBounds lo hi none n).2.2 = 1 := by
  refine ⟨?_, ?_, rfl⟩
  · cases lo with
    | none => simp [sliceBounds, HT.sIx]
    | some i =>
      simp only [sliceBounds, HT.sIx, Option.getD_none, show (1 : Int) > 0 by decide, if_true]
      by_cases h : i < 0
      · simp only [h, if_true] <;> omega
      · simp only [h, if_false] <;> omega
  · cases hi with
    | none => simp [sliceBounds, HT.sIx]
    | some i =>
      simp only [sliceBounds, HT.sIx, Option.getD_none, show (1 : Int) > 0 by decide, if_true]
      by_cases h : i < 0
      · simp only [h, if_true] <;> omega
      · simp only [h, if_false] <;> omega
theorem slicePick_cut (its : List Value) (lo hi : Option Int) : slicePick its.toArray lo hi none = ((its.drop (HT.sIx its.length 0 lo)).take (HT.sIx its.length its.length hi - HT.sIx its.length 0 lo)).toArray := by
  obtain ⟨h1, h2, h3⟩ := slice_bounds lo hi its.toArray.size
  unfold slicePick
  rw [h1, h2, h3]
  simp only [sliceRange_one, pick_run, List.size_toArray] <;> rfl
/-- xs[lo:hi] of a list: a new list -/
def rSlL (K : PySem.W.Frag) : V → Option Int → Option Int → Hp → VK → Prop := fun x lo hi H Q => ∃ a xs, x = .ref a ∧ SqL K H a xs ∧ ∀ p, H p = none → Q (.ref p) (upd H p (.lst (cutV xs lo hi)))
theorem sl_list : SlR X (rSlL X.K) := by
  intro pins s σ H x v vl vu lo hi sl Q I rx hs pl pu h
  obtain ⟨a, xs, rfl, hx, q⟩ := h
  cases rx
  obtain ⟨its, r, ht, hz⟩ := I.list hx
  have hlen := r.length
  refine ⟨"list", _, slot_list_getitem.lookup, ht.isList.typeIs, ?_⟩
  refine wpAny_getItem_list_slice ht.isList hs pl pu .none (by simp) ?_ (by rw [List.size_toArray] <;> omega)
  rw [slicePick_cut, ← hlen]
  refine ⟨.ref s.heap.objs.size, _, I.laid (t' := s.toks) (o := .lst (cutV xs lo hi)) (fun b ob q => Heap.get?_push_of_some _ q) (Nat.le_refl _) ?_, rfl, q _ (I.hok.fresh (Nat.le_refl _))⟩
  exact ⟨Nat.le_trans (cutV_length xs lo hi) hz, _, 0, (r.drop (HT.sIx xs.length 0 lo)).take (HT.sIx xs.length xs.length hi - HT.sIx xs.length 0 lo), Heap.get?_push_size _ rfl⟩

/-! ### in, not in: flat items -/
def flatV : V → Bool
  | .non => true
  | .bl _ => true
  | .int _ => true
  | .str _ => true
  | _ => false
/-- == of flat values -/
def eqV : V → V → Bool
  | .non, .non => true
  | .bl a, .bl b => a == b
  | .bl a, .int b => (if a then 1 else 0) == b
  | .int a, .bl b => a == (if b then 1 else 0)
  | .int a, .int b => a == b
  | .str a, .str b => a == b
  | _, _ => false
theorem eqAt_V {A : Around} {s : Shared} {y x : V} {u v : Value} (ry : RelV y u) (rx : RelV x v) (fy : flatV y = true) (fx : flatV x = true) : SeqAt.EqAt A s u v (eqV y x) := by
  cases y with
  | non =>
    cases ry
    cases x with
    | non => cases rx; exact SeqAt.EqAt.same _
    | bl b => cases rx; exact SeqAt.EqAt.none_bool b
    | int b => obtain ⟨t, rfl⟩ := rx; exact SeqAt.EqAt.none_int b t
    | str b => obtain ⟨t, rfl⟩ := rx; exact SeqAt.EqAt.none_str b t
    | _ => exact absurd (show false = true from fx) Bool.false_ne_true
  | bl a =>
    cases ry
    cases x with
    | non => cases rx; exact SeqAt.EqAt.bool_none a
    | bl b => cases rx; exact SeqAt.EqAt.bool_bool a b
    | int b => obtain ⟨t, rfl⟩ := rx; exact SeqAt.EqAt.bool_int a b t
    | str b => obtain ⟨t, rfl⟩ := rx; exact SeqAt.EqAt.bool_str a b t
    | _ => exact absurd (show false = true from fx) Bool.false_ne_true
  | int a =>
    obtain ⟨t', rfl⟩ := ry
    cases x with
    | non => cases rx; exact SeqAt.EqAt.int_none a t'
    | bl b => cases rx; exact SeqAt.EqAt.int_bool a t' b
    | int b => obtain ⟨t, rfl⟩ := rx; exact SeqAt.EqAt.int_int a t' b t
    | str b => obtain ⟨t, rfl⟩ := rx; exact SeqAt.EqAt.int_str a t' b t
    | _ => exact absurd (show false = true from fx) Bool.false_ne_true
  | str a =>
    obtain ⟨t', rfl⟩ := ry
    cases x with
    | non => cases rx; exact SeqAt.EqAt.str_none a t'
    | bl b => cases rx; exact SeqAt.EqAt.str_bool a t' b
    | int b => obtain ⟨t, rfl⟩ := rx; exact SeqAt.EqAt.str_int a t' b t
    | str b => obtain ⟨t, rfl⟩ := rx; exact SeqAt.EqAt.str_str a t' b t
    | _ => exact absurd (show false = true from fx) Bool.false_ne_true
  | _ => exact absurd (show false = true from fy) Bool.false_ne_true
/-- the items' answers, read off the values (a value's own answer does not lean on its token) -/
def eqU (x : V) (u : Value) : Bool := match u with
  | .none => eqV .non x
  | .bool b => eqV (.bl b) x
  | .int i _ => eqV (.int i) x
  | .str z _ => eqV (.str z) x
  | _ => false
theorem eqU_of {x y : V} {u : Value} (r : RelV y u) (f : flatV y = true) : eqU x u = eqV y x := by
  cases y with
  | non => cases r; rfl
  | bl b => cases r; rfl
  | int i => obtain ⟨t, rfl⟩ := r; rfl
  | str z => obtain ⟨t, rfl⟩ := r; rfl
  | _ => exact absurd (show false = true from f) Bool.false_ne_true
theorem any_eqU {x : V} : ∀ {xs : List V} {us : List Value}, Vals xs us → xs.all flatV = true → us.any (eqU x) = xs.any fun y => eqV y x
  | _, _, .nil, _ => rfl
  | y :: xs, u :: us, .cons r t, f => by
    rw [List.all_cons, Bool.and_eq_true] at f
    rw [List.any_cons, List.any_cons, eqU_of r f.1, any_eqU t f.2]
theorem mem_eqAt {A : Around} {s : Shared} {x : V} {v : Value} (rx : RelV x v) (fx : flatV x = true) : ∀ {xs : List V} {us : List Value}, Vals xs us → xs.all flatV = true → ∀ u ∈ us, SeqAt.EqAt A s u v (eqU x u)
  | _, _, .nil, _ => fun u hu => by cases hu
  | y :: xs, u :: us, .cons r t, f => fun u' hu => by
    rw [List.all_cons, Bool.and_eq_true] at f
    rcases List.mem_cons.mp hu with rfl | hu
    · rw [eqU_of r f.1]; exact eqAt_V r rx f.1 fx
    · exact mem_eqAt rx fx t f.2 u' hu
def inV (x : V) (xs : List V) : Bool := xs.any fun y => eqV y x
/-- x in a list or tuple of flat items -/
def rIn (K : PySem.W.Frag) (neg : Bool) : R2 := fun x y H Q => ∃ p xs, y = .ref p ∧ (SqL K H p xs ∨ SqT K H p xs) ∧ flatV x = true ∧ xs.all flatV = true ∧ Q (.bl (if neg then !inV x xs else inV x xs)) H
theorem op_notIn_seq : OpR X (compareOp .NotIn) (rIn X.K true) := by
  intro pins s σ H x y v u Q I rx ry h
  obtain ⟨p, xs, rfl, hq, fx, fs, q⟩ := h
  cases ry
  rcases hq with hq | hq
  · obtain ⟨its, r, pl, hz⟩ := I.list hq
    refine SeqAt.notIn_listAt (eqU x) pl.isList (fun w hw => mem_eqAt rx fx r fs w (by simpa using hw)) ⟨.bl _, H, I, rfl, ?_⟩
    rw [show its.toArray.any (eqU x) = its.any (eqU x) by simp, any_eqU r fs]
    exact q
  · obtain ⟨its, r, pl, hz⟩ := I.tuple hq
    refine SeqAt.notIn_tupleAt (eqU x) pl (fun w hw => mem_eqAt rx fx r fs w (by simpa using hw)) ⟨.bl _, H, I, rfl, ?_⟩
    rw [show its.toArray.any (eqU x) = its.any (eqU x) by simp, any_eqU r fs]
    exact q

/-! ### len, list(x), tuple(x) of any list or tuple that is read -/
theorem call_len_seq : CallR X (.builtin "len") (fun xs H Q => ∃ p ys, xs = [.ref p] ∧ (SqL X.K H p ys ∨ SqT X.K H p ys) ∧ Q (.int ys.length) H) := by
  intro pins s σ H xs us Q I r h
  obtain ⟨p, ys, rfl, hq, q⟩ := h
  obtain ⟨u, rfl, rx⟩ := vals1 r
  cases rx
  have hn := line63
  rcases hq with hq | hq
  · obtain ⟨its, r', pl, hz⟩ := I.list hq
    have hlen := r'.length
    exact Calls.call_len_list pl.isList (by simp only [List.size_toArray] <;> omega) ⟨.int ys.length, H, I.tok _, ⟨s.toks + 1, by rw [List.size_toArray, hlen]⟩, q⟩
  · obtain ⟨its, r', pl, hz⟩ := I.tuple hq
    have hlen := r'.length
    exact len_tuple pl (by simp only [List.size_toArray] <;> omega) ⟨.int ys.length, H, I.tok _, ⟨s.toks + 1, by rw [List.size_toArray, hlen]⟩, q⟩
theorem call_list_of : CallR X (.type "list") (fun xs H Q => ∃ p ys, xs = [.ref p] ∧ (SqL X.K H p ys ∨ SqT X.K H p ys) ∧ ∀ l, H l = none → Q (.ref l) (upd H l (.lst ys))) := by
  intro pins s σ H xs us Q I r h
  obtain ⟨p, ys, rfl, hq, q⟩ := h
  obtain ⟨u, rfl, rx⟩ := vals1 r
  cases rx
  have fin : ∀ (its : List Value), Vals ys its → ys.length ≤ sizeLine → ∀ (h' : Heap) (c' : Nat), (∀ b o', s.heap.get? b = some o' → h'.get? b = some o') →
      h'.get? s.heap.objs.size = some { cls := .type "list", dict := none, data := .seq its.toArray c', slots := #[] } → EP X pins σ Q (.ref s.heap.objs.size) { s with heap := h' } := fun its r' hz h' c' kp e =>
    ⟨.ref s.heap.objs.size, _, I.laid (t' := s.toks) kp (Nat.le_refl _) (show ObjOk X.prog X.w _ h' _ (.lst ys) from ⟨hz, its, c', r', e⟩), rfl, q _ (I.hok.fresh (Nat.le_refl _))⟩
  rcases hq with hq | hq
  · obtain ⟨its, r', pl, hz⟩ := I.list hq
    have hlen := r'.length
    obtain ⟨o, ho, hc, n, hd⟩ := pl.isList
    exact call_list_seq p (.inl rfl) ho hc hd (fun h' c' kp e => fin its r' hz h' c' kp e) (by simp only [List.size_toArray] <;> omega)
  · obtain ⟨its, r', pl, hz⟩ := I.tuple hq
    have hlen := r'.length
    obtain ⟨o, ho, hc, n, hd⟩ := pl
    exact call_list_seq p (.inr rfl) ho hc hd (fun h' c' kp e => fin its r' hz h' c' kp e) (by simp only [List.size_toArray] <;> omega)
theorem call_tuple_of : CallR X (.type "tuple") (fun xs H Q => ∃ p ys, xs = [.ref p] ∧ ((SqL X.K H p ys ∧ ∀ l, H l = none → Q (.ref l) (upd H l (.tup ys))) ∨ (SqT X.K H p ys ∧ Q (.ref p) H))) := by
  intro pins s σ H xs us Q I r h
  obtain ⟨p, ys, rfl, h⟩ := h
  obtain ⟨u, rfl, rx⟩ := vals1 r
  cases rx
  rcases h with ⟨hq, q⟩ | ⟨hq, q⟩
  · obtain ⟨its, r', pl, hz⟩ := I.list hq
    have hlen := r'.length
    refine call_tuple_list pl.isList (fun h' kp => ?_) (by simp only [List.size_toArray] <;> omega)
    have I1 : Inv X pins σ H { s with heap := h' } := I.kept (t' := s.toks) kp
    have I2 : Inv X pins σ (upd H h'.objs.size (.tup ys)) { s with heap := h'.push { cls := .type "tuple", data := .seq its.toArray } } :=
      I1.laid (t' := s.toks) (fun b o e => Heap.get?_push_of_some _ e) (Nat.le_refl _) (show ObjOk X.prog X.w _ _ _ (.tup ys) from ⟨hz, its, r', IsTup.new _ _⟩)
    exact ⟨.ref h'.objs.size, _, I2, rfl, q _ (I1.hok.fresh (Nat.le_refl _))⟩
  · obtain ⟨its, r', pl, hz⟩ := I.tuple hq
    exact call_tuple_same pl ⟨.ref p, H, I, rfl, q⟩

/-! ### the call of a builtin's method: o.m(..) -/
/-- the value is of that builtin type -/
def tyV (K : PySem.W.Frag) (T : String) (x : V) (H : Hp) : Prop := match x with
  | .str _ => T = "str"
  | .int _ => T = "int"
  | .ref p => (T = "list" ∧ ∃ xs, SqL K H p xs) ∨ (T = "tuple" ∧ ∃ o, K.lookup p = some o ∧ o.cls = .type "tuple" ∧ o.dict = none) ∨
      (T = "dict" ∧ ((∃ kvs, H p = some (.dK kvs)) ∨ ∃ kvs, H p = some (.dT kvs))) ∨ (T = "set" ∧ ∃ S n, H p = some (.set S n))
  | _ => False
theorem tyV_is {pins : List (Addr × Obj)} {σ : St} {H : Hp} {s : Shared} {T : String} {x : V} {v : Value} (I : Inv X pins σ H s) (r : RelV x v) (ty : tyV X.K T x H) :
    s.TypeIs v T ∧ ∀ a, v = .ref a → ∃ ob, s.heap.get? a = some ob ∧ ob.dict = none := by
  cases x with
  | str z =>
    obtain ⟨t, rfl⟩ := r
    cases (show T = "str" from ty)
    exact ⟨typeIs_str s z t, fun _ e => nomatch e⟩
  | int i =>
    obtain ⟨t, rfl⟩ := r
    cases (show T = "int" from ty)
    exact ⟨typeIs_int s i t, fun _ e => nomatch e⟩
  | ref p =>
    cases r
    rcases ty with ⟨rfl, xs, hq⟩ | ⟨rfl, o, hk, hc, hd⟩ | ⟨rfl, hk⟩ | ⟨rfl, S, n, hk⟩
    · obtain ⟨its, _, pl, _⟩ := I.list hq
      refine ⟨pl.isList.typeIs, fun a e => ?_⟩
      cases e
      obtain ⟨o, n, e, c, hd, _⟩ := pl
      exact ⟨o, e, hd⟩
    · refine ⟨⟨o, I.kIn p o hk, hc⟩, fun a e => ?_⟩
      cases e
      exact ⟨o, I.kIn _ o hk, hd⟩
    · have z : ∃ o, s.heap.get? p = some o ∧ o.ExactDict := by
        rcases hk with ⟨kvs, hk⟩ | ⟨kvs, hk⟩
        · obtain ⟨_, _, _, _, o, _, _, e, ex, _⟩ := I.hok p _ hk
          exact ⟨o, e, ex⟩
        · obtain ⟨_, _, _, _, o, _, _, e, ex, _⟩ := I.hok p _ hk
          exact ⟨o, e, ex⟩
      obtain ⟨o, e, ex⟩ := z
      refine ⟨⟨o, e, ex.1⟩, fun a e2 => ?_⟩
      cases e2
      exact ⟨o, e, ex.2.1⟩
    · obtain ⟨o, _, _, _, e, ex, _⟩ := I.hok p _ hk
      refine ⟨⟨o, e, ex.1⟩, fun a e2 => ?_⟩
      cases e2
      exact ⟨o, e, ex.2.1⟩
  | _ => exact False.elim ty
def tBM (K : PySem.W.Frag) (T : String) (r : V → List V → Hp → VK → Prop) (to : TE) (t : TA) : TE := fun σ H Q => to σ H fun x H1 => tyV K T x H1 ∧ t σ H1 fun xs H2 => r x xs H2 Q
variable {o e : Expr} {es : List Expr} {to : TE} {t : TA} {name : Str} {apos cpos : Pos} {T id : String} {r : V → List V → Hp → VK → Prop}
theorem pe_bm (pa : PlainAttrs T) (slot : Slot T name id) (hty : typeOf (.builtin id) = pure (.type "method_descriptor")) (hm : MtR X id r) (ho : PE X o to) (ha : PA X (e :: es) t)
    (hbase : attributeBase o name X.env (eval o X.env) = eval o X.env := by rfl)
    (hfew : ((backTo cpos (starEach (e :: es) X.env)).all (fun x => !x.1) && (backToKw cpos (keywordEach [] X.env)).all (fun x => x.1.isSome)
      && decide ((e :: es).length + ([] : List Keyword).length + (if ([] : List Keyword).isEmpty then 0 else 1) < 30)) = true := by rfl)
    (hline : (apos.endLine == cpos.line) = true := by rfl) (hs : starEach (e :: es) X.env = (false, eval e X.env) :: starEach es X.env := by rfl) (hplain : (backTo cpos (starEach es X.env)).any (·.1) = false := by rfl) :
    PE X (.Call (.Attribute o name apos) (e :: es) [] cpos) (tBM X.K T r to t) := by
  intro pins s σ H Q I h
  refine wpAny_Call_method_late hbase hfew hline rfl (thn (ho pins s σ H _ I h) fun v s1 ⟨x, H1, I1, r1, ty, q1⟩ => ?_)
  obtain ⟨h1, h2⟩ := tyV_is I1 r1 ty
  refine ⟨T, id, pa, slot, hty, h1, h2, ?_⟩
  have hA := ha cpos pins s1 σ H1 _ I1 q1
  rw [hs] at hA ⊢
  refine Calls.callWith_builtin (by show (false || (backTo cpos (starEach es X.env)).any (·.1)) = false; rw [hplain] <;> rfl) (Calls.evalArgs_plain ?_)
  exact thn hA fun us s2 ⟨vs, H2, I2, r2, q2⟩ => hm pins s2 σ H2 x vs v us Q I2 r1 r2 q2
/- xs.append(e), list.index on a module's tuple .. are MtR facts of 06m -/
end
end L2

namespace L2
open PySem PySem.Spec PyProof.Rows

def MtM (X : Cx) (id : String) (r : V → List V → Hp → VK → Prop) : Prop :=
  ∀ (pins : List (Addr × Obj)) (s : Shared) (σ : St) (H : Hp) (x : V) (xs : List V) (v : Value) (us : List Value) (Q : VK), Inv X pins σ H s → RelV x v → Vals xs us → r x xs H Q →
    wpAny (model X.prog X.w) X.A (call (.builtin id) (v :: us)) (EP X pins σ Q) X.xe s

/-! ### lists of values -/
theorem Vals.one : ∀ {x : V} {us : List Value}, Vals [x] us → ∃ u, us = [u] ∧ RelV x u
  | _, _, .cons r .nil => ⟨_, rfl, r⟩
theorem Vals.rep {xs : List V} {us : List Value} (h : Vals xs us) : ∀ k : Nat, Vals (List.replicate k xs).flatten (List.replicate k us).flatten
  | 0 => .nil
  | k + 1 => by
    rw [List.replicate_succ, List.replicate_succ, List.flatten_cons, List.flatten_cons]
    exact Vals.append h (Vals.rep h k)
theorem foldl_rep (its : List Value) : ∀ (k : Nat) (acc : List Value),
    List.foldl (fun x1 x2 => x1 ++ x2) acc.toArray (List.replicate k its.toArray) = (acc ++ (List.replicate k its).flatten).toArray
  | 0, acc => by simp
  | k + 1, acc => by
    have e : acc.toArray ++ its.toArray = (acc ++ its).toArray := by simp
    have e2 : (acc ++ its) ++ (List.replicate k its).flatten = acc ++ (List.replicate (k + 1) its).flatten := by
      rw [List.replicate_succ, List.flatten_cons, List.append_assoc]
    rw [← e2, ← foldl_rep its k (acc ++ its), ← e, List.replicate_succ, List.foldl_cons]

section
variable {X : Cx} {pins : List (Addr × Obj)} {σ : St} {H : Hp} {s : Shared} {l b : Addr} {xs ys zs : List V}

/-! ### the two steps: a tracked list is rewritten, a new list is laid -/
theorem Inv.lset {its its' : List Value} {n : Nat} {f : Array Value → Array Value} {t' : Nat} (I : Inv X pins σ H s) (hH : H l = some (.lst xs))
    (e : s.heap.get? l = some { cls := .type "list", data := .seq its.toArray n }) (hf : f its.toArray = its'.toArray) (hv : Vals ys its') (hz : ys.length ≤ sizeLine) :
    Inv X pins σ (upd H l (.lst ys)) { s with heap := s.heap.update l (Obj.mapSeq f), toks := t' } := by
  have q := PySem.IsL.update e f
  rw [hf] at q
  refine I.write (x := l) (e := l) (by rw [hH]; exact trivial) (.inl rfl) (fun b' u hb hu => (Heap.get?_update_other s.heap (Obj.mapSeq f) (Ne.symm hb)).trans hu) ⟨_, q⟩ ?_
  exact ⟨hz, its', _, hv, q⟩
theorem Inv.lnew {its : List Value} {t' : Nat} (I : Inv X pins σ H s) (hv : Vals ys its) (hz : ys.length ≤ sizeLine) :
    Inv X pins σ (upd H s.heap.objs.size (.lst ys)) { s with heap := s.heap.push { cls := .type "list", data := .seq its.toArray }, toks := t' } :=
  I.laid (fun _ _ q => Heap.get?_push_of_some _ q) (Nat.le_refl _) ⟨hz, its, 0, hv, Heap.get?_push_size _ rfl⟩
theorem Inv.fresh (I : Inv X pins σ H s) : H s.heap.objs.size = none := I.hok.fresh (Nat.le_refl _)
theorem Inv.lstM (I : Inv X pins σ H s) (hH : H l = some (.lst xs)) : xs.length ≤ sizeLine ∧ ∃ (its : List Value) (n : Nat), Vals xs its ∧ xs.length = its.length ∧ s.heap.get? l = some { cls := .type "list", data := .seq its.toArray n } := by
  obtain ⟨z, its, n, r, e⟩ := I.hok l _ hH
  exact ⟨z, its, n, r, r.length, e⟩

theorem notLongL {n : Nat} (h : n ≤ sizeLine) : Builtin.List.listTooLong n = false := by
  unfold Builtin.List.listTooLong
  exact decide_eq_false (by omega)
end

section
variable {X : Cx}

/-! ### methods -/
def rAppend : V → List V → Hp → VK → Prop := fun x vs H Q => ∃ l xs y, x = .ref l ∧ vs = [y] ∧ H l = some (.lst xs) ∧ xs.length < sizeLine ∧ Q .non (upd H l (.lst (xs ++ [y])))
theorem mt_append : MtM X "list.append" rAppend := by
  intro pins s σ H x vs v us Q I rx rv h
  obtain ⟨l, xs, y, rfl, rfl, hH, hz, q⟩ := h
  cases rx
  obtain ⟨u, rfl, ru⟩ := rv.one
  obtain ⟨z, its, n, r, hl, e⟩ := I.lstM hH
  refine call_meets F.slot_list_append ⟨_, e, rfl⟩ F.entry_list_append (F.args_list_append_2 _ _) (PySem.list_append l its.toArray n u (by rw [List.size_toArray]; omega)) ⟨e, ?_⟩
  refine ⟨.non, _, I.lset (its' := its ++ [u]) hH e (by simp) (r.append (.cons ru .nil)) ?_, rfl, q⟩
  rw [List.length_append, List.length_singleton]
  omega

def rExtend : V → List V → Hp → VK → Prop := fun x vs H Q => ∃ l b xs zs, x = .ref l ∧ vs = [.ref b] ∧ H l = some (.lst xs) ∧ H b = some (.lst zs) ∧ xs.length + zs.length ≤ sizeLine ∧ Q .non (upd H l (.lst (xs ++ zs)))
theorem mt_extend : MtM X "list.extend" rExtend := by
  intro pins s σ H x vs v us Q I rx rv h
  obtain ⟨l, b, xs, zs, rfl, rfl, hH, hB, hz, q⟩ := h
  cases rx
  obtain ⟨u, rfl, ru⟩ := rv.one
  cases ru
  obtain ⟨z, its, n, r, hl, e⟩ := I.lstM hH
  obtain ⟨z2, its2, n2, r2, hl2, e2⟩ := I.lstM hB
  have hsz : its.toArray.size + its2.toArray.size ≤ sizeLine := by rw [List.size_toArray, List.size_toArray]; omega
  have hlong : ¬ (!its.toArray.isEmpty && Builtin.List.listTooLong (its.toArray.size + its2.toArray.size)) = true := by
    rw [notLongL hsz, Bool.and_false]
    exact Bool.false_ne_true
  refine call_meets F.slot_list_extend ⟨_, e, rfl⟩ F.entry_list_extend (F.args_list_extend_2 _ _)
    (AutoSeq1.list_extend_list_list_0 l its.toArray n b its2.toArray n2 hlong (by rw [List.size_toArray]; omega) (by omega)) ⟨e, e2, ?_⟩
  refine ⟨.non, _, I.lset (its' := its ++ its2) hH e (by simp) (r.append r2) ?_, rfl, q⟩
  rw [List.length_append]
  omega

/-! ### list + list, list += list, list * int -/
def rCat : R2 := fun x y H Q => ∃ l b xs zs, x = .ref l ∧ y = .ref b ∧ H l = some (.lst xs) ∧ H b = some (.lst zs) ∧ xs.length + zs.length ≤ sizeLine ∧ ∀ p, H p = none → Q (.ref p) (upd H p (.lst (xs ++ zs)))
theorem op_cat : OpR X (binaryOp .Add) rCat := by
  intro pins s σ H x y v u Q I rx ry h
  obtain ⟨l, b, xs, zs, rfl, rfl, hH, hB, hz, q⟩ := h
  cases rx
  cases ry
  obtain ⟨z, its, n, r, hl, e⟩ := I.lstM hH
  obtain ⟨z2, its2, n2, r2, hl2, e2⟩ := I.lstM hB
  refine PySem.P.add_list e e2 ?_ (by rw [List.size_toArray, List.size_toArray]; omega)
  have ea : its.toArray ++ its2.toArray = (its ++ its2).toArray := by simp
  rw [ea]
  exact ⟨.ref _, _, I.lnew (t' := s.toks) (r.append r2) (by rw [List.length_append]; omega), rfl, q _ I.fresh⟩
/-- a list times an int (a negative one is nothing) -/
def rRep : R2 := fun x y H Q => ∃ l k xs, x = .ref l ∧ y = .int k ∧ H l = some (.lst xs) ∧ -(2 ^ 63) ≤ k ∧ k < 2 ^ 63 ∧ xs.length * k.toNat ≤ sizeLine ∧
  ∀ p, H p = none → Q (.ref p) (upd H p (.lst (List.replicate k.toNat xs).flatten))
theorem len_rep {α : Type} (xs : List α) (k : Nat) : (List.replicate k xs).flatten.length = k * xs.length := by
  induction k with
  | zero => simp
  | succ k ih => rw [List.replicate_succ, List.flatten_cons, List.length_append, ih, Nat.succ_mul, Nat.add_comm]
theorem op_rep : OpR X (binaryOp .Mult) rRep := by
  intro pins s σ H x y v u Q I rx ry h
  obtain ⟨l, k, xs, rfl, rfl, hH, h1, h2, hz, q⟩ := h
  cases rx
  obtain ⟨t, rfl⟩ := ry
  obtain ⟨z, its, n, r, hl, e⟩ := I.lstM hH
  have hlen : its.toArray.size * k.toNat ≤ sizeLine := by rw [List.size_toArray, ← hl]; exact hz
  have hcap : ¬ its.toArray.size * k.toNat > (2 ^ 63 - 1) / 8 := by
    have : (sizeLine : Nat) ≤ (2 ^ 63 - 1) / 8 := by decide
    omega
  have hfit : ¬ (!Builtin.List.listFitsIndex k) = true := by
    rw [fitsIndex_both h1 h2]
    exact Bool.false_ne_true
  have hlong : ¬ Builtin.List.listTooLong (its.toArray.size * k.toNat) = true := by
    rw [notLongL hlen]
    exact Bool.false_ne_true
  have hnew : List.foldl (fun x1 x2 => x1 ++ x2) #[] (List.replicate (if its.toArray.isEmpty = true then 0 else k.toNat) its.toArray) = (List.replicate k.toNat its).flatten.toArray := by
    have f0 : ∀ m : Nat, List.foldl (fun x1 x2 => x1 ++ x2) #[] (List.replicate m its.toArray) = (List.replicate m its).flatten.toArray := fun m => by
      have := foldl_rep its m []
      rw [List.nil_append] at this
      exact this
    rw [f0]
    cases its with
    | nil => simp
    | cons a r' => rw [if_neg (by simp)]
  refine wpAny_binaryOp_repeat_ref (T := "list") (U := "int") (by decide) ⟨_, e, rfl⟩ (fun s' => typeIs_int s' k t) noFill_list_mul F.fills_int_mul F.slot_int_rmul repeat_list F.slot_int_index.lookup
    (call_meets F.slot_int_rmul (typeIs_int s k t) F.entry_int_rmul (F.args_int_rmul_2 _ _) (int___rmul___int_list k t l its.toArray n)
      ⟨e, rfl, ⟨_, e, rfl⟩, call_meets F.slot_list_mul ⟨_, e, rfl⟩ F.entry_list_mul (F.args_list_mul_2 _ _) (AutoListH.list___mul___list_int_3 l its.toArray n k t hfit hcap hlong) ⟨e, ?_⟩⟩)
  rw [hnew]
  exact ⟨.ref _, _, I.lnew (t' := s.toks) (r.rep k.toNat) (by rw [len_rep, Nat.mul_comm]; exact hz), rfl, q _ I.fresh⟩

/-! ### del xs[i] -/
end

/-! ### xs[a:b] = ys -/

end L2

namespace L2
open PySem PySem.Spec PyProof.Rows

/-! ### the library's walks over a list of ints, kept objects alone -/

/-! ### the calls, by values (CallR of 03t; MtR of 06l) -/
section
variable {X : Cx}

/-! sorted, sort (fewer than 64 items: the library's own bound) -/
end

/-! ### list.index, flat items -/

/-! ### type(x) of an own instance; is, is not of a module's class -/

/-! ### any(xs), all(xs) of a list of bools -/

/-! ### == and != of data at any depth: none, bools, ints, texts, lists, tuples -/
end L2

namespace L2
open PySem PySem.Spec PyProof.Rows
abbrev CellAt (h : Heap) (c : Addr) (v : Option Value) : Prop := h.IsCell c v
def relS (scope sc : Scope) : Scope :=
  { scope with names := scope.names.map fun (n, k) => if (k == .free && sc.kind == .function && sc.names.lookup n == some .cell) then (n, .cell) else (n, k) }

def cloFrom (cells : List (Str × Addr)) : List (Str × NameKind) → List (Str × Addr) → List (Str × Addr)
  | [], acc => acc
  | (n, k) :: r, acc => if k == .free then cloFrom cells r ((n, (cells.lookup n).getD 0) :: acc) else cloFrom cells r acc

theorem closure_loop (env : Env) (f : Str × NameKind → List (Str × Addr) → Sem (ForInStep (List (Str × Addr))))
    (hf : ∀ n k c, f (n, k) c = if k == .free then (do let a ← cellOf env n; pure (.yield ((n, a) :: c))) else pure (.yield c)) :
    ∀ (names : List (Str × NameKind)) (acc : List (Str × Addr)), (∀ y ∈ names, y.2 = .free → ∃ c, env.cells.lookup y.1 = some c) → forIn names acc f = pure (cloFrom env.cells names acc)
  | [], acc, _ => by rw [List.forIn_nil]; rfl
  | (n, k) :: r, acc, h => by
    rw [List.forIn_cons, hf]
    have ih := fun acc => closure_loop env f hf r acc fun y hy => h y (List.mem_cons_of_mem _ hy)
    unfold cloFrom
    by_cases hk : (k == NameKind.free) = true
    · rw [if_pos hk, if_pos hk]
      obtain ⟨c, hc⟩ := h (n, k) List.mem_cons_self (by simpa using hk)
      have e : cellOf env n = pure c := by unfold cellOf; rw [hc]
      rw [e]
      have e2 : (env.cells.lookup n).getD 0 = c := by rw [hc]; rfl
      rw [e2]
      exact ih _
    · rw [if_neg hk, if_neg hk]
      exact ih _
theorem closure_ok {scope : Scope} {env : Env} (h : ∀ y ∈ scope.names, y.2 = .free → ∃ c, env.cells.lookup y.1 = some c) : closureFor scope env = pure (cloFrom env.cells scope.names []) := by
  simp only [closureFor]
  rw [closure_loop env _ (fun n k c => rfl) scope.names [] h]
  rfl

theorem mem_lookup {α : Type} : ∀ {l : List (Str × α)} {n : Str} {c : α}, (n, c) ∈ l → ∃ c', l.lookup n = some c'
  | (k, v) :: r, n, c, h => by
    rw [List.lookup_cons]
    cases hb : n == k with
    | true => exact ⟨_, rfl⟩
    | false =>
      rcases List.mem_cons.mp h with e | h
      · cases e; simp at hb
      · exact mem_lookup h

theorem cloFrom_mem {cells : List (Str × Addr)} : ∀ {names : List (Str × NameKind)} {acc : List (Str × Addr)} {n : Str} {c : Addr}, (n, c) ∈ cloFrom cells names acc → (n, c) ∈ acc ∨ ((n, .free) ∈ names ∧ c = (cells.lookup n).getD 0)
  | [], _, _, _, h => .inl h
  | (m, k) :: r, acc, n, c, h => by
    unfold cloFrom at h
    split at h
    · rename_i hk
      have hk : k = .free := by simpa using hk
      rcases cloFrom_mem h with h | ⟨h1, h2⟩
      · rcases List.mem_cons.mp h with e | h
        · cases e; exact .inr ⟨hk ▸ List.mem_cons_self, rfl⟩
        · exact .inl h
      · exact .inr ⟨List.mem_cons_of_mem _ h1, h2⟩
    · rcases cloFrom_mem h with h | ⟨h1, h2⟩
      · exact .inl h
      · exact .inr ⟨List.mem_cons_of_mem _ h1, h2⟩
theorem cloFrom_acc {cells : List (Str × Addr)} : ∀ {names : List (Str × NameKind)} {acc : List (Str × Addr)} {p : Str × Addr}, p ∈ acc → p ∈ cloFrom cells names acc
  | [], _, _, h => h
  | (m, k) :: r, acc, p, h => by
    unfold cloFrom
    split
    · exact cloFrom_acc (List.mem_cons_of_mem _ h)
    · exact cloFrom_acc h
theorem cloFrom_has {cells : List (Str × Addr)} : ∀ {names : List (Str × NameKind)} {acc : List (Str × Addr)} {n : Str}, (n, .free) ∈ names → (n, (cells.lookup n).getD 0) ∈ cloFrom cells names acc
  | (m, k) :: r, acc, n, h => by
    unfold cloFrom
    rcases List.mem_cons.mp h with e | h
    · cases e
      exact cloFrom_acc List.mem_cons_self
    · split
      · exact cloFrom_has h
      · exact cloFrom_has h

theorem cells_mem : ∀ {names : List (Str × NameKind)} {h : Heap} {acc : List (Str × Addr)} {x : Str} {c : Addr}, (x, c) ∈ cellsFrom h.objs.size names acc →
    (x, c) ∈ acc ∨ ((x, .cell) ∈ names ∧ h.objs.size ≤ c ∧ CellAt (pushCells h names) c none)
  | [], _, _, _, _, h => .inl h
  | (n, k) :: r, h, acc, x, c, hm => by
    unfold cellsFrom at hm
    unfold pushCells
    split at hm
    · rename_i hk
      rw [if_pos hk]
      have hk : k = .cell := by simpa using hk
      rw [← Heap.size_push h { cls := .type "cell", data := .cell none }] at hm
      rcases cells_mem hm with hm | ⟨h1, h2, h3⟩
      · rcases List.mem_cons.mp hm with e | hm
        · cases e
          exact .inr ⟨hk ▸ List.mem_cons_self, Nat.le_refl _, _, pushCells_keeps r _ _ _ (Heap.get?_push_size _ rfl), rfl⟩
        · exact .inl hm
      · rw [Heap.size_push] at h2
        exact .inr ⟨List.mem_cons_of_mem _ h1, Nat.le_of_succ_le h2, h3⟩
    · rename_i hk
      rw [if_neg hk]
      rcases cells_mem hm with hm | ⟨h1, h2, h3⟩
      · exact .inl hm
      · exact .inr ⟨List.mem_cons_of_mem _ h1, h2, h3⟩
theorem cells_acc : ∀ {names : List (Str × NameKind)} {n : Nat} {acc : List (Str × Addr)} {p : Str × Addr}, p ∈ acc → p ∈ cellsFrom n names acc
  | [], _, _, _, h => h
  | (m, k) :: r, n, acc, p, h => by
    unfold cellsFrom
    split
    · exact cells_acc (List.mem_cons_of_mem _ h)
    · exact cells_acc h
theorem cells_has : ∀ {names : List (Str × NameKind)} {n : Nat} {acc : List (Str × Addr)} {x : Str}, (x, .cell) ∈ names → ∃ c, (x, c) ∈ cellsFrom n names acc
  | (m, k) :: r, n, acc, x, h => by
    unfold cellsFrom
    rcases List.mem_cons.mp h with e | h
    · cases e
      exact ⟨n, cells_acc List.mem_cons_self⟩
    · split
      · exact cells_has h
      · exact cells_has h
theorem cells_inj : ∀ {names : List (Str × NameKind)} {h : Heap} {acc : List (Str × Addr)} {x y : Str} {c : Addr}, (∀ p ∈ acc, p.2 < h.objs.size) → (∀ x y c, (x, c) ∈ acc → (y, c) ∈ acc → x = y) →
    (x, c) ∈ cellsFrom h.objs.size names acc → (y, c) ∈ cellsFrom h.objs.size names acc → x = y
  | [], _, _, _, _, _, _, hi, h1, h2 => hi _ _ _ h1 h2
  | (n, k) :: r, h, acc, x, y, c, hl, hi, h1, h2 => by
    unfold cellsFrom at h1 h2
    split at h1
    · rename_i hk
      rw [if_pos hk] at h2
      rw [← Heap.size_push h { cls := .type "cell", data := .cell none }] at h1 h2
      refine cells_inj (h := h.push _) (fun p hp => ?_) (fun x y c a b => ?_) h1 h2
      · rw [Heap.size_push]
        rcases List.mem_cons.mp hp with rfl | hp
        · exact Nat.lt_succ_self _
        · exact Nat.lt_succ_of_lt (hl p hp)
      · rcases List.mem_cons.mp a with e | a <;> rcases List.mem_cons.mp b with e' | b
        · cases e; cases e'; rfl
        · cases e; exact absurd (hl _ b) (Nat.lt_irrefl _)
        · cases e'; exact absurd (hl _ a) (Nat.lt_irrefl _)
        · exact hi _ _ _ a b
    · rename_i hk
      rw [if_neg hk] at h2
      exact cells_inj hl hi h1 h2

theorem newEnv_comp {M : Model} {A : Around} {E : Value → Shared → Prop} {s : Shared} {scope : Scope} {globals : Addr} {closure : List (Str × Addr)} {qual : Str} {func : Option Addr} {code : Value} {around : Env} {builtins : Addr} {Q : Env → Shared → Prop}
    (h : Q (newEnv scope s.heap.objs.size globals (cellsFrom (s.heap.objs.size + 1) scope.names closure) qual func code (some around) builtins)
      { s with heap := pushCells (s.heap.push { cls := .type "dict", data := .dict #[] }) scope.names }) :
    wpAny M A (newFunctionEnv scope globals closure [] qual func code (some around) builtins) Q E s := by
  simp only [newFunctionEnv, Option.isSome_some, if_true]
  refine wpAny_bind (wpAny_alloc ?_)
  refine wpAny_bind (wpAny_layCells _ (fun n k c => rfl) scope.names closure _ _ ?_)
  rw [show ({ s with heap := s.heap.push { cls := .type "dict", data := .dict #[] } } : Shared).heap.objs.size = s.heap.objs.size + 1 from Heap.size_push ..]
  rw [List.forIn_nil]
  exact wpAny_bind (wpAny_pure (wpAny_pure h))

/-- every name of the written scope, in the scope that runs -/
theorem lookup_relS {sc : Scope} : ∀ {names : List (Str × NameKind)} {x : Str} {k : NameKind},
    (names.map fun (n, k) => if (k == NameKind.free && sc.kind == .function && sc.names.lookup n == some .cell) then (n, NameKind.cell) else (n, k)).lookup x = some k →
    ∃ k', names.lookup x = some k' ∧ (k = k' ∨ (k' = .free ∧ k = .cell))
  | [], _, _, h => by simp at h
  | (n, k₀) :: r, x, k, h => by
    have ih := @lookup_relS sc r x k
    have h' : List.lookup x ((if (k₀ == NameKind.free && sc.kind == .function && sc.names.lookup n == some .cell) = true then (n, NameKind.cell) else (n, k₀)) :: (r.map _)) = some k := h
    cases hx : x == n with
    | true =>
      simp only [List.lookup_cons, hx]
      by_cases hc : (k₀ == NameKind.free && sc.kind == .function && sc.names.lookup n == some .cell) = true
      · rw [if_pos hc] at h'
        simp only [List.lookup_cons, hx] at h'
        cases h'
        simp only [Bool.and_eq_true, beq_iff_eq] at hc
        exact ⟨k₀, rfl, .inr ⟨hc.1.1, rfl⟩⟩
      · rw [if_neg hc] at h'
        simp only [List.lookup_cons, hx] at h'
        cases h'
        exact ⟨_, rfl, .inl rfl⟩
    | false =>
      simp only [List.lookup_cons, hx]
      by_cases hc : (k₀ == NameKind.free && sc.kind == .function && sc.names.lookup n == some .cell) = true
      · rw [if_pos hc] at h'
        simp only [List.lookup_cons, hx] at h'
        exact ih h'
      · rw [if_neg hc] at h'
        simp only [List.lookup_cons, hx] at h'
        exact ih h'

/-- the names of a comprehension's block: its own (with their places in N), or captured -/
structure BlkOk (N : List Str) (sc scope : Scope) (own : List (Str × Nat)) : Prop where
  kind : scope.kind = .function
  uniq : ∀ y ∈ scope.names, scope.names.lookup y.1 = some y.2
  ix : ∀ p ∈ own, N[p.2]? = some p.1
  free : ∀ y ∈ scope.names, y.2 = .free → sc.names.lookup y.1 = some .cell ∨ sc.names.lookup y.1 = some .free
  own : ∀ y ∈ scope.names, y.2 = .local ∨ y.2 = .cell → y.1 ∈ own.map (·.1) ∨ y.1 ∉ N
/-- the slots of the block's own names forgotten -/
def wipe (σ : St) : List Nat → St
  | [] => σ
  | v :: vs => (wipe σ vs).set v none
theorem wipe_length (σ : St) : ∀ vs : List Nat, (wipe σ vs).length = σ.length
  | [] => rfl
  | v :: vs => by unfold wipe; rw [List.length_set, wipe_length σ vs]
theorem wipe_some {σ : St} {i : Nat} {x : V} : ∀ {vs : List Nat}, (wipe σ vs)[i]? = some (some x) → σ[i]? = some (some x) ∧ i ∉ vs
  | [], h => ⟨h, by simp⟩
  | v :: vs, h => by
    unfold wipe at h
    by_cases hi : v = i
    · subst hi
      by_cases hv : v < (wipe σ vs).length
      · rw [List.getElem?_set_self hv] at h; cases h
      · rw [List.getElem?_eq_none (by simpa using hv)] at h; cases h
    · rw [List.getElem?_set_ne hi] at h
      obtain ⟨h1, h2⟩ := wipe_some h
      exact ⟨h1, by simp only [List.mem_cons, not_or]; exact ⟨fun e => hi e.symm, h2⟩⟩

/-- the context of a block that starts at s, its iterator's objects at fp -/
abbrev Cx.blk (X : Cx) (s : Shared) (H : Hp) (scope : Scope) (cenv : Env) (fp : List Addr) : Cx := { X with s_0 := s, H_0 := H, env := cenv, outer := X.stack, ex := fp, fn := fun x => scope.names.lookup x == some .cell, pn := [], xe := fun _ _ => False }
section
variable {X : Cx} {pins : List (Addr × Obj)} {σ : St} {H : Hp} {s : Shared}
theorem block_start {scope : Scope} {own : List (Str × Nat)} {fp : List Addr} (I : Inv X pins σ H s) (ok : BlkOk X.N X.env.scope scope own) (hN : X.N.Nodup) (hfp : ∀ b ∈ fp, FpOk X pins H b ∧ b < s.heap.objs.size) :
    Inv (X.blk s H scope (compEnvC scope (cellsFrom (s.heap.objs.size + 1) scope.names (cloFrom X.env.cells scope.names [])) s.heap.objs.size X.env) fp) [] (wipe σ (own.map (·.2))) H { s with heap := pushCells (s.heap.push { cls := .type "dict", data := .dict #[] }) scope.names } := by
  have hfree : ∀ y ∈ scope.names, y.2 = .free → ∃ c, X.env.cells.lookup y.1 = some c := fun y hy e => by
    rcases ok.free y hy e with k | k
    · exact I.ok.has _ (.inl k)
    · exact I.ok.has _ (.inr k)
  generalize hcenv : compEnvC scope (cellsFrom (s.heap.objs.size + 1) scope.names (cloFrom X.env.cells scope.names [])) s.heap.objs.size X.env = cenv
  have kp : ∀ b o, s.heap.get? b = some o → (pushCells (s.heap.push { cls := .type "dict", data := .dict #[] }) scope.names).get? b = some o := fun b o e => pushCells_keeps _ _ _ _ (Heap.get?_push_of_some _ e)
  have hL : cenv.locals = s.heap.objs.size := by rw [← hcenv]; rfl
  have hcl : cenv.cells = cellsFrom (s.heap.objs.size + 1) scope.names (cloFrom X.env.cells scope.names []) := by rw [← hcenv]; rfl
  have hsc : cenv.scope = relS scope X.env.scope := by rw [← hcenv]; rfl
  rw [← Heap.size_push s.heap { cls := .type "dict", data := .dict #[] }] at hcl
  have cm : ∀ {y c}, (y, c) ∈ cloFrom X.env.cells scope.names [] → X.env.cells.lookup y = some c ∧ c < s.heap.objs.size := fun {y c} hm => by
    rcases cloFrom_mem hm with hm | ⟨h1, rfl⟩
    · cases hm
    · obtain ⟨c, hc⟩ := hfree _ h1 rfl
      rw [hc]
      obtain ⟨w, z⟩ := I.cell _ _ hc
      exact ⟨rfl, z.lt⟩
  have mem : ∀ {y c}, cenv.cells.lookup y = some c → (X.env.cells.lookup y = some c ∧ c < s.heap.objs.size) ∨ (s.heap.objs.size + 1 ≤ c ∧ CellAt (pushCells (s.heap.push { cls := .type "dict", data := .dict #[] }) scope.names) c none) := fun {y c} e => by
    rw [hcl] at e
    rcases cells_mem (PySem.mem_of_lookup e) with hm | ⟨_, h2, h3⟩
    · exact .inl (cm hm)
    · rw [Heap.size_push] at h2; exact .inr ⟨h2, h3⟩
  have look : ∀ {y}, scope.names.lookup y = some .free → ∃ c, cenv.cells.lookup y = some c ∧ X.env.cells.lookup y = some c := fun {y} hl => by
    have hy : (y, NameKind.free) ∈ scope.names := PySem.mem_of_lookup hl
    obtain ⟨c', e'⟩ := mem_lookup (cells_acc (names := scope.names) (n := (s.heap.push { cls := .type "dict", data := .dict #[] }).objs.size) (cloFrom_has (cells := X.env.cells) (acc := []) hy))
    rw [← hcl] at e'
    refine ⟨c', e', ?_⟩
    rw [hcl] at e'
    rcases cells_mem (PySem.mem_of_lookup e') with hm | ⟨h1, _, _⟩
    · exact (cm hm).1
    · have := ok.uniq _ h1
      rw [hl] at this; cases this
  have okB : (X.blk s H scope cenv fp).Ok := by
    refine ⟨I.ok.mod, by show cenv.scope.kind = _; rw [hsc]; exact ok.kind, by show cenv.globals = _; rw [← hcenv]; exact I.ok.glob, by show cenv.builtins = _; rw [← hcenv]; exact I.ok.blt, by show s.heap.objs.size ≤ cenv.locals; rw [hL]; exact Nat.le_refl _,
      fun y z c e1 e2 => ?_, fun y hy => ?_, fun y c z e => ?_, I.ok.hd, I.ok.frames, .inl rfl, fun b hb => ⟨?_, fun y c e z => ?_⟩, I.bs, Nat.le_trans I.ok.bsz I.sz, fun b o e hb => ?_, fun b hb z => ?_, I.stack, I.stkFree⟩
    · have e1 : cenv.cells.lookup y = some c := e1
      have e2 : cenv.cells.lookup z = some c := e2
      rw [hcl] at e1 e2
      refine cells_inj (fun p hp => ?_) (fun y z c a b => I.ok.inj y z c (cm a).1 (cm b).1) (PySem.mem_of_lookup e1) (PySem.mem_of_lookup e2)
      rw [Heap.size_push]
      exact Nat.lt_succ_of_lt (cm (y := p.1) (c := p.2) hp).2
    · show ∃ c, cenv.cells.lookup y = some c
      have key : ∀ k, cenv.kindOf y = some k → (k = .cell ∨ k = .free) → ∃ c, cenv.cells.lookup y = some c := fun k hk hk' => by
        unfold Env.kindOf at hk
        rw [hsc] at hk
        obtain ⟨k', e, r⟩ := lookup_relS hk
        have : k' = .cell ∨ k' = .free := by
          rcases r with rfl | ⟨rfl, _⟩
          · exact hk'
          · exact .inr rfl
        rcases this with rfl | rfl
        · obtain ⟨c, hm⟩ := cells_has (n := (s.heap.push { cls := .type "dict", data := .dict #[] }).objs.size) (acc := cloFrom X.env.cells scope.names []) (PySem.mem_of_lookup e)
          obtain ⟨c', e'⟩ := mem_lookup hm
          exact ⟨c', by rw [hcl]; exact e'⟩
        · obtain ⟨c, h1, _⟩ := look e
          exact ⟨c, h1⟩
      rcases hy with hy | hy
      · exact key _ hy (.inl rfl)
      · exact key _ hy (.inr rfl)
    · have z : (scope.names.lookup y == some NameKind.cell) = true := z
      have z : scope.names.lookup y = some .cell := by simpa using z
      have e : cenv.cells.lookup y = some c := e
      rw [hcl] at e
      rcases cells_mem (PySem.mem_of_lookup e) with hm | ⟨_, h2, _⟩
      · rcases cloFrom_mem hm with hm | ⟨h1, _⟩
        · cases hm
        · have q := ok.uniq _ h1
          rw [z] at q; cases q
      · rw [Heap.size_push] at h2
        exact Nat.le_of_succ_le h2
    · show b ≠ cenv.locals
      rw [hL]; exact Nat.ne_of_lt (hfp b hb).2
    · have e : cenv.cells.lookup y = some c := e
      rcases mem e with ⟨h1, _⟩ | ⟨h1, _⟩
      · exact (hfp b hb).1.2.2.2.2.1 y c h1 z
      · have h2 : s.heap.objs.size + 1 ≤ b := by rw [← z]; exact h1
        exact absurd (Nat.lt_of_lt_of_le (hfp b hb).2 (Nat.le_of_succ_le h2)) (Nat.lt_irrefl _)
    · rcases (hfp b hb).1.2.2.2.1 with z | z
      · exact I.ok.noex b o e z
      · exact absurd (Nat.lt_of_lt_of_le (Heap.lt_size e) (Nat.le_trans I.ok.bsz z)) (Nat.lt_irrefl _)
    · rcases List.mem_cons.mp (I.stkSub b z) with z | z
      · exact (hfp b hb).1.2.1 z
      · exact (hfp b hb).1.2.2.1 z
  refine ⟨okB, rfl, I.bare, Un.kept kp, ⟨fun _ => none, ?_, fun i y av e1 e2 e3 => ?_⟩, fun y c e => ?_, ?_, fun y c e => ?_, fun p hp => ?_, I.hok.kept kp, by rw [wipe_length]; exact I.len⟩
  · show Heap.Ns _ cenv.locals _
    rw [hL]
    exact Heap.Ns.keeps (Heap.Ns.new ..) fun b o e => pushCells_keeps _ _ _ _ e
  · obtain ⟨e2, hne⟩ := wipe_some e2
    have hfr : scope.names.lookup y = some .free ∧ (cenv.kindOf y = some .cell ∨ cenv.kindOf y = some .free) := by
      have key : ∀ k, cenv.scope.names.lookup y = some k → k = .local ∨ k = .cell ∨ k = .free → scope.names.lookup y = some .free ∧ (cenv.kindOf y = some .cell ∨ cenv.kindOf y = some .free) := fun k hk hk' => by
        have hk0 := hk
        rw [hsc] at hk
        obtain ⟨k', e, r⟩ := lookup_relS hk
        have no : ¬ (k' = .local ∨ k' = .cell) := fun hh => by
          rcases ok.own _ (PySem.mem_of_lookup e) hh with e' | e'
          · obtain ⟨p, hp, hpy⟩ := List.mem_map.mp e'
            have e3 := ok.ix p hp
            have : p.1 = y := hpy
            rw [this] at e3
            exact hne (List.mem_map.mpr ⟨p, hp, nodup_ix hN e3 e1⟩)
          · exact e' (List.mem_of_getElem? e1)
        rcases r with rfl | ⟨rfl, rfl⟩
        · rcases hk' with rfl | rfl | rfl
          · exact absurd (.inl rfl) no
          · exact absurd (.inr rfl) no
          · exact ⟨e, .inr hk0⟩
        · exact ⟨e, .inl hk0⟩
      have e3 : Vis cenv.scope y := e3
      rcases e3 with e3 | e3 | e3
      · exact key _ e3 (.inl rfl)
      · exact key _ e3 (.inr (.inl rfl))
      · exact key _ e3 (.inr (.inr rfl))
    obtain ⟨m, hn, hl⟩ := I.loc
    have hvis : Vis X.env.scope y := (ok.free _ (PySem.mem_of_lookup hfr.1) rfl).elim (fun k => .inr (.inl k)) (fun k => .inr (.inr k))
    obtain ⟨w, r, q⟩ := hl i y av e1 e2 hvis
    refine ⟨w, r, .inr ⟨hfr.2, ?_⟩⟩
    obtain ⟨c, h1, h2⟩ := look hfr.1
    rcases q with ⟨k, _⟩ | ⟨_, c', e', z⟩
    · have k : X.env.scope.names.lookup y = some .local := k
      rcases ok.free _ (PySem.mem_of_lookup hfr.1) rfl with k' | k' <;> rw [show X.env.scope.names.lookup y = _ from k'] at k <;> cases k
    · rw [h2] at e'; cases e'
      exact ⟨c, h1, z.keeps kp⟩
  · have e : cenv.cells.lookup y = some c := e
    rcases mem e with ⟨h1, _⟩ | ⟨_, z⟩
    · obtain ⟨w, z⟩ := I.cell y c h1
      exact ⟨w, z.keeps kp⟩
    · exact ⟨_, z⟩
  · show H cenv.locals = none
    rw [hL]; exact I.hok.fresh (Nat.le_refl _)
  · have e : cenv.cells.lookup y = some c := e
    rcases mem e with ⟨h1, _⟩ | ⟨h1, _⟩
    · exact I.freeC y c h1
    · exact I.hok.fresh (Nat.le_of_succ_le h1)
  · exact absurd (show p ∈ ([] : List (Addr × Obj)) ++ [] from hp) (by simp)

/-- an item appended to a tracked list -/
theorem app_ok {E : Value → Shared → Prop} {D : Addr} {xs : List V} {y : V} {v : Value} {Q : Value → Shared → Prop} (I : Inv X pins σ H s) (hD : H D = some (.lst xs)) (hz : xs.length < sizeLine) (r : RelV y v)
    (h : ∀ s', Inv X pins σ (upd H D (.lst (xs ++ [y]))) s' → Q .none s') : wpAny (model X.prog X.w) X.A (call (.builtin "list.append") [.ref D, v]) Q E s := by
  obtain ⟨hz', its, n, ri, e⟩ := I.hok D _ hD
  have hl := ri.length
  refine append_at (hsz := by rw [List.size_toArray]; omega) e fun h' sb ho' => ?_
  refine h { s with heap := h' } (I.write (t' := s.toks) (by rw [hD]; trivial) (.inl rfl) (fun b u hb q => (sb.2 b hb).trans q) ⟨_, ho'⟩ ⟨by rw [List.length_append]; exact hz, its ++ [v], n + 1, ri.append (.cons r .nil), ?_⟩)
  rw [ho']
  simp

/-- a clause's tests -/
def PTs (X : Cx) (ifs : List Expr) (t : TT) : Prop :=
  ∀ (pins : List (Addr × Obj)) (s : Shared) (σ : St) (H : Hp) (Q : Bool → Hp → Prop), Inv X pins σ H s → t σ H Q →
    wpAny (model X.prog X.w) X.A (forIn ifs true fun c r => if r = true then do let ok ← isTrue c X.env (eval c X.env); pure (ForInStep.yield ok) else pure (ForInStep.yield r)) (TP X pins σ Q) X.xe s
def tYes : TT := fun _ H Q => Q true H
theorem pts_nil : PTs X [] tYes := fun _ _ _ H _ I h => wpAny_tests_nil ⟨H, I, h⟩
theorem pts_one {c : Expr} {t : TT} (h : PT X c t) : PTs X [c] t := fun pins s σ H Q I hw => wpAny_tests_one (h pins s σ H Q I hw)
end

theorem thnF {α : Type} {t : Sem α} {Q Q' : α → Shared → Prop} {M : Model} {A : Around} {E : Value → Shared → Prop} {s : Shared} (h : wpAny M A t Q (fun _ _ => False) s) (hQ : ∀ a s, Q a s → Q' a s) : wpAny M A t Q' E s := wpAny_mono h hQ fun _ _ z => False.elim z

/-- the loop of a list comprehension's block, the target of any form (codeAny_compLoop_tests asks a target that no tuple goes to; statement and proof follow it, PyProof/CompMap.lean:41-61, with the step letOwnedTupleGo kept) -/
theorem compLoop_any {prog : Program} {w : World} {A : Around} {R : Result → Shared → Prop} {s : Shared} {elt target iter : Expr} {ifs : List Expr} {scope : Scope} {pos : Pos} {it acc : Value} {env : Env} (I : Nat → Shared → Prop)
    (turn : ∀ n s, I n s → wpAny (model prog w) A (pyNext it) (fun r s₁ => match r with
      | none => R (.ok .next) s₁
      | some v => wpAny (model prog w) A (letOwnedTupleGo target it v) (fun _ s₁' => wpAny (model prog w) A (assign target env v) (fun _ s₂ =>
          wpAny (model prog w) A (forIn ifs true fun c r => if r = true then do let ok ← isTrue c env (eval c env); pure (ForInStep.yield ok) else pure (ForInStep.yield r)) (fun ok s₃ =>
            if ok = true then wpAny (model prog w) A (eval elt env) (fun x s₄ =>
              wpAny (model prog w) A (call (.builtin "list.append") [acc, x]) (fun _ s₅ => ∃ m, m < n ∧ I m s₅) (notedBy (model prog w) A env fun e s' => R (.error e) s') s₄) (notedBy (model prog w) A env fun e s' => R (.error e) s') s₃
            else ∃ m, m < n ∧ I m s₃) (notedBy (model prog w) A env fun e s' => R (.error e) s') s₂) (notedBy (model prog w) A env fun e s' => R (.error e) s') s₁') (notedBy (model prog w) A env fun e s' => R (.error e) s') s₁) (notedBy (model prog w) A env fun e s' => R (.error e) s') s)
    (n : Nat) (h : I n s) :
    codeAny (model prog w) A (.compLoop (.ListComp elt [⟨target, iter, ifs, 0⟩] scope pos) 0 it acc env) R s := by
  refine codeAny_loop rfl I (fun n s hI => ?_) n h
  show wpAny _ A ((compTurn (.ListComp elt [⟨target, iter, ifs, 0⟩] scope pos) 0 it acc env).onRaise (fun x => do noteFrame x env; theTreesLotGoes x)) _ _ s
  refine wpAny_noted ?_
  rw [compTurn_list]
  refine wpAny_bind (wpAny_standAt (wpAny_bind (wpAny_mono (turn n s hI) (fun r s₁ h₁ => ?_) fun _ _ h' => h')))
  cases r with
  | none => exact wpAny_pure h₁
  | some v =>
    refine wpAny_bind (wpAny_mono h₁ (fun _ s₁' h₁' => ?_) fun _ _ h' => h')
    refine wpAny_bind (wpAny_mono h₁' (fun _ s₂ h₂ => wpAny_bind (wpAny_mono h₂ (fun ok s₃ h₃ => ?_) fun _ _ h' => h')) fun _ _ h' => h')
    cases ok with
    | false => exact wpAny_pure ⟨rfl, h₃⟩
    | true =>
      exact wpAny_bind (wpAny_bind (wpAny_mono h₃ (fun x s₄ h₄ => wpAny_bind (wpAny_mono h₄ (fun _ s₅ h₅ => wpAny_pure (wpAny_pure ⟨rfl, h₅⟩)) fun _ _ h' => h')) fun _ _ h' => h'))

section
variable {X : Cx}
/-- [elt for target in iter if ..]: D the new list; W by the turn and a measure, Nx what a turn is to reach -/
def tLc (wi : TI) (g : TG) (tt : TT) (te : TE) (vs : List Nat) : TE := fun σ H Q => wi σ H fun J H1 => ∀ D, H1 D = none → ∃ W : Nat → Nat → Hp → Prop, (∃ m, W 0 m (upd H1 D (.lst []))) ∧ ∀ i m H, W i m H →
  (J.stop i H ∧ Q (.ref D) H) ∨ (J.go i H ∧ ∃ Nx : Hp → Prop, (∀ H', Nx H' → ∃ m', m' < m ∧ W (i + 1) m' H') ∧ ∀ x H', J.yld i H x H' → g x (wipe σ vs) H' fun σ2 H2 => wipe σ2 vs = wipe σ vs ∧ tt σ2 H2 fun b H3 =>
    if b = true then te σ2 H3 fun y H4 => ∃ acc, H4 D = some (.lst acc) ∧ acc.length < sizeLine ∧ Nx (upd H4 D (.lst (acc ++ [y]))) else Nx H3)
theorem lc_core {pins : List (Addr × Obj)} {s : Shared} {σ : St} {H : Hp} {Q : VK} {elt tg iter : Expr} {ifs : List Expr} {scope : Scope} {own : List (Str × Nat)} {pos pos' : Pos} {wi : TI} {g : TG} {tt : TT} {te : TE} {use : Option (Value → Sem Unit)} {Qf : Value → Shared → Prop}
    (hc : X.calm = true) (hN : X.N.Nodup) (I : Inv X pins σ H s) (hi : PI X tg iter wi) (ok : BlkOk X.N X.env.scope scope own)
    (hg : ∀ (s : Shared) (H : Hp) (C : Addr) (cl : List (Str × Addr)) (fp : List Addr), PG (X.blk s H scope (compEnvC scope cl C X.env) fp) tg g) (ht : ∀ (s : Shared) (H : Hp) (C : Addr) (cl : List (Str × Addr)) (fp : List Addr), PTs (X.blk s H scope (compEnvC scope cl C X.env) fp) ifs tt)
    (he : ∀ (s : Shared) (H : Hp) (C : Addr) (cl : List (Str × Addr)) (fp : List Addr), PE (X.blk s H scope (compEnvC scope cl C X.env) fp) elt te) (hs : ∀ x, foldedSetIterable iter X.env x = pure x)
    (h : tLc wi g tt te (own.map (·.2)) σ H Q)
    (hRR : ∀ D C s' m H', Inv X pins σ H' s' → Q (.ref D) H' → s'.heap.Ns C m → FpOk X pins H' C → compPost (model X.prog X.w) X.A X.xe use Qf (.ref D) C (.ok .next) s') :
    wpAny (model X.prog X.w) X.A (comprehension (.ListComp elt [⟨tg, iter, ifs, 0⟩] scope pos) scope X.env pos' (newList []) false (eval iter X.env) use) Qf X.xe s := by
  have hfree : ∀ y ∈ scope.names, y.2 = .free → ∃ c, X.env.cells.lookup y.1 = some c := fun y hy e => by
    rcases ok.free y hy e with k | k
    · exact I.ok.has _ (.inl k)
    · exact I.ok.has _ (.inr k)
  refine wpAny_comprehension_free (use := use) rfl hs (closure_ok hfree) ok.kind (fun y hy e => by rw [ok.uniq y hy, e])
    (thn (hi pins s σ H _ I h) fun xv s1 hx => thn hx fun itv s2 h2 => ?_)
  obtain ⟨it, fp, tn, J, H2, e, I2, T, st2, f2, q⟩ := h2
  subst e
  refine wpAny_newObj_type (newEnv_comp ?_) (by show 0 ≤ sizeLine; decide)
  generalize hD : s2.heap.objs.size = D
  have hDn : H2 D = none := I2.hok.fresh (Nat.le_of_eq hD)
  obtain ⟨W, ⟨m0, w0⟩, turn⟩ := q D hDn
  -- the new list
  generalize hs3 : ({ s2 with heap := s2.heap.push { cls := .type "list", data := .seq ([] : List Value).toArray } } : Shared) = s3
  have I3 : Inv X pins σ (upd H2 D (.lst [])) s3 := by
    rw [← hs3]
    refine I2.laid (t' := s2.toks) (fun b o e => Heap.get?_push_of_some _ e) (Nat.le_of_eq hD) ⟨Nat.zero_le _, [], 0, .nil, ?_⟩
    rw [← hD]
    exact Heap.get?_push_size _ rfl
  have h3 : s3.heap = s2.heap.push { cls := .type "list", data := .seq ([] : List Value).toArray } := by rw [← hs3]
  have sz : ∀ b ∈ fp, b < s2.heap.objs.size := fun b hb => by
    obtain ⟨o, e, _⟩ := T.obj _ _ st2 b hb
    exact Heap.lt_size e
  have f3 : ∀ b ∈ fp, FpOk X pins (upd H2 D (.lst [])) b ∧ b < s3.heap.objs.size := fun b hb => by
    have hlt := sz b hb
    refine ⟨⟨?_, (f2 b hb).2⟩, by rw [h3, Heap.size_push]; exact Nat.lt_succ_of_lt hlt⟩
    rw [upd_ne (by rw [← hD]; exact Nat.ne_of_lt hlt)]
    exact (f2 b hb).1
  have st3 : tn 0 s3.heap := T.keep _ _ _ st2 fun b _ o e => by rw [h3]; exact Heap.get?_push_of_some _ e
  have I4 := block_start I3 ok hN f3
  have pg := hg s3 (upd H2 D (.lst [])) s3.heap.objs.size (cellsFrom (s3.heap.objs.size + 1) scope.names (cloFrom X.env.cells scope.names [])) fp
  have pt := ht s3 (upd H2 D (.lst [])) s3.heap.objs.size (cellsFrom (s3.heap.objs.size + 1) scope.names (cloFrom X.env.cells scope.names [])) fp
  have pe := he s3 (upd H2 D (.lst [])) s3.heap.objs.size (cellsFrom (s3.heap.objs.size + 1) scope.names (cloFrom X.env.cells scope.names [])) fp
  show codeAny _ _ (.compStart (.ListComp elt [⟨tg, iter, ifs, 0⟩] scope pos) 0 (.ref it) (.ref D) (compEnvC scope (cellsFrom (s3.heap.objs.size + 1) scope.names (cloFrom X.env.cells scope.names [])) s3.heap.objs.size X.env)) (compPost (model X.prog X.w) X.A X.xe use Qf (.ref D) s3.heap.objs.size) { s3 with heap := pushCells (s3.heap.push { cls := .type "dict", data := .dict #[] }) scope.names }
  have nfp : ∀ b ∈ fp, (upd H2 D (.lst [])) b = none := fun b hb => (f3 b hb).1.1
  generalize hce : compEnvC scope (cellsFrom (s3.heap.objs.size + 1) scope.names (cloFrom X.env.cells scope.names [])) s3.heap.objs.size X.env = ce at I4 pg pt pe ⊢
  have cL : ce.locals = s3.heap.objs.size := by subst hce; rfl
  generalize hH3 : upd H2 D (.lst []) = H3 at I3 I4 pg pt pe w0 nfp f3
  generalize hs4 : ({ s3 with heap := pushCells (s3.heap.push { cls := .type "dict", data := .dict #[] }) scope.names } : Shared) = s4 at I4 ⊢
  have st4 : tn 0 s4.heap := T.keep _ _ _ st3 fun b _ o e => by rw [← hs4]; exact pushCells_keeps _ _ _ _ (Heap.get?_push_of_some _ e)
  have stat : ∀ {σ' : St} {H' : Hp} {s' : Shared}, Inv (X.blk s3 H3 scope ce fp) [] σ' H' s' → (∀ b ∈ fp, H' b = none) → ∀ b ∈ fp, FpOk (X.blk s3 H3 scope ce fp) [] H' b := fun {σ' H' s'} I' hn b hb =>
    ⟨hn b hb, (I'.ok.exf b hb).1, I'.ok.exfs b hb, .inl hb, fun x c e => (I'.ok.exf b hb).2 x c e, fun p hp => absurd (show p ∈ ([] : List (Addr × Obj)) ++ [] from hp) (by simp)⟩
  have loop : codeAny (model X.prog X.w) X.A (.compLoop (.ListComp elt [⟨tg, iter, ifs, 0⟩] scope pos) 0 (.ref it) (.ref D) ce) (compPost (model X.prog X.w) X.A X.xe use Qf (.ref D) s3.heap.objs.size) s4 := by
    refine compLoop_any (fun n s' => ∃ i H', Inv (X.blk s3 H3 scope ce fp) [] (wipe σ (own.map (·.2))) H' s' ∧ tn i s'.heap ∧ (∀ b ∈ fp, H' b = none) ∧ W i n H') ?_ m0 ⟨0, H3, I4, st4, nfp, w0⟩
    rintro n s5 ⟨i, H5, I5, st5, n5, w5⟩
    rcases turn i n H5 w5 with ⟨stop, qq⟩ | ⟨go, Nx, hNx, step⟩
    · have td := T.done (X.blk s3 H3 scope ce fp) rfl rfl rfl hc i [] s5 _ H5 (fun _ _ => False) I5 (stat I5 n5) st5 stop
      refine thnF td fun r s6 ⟨hr, I6⟩ => ?_
      subst hr
      -- back in the def's context
      have I7 : Inv X pins σ H5 s6 := I3.call' (ch := fp) I6.os I6.base I6.hok I6.bare fun b hb => ⟨(f3 b hb).1.2.2.2.1, (f3 b hb).1.2.1, (f3 b hb).1.2.2.2.2.1, (f3 b hb).1.2.2.2.2.2⟩
      have nC : H5 s3.heap.objs.size = none := by
        have z : H5 ce.locals = none := I6.free
        rw [cL] at z
        exact z
      obtain ⟨m, hn, _⟩ := I6.loc
      have hn : s6.heap.Ns ce.locals m := hn
      rw [cL] at hn
      exact hRR D s3.heap.objs.size s6 m H5 I7 qq hn (I3.fpOk (Nat.le_refl _) nC)
    · have ti := T.item (X.blk s3 H3 scope ce fp) rfl rfl rfl hc i [] s5 _ H5 (fun _ _ => False) I5 (stat I5 n5) st5 go
      refine thnF ti fun r s6 ⟨u, hr, h6⟩ => ?_
      subst hr
      refine thnF h6 fun _ s7 ⟨x, H7, I7, r7, y7, st7, n7⟩ => ?_
      have I7' := I7.pinned (stat I7 n7) (T.obj _ _ st7)
      refine thnF (pg _ s7 _ H7 x u _ I7' r7 (step x H7 y7)) fun _ s8 ⟨σ8, H8, I8, hw8, q8⟩ => ?_
      refine thnF (pt _ s8 σ8 H8 _ I8 q8) fun b s9 ⟨H9, I9, q9⟩ => ?_
      -- the turn's end
      have fin : ∀ {s' : Shared} {H' : Hp}, Inv (X.blk s3 H3 scope ce fp) ([] ++ pinsAt fp s7.heap) σ8 H' s' → Nx H' → ∃ m, m < n ∧ ∃ i H', Inv (X.blk s3 H3 scope ce fp) [] (wipe σ (own.map (·.2))) H' s' ∧ tn i s'.heap ∧ (∀ b ∈ fp, H' b = none) ∧ W i m H' := fun {s' H'} I' nx => by
        obtain ⟨m', hm, w'⟩ := hNx H' nx
        have pin' : ∀ b ∈ fp, ∀ o, s7.heap.get? b = some o → s'.heap.get? b = some o ∧ H' b = none := fun b hb o e =>
          let z := I'.pin (b, o) (List.mem_append_right _ (List.mem_append_right _ (mem_pinsAt hb e)))
          ⟨z.1, z.2.1⟩
        have hl : (wipe σ (own.map (·.2))).length = σ8.length := by rw [← hw8, wipe_length]
        refine ⟨m', hm, i + 1, H', (I'.unpinned (pins := [])).weak hl (fun j v e => ?_), T.keep _ _ _ st7 fun b hb o e => (pin' b hb o e).1, fun b hb => ?_, w'⟩
        · rw [← hw8] at e
          exact (wipe_some e).1
        · obtain ⟨o, e, _⟩ := T.obj _ _ st7 b hb
          exact (pin' b hb o e).2
      cases b with
      | false =>
        simp only [Bool.false_eq_true, if_false] at q9 ⊢
        exact fin I9 q9
      | true =>
        simp only [if_true] at q9 ⊢
        refine thnF (pe _ s9 σ8 H9 _ I9 q9) fun z s10 ⟨yv, H10, I10, r10, acc, hD10, hz10, nx⟩ => ?_
        exact app_ok (X := X.blk s3 H3 scope ce fp) I10 hD10 hz10 r10 fun s11 I11 => fin I11 nx
  exact codeAny_compStart_list loop (T.self X.A 0 _ _ _ st4 loop)
/-- as a value -/
theorem pe_lc {elt tg iter : Expr} {ifs : List Expr} {scope : Scope} {own : List (Str × Nat)} {pos : Pos} {wi : TI} {g : TG} {tt : TT} {te : TE} (hc : X.calm = true) (hN : X.N.Nodup) (hi : PI X tg iter wi) (ok : BlkOk X.N X.env.scope scope own)
    (hg : ∀ (s : Shared) (H : Hp) (C : Addr) (cl : List (Str × Addr)) (fp : List Addr), PG (X.blk s H scope (compEnvC scope cl C X.env) fp) tg g) (ht : ∀ (s : Shared) (H : Hp) (C : Addr) (cl : List (Str × Addr)) (fp : List Addr), PTs (X.blk s H scope (compEnvC scope cl C X.env) fp) ifs tt)
    (he : ∀ (s : Shared) (H : Hp) (C : Addr) (cl : List (Str × Addr)) (fp : List Addr), PE (X.blk s H scope (compEnvC scope cl C X.env) fp) elt te) (hs : ∀ x, foldedSetIterable iter X.env x = pure x := by intro _; rfl) :
    PE X (.ListComp elt [⟨tg, iter, ifs, 0⟩] scope pos) (tLc wi g tt te (own.map (·.2))) := by
  intro pins s σ H Q I h
  rw [eval_ListComp]
  refine lc_core hc hN I hi ok hg ht he hs h fun D C s' m H' I' q hn f => ⟨m, hn, fun h'' sb => ?_⟩
  obtain ⟨f0, f1, f2, f3, f4, f5⟩ := f
  exact ⟨.ref D, H', I'.turned (t' := s'.toks) (fun b o hb e => (sb.2 b hb).trans e) f0 f1 f3 f4 f5, rfl, q⟩
end

/-! ### the forms one uses -/
/-- over a range: Pv by the turn and the heap (the new list at D within) -/
theorem lc_range {lo : Int} {n : Nat} {g : TG} {tt : TT} {te : TE} {vs : List Nat} {σ : St} {H1 : Hp} {D : Addr} {Qd : Hp → Prop} (Pv : Nat → Hp → Prop) (h0 : Pv 0 (upd H1 D (.lst [])))
    (hs : ∀ i H, i < n → Pv i H → g (.int (lo + i)) (wipe σ vs) H fun σ2 H2 => wipe σ2 vs = wipe σ vs ∧ tt σ2 H2 fun b H3 =>
      if b = true then te σ2 H3 fun y H4 => ∃ acc, H4 D = some (.lst acc) ∧ acc.length < sizeLine ∧ Pv (i + 1) (upd H4 D (.lst (acc ++ [y]))) else Pv (i + 1) H3) (hd : ∀ H, Pv n H → Qd H) :
    ∃ W : Nat → Nat → Hp → Prop, (∃ m, W 0 m (upd H1 D (.lst []))) ∧ ∀ i m H, W i m H →
      ((Itr lo n).stop i H ∧ Qd H) ∨ ((Itr lo n).go i H ∧ ∃ Nx : Hp → Prop, (∀ H', Nx H' → ∃ m', m' < m ∧ W (i + 1) m' H') ∧ ∀ x H', (Itr lo n).yld i H x H' → g x (wipe σ vs) H' fun σ2 H2 => wipe σ2 vs = wipe σ vs ∧ tt σ2 H2 fun b H3 =>
        if b = true then te σ2 H3 fun y H4 => ∃ acc, H4 D = some (.lst acc) ∧ acc.length < sizeLine ∧ Nx (upd H4 D (.lst (acc ++ [y]))) else Nx H3) := by
  refine ⟨fun i m H => m = n - i ∧ i ≤ n ∧ Pv i H, ⟨n, by simp, Nat.zero_le _, h0⟩, ?_⟩
  rintro i m H ⟨rfl, hi, p⟩
  by_cases hlt : i < n
  · refine .inr ⟨hlt, Pv (i + 1), fun H' p' => ⟨n - (i + 1), by omega, rfl, hlt, p'⟩, fun x H' y => ?_⟩
    obtain ⟨e, y⟩ := y
    subst e y
    exact hs i _ hlt p
  · have e : i = n := by omega
    subst e
    exact .inl ⟨Nat.le_refl _, hd H p⟩
/-- over a list that the block leaves as it is -/
theorem lc_list {K : PySem.W.Frag} {a : Addr} {xs : List V} {g : TG} {tt : TT} {te : TE} {vs : List Nat} {σ : St} {H1 : Hp} {D : Addr} {Qd : Hp → Prop} (Pv : Nat → Hp → Prop) (h0 : Pv 0 (upd H1 D (.lst []))) (hl : ∀ i H, i ≤ xs.length → Pv i H → SqL K H a xs)
    (hs : ∀ i x H, xs[i]? = some x → Pv i H → g x (wipe σ vs) H fun σ2 H2 => wipe σ2 vs = wipe σ vs ∧ tt σ2 H2 fun b H3 =>
      if b = true then te σ2 H3 fun y H4 => ∃ acc, H4 D = some (.lst acc) ∧ acc.length < sizeLine ∧ Pv (i + 1) (upd H4 D (.lst (acc ++ [y]))) else Pv (i + 1) H3) (hd : ∀ H, Pv xs.length H → Qd H) :
    ∃ W : Nat → Nat → Hp → Prop, (∃ m, W 0 m (upd H1 D (.lst []))) ∧ ∀ i m H, W i m H →
      ((Itl K a).stop i H ∧ Qd H) ∨ ((Itl K a).go i H ∧ ∃ Nx : Hp → Prop, (∀ H', Nx H' → ∃ m', m' < m ∧ W (i + 1) m' H') ∧ ∀ x H', (Itl K a).yld i H x H' → g x (wipe σ vs) H' fun σ2 H2 => wipe σ2 vs = wipe σ vs ∧ tt σ2 H2 fun b H3 =>
        if b = true then te σ2 H3 fun y H4 => ∃ acc, H4 D = some (.lst acc) ∧ acc.length < sizeLine ∧ Nx (upd H4 D (.lst (acc ++ [y]))) else Nx H3) := by
  refine ⟨fun i m H => m = xs.length - i ∧ i ≤ xs.length ∧ Pv i H, ⟨xs.length, by simp, Nat.zero_le _, h0⟩, ?_⟩
  rintro i m H ⟨rfl, hi, p⟩
  have q := hl i H hi p
  by_cases hlt : i < xs.length
  · refine .inr ⟨⟨xs, xs[i], q, by simp [hlt]⟩, Pv (i + 1), fun H' p' => ⟨xs.length - (i + 1), by omega, rfl, hlt, p'⟩, fun x H' y => ?_⟩
    obtain ⟨e, y⟩ := y
    subst e
    exact hs i x _ (y xs q) p
  · have e : i = xs.length := by omega
    subst e
    exact .inl ⟨⟨xs, q, Nat.le_refl _⟩, hd H p⟩
def blkC (N : List Str) (sc scope : Scope) (own : List (Str × Nat)) : Bool :=
  (match scope.kind with | .function => true | _ => false) && (scope.names.all fun y => decide (scope.names.lookup y.1 = some y.2)) && (own.all fun p => decide (N[p.2]? = some p.1)) &&
    (scope.names.all fun y => match y.2 with
      | .free => (match sc.names.lookup y.1 with | some .cell => true | some .free => true | _ => false)
      | .local => decide (y.1 ∈ own.map (·.1)) || decide (y.1 ∉ N)
      | .cell => decide (y.1 ∈ own.map (·.1)) || decide (y.1 ∉ N)
      | _ => true)
theorem blkOk_by {N : List Str} {sc scope : Scope} {own : List (Str × Nat)} (h : blkC N sc scope own = true) : BlkOk N sc scope own := by
  unfold blkC at h
  simp only [Bool.and_eq_true, List.all_eq_true, decide_eq_true_eq] at h
  obtain ⟨⟨⟨h1, h2⟩, h3⟩, h4⟩ := h
  refine ⟨?_, h2, h3, fun y hy e => ?_, fun y hy e => ?_⟩
  · split at h1
    · assumption
    · cases h1
  · have q := h4 y hy
    simp only [e] at q
    split at q <;> first | exact .inl (by assumption) | exact .inr (by assumption) | cases q
  · have q := h4 y hy
    rcases e with e | e <;> (simp only [e, Bool.or_eq_true, decide_eq_true_eq] at q; exact q)
end L2

namespace L2
open PySem PySem.Spec PyProof.Rows

end L2

namespace L2
open PySem PySem.Spec PyProof.Rows

/-! ### lists of pairs as tables -/
section
variable {κ : Type} [DecidableEq κ]
def valV (kvs : List (κ × V)) (k : κ) : Option V := (kvs.find? fun kv => decide (kv.1 = k)).map (·.2)
/-- in its place, or at the end -/
def putK (kvs : List (κ × V)) (k : κ) (v : V) : List (κ × V) :=
  if (kvs.any fun kv => decide (kv.1 = k)) = true then kvs.map (fun kv => if kv.1 = k then (kv.1, v) else kv) else kvs ++ [(k, v)]
def dropK (kvs : List (κ × V)) (k : κ) : List (κ × V) := kvs.filter fun kv => decide (kv.1 ≠ k)

theorem valV_pos {p : κ × V} {r : List (κ × V)} {k : κ} (e : p.1 = k) : valV (p :: r) k = some p.2 := by simp [valV, List.find?_cons, e]
theorem valV_neg {p : κ × V} {r : List (κ × V)} {k : κ} (e : ¬ p.1 = k) : valV (p :: r) k = valV r k := by simp [valV, List.find?_cons, e]
theorem valV_any (k : κ) : ∀ kvs : List (κ × V), (kvs.any fun kv => decide (kv.1 = k)) = (valV kvs k).isSome
  | [] => rfl
  | p :: r => by
    rw [List.any_cons]
    by_cases e : p.1 = k
    · simp only [valV_pos e, decide_eq_true e, Bool.true_or, Option.isSome_some]
    · rw [valV_neg e, decide_eq_false e, Bool.false_or]; exact valV_any k r
theorem length_putK (kvs : List (κ × V)) (k : κ) (v : V) : (putK kvs k v).length ≤ kvs.length + 1 := by
  unfold putK
  split
  · rw [List.length_map]; omega
  · rw [List.length_append, List.length_cons, List.length_nil]; omega

theorem RelO.isSome_eq {o : Option V} {u : Option Value} (r : RelO o u) : o.isSome = u.isSome := by
  cases o with
  | none => cases u with
    | none => rfl
    | some _ => exact (show False from r).elim
  | some _ => cases u with
    | none => exact (show False from r).elim
    | some _ => rfl

/-- raw tables of the same keys -/
theorem KV.val {kvs : List (κ × V)} {vs : List (κ × Value)} (r : KV kvs vs) (k : κ) : RelO (valV kvs k) (valueAt vs k) := by
  unfold KV at r
  induction r with
  | nil => exact True.intro
  | @cons p q ps qs h t ih =>
    obtain ⟨h1, h2⟩ := h
    by_cases e : p.1 = k
    · have e' : q.1 = k := h1.symm.trans e
      have b : valueAt (q :: qs) k = some q.2 := by simp [valueAt, List.find?_cons, e']
      rw [valV_pos e, b]; exact h2
    · have e' : ¬ q.1 = k := fun z => e (h1.trans z)
      have b : valueAt (q :: qs) k = valueAt qs k := by simp [valueAt, List.find?_cons, e']
      rw [valV_neg e, b]; exact ih
theorem KV.any {kvs : List (κ × V)} {vs : List (κ × Value)} (r : KV kvs vs) (k : κ) : (kvs.any fun kv => decide (kv.1 = k)) = vs.any fun kv => decide (kv.1 = k) := by
  unfold KV at r
  induction r with
  | nil => rfl
  | cons h t ih => rw [List.any_cons, List.any_cons, ih, h.1]
theorem KV.repl {kvs : List (κ × V)} {vs : List (κ × Value)} (r : KV kvs vs) (k : κ) {y : V} {u : Value} (ry : RelV y u) :
    KV (kvs.map fun kv => if kv.1 = k then (kv.1, y) else kv) (vs.map fun kv => if kv.1 = k then (kv.1, u) else kv) := by
  unfold KV at r ⊢
  induction r with
  | nil => exact .nil
  | @cons p q ps qs h t ih =>
    rw [List.map_cons, List.map_cons]
    refine .cons ?_ ih
    obtain ⟨h1, h2⟩ := h
    by_cases e : p.1 = k
    · rw [if_pos e, if_pos (h1.symm.trans e)]; exact ⟨h1, ry⟩
    · rw [if_neg e, if_neg (fun z => e (h1.trans z))]; exact ⟨h1, h2⟩
theorem KV.put {kvs : List (κ × V)} {vs : List (κ × Value)} (r : KV kvs vs) (k : κ) {y : V} {u : Value} (ry : RelV y u) : KV (putK kvs k y) (stored vs k u) := by
  unfold putK stored
  rw [r.any k]
  by_cases e : (vs.any fun kv => decide (kv.1 = k)) = true
  · rw [if_pos e, if_pos e]; exact r.repl k ry
  · rw [if_neg e, if_neg e]; exact Paired.snoc r ⟨rfl, ry⟩
theorem KV.drop {kvs : List (κ × V)} {vs : List (κ × Value)} (r : KV kvs vs) (k : κ) : KV (dropK kvs k) (without vs k) := by
  unfold KV at r ⊢
  unfold dropK without
  induction r with
  | nil => exact .nil
  | @cons p q ps qs h t ih =>
    obtain ⟨h1, h2⟩ := h
    rw [List.filter_cons, List.filter_cons]
    by_cases e : p.1 = k
    · have a : ¬ decide (p.1 ≠ k) = true := by simp [e]
      have b : ¬ decide (q.1 ≠ k) = true := by simp [h1.symm.trans e]
      rw [if_neg a, if_neg b]; exact ih
    · have e' : ¬ q.1 = k := fun z => e (h1.trans z)
      have a : decide (p.1 ≠ k) = true := by simp [e]
      have b : decide (q.1 ≠ k) = true := by simp [e']
      rw [if_pos a, if_pos b]; exact .cons ⟨h1, h2⟩ ih
theorem KV.length {kvs : List (κ × V)} {vs : List (κ × Value)} (r : KV kvs vs) : kvs.length = vs.length := Paired.length r
theorem dropK_le (kvs : List (κ × V)) (k : κ) : (dropK kvs k).length ≤ kvs.length := List.length_filter_le _ _
end

/-! ### a tracked dict, its keys ints and texts or tuples of these -/
theorem kV_is {P : Program} {w : World} {k : Key} {u : Value} (r : RelV (kV k) u) : (mixKind P w).is k u = true := by
  cases k with
  | inl i => obtain ⟨t, e⟩ := (show ∃ t, u = Value.int i t from r); subst e; exact mixKind_int P w i t
  | inr x => obtain ⟨t, e⟩ := (show ∃ t, u = Value.str x t from r); subst e; exact mixKind_str P w x t
theorem items_are {P : Program} {w : World} : ∀ {ks : List Key} {us : List Value}, Vals (ks.map kV) us → ItemsAre (mixKind P w) ks us
  | [], _, r => by rw [List.map_nil] at r; cases r; exact .nil
  | k :: ks, _, r => by
    rw [List.map_cons] at r
    cases r with
    | cons h t => exact .cons (kV_is h) (items_are t)

/-- raw entries of a dict with tuple keys -/
abbrev KT (H : Hp) : List (List Key × V) → List (List Key × Addr × Value) → Prop := Paired fun p q => p.1 = q.1 ∧ H q.2.1 = some (.tup (p.1.map kV)) ∧ RelV p.2 q.2.2
theorem KT.val {H : Hp} {kvs : List (List Key × V)} {xs : List (List Key × Addr × Value)} (r : KT H kvs xs) (k : List Key) : RelO (valV kvs k) ((atKey xs k).map (·.2)) := by
  induction r with
  | nil => exact True.intro
  | @cons p q ps qs h t ih =>
    obtain ⟨h1, _, h2⟩ := h
    by_cases e : p.1 = k
    · have e' : q.1 = k := h1.symm.trans e
      have b : atKey (q :: qs) k = some q.2 := by simp [atKey, List.find?_cons, e']
      rw [valV_pos e, b]; exact h2
    · have e' : ¬ q.1 = k := fun z => e (h1.trans z)
      have b : atKey (q :: qs) k = atKey qs k := by simp [atKey, List.find?_cons, e']
      rw [valV_neg e, b]; exact ih
theorem KT.repl {H : Hp} {kvs : List (List Key × V)} {xs : List (List Key × Addr × Value)} (r : KT H kvs xs) (k : List Key) {y : V} {u : Value} (ry : RelV y u) :
    KT H (kvs.map fun kv => if kv.1 = k then (kv.1, y) else kv) (xs.map (putAt k u)) := by
  induction r with
  | nil => exact .nil
  | @cons p q ps qs h t ih =>
    rw [List.map_cons, List.map_cons]
    refine .cons ?_ ih
    obtain ⟨h1, h2, h3⟩ := h
    unfold putAt
    by_cases e : p.1 = k
    · rw [if_pos e, if_pos (h1.symm.trans e)]; exact ⟨h1, h2, ry⟩
    · rw [if_neg e, if_neg (fun z => e (h1.trans z))]; exact ⟨h1, h2, h3⟩
theorem KT.put {H : Hp} {kvs : List (List Key × V)} {xs : List (List Key × Addr × Value)} (r : KT H kvs xs) (k : List Key) {b : Addr} {y : V} {u : Value} (hb : H b = some (.tup (k.map kV))) (ry : RelV y u) :
    KT H (putK kvs k y) (storedH xs k b u) := by
  have e : (kvs.any fun kv => decide (kv.1 = k)) = (atKey xs k).isSome := by
    rw [valV_any, (r.val k).isSome_eq, Option.isSome_map]
  unfold putK storedH
  rw [e]
  by_cases q : (atKey xs k).isSome = true
  · rw [if_pos q, if_pos q]; exact r.repl k ry
  · rw [if_neg q, if_neg q]; exact Paired.snoc r ⟨rfl, hb, ry⟩
theorem KT.keeps {H H' : Hp} {kvs : List (List Key × V)} {xs : List (List Key × Addr × Value)} (r : KT H kvs xs) (ht : ∀ b ys, H b = some (.tup ys) → H' b = some (.tup ys)) : KT H' kvs xs :=
  Paired.mapP r fun _ _ z => ⟨z.1, ht _ _ z.2.1, z.2.2⟩

section
variable {P : Program} {w : World} {H : Hp} {h : Heap} {a : Addr}
theorem rd_of {u : HO} (ok : HOk P w H h) (e : Rd H a u) : ObjOk P w H h a u := e.ok ok
theorem dk_rd {kvs : List (Key × V)} (ok : HOk P w H h) (e : Rd H a (.dK kvs)) : kvs.length ≤ sizeLine ∧ (a == sysModules) = false ∧ ∃ vs, KV kvs vs ∧ h.DictOf (mixKind P w) a vs :=
  show ObjOk P w H h a (.dK kvs) from rd_of ok e
theorem dk_of {kvs : List (Key × V)} (ok : HOk P w H h) (e : H a = some (.dK kvs)) : kvs.length ≤ sizeLine ∧ (a == sysModules) = false ∧ ∃ vs, KV kvs vs ∧ h.DictOf (mixKind P w) a vs := dk_rd ok (.inl e)
/-- a tracked tuple of ints and texts is a key -/
theorem key_of {ks : List Key} (ok : HOk P w H h) (e : H a = some (.tup (ks.map kV))) : (tupleKind (mixKind P w)).is h ks a := by
  obtain ⟨_, its, r, o, h1, h2, n, h3⟩ := (show ObjOk P w H h a (.tup (ks.map kV)) from ok a _ e)
  exact ⟨o, its.toArray, n, h1, h2, h3, by simpa using items_are r⟩
theorem dt_rd {kvs : List (List Key × V)} (ok : HOk P w H h) (e : Rd H a (.dT kvs)) : kvs.length ≤ sizeLine ∧ (a == sysModules) = false ∧
    ∃ xs, KT H kvs xs ∧ h.DictOfH (tupleKind (mixKind P w)) a xs := by
  obtain ⟨z, y, xs, r, o, es, ep, h1, h2, h3, h4, h5⟩ := (show ObjOk P w H h a (.dT kvs) from rd_of ok e)
  refine ⟨z, y, xs, r, o, es, ep, h1, h2, h3, h4, fun x hx => ?_, h5⟩
  have all : ∀ {l : List (List Key × V)} {m : List (List Key × Addr × Value)}, KT H l m → ∀ x ∈ m, (tupleKind (mixKind P w)).is h x.1 x.2.1 := by
    intro l m q
    induction q with
    | nil => intro x hx; exact nomatch hx
    | @cons p q ps qs hq t ih =>
      intro x hx
      rcases List.mem_cons.mp hx with e | hx
      · subst e
        exact key_of ok (by rw [← hq.1]; exact hq.2.1)
      · exact ih x hx
  exact all r x hx
theorem dt_of {kvs : List (List Key × V)} (ok : HOk P w H h) (e : H a = some (.dT kvs)) : kvs.length ≤ sizeLine ∧ (a == sysModules) = false ∧
    ∃ xs, KT H kvs xs ∧ h.DictOfH (tupleKind (mixKind P w)) a xs := dt_rd ok (.inl e)
end

/-- what the dict at a holds at the key y -/
def DGet (H : Hp) (a : Addr) (y : V) (r : Option V) : Prop :=
  (∃ kvs k, Rd H a (.dK kvs) ∧ y = kV k ∧ r = valV kvs k) ∨ ∃ kvs k b, Rd H a (.dT kvs) ∧ y = .ref b ∧ H b = some (.tup (k.map kV)) ∧ r = valV kvs k
/-- the heap behind a[y] = v -/
def DPut (H : Hp) (a : Addr) (y v : V) (H' : Hp) : Prop :=
  (∃ kvs k, H a = some (.dK kvs) ∧ y = kV k ∧ kvs.length < sizeLine ∧ H' = upd H a (.dK (putK kvs k v))) ∨
  ∃ kvs k b, H a = some (.dT kvs) ∧ y = .ref b ∧ H b = some (.tup (k.map kV)) ∧ kvs.length < sizeLine ∧ H' = upd H a (.dT (putK kvs k v))
theorem DGet.k {H : Hp} {a : Addr} {kvs : List (Key × V)} {k : Key} (e : H a = some (.dK kvs)) : DGet H a (kV k) (valV kvs k) := .inl ⟨kvs, k, .inl e, rfl, rfl⟩
theorem DPut.k {H : Hp} {a : Addr} {kvs : List (Key × V)} {k : Key} {v : V} (e : H a = some (.dK kvs)) (hl : kvs.length < sizeLine) : DPut H a (kV k) v (upd H a (.dK (putK kvs k v))) := .inl ⟨kvs, k, e, rfl, hl, rfl⟩

section
variable {X : Cx} {pins : List (Addr × Obj)} {σ : St} {H : Hp} {s : Shared} {a : Addr} {y v : V} {u r : Value} {o : Option V} {A : Around} {E : Value → Shared → Prop}

theorem Inv.big (I : Inv X pins σ H s) : sysModules < s.heap.objs.size := by
  have h : mainGlobals < s.heap.objs.size := (I.mod.glob.keeps I.bk).lt
  exact Nat.lt_trans (by decide) h

/-- d[y], there -/
theorem d_getItem {Q : Value → Shared → Prop} (hu : A.units + 1 < cLine) (I : Inv X pins σ H s) (g : DGet H a y (some v)) (ry : RelV y u) (h : ∀ w' s', Inv X pins σ H s' → RelV v w' → Q w' s') :
    wpAny (model X.prog X.w) A (getItem (.ref a) u) Q E s := by
  rcases g with ⟨kvs, k, e, ey, l⟩ | ⟨kvs, k, b, e, ey, eb, l⟩
  · subst ey
    obtain ⟨z, hd, vs, rel, dd⟩ := dk_rd I.hok e
    obtain ⟨w', hw, rw'⟩ := RelO.some_of (v := v) (o := valueAt vs k) (by rw [l]; exact rel.val k)
    exact wpAny_getItem_of (kV_is ry) dd.mapOf hw (h w' _ (I.tok _) rw')
  · subst ey
    cases (show u = Value.ref b from ry)
    obtain ⟨z, hd, xs, rel, dd⟩ := dt_rd I.hok e
    obtain ⟨w', hw, rw'⟩ := RelO.some_of (v := v) (o := (atKey xs k).map (·.2)) (by rw [l]; exact rel.val k)
    obtain ⟨p, hp, hp2⟩ := Option.map_eq_some_iff.mp hw
    refine wpAny_getItem_heap (tupleKind_room_in1 hu) (key_of I.hok eb) dd hp ?_
    rw [hp2]
    exact h w' _ (I.tok _) rw'
theorem d_notIn {Q : Value → Shared → Prop} (hu : A.units + 1 < cLine) (I : Inv X pins σ H s) (g : DGet H a y o) (ry : RelV y u) (h : ∀ s', Inv X pins σ H s' → Q (.bool (!o.isSome)) s') :
    wpAny (model X.prog X.w) A (compareOp .NotIn u (.ref a)) Q E s := by
  rcases g with ⟨kvs, k, e, ey, l⟩ | ⟨kvs, k, b, e, ey, eb, l⟩
  · subst ey
    obtain ⟨z, hd, vs, rel, dd⟩ := dk_rd I.hok e
    refine wpAny_notIn_of (kV_is ry) hd dd.mapOf ?_
    rw [← (rel.val k).isSome_eq, ← l]
    exact h _ (I.tok _)
  · subst ey
    cases (show u = Value.ref b from ry)
    obtain ⟨z, hd, xs, rel, dd⟩ := dt_rd I.hok e
    refine wpAny_notIn_heap (tupleKind_room_in1 hu) (key_of I.hok eb) hd dd ?_
    have q := (rel.val k).isSome_eq
    rw [Option.isSome_map] at q
    rw [← q, ← l]
    exact h _ (I.tok _)
/-- a dict's object is replaced -/
theorem d_write {h' : Heap} {t' : Nat} {ob : HO} (I : Inv X pins σ H s) (mu : Mut (H a)) (hs : Heap.SameBut a s.heap h') (he : ∃ q, h'.get? a = some q) (new : ObjOk X.prog X.w (upd H a ob) h' a ob) :
    Inv X pins σ (upd H a ob) { s with heap := h', toks := t' } :=
  I.write (x := a) (e := a) mu (.inl rfl) (fun b q hb z => (hs.2 b hb).trans z) he new
theorem dk_new {P : Program} {w : World} {H' : Hp} {h' : Heap} {kvs : List (Key × V)} {vs : List (Key × Value)} (z : kvs.length ≤ sizeLine) (hd : (a == sysModules) = false) (rel : KV kvs vs) (dd : h'.DictOf (mixKind P w) a vs) :
    ObjOk P w H' h' a (.dK kvs) := ⟨z, hd, vs, rel, dd⟩
/-- d[y] = v -/
theorem d_setItem {H' : Hp} {Q : Unit → Shared → Prop} (hu : A.units + 1 < cLine) (I : Inv X pins σ H s) (g : DPut H a y v H') (ry : RelV y u) (rv : RelV v r) (h : ∀ s', Inv X pins σ H' s' → Q () s') :
    wpAny (model X.prog X.w) A (setItem (.ref a) u r) Q E s := by
  rcases g with ⟨kvs, k, e, ey, l, eH⟩ | ⟨kvs, k, b, e, ey, eb, l, eH⟩
  · subst ey eH
    obtain ⟨z, hd, vs, rel, dd⟩ := dk_of I.hok e
    have hz : vs.length ≤ sizeLine := by rw [← rel.length]; exact z
    have hl : (putK kvs k v).length ≤ sizeLine := by have := length_putK kvs k v; omega
    refine wpAny_setItem_pairs (hsz := hz) (kV_is ry) dd fun h' dd' hs => h _ ?_
    have he : ∃ q, h'.get? a = some q := let ⟨q, _, _, hq, _⟩ := dd'; ⟨q, hq⟩
    exact d_write I (by rw [e]; exact True.intro) hs he (dk_new hl hd (rel.put k rv) dd')
  · subst ey eH
    cases (show u = Value.ref b from ry)
    obtain ⟨z, hd, xs, rel, dd⟩ := dt_of I.hok e
    have hz : xs.length ≤ sizeLine := by rw [← Paired.length rel]; exact z
    have hl : (putK kvs k v).length ≤ sizeLine := by have := length_putK kvs k v; omega
    refine wpAny_setItem_heap (hsz := hz) (tupleKind_room_in1 hu) (key_of I.hok eb) dd fun h' dd' hs => h _ ?_
    obtain ⟨q, es, ep, hq, h2, h3, h4, _, h5⟩ := dd'
    refine d_write I (by rw [e]; exact True.intro) hs ⟨q, hq⟩ ⟨hl, hd, _, (rel.put k eb rv).keeps fun c ys ec => ?_, q, es, ep, hq, h2, h3, h4, h5⟩
    rw [upd_ne (ne_of ec e (fun z => nomatch z))]
    exact ec
end

section
variable {X : Cx} {pins : List (Addr × Obj)} {σ : St} {H : Hp} {s : Shared} {a : Addr} {kvs : List (Key × V)} {k : Key} {u : Value} {A : Around} {E : Value → Shared → Prop}
/-- del d[k] -/
theorem d_delItem {Q : Unit → Shared → Prop} (I : Inv X pins σ H s) (e : H a = some (.dK kvs)) (ry : RelV (kV k) u) (l : (valV kvs k).isSome = true) (h : ∀ s', Inv X pins σ (upd H a (.dK (dropK kvs k))) s' → Q () s') :
    wpAny (model X.prog X.w) A (delItem (.ref a) u) Q E s := by
  obtain ⟨z, hd, vs, rel, dd⟩ := dk_of I.hok e
  refine wpAny_delItem_slot dd.typeIs (by decide) PySem.F.slot_dict_delitem
    (call_meetsIn PySem.F.slot_dict_delitem dd.typeIs PySem.F.entry_dict_delitem (PySem.F.args_dict_delitem_2 _ _) (meets_dict_delitem_pairs (mixKind X.prog X.w) a (kV_is ry)) ⟨vs, dd, by rw [← rel.length]; exact z, by rw [← (rel.val k).isSome_eq]; exact l, fun h' dd' hs => h _ ?_⟩)
  have he : ∃ q, h'.get? a = some q := let ⟨q, _, _, hq, _⟩ := dd'; ⟨q, hq⟩
  exact d_write I (by rw [e]; exact True.intro) hs he (dk_new (Nat.le_trans (dropK_le kvs k) z) hd (rel.drop k) dd')
/-- d.pop(k[, x]), there -/
theorem d_pop {v : V} {more : List Value} {Q : Value → Shared → Prop} (I : Inv X pins σ H s) (e : H a = some (.dK kvs)) (ry : RelV (kV k) u) (l : valV kvs k = some v) (hm : more = [] ∨ ∃ x, more = [x])
    (h : ∀ w' s', Inv X pins σ (upd H a (.dK (dropK kvs k))) s' → RelV v w' → Q w' s') : wpAny (model X.prog X.w) A (call (.builtin "dict.pop") (.ref a :: u :: more)) Q E s := by
  obtain ⟨z, hd, vs, rel, dd⟩ := dk_of I.hok e
  obtain ⟨w', hw, rw'⟩ := RelO.some_of (v := v) (o := valueAt vs k) (by rw [← l]; exact rel.val k)
  have hp : (keyPart u).isSome = true := by
    cases k with
    | inl i => obtain ⟨t, q⟩ := (show ∃ t, u = Value.int i t from ry); subst q; rfl
    | inr x => obtain ⟨t, q⟩ := (show ∃ t, u = Value.str x t from ry); subst q; rfl
  have ha : argsOk "dict.pop" ⟨.ref a :: u :: more, []⟩ := by
    rcases hm with q | ⟨x, q⟩
    · subst q; exact PySem.F.args_dict_pop_2 _ _
    · subst q; exact PySem.F.args_dict_pop_3 _ _ _
  refine call_meetsIn PySem.F.slot_dict_pop dd.typeIs PySem.F.entry_dict_pop ha (meets_dict_pop_there (mixKind X.prog X.w) a (kV_is ry) more hm hp)
    ⟨vs, w', dd, by rw [← rel.length]; exact z, hw, fun h' dd' hs => h w' _ ?_ rw'⟩
  have he : ∃ q, h'.get? a = some q := let ⟨q, _, _, hq, _⟩ := dd'; ⟨q, hq⟩
  exact d_write I (by rw [e]; exact True.intro) hs he (dk_new (Nat.le_trans (dropK_le kvs k) z) hd (rel.drop k) dd')
/-- len(d) -/
theorem d_len {Q : Value → Shared → Prop} (I : Inv X pins σ H s) (e : Rd H a (.dK kvs)) (h : ∀ t s', Inv X pins σ H s' → Q (.int kvs.length t) s') : wpAny (model X.prog X.w) A (call (.builtin "len") [.ref a]) Q E s := by
  obtain ⟨z, hd, vs, rel, dd⟩ := dk_rd I.hok e
  refine call_len_dict hd dd (by rw [← rel.length]; rw [sizeLine_eq] at z; omega) ?_
  rw [← rel.length]
  exact h _ _ (I.tok _)
end

/-! ### readings and rules -/
/-- the element of a subscription, not a slice -/
def NoSl (i : Expr) : Prop := ∀ ov iv, subscripted i false ov iv = operate [ov, iv] (getItem ov iv)
theorem subD_of {prog : Program} {w : World} {A : Around} {E : Value → Shared → Prop} {s : Shared} {env : Env} {value slice : Expr} {pos : Pos} {T id : String} {Q : Value → Shared → Prop}
    (hl : typeLookup (.type T) "__getitem__" = pure (some (.builtin id))) (hs : NoSl slice)
    (h : wpAny (model prog w) A (eval value env) (fun o s₁ => wpAny (model prog w) A (eval slice env) (fun i s₂ => s₂.TypeIs o T ∧ wpAny (model prog w) A (getItem o i) Q E s₂) E s₁) E s) :
    wpAny (model prog w) A (eval (.Subscript value slice pos) env) Q E s := by
  refine Subscript_ (wpAny_mono h (fun o s₁ h₁ => wpAny_mono h₁ (fun i s₂ h₂ => ?_) fun _ _ x => x) fun _ _ x => x)
  obtain ⟨hT, h₂⟩ := h₂
  unfold subscriptTail
  refine wpAny_bind ?_
  rw [getitemInPython_of_ne hT.not_modules]
  refine wpAny_bind (wpAny_specialOf hT hl ?_)
  have fin : wpAny (model prog w) A (subscripted slice false o i) (fun r s₃ => wpAny (model prog w) A (letTemporaryGo value o r >>= fun _ => pure r) Q E s₃) E s₂ := by
    rw [hs o i]
    exact wpAny_operating (wpAny_mono h₂ (fun r s₃ h₃ => wpAny_bind (wpAny_letTemporaryGo (wpAny_pure h₃))) fun _ _ x => x)
  first
    | exact wpAny_pure (wpAny_bind fin)
    | exact wpAny_bind (wpAny_pure (wpAny_bind fin))
    | exact wpAny_bind fin

theorem dict_typeIs {X : Cx} {pins : List (Addr × Obj)} {σ : St} {H : Hp} {s : Shared} {a : Addr} {y : V} {o : Option V} (I : Inv X pins σ H s) (g : DGet H a y o) : s.TypeIs (.ref a) "dict" := by
  rcases g with ⟨kvs, k, e, _, _⟩ | ⟨kvs, k, b, e, _, _, _⟩
  · obtain ⟨_, _, vs, _, dd⟩ := dk_rd I.hok e
    exact dd.typeIs
  · obtain ⟨_, _, xs, _, dd⟩ := dt_rd I.hok e
    exact dd.typeIs

/-- d[y] -/
def tDGet (td ty : TE) : TE := fun σ H Q => td σ H fun x H1 => ty σ H1 fun y H2 => ∃ a v, x = .ref a ∧ DGet H2 a y (some v) ∧ Q v H2
def tDNotIn (ty td : TE) : TE := fun σ H Q => ty σ H fun y H1 => td σ H1 fun x H2 => ∃ a o, x = .ref a ∧ DGet H2 a y o ∧ Q (.bl (!o.isSome)) H2
/-- d[y] = v -/
def sDPut (td ty tv : TE) : TS := fun D σ H => tv σ H fun v H1 => td σ H1 fun x H2 => ty σ H2 fun y H3 => ∃ a H4, x = .ref a ∧ DPut H3 a y v H4 ∧ D.nx σ H4

section
variable {X : Cx} {o i e value : Expr} {pos pos' tpos : Pos} {td ty tv : TE}
theorem pe_dget (hu : X.A.units + 1 < cLine) (ho : PE X o td) (hi : PE X i ty) (hs : NoSl i) : PE X (.Subscript o i pos) (tDGet td ty) := by
  intro pins s σ H Q I h
  refine subD_of PySem.F.slot_dict_getitem.lookup hs (thn (ho pins s σ H _ I h) fun u s1 ⟨x, H1, I1, rx, q1⟩ => thn (hi pins s1 σ H1 _ I1 q1) fun iv s2 ⟨y, H2, I2, ry, a, v, ex, g, q2⟩ => ?_)
  subst ex
  obtain rfl : u = Value.ref a := rx
  exact ⟨dict_typeIs I2 g, d_getItem hu I2 g ry fun w' s3 I3 rw' => ⟨v, H2, I3, rw', q2⟩⟩
theorem pc_dnotin (hu : X.A.units + 1 < cLine) (hi : PE X i ty) (ho : PE X o td) : PC X .NotIn i o (tDNotIn ty td) := by
  intro pins s σ H Q I h
  refine thn (hi pins s σ H _ I h) fun iv s1 ⟨y, H1, I1, ry, q1⟩ => thn (ho pins s1 σ H1 _ I1 q1) fun u s2 ⟨x, H2, I2, rx, a, ov, ex, g, q2⟩ => ?_
  subst ex
  obtain rfl : u = Value.ref a := rx
  exact d_notIn hu I2 g ry fun s3 I3 => ⟨.bl (!ov.isSome), H2, I3, rfl, q2⟩
theorem ps_dput (hu : X.A.units + 1 < cLine) (ho : PE X o td) (hi : PE X i ty) (hv : PE X value tv) (hs : swapsWith value (some (.Subscript o i pos')) pos.line X.env = pure false) :
    PS X (.Assign [.Subscript o i pos'] value pos) (sDPut td ty tv) := by
  intro pins s σ H D I h
  refine wpAny_Assign_Subscript (thn (hv pins s σ H _ I h) fun r s1 ⟨v, H1, I1, rv, q1⟩ => thn (ho pins s1 σ H1 _ I1 q1) fun u s2 ⟨x, H2, I2, rx, q2⟩ => thn (hi pins s2 σ H2 _ I2 q2) fun iv s3 ⟨y, H3, I3, ry, a, H4, ex, g, q3⟩ => ?_) hs
  subst ex
  obtain rfl : u = Value.ref a := rx
  exact d_setItem hu I3 g ry rv fun s4 I4 => ⟨σ, H4, I4, q3⟩
end

/-! ### displays -/
theorem dk_empty {P : Program} {w : World} {H : Hp} (h : Heap) (hb : sysModules < h.objs.size) : ObjOk P w H (h.push { cls := .type "dict", data := .dict #[] }) h.objs.size (.dK []) :=
  ⟨Nat.zero_le _, beq_eq_false_iff_ne.mpr (Ne.symm (Nat.ne_of_lt hb)), [], .nil, Heap.DictOf.new h⟩
/-- {}, to be a dict of the kind that is wanted -/
def tDNewK : TE := fun _ H Q => ∀ p, H p = none → Q (.ref p) (upd H p (.dK []))
section
variable {X : Cx} {pos : Pos}
theorem pe_dnewK : PE X (.Dict [] [] pos) tDNewK := fun pins s σ H Q I h =>
  wpAny_Dict_empty ⟨.ref s.heap.objs.size, _, I.laid (a := s.heap.objs.size) (o := .dK []) (t' := s.toks) (fun _ _ q => Heap.get?_push_of_some _ q) (Nat.le_refl _) (dk_empty s.heap I.big), rfl, h _ (I.hok.fresh (Nat.le_refl _))⟩
end

/-! ### methods -/
/-- a method call o.m(e) of a built-in, with one argument: what must be seen of the text -/
structure M1 (X : Cx) (o : Expr) (m : Str) (apos : Pos) (e : Expr) (cpos : Pos) : Prop where
  base : attributeBase o m X.env (eval o X.env) = eval o X.env
  few : ((backTo cpos (starEach [e] X.env)).all (fun x => !x.1) && (backToKw cpos (keywordEach [] X.env)).all (fun x => x.1.isSome)
    && decide (([e] : List Expr).length + ([] : List Keyword).length + (if ([] : List Keyword).isEmpty then 0 else 1) < 30)) = true
  line : (apos.endLine == cpos.line) = true
  trees : backTo cpos (starEach [e] X.env) = [(false, eval e X.env)]

/-- a is a dict, whatever its keys -/
def IsD (H : Hp) (a : Addr) : Prop := (∃ kvs, Rd H a (.dK kvs)) ∨ ∃ kvs, Rd H a (.dT kvs)
theorem isD_at {X : Cx} {pins : List (Addr × Obj)} {σ : St} {H : Hp} {s : Shared} {a : Addr} (I : Inv X pins σ H s) (d : IsD H a) :
    s.TypeIs (.ref a) "dict" ∧ (∀ b, Value.ref a = .ref b → ∃ ob, s.heap.get? b = some ob ∧ ob.dict = none) ∧ (a == sysModules) = false := by
  rcases d with ⟨kvs, e⟩ | ⟨kvs, e⟩
  · obtain ⟨_, hd, vs, _, dd⟩ := dk_rd I.hok e
    refine ⟨dd.typeIs, fun b q => ?_, hd⟩
    cases q
    obtain ⟨ob, _, _, h1, h2, _⟩ := dd
    exact ⟨ob, h1, h2.2.1⟩
  · obtain ⟨_, hd, xs, _, dd⟩ := dt_rd I.hok e
    refine ⟨dd.typeIs, fun b q => ?_, hd⟩
    cases q
    obtain ⟨ob, _, _, h1, h2, _⟩ := dd
    exact ⟨ob, h1, h2.2.1⟩

/-- d.pop(k): there; d.pop(k, x): there or not -/
def tDPop1 (td ty : TE) : TE := fun σ H Q => td σ H fun x H1 => ∃ a, x = .ref a ∧ IsD H1 a ∧ ty σ H1 fun y H2 => ∃ kvs k v, H2 a = some (.dK kvs) ∧ y = kV k ∧ valV kvs k = some v ∧ Q v (upd H2 a (.dK (dropK kvs k)))
section
variable {X : Cx} {o e f : Expr} {apos cpos : Pos} {td ty tx : TE}
theorem pe_dpop1 (ho : PE X o td) (he : PE X e ty) (m : M1 X o "pop" apos e cpos) : PE X (.Call (.Attribute o "pop" apos) [e] [] cpos) (tDPop1 td ty) := by
  intro pins s σ H Q I h
  refine wpAny_Call_method m.base m.few m.line PySem.F.plainAttrs_dict PySem.F.slot_dict_pop PySem.F.type_dict_pop (thn (ho pins s σ H _ I h) fun u s1 ⟨x, H1, I1, rx, a, ex, d, q1⟩ => ?_)
  subst ex
  obtain rfl : u = Value.ref a := rx
  obtain ⟨t1, t2, _⟩ := isD_at I1 d
  refine ⟨t1, t2, ?_⟩
  rw [m.trees]
  refine Calls.callWith_builtin rfl (Calls.evalArgs_plain (Calls.spliced_cons (thn (he pins s1 σ H1 _ I1 q1) fun iv s2 ⟨y, H2, I2, ry, kvs, k, v, ea, ey, l, q2⟩ => Calls.spliced_nil ?_)))
  subst ey
  exact d_pop I2 ea ry l (.inl rfl) fun w' s3 I3 rw' => ⟨v, _, I3, rw', q2⟩
end

/-! ### dict(d): a copy -/

end L2

namespace L2
open PySem PySem.Spec PyProof.Rows

section
variable {prog : Program} {w : World} {A : Around} {E : Value → Shared → Prop}

end

end L2

namespace L2
open PySem PySem.Spec PyProof.Rows

section
variable {X : Cx} {pins : List (Addr × Obj)} {σ : St} {H : Hp} {s : Shared} {h' : Heap}
/-- .. and one new object is laid -/
theorem Inv.turnedNew {t' : Nat} {ch : List Addr} {T : Addr} {ob : HO} (I : Inv X pins σ H s) (k : ∀ b o, b ∉ ch → s.heap.get? b = some o → h'.get? b = some o) (hf : ∀ b ∈ ch, FpOk X pins H b) (hT : s.heap.objs.size ≤ T)
    (new : ObjOk X.prog X.w (upd H T ob) h' T ob) : Inv X pins σ (upd H T ob) { s with heap := h', toks := t' } := by
  have hn : H T = none := I.hok.fresh hT
  have nit : ∀ b u, H b = some u → b ∉ ch := fun b u e z => by
    have q := (hf b z).1
    rw [q] at e; cases e
  refine I.step (g' := s.gens) (d' := s.drawn) (ch := ch) (fun b hb => ⟨(hf b hb).2.2.2.1, (hf b hb).2.1, (hf b hb).2.2.2.2.1, (hf b hb).2.2.2.2.2⟩) (fun b o _ _ hc e _ => k b o hc e) (fun b o _ _ hc e _ => ⟨o.slots, k b o hc e⟩)
    (fun b o _ e n => ?_) (fun b o hc e => ⟨o, k b o hc e⟩) (fun b xs e => ?_) (fun b o u e => ?_) (fun b ps e => ⟨#[], ?_⟩) (fun m hm => ?_) (fun b u e => ?_) I.bare
  · rw [upd_ne (Nat.ne_of_lt (Nat.lt_of_lt_of_le (Heap.lt_size e) hT))]; exact n
  · rw [upd_ne (ne_of_none e hn)]; exact e
  · rw [upd_ne (ne_of_none e hn)]; exact e
  · rw [upd_ne (ne_of_none e hn), e]; simp
  · obtain ⟨o, es, ep, ho, r⟩ := hm
    exact ⟨o, es, ep, k _ o (fun z => (hf _ z).2.1 rfl) ho, r⟩
  · by_cases hb : b = T
    · subst hb
      rw [upd_same] at e
      cases e
      exact new
    · rw [upd_ne hb] at e
      refine (I.hok b u e).stay (fun c v hc q => k c v ?_ q) (fun c q => by rw [upd_ne (ne_of_none q hn)]; exact q) fun c xs q => by rw [upd_ne (ne_of_none q hn)]; exact q
      rcases hc with z | z
      · rw [z]; exact nit b u e
      · exact nit c _ z

/-! ### locking a thing while a statement runs -/
end
section
variable {X : Cx}

/-! ### one iterator just laid -/
theorem pi_one {tg : Expr} {pins : List (Addr × Obj)} {σ : St} {H : Hp} {s : Shared} {R : It → Hp → Prop} {J : It} {tn : Nat → Heap → Prop} {tk : Nat} (I : Inv X pins σ H s) (o : Obj)
    (T : Turn X.prog X.w X.K tg J [s.heap.objs.size] s.heap.objs.size tn) (st : tn 0 (s.heap.push o)) (q : R J H) : PIE X pins σ tg R (.ref s.heap.objs.size) { s with heap := s.heap.push o, toks := tk } := by
  refine ⟨s.heap.objs.size, [s.heap.objs.size], tn, J, H, rfl, I.kept fun b ob e => Heap.get?_push_of_some _ e, T, st, fun b hb => ?_, q⟩
  have e : b = s.heap.objs.size := by simpa using hb
  subst e
  exact I.fpOk (Nat.le_refl _) (I.hok.fresh (Nat.le_refl _))
end

/-! ### range with a step -/
/-- lo, lo + c, .. (n of them) -/
def Itc (lo c : Int) (n : Nat) : It := ⟨fun i _ => i < n, fun i H x H' => H' = H ∧ x = .int (lo + (i : Nat) * c), fun i _ => n ≤ i⟩
theorem turn_rangeC {P : Program} {w : World} {K : PySem.W.Frag} {tg : Expr} (it : Addr) (lo c : Int) (n : Nat) : Turn P w K tg (Itc lo c n) [it] it (fun i h => IsRangeIter h it (lo + (i : Nat) * c) ((n : Int) - (i : Nat)) c) where
  mem := by simp
  obj := fun i h st b hb => by
    have e : b = it := by simpa using hb
    subst e
    exact ⟨_, st, fun v z => nomatch z⟩
  keep := fun i h h' st k => k it (by simp) _ st
  item := by
    intro X hP hw hK hc i pins s σ H E I hf st hg
    subst hP hw hK
    obtain ⟨f0, f1, f2, f3, f4, f5⟩ := hf it (by simp)
    have W := Walks.range (prog := X.prog) (w := X.w) (I.ok.hd hc) it lo c n
    refine W.item i s _ _ hg st fun v h' tk hv st' kk => ?_
    obtain ⟨t, rfl⟩ := hv
    have I1 : Inv X pins σ H { s with heap := h', toks := tk } := I.turned (fun b o hb e => kk b o (by simpa using hb) e) f0 f1 f3 f4 f5
    exact ⟨_, rfl, go_of (s := { s with heap := h', toks := tk }) (n := "range_iterator") st' rfl rfl (by decide) ⟨.int (lo + (i : Nat) * c), H, I1, ⟨t, rfl⟩, ⟨rfl, rfl⟩, st', fun b hb => (hf b hb).1⟩⟩
  done := by
    intro X hP hw hK hc i pins s σ H E I hf st hg
    subst hP hw hK
    obtain ⟨f0, f1, f2, f3, f4, f5⟩ := hf it (by simp)
    exact wpAny_pyNext_range_end (I.ok.hd hc) st (by have : n ≤ i := hg; omega) fun h' eb => ⟨rfl, I.turned (t' := s.toks) (fun b o hb e => eb b o hb e) f0 f1 f3 f4 f5⟩
  self := fun A i s Q E st h => wpAny_pyIter_rangeiter st h
/-- range(i, j, c): small bounds, n items -/
def RgC (i j c : Int) (n : Nat) : Prop := c ≠ 0 ∧ c.natAbs < 1073741824 ∧ Builtin.Range.small i j c = true ∧ Builtin.Range.rangeSize i j c = n
theorem RgC.neg {i j : Int} (ha : -(2 ^ 62) ≤ i) (ha' : i < 2 ^ 62) (hb : -(2 ^ 62) ≤ j) (hb' : j < 2 ^ 62) : RgC i j (-1) (i - j).toNat :=
  ⟨by decide, by decide, PySem.W.small_down ha ha' hb hb', PySem.W.rangeSize_downNat i j⟩
def iRng3 (ta : TA) : TI := fun σ H R => ta σ H fun vs H1 => ∃ (i j c : Int) (n : Nat), vs = [.int i, .int j, .int c] ∧ RgC i j c n ∧ R (Itc i c n) H1
section
variable {X : Cx} {tg : Expr}
theorem pi_range3 {a b c : Expr} {ta : TA} {p pos : Pos} (hg : Gl X "range") (hm : X.mg "range" = none) (ha : PA X [a, b, c] ta)
    (hs : starEach [a, b, c] X.env = (false, eval a X.env) :: starEach [b, c] X.env := by rfl) (hpl : (backTo pos (starEach [b, c] X.env)).any (·.1) = false := by rfl) :
    PI X tg (.Call (.Name "range" p) [a, b, c] [] pos) (iRng3 ta) := by
  intro pins s σ H R I h
  refine Call_ (ld_blt I hg hm boot_range (PyProof.Rows.callWith_type1 (thn (ha pos pins s σ H _ I h) fun us s1 ⟨vs, H1, I1, r1, q1⟩ => ?_) hs hpl))
  obtain ⟨i, j, k, n, e, ⟨c0, c1, c2, c3⟩, q⟩ := q1
  subst e
  cases r1 with
  | cons r rr =>
    cases rr with
    | cons r' rr =>
      cases rr with
      | cons r'' rr =>
        cases rr
        obtain ⟨t, rfl⟩ := r
        obtain ⟨t', rfl⟩ := r'
        obtain ⟨t'', rfl⟩ := r''
        refine call_range_3 c0 ?_ (.inl (PyProof.noPylong_small c1))
        refine wpAny_pyIter_range (IsRange.new ..) c2 ?_
        have I2 : Inv X pins σ H1 { s1 with heap := s1.heap.push { cls := .type "range", data := .fields #[.int i t, .int j t', .int k t''] } } := I1.kept (t' := s1.toks) fun b o e => Heap.get?_push_of_some _ e
        refine pi_one (tk := s1.toks) I2 _ (turn_rangeC _ i k n) ?_ q
        have e1 : i + ((0 : Nat) : Int) * k = i := by simp
        have e2 : (n : Int) - ((0 : Nat) : Int) = Builtin.Range.rangeSize i j k := by rw [c3]; simp
        show IsRangeIter _ _ (i + ((0 : Nat) : Int) * k) ((n : Int) - ((0 : Nat) : Int)) k
        rw [e1, e2]
        exact Heap.get?_push_size _ rfl
end
/-- the turns of a step range, for the for loop -/
theorem for_rangeC {lo c : Int} {n : Nat} {g : TG} {tb : TS} {D : Ends} {σ : St} {H : Hp} (Pv : Nat → St → Hp → Prop) (h0 : Pv 0 σ H)
    (hs : ∀ i σ H, i < n → Pv i σ H → g (.int (lo + (i : Nat) * c)) σ H fun σ2 H2 => tb { D with nx := Pv (i + 1), ct := Pv (i + 1), bk := D.nx } σ2 H2) (hd : ∀ σ H, Pv n σ H → D.nx σ H) :
    ∃ W : Nat → Nat → St → Hp → Prop, (∃ m, W 0 m σ H) ∧ ∀ i m σ H, W i m σ H →
      ((Itc lo c n).stop i H ∧ D.nx σ H) ∨ ((Itc lo c n).go i H ∧ ∃ N : St → Hp → Prop, (∀ σ' H', N σ' H' → ∃ m', m' < m ∧ W (i + 1) m' σ' H') ∧ ∀ x H', (Itc lo c n).yld i H x H' → g x σ H' fun σ2 H2 => tb { D with nx := N, ct := N, bk := D.nx } σ2 H2) := by
  refine ⟨fun i m σ H => m = n - i ∧ i ≤ n ∧ Pv i σ H, ⟨n, by simp, Nat.zero_le _, h0⟩, ?_⟩
  rintro i m σ H ⟨rfl, hi, p⟩
  by_cases hlt : i < n
  · refine .inr ⟨hlt, Pv (i + 1), fun σ' H' p' => ⟨n - (i + 1), by omega, rfl, hlt, p'⟩, fun x H' y => ?_⟩
    obtain ⟨e, y⟩ := y
    subst e y
    exact hs i σ _ hlt p
  · have e : i = n := by omega
    subst e
    exact .inl ⟨Nat.le_refl _, hd σ H p⟩

/-! ### reversed(list) -/

/-! ### a str -/

/-! ### a dict's keys: any dict's entries -/

/-! ### a locked dict -/

/-! ### for k in d, d.keys(), d.values(), d.items() -/

/-! ### enumerate(list) -/
/-! ### zip(list, list) -/
end L2

section 
namespace Bits
open PySem PyProof.Rows

end Bits
end 

section 
namespace TL
open PySem PySem.Builtin PySem.Builtin.Str PySem.StrLaws

/-! ### the list functions -/

/-! ### the model's split and partition are these -/

/-! ### computing spl and par -/

/-! ### digits -/

/-! ### words: x.split() -/
end TL
end 

namespace L2
open PySem PySem.Spec PyProof.Rows

section
variable {X : Cx}

/-! ### of a text alone -/

/-! ### of a text and a text -/

end

section
variable {X : Cx} {o e : Expr} {to te : TE}

end
end L2

namespace L2
open PySem PySem.Spec PyProof.Rows

/-! ### slices of a text -/

end L2

namespace Att
open PySem PySem.W PySem.Calls PyProof.Rows

/-! ### the script -/

/-! ### the attachment: holds_open's last premise (the goal 'hc' behind k_head) from a wpAny of the law's body -/

/-! ### rules over ANY heap (no ledger) from facts about the written part K: the library's own take a ledger (News) for what they write -/
section
variable {prog : Program} {w : World} {A : Around} {E : Value → Shared → Prop} {s : Shared} {K : Frag}

/-! the whole heap as the ledger: makes every rule that writes through a ledger a rule over any heap -/

end
end Att

namespace L2
open PySem PySem.Spec PyProof.Rows

end L2

namespace L2
open PySem PySem.Spec PyProof.Rows

end L2

/- THE LAST THEOREM (shape; LID, My.* are yours):
   My.Adr: a structure of the addresses that your layer names (classes, functions); My.Txt K t: a structure (Prop) of the equations over K;
   My.txt_mk : {K} {implicit addresses ..} (e1 : nsIn K mainGlobals "law" = some (some (.ref f))) (e2 : K.lookup f = some ⟨oc, od, .func (fnOf "law" "law" params body scope dV kV doc pm an cdv ct), sl⟩) (e3 : codeIn K cdv "law" = true) .. : ∃ t, My.Txt K t

set_option maxRecDepth 100000 in
set_option maxHeartbeats 0 in
theorem PySem.Challenge.cw_LID_holds : PySem.Challenge.rw_LID.Holds := by
  w_on; o_law; k_head; (case hw => w_witness2)
  k_fill
  refine L2.walk_of (l := PySem.Challenge.rw_LID) (n := 63) (k := 40) (x := "script") (CX := fun w => ..) (sp := fun _ => My.sp_law) rfl (by decide) rfl ⟨rfl, by decide, by decide⟩ (fun w h Y => PySem.W.kIn_of Y) ?F ?S ?C
  case F =>
    intro w mg fa h KX G hmg
    have T : ∃ t, My.Txt (L2.KOf KX) t := by
      dsimp only [L2.KOf]                          -- K must stand as «<heap const> w.params» for k_is
      refine' My.txt_mk ?e1 ?e2 ?e3 ..
      (case e1 => PySem.W.k_is)                    -- in the order: a name -> its address -> its object -> its parts
      (case e2 => PySem.W.k_is)
      ..
    obtain ⟨t, T⟩ := T
    have e0 := hmg.symm.trans (PySem.W.mg_of KX G T.law)
    cases e0                                       -- fa is the law's own address
    exact ⟨_, fun s u => .of_eq rfl, fun base kb nb => My.law_fn T kb nb⟩     -- if «.of_eq rfl» comes too early: refine' ⟨_, ?b, fun base kb nb => My.law_fn T kb nb⟩; exact fun s u => .of_eq rfl
  case S => exact fun w H a ns hl hO hS => ..
  case C => exact ..
(the tactic k_is has no namespace: write k_is) -/

/-! SHORT WORDS over the layer: a def of the text, its body, what a loop and a test want. -/
namespace L2
open PySem PySem.Spec PyProof.Rows

/-! ### the text by places -/
/-- the j-th statement of a class's body -/
def inClass (s : Stmt) (j : Nat) : Stmt := match s with
  | .ClassDef _ _ _ body _ _ _ _ _ _ _ => body.getD j (.Pass ⟨0, 0, 0, 0⟩)
  | _ => .Pass ⟨0, 0, 0, 0⟩
def defArgs (s : Stmt) : Arguments := match s with
  | .FunctionDef _ a _ _ _ _ _ _ _ _ => a
  | _ => { posonlyargs := [], args := [], vararg := none, kwonlyargs := [], kw_defaults := [], kwarg := none, defaults := [] }
def defBody (s : Stmt) : List Stmt := match s with
  | .FunctionDef _ _ b _ _ _ _ _ _ _ => b
  | _ => []
def defScope (s : Stmt) : Scope := match s with
  | .FunctionDef _ _ _ _ _ _ sc _ _ _ => sc
  | _ => { kind := .function, names := [], isGenerator := false, isCoroutine := false }

/-! ### no exception leaves a def -/
abbrev CX0 : CXT := fun _ _ _ _ _ _ => False
abbrev E0 : XK := fun _ _ _ => False
theorem pass0 {X : Cx} : Passes CX0 X E0 := fun _ _ _ _ _ _ _ h => h.elim

/-! ### a def (or method) of the text as it stands behind the top -/
theorem hu_of {A : Around} {k : Nat} (hr : Room k A) : A.units + 1 < cLine := Nat.lt_of_le_of_lt (Nat.add_le_add_left (by decide : 1 ≤ 64) _) hr.units

/-! ### expressions in short: the name that stands in the i-th slot -/
section
variable {X : Cx}
theorem pv (i : Nat) {x : Str} {pos : Pos} (hN : X.N[i]? = some x := by rfl) (hv : Vis X.env.scope x := by first | exact Or.inl rfl | exact Or.inr (Or.inl rfl) | exact Or.inr (Or.inr rfl)) (hd : (x == ("__debug__" : Str)) = false := by decide)
    (hcd : (x == ("__classdict__" : Str)) = false := by decide) : PE X (.Name x pos) (tVar i) := pe_var hN hv hd hcd
/-- len of a dict -/
theorem call_lenD : CallR X (.builtin "len") (fun xs H Q => ∃ a kvs, xs = [V.ref a] ∧ H a = some (.dK kvs) ∧ Q (.int kvs.length) H) := by
  intro pins s σ H xs us Q I r h
  obtain ⟨a, kvs, rfl, ha, q⟩ := h
  obtain ⟨u, rfl, ru⟩ := vals1 r
  cases ru
  exact d_len I (.inl ha) fun t s' I' => ⟨.int kvs.length, H, I', ⟨t, rfl⟩, q⟩
end

/-! ### tests -/
theorem iteF {A B : Prop} (h : B) : if false = true then A else B := by
  rw [if_neg Bool.false_ne_true]
  exact h
theorem iteT {A B : Prop} (h : A) : if true = true then A else B := by
  rw [if_pos rfl]
  exact h
theorem ite2 {c A B : Prop} [Decidable c] (h1 : c → A) (h2 : ¬ c → B) : if c then A else B := by
  by_cases h : c
  · rw [if_pos h]
    exact h1 h
  · rw [if_neg h]
    exact h2 h

/-! ### heaps -/

/-! ### a dict's pairs: keys that differ -/
section
variable {κ : Type} [DecidableEq κ]
theorem dropK_pos {p : κ × V} {r : List (κ × V)} {k : κ} (e : p.1 = k) : dropK (p :: r) k = dropK r k := by
  unfold dropK
  rw [List.filter_cons, if_neg (by simp [e])]
theorem dropK_neg {p : κ × V} {r : List (κ × V)} {k : κ} (e : ¬ p.1 = k) : dropK (p :: r) k = p :: dropK r k := by
  unfold dropK
  rw [List.filter_cons, if_pos (by simp [e])]
end
/-! ### lists -/
theorem at_of {xs : List V} {z : Int} {j : Nat} {v : V} (e : z = (j : Int)) (h : xs[j]? = some v) : atI xs z = some v := by
  rw [e]
  exact atI_nat h
end L2
end

section
section
set_option Elab.async false
set_option linter.all false
set_option maxRecDepth 100000
set_option maxHeartbeats 2000000
namespace L2
open PySem PySem.Spec PyProof.Rows
open PySem.W (WData Codec OpenSpec Well WellAll ReadsW ReadsAllW)
/-! ### an answer as data -/
mutual
/-- x stands for the datum d, lists and tuples all the way -/
inductive Dw (K : PySem.W.Frag) (H : Hp) : V → WData → Prop
  | non : Dw K H .non .none
  | bl (b : Bool) : Dw K H (.bl b) (.bool b)
  | int (i : Int) : Dw K H (.int i) (.int i)
  | str (x : Str) : Dw K H (.str x) (.str x)
  | byt (b : Array UInt8) : Dw K H (.byt b) (.bytes b.toList)
  | lst {a : Addr} {xs : List V} {ds : List WData} : SqL K H a xs → DwAll K H xs ds → Dw K H (.ref a) (.list ds)
  | tup {a : Addr} {xs : List V} {ds : List WData} : SqT K H a xs → DwAll K H xs ds → Dw K H (.ref a) (.tuple ds)
inductive DwAll (K : PySem.W.Frag) (H : Hp) : List V → List WData → Prop
  | nil : DwAll K H [] []
  | cons {v : V} {vs : List V} {d : WData} {ds : List WData} : Dw K H v d → DwAll K H vs ds → DwAll K H (v :: vs) (d :: ds)
end
theorem dw_ints {K : PySem.W.Frag} {H : Hp} : ∀ ns : List Int, DwAll K H (ns.map V.int) (ns.map WData.int)
  | [] => .nil
  | n :: r => .cons (.int n) (dw_ints r)
theorem ints_dw {K : PySem.W.Frag} {H : Hp} : ∀ (ns : List Int) (xs : List V), DwAll K H xs (ns.map WData.int) → xs = ns.map V.int
  | [], xs, h => by
    cases h
    rfl
  | n :: r, xs, h => by
    cases h with
    | cons h1 h2 =>
      cases h1
      rw [ints_dw r _ h2] <;> rfl
section
variable {P : Program} {w : World} {K : PySem.W.Frag} {H : Hp} {h : Heap} {R : PySem.W.WRecords} {cl : Str → Option Addr}
theorem sqL_at {a : Addr} {xs : List V} (hok : HOk P w H h) (KX : K.In h) (q : SqL K H a xs) : ∃ (its : List Value) (o : Obj) (n : Nat), Vals xs its ∧ h.get? a = some o ∧ o.cls = .type "list" ∧ o.data = .seq its.toArray n := by
  rcases q with q | ⟨o, its, n, e, hc, _, hd, _, hv⟩
  · obtain ⟨_, its, n, hv, e⟩ := (show ObjOk P w H h a (.lst xs) from q.ok hok)
    exact ⟨its, _, n, hv, e, rfl, rfl⟩
  · exact ⟨its.toList, o, n, hv, KX _ _ e, hc, by simp [hd]⟩
theorem sqT_at {a : Addr} {xs : List V} (hok : HOk P w H h) (KX : K.In h) (q : SqT K H a xs) : ∃ (its : List Value) (o : Obj) (n : Nat), Vals xs its ∧ h.get? a = some o ∧ o.cls = .type "tuple" ∧ o.data = .seq its.toArray n := by
  rcases q with q | ⟨o, its, n, e, hc, hd, _, hv⟩
  · obtain ⟨_, its, hv, o, e, hc, n, hd⟩ := (show ObjOk P w H h a (.tup xs) from q.ok hok)
    exact ⟨its, o, n, hv, e, hc, hd⟩
  · exact ⟨its.toList, o, n, hv, KX _ _ e, hc, by simp [hd]⟩
mutual
theorem Dw.reads (hok : HOk P w H h) (KX : K.In h) : ∀ (d : WData) (v : V) (u : Value), Dw K H v d → RelV v u → ∃ as, ReadsW R cl h u d as
  | .none, _, _, x, r => by
    cases x
    cases r
    exact ⟨_, ReadsW.none⟩
  | .bool b, _, _, x, r => by
    cases x
    cases r
    exact ⟨_, ReadsW.bool b⟩
  | .int i, _, _, x, r => by
    cases x
    obtain ⟨t, rfl⟩ := r
    exact ⟨_, ReadsW.int i t⟩
  | .str s, _, _, x, r => by
    cases x
    obtain ⟨t, rfl⟩ := r
    exact ⟨_, ReadsW.str s t⟩
  | .bytes b, _, _, x, r => by
    cases x
    obtain ⟨t, rfl⟩ := r
    exact ⟨_, ReadsW.bytes _ t⟩
  | .list ds, _, _, x, r => by
    cases x with
    | lst hs ha =>
      cases r
      obtain ⟨its, o, n, rv, ho, hc, hd⟩ := sqL_at hok KX hs
      obtain ⟨as, hr⟩ := Dw.readsAll hok KX ds _ its ha rv
      exact ⟨_, ReadsW.list ho hc hd hr⟩
  | .tuple ds, _, _, x, r => by
    cases x with
    | tup hs ha =>
      cases r
      obtain ⟨its, o, n, rv, ho, hc, hd⟩ := sqT_at hok KX hs
      obtain ⟨as, hr⟩ := Dw.readsAll hok KX ds _ its ha rv
      exact ⟨_, ReadsW.tuple ho hc hd hr⟩
  | .float _, _, _, x, _ => by cases x
  | .dict _, _, _, x, _ => by cases x
  | .bytearray _, _, _, x, _ => by cases x
  | .set _, _, _, x, _ => by cases x
  | .frozenset _, _, _, x, _ => by cases x
  | .obj _ _, _, _, x, _ => by cases x
theorem Dw.readsAll (hok : HOk P w H h) (KX : K.In h) : ∀ (ds : List WData) (vs : List V) (us : List Value), DwAll K H vs ds → Vals vs us → ∃ as, ReadsAllW R cl h us ds as
  | [], _, _, x, r => by
    cases x
    cases r
    exact ⟨_, ReadsAllW.nil⟩
  | d :: ds, _, _, x, r => by
    cases x with
    | cons h1 h2 =>
      cases r with
      | cons r1 r2 =>
        obtain ⟨as, q1⟩ := Dw.reads hok KX d _ _ h1 r1
        obtain ⟨bs, q2⟩ := Dw.readsAll hok KX ds _ _ h2 r2
        exact ⟨_, ReadsAllW.cons q1 q2⟩
end
end
/-! ### the arguments -/
mutual
/-- data that a codec tells -/
def plW : WData → Bool
  | .none => true
  | .bool _ => true
  | .int _ => true
  | .str _ => true
  | .bytes _ => true
  | .list xs => plWs xs
  | .tuple xs => plWs xs
  | _ => false
def plWs : List WData → Bool
  | [] => true
  | x :: r => plW x && plWs r
end
theorem plWs_map {α : Type} {f : α → WData} (h : ∀ a, plW (f a) = true) : ∀ l : List α, plWs (l.map f) = true
  | [] => rfl
  | x :: r => by
    show (plW (f x) && plWs (r.map f)) = true
    rw [h x, plWs_map h r] <;> rfl
theorem pl_enc : ∀ (c : Codec) (a : c.denote), plW (c.enc a) = true
  | .unit, _ => rfl
  | .bool, _ => rfl
  | .int _ _, _ => rfl
  | .nat _ _, _ => rfl
  | .u8, _ => rfl
  | .bytes _ _, _ => rfl
  | .text _ _ _ _, _ => rfl
  | .list _ _ c, a => plWs_map (fun x => pl_enc c x) a
  | .pair c d, a => by
    show (plW (c.enc a.1) && (plW (d.enc a.2) && true)) = true
    rw [pl_enc c a.1, pl_enc d a.2] <;> rfl
  | .triple c d e, a => by
    show (plW (c.enc a.1) && (plW (d.enc a.2.1) && (plW (e.enc a.2.2) && true))) = true
    rw [pl_enc c a.1, pl_enc d a.2.1, pl_enc e a.2.2] <;> rfl
  | .option c, none => rfl
  | .option c, some x => pl_enc c x
theorem pl_encAll : ∀ (cs : List Codec) (a : Codec.denoteAll cs), plWs (Codec.encAll cs a) = true
  | [], _ => rfl
  | c :: cs, a => by
    show (plW (c.enc a.1) && plWs (Codec.encAll cs a.2)) = true
    rw [pl_enc c a.1, pl_encAll cs a.2] <;> rfl
theorem weight_mem : ∀ {xs : List WData} {d : WData}, d ∈ xs → d.weight ≤ WData.weightAll xs
  | [], d, h => absurd h (by simp)
  | x :: r, d, h => by
    show d.weight ≤ x.weight + 1 + WData.weightAll r
    rcases List.mem_cons.mp h with e | m
    · rw [e]
      omega
    · have z := weight_mem m
      omega
def toV : Value → V
  | .none => .non
  | .bool b => .bl b
  | .int i _ => .int i
  | .str x _ => .str x
  | .bytes b _ => .byt b
  | .ref a => .ref a
  | _ => .non
/-- a value of the arguments, its objects among A -/
def OkU (A : List Addr) : Value → Prop
  | .none => True
  | .bool _ => True
  | .int _ _ => True
  | .str _ _ => True
  | .bytes _ _ => True
  | .ref a => a ∈ A
  | _ => False
theorem OkU.mono {A B : List Addr} (h : ∀ a ∈ A, a ∈ B) : ∀ {u : Value}, OkU A u → OkU B u := fun {u} x => by
  cases u with
  | ref a => exact h a x
  | none => trivial
  | bool b => trivial
  | int i t => trivial
  | str s t => trivial
  | bytes b t => trivial
  | _ => exact False.elim x
theorem relV_toV {A : List Addr} {u : Value} (x : OkU A u) : RelV (toV u) u := by
  cases u with
  | ref a => rfl
  | none => rfl
  | bool b => rfl
  | int i t => exact ⟨t, rfl⟩
  | str s t => exact ⟨t, rfl⟩
  | bytes b t => exact ⟨t, rfl⟩
  | _ => exact False.elim x
theorem vals_toV {A : List Addr} : ∀ {vs : List Value}, (∀ u ∈ vs, OkU A u) → Vals (vs.map toV) vs
  | [], _ => .nil
  | u :: r, h => .cons (relV_toV (h u (List.mem_cons_self ..))) (vals_toV fun x hx => h x (List.mem_cons_of_mem _ hx))
/-- an object of the arguments -/
def ArgOb (h : Heap) (A : List Addr) (a : Addr) : Prop := ∃ vs : List Value, vs.length ≤ sizeLine ∧ (∀ u ∈ vs, OkU A u) ∧
  (h.get? a = some { cls := .type "list", data := .seq vs.toArray } ∨ h.get? a = some { cls := .type "tuple", data := .seq vs.toArray })
theorem ArgOb.mono {h : Heap} {A B : List Addr} {a : Addr} (k : ∀ a ∈ A, a ∈ B) (x : ArgOb h A a) : ArgOb h B a := by
  obtain ⟨vs, h1, h2, h3⟩ := x
  exact ⟨vs, h1, fun u hu => (h2 u hu).mono k, h3⟩
theorem wellAll_len {P : Params} {h : Heap} : ∀ {vs : List Value} {ds : List WData}, WellAll P h vs ds → vs.length = ds.length
  | _, _, .nil => rfl
  | _, _, .cons _ b => by
    show _ + 1 = _ + 1
    rw [wellAll_len b]
theorem well_list {P : Params} {h : Heap} {v : Value} {ds : List WData} (x : Well P h v (.list ds)) : ∃ (a : Addr) (vs : List Value), v = .ref a ∧ h.get? a = some { cls := .type "list", data := .seq vs.toArray } ∧ WellAll P h vs ds := by
  cases x with
  | list ho hall => exact ⟨_, _, rfl, ho, hall⟩
theorem well_tuple {P : Params} {h : Heap} {v : Value} {ds : List WData} (x : Well P h v (.tuple ds)) : ∃ (a : Addr) (vs : List Value), v = .ref a ∧ h.get? a = some { cls := .type "tuple", data := .seq vs.toArray } ∧ WellAll P h vs ds := by
  cases x with
  | tuple ho hall => exact ⟨_, _, rfl, ho, hall⟩
theorem well_cons {P : Params} {h : Heap} {us : List Value} {d : WData} {ds : List WData} (x : WellAll P h us (d :: ds)) : ∃ (v : Value) (vs : List Value), us = v :: vs ∧ Well P h v d ∧ WellAll P h vs ds := by
  cases x with
  | cons a b => exact ⟨_, _, rfl, a, b⟩
theorem line_of {n : Nat} (h : n ≤ 1048576) : n ≤ sizeLine := Nat.le_trans h (by decide)
section
variable {P : Params} {h : Heap}
mutual
theorem area_one : ∀ (d : WData) (v : Value), Well P h v d → plW d = true → d.weight ≤ 1048576 → ∃ A : List Addr, OkU A v ∧ ∀ a ∈ A, ArgOb h A a
  | .none, _, x, _, _ => by
    cases x
    exact ⟨[], trivial, fun a m => absurd m (by simp)⟩
  | .bool b, _, x, _, _ => by
    cases x
    exact ⟨[], trivial, fun a m => absurd m (by simp)⟩
  | .int i, _, x, _, _ => by
    cases x
    exact ⟨[], trivial, fun a m => absurd m (by simp)⟩
  | .str s, _, x, _, _ => by
    cases x
    exact ⟨[], trivial, fun a m => absurd m (by simp)⟩
  | .bytes b, _, x, _, _ => by
    cases x
    exact ⟨[], trivial, fun a m => absurd m (by simp)⟩
  | .list ds, _, x, p, z => by
    obtain ⟨a, vs, rfl, ho, hall⟩ := well_list x
    have z2 : WData.weightAll ds ≤ 1048576 := z
    obtain ⟨A, h1, h2⟩ := area_all ds _ hall p fun d hd => Nat.le_trans (weight_mem hd) z2
    have k : ∀ b ∈ A, b ∈ a :: A := fun b hb => List.mem_cons_of_mem _ hb
    refine ⟨a :: A, List.mem_cons_self .., fun b hb => ?_⟩
    rcases List.mem_cons.mp hb with e | m
    · rw [e]
      exact ⟨vs, line_of (by rw [wellAll_len hall]; exact Nat.le_trans (PySem.W.length_le_weightAllW ds) z2), fun u hu => (h1 u hu).mono k, .inl ho⟩
    · exact (h2 b m).mono k
  | .tuple ds, _, x, p, z => by
    obtain ⟨a, vs, rfl, ho, hall⟩ := well_tuple x
    have z2 : WData.weightAll ds ≤ 1048576 := z
    obtain ⟨A, h1, h2⟩ := area_all ds _ hall p fun d hd => Nat.le_trans (weight_mem hd) z2
    have k : ∀ b ∈ A, b ∈ a :: A := fun b hb => List.mem_cons_of_mem _ hb
    refine ⟨a :: A, List.mem_cons_self .., fun b hb => ?_⟩
    rcases List.mem_cons.mp hb with e | m
    · rw [e]
      exact ⟨vs, line_of (by rw [wellAll_len hall]; exact Nat.le_trans (PySem.W.length_le_weightAllW ds) z2), fun u hu => (h1 u hu).mono k, .inr ho⟩
    · exact (h2 b m).mono k
  | .float _, _, _, p, _ => Bool.noConfusion (show false = true from p)
  | .dict _, _, _, p, _ => Bool.noConfusion (show false = true from p)
  | .bytearray _, _, _, p, _ => Bool.noConfusion (show false = true from p)
  | .set _, _, _, p, _ => Bool.noConfusion (show false = true from p)
  | .frozenset _, _, _, p, _ => Bool.noConfusion (show false = true from p)
  | .obj _ _, _, _, p, _ => Bool.noConfusion (show false = true from p)
theorem area_all : ∀ (ds : List WData) (vs : List Value), WellAll P h vs ds → plWs ds = true → (∀ d ∈ ds, d.weight ≤ 1048576) → ∃ A : List Addr, (∀ u ∈ vs, OkU A u) ∧ ∀ a ∈ A, ArgOb h A a
  | [], _, x, _, _ => by
    cases x
    exact ⟨[], fun u m => absurd m (by simp), fun a m => absurd m (by simp)⟩
  | d :: ds, _, x, p, z => by
    obtain ⟨v, vs, rfl, x1, x2⟩ := well_cons x
    have q : plW d = true ∧ plWs ds = true := Bool.and_eq_true_iff.mp p
    obtain ⟨A, a1, a2⟩ := area_one d v x1 q.1 (z d (List.mem_cons_self ..))
    obtain ⟨B, b1, b2⟩ := area_all ds vs x2 q.2 fun e he => z e (List.mem_cons_of_mem _ he)
    have kA : ∀ b ∈ A, b ∈ A ++ B := fun b hb => List.mem_append.mpr (.inl hb)
    have kB : ∀ b ∈ B, b ∈ A ++ B := fun b hb => List.mem_append.mpr (.inr hb)
    refine ⟨A ++ B, fun u hu => ?_, fun b hb => ?_⟩
    · rcases List.mem_cons.mp hu with e | m
      · rw [e]
        exact a1.mono kA
      · exact (b1 u m).mono kB
    · rcases List.mem_append.mp hb with m | m
      · exact (a2 b m).mono kA
      · exact (b2 b m).mono kB
end
end
/-- what is tracked of an argument's object -/
def hoOf (o : Obj) : Option HO := match o.data with
  | .seq vs _ => if (o.cls == Value.type "list") = true then some (.frz o (.lst (vs.toList.map toV))) else some (.frz o (.tup (vs.toList.map toV)))
  | _ => none
def argH (K : PySem.W.Frag) (h : Heap) (A : List Addr) : Hp := fun b => if b ∈ A then (if (K.lookup b).isNone = true then (h.get? b).bind hoOf else none) else none
/-- nothing is tracked but what is known to the object -/
def OnlyF (H : Hp) : Prop := ∀ b, H b = none ∨ ∃ o u, H b = some (.frz o u)
theorem hoOf_lst (vs : List Value) : hoOf { cls := .type "list", data := .seq vs.toArray } = some (.frz { cls := .type "list", data := .seq vs.toArray } (.lst (vs.map toV))) := by
  show (if (Value.type "list" == Value.type "list") = true then some (HO.frz { cls := .type "list", data := .seq vs.toArray } (.lst (vs.toArray.toList.map toV))) else some (HO.frz { cls := .type "list", data := .seq vs.toArray } (.tup (vs.toArray.toList.map toV)))) = _
  rw [if_pos (beq_self_eq_true _)]
theorem hoOf_tup (vs : List Value) : hoOf { cls := .type "tuple", data := .seq vs.toArray } = some (.frz { cls := .type "tuple", data := .seq vs.toArray } (.tup (vs.map toV))) := by
  show (if (Value.type "tuple" == Value.type "list") = true then some (HO.frz { cls := .type "tuple", data := .seq vs.toArray } (.lst (vs.toArray.toList.map toV))) else some (HO.frz { cls := .type "tuple", data := .seq vs.toArray } (.tup (vs.toArray.toList.map toV)))) = _
  rw [if_neg (by decide)]
section
variable {P : Program} {w : World} {K : PySem.W.Frag} {h : Heap} {A : List Addr}
theorem argH_at {b : Addr} {o : Obj} (hb : b ∈ A) (hk : K.lookup b = none) (e : h.get? b = some o) : argH K h A b = hoOf o := by
  unfold argH
  rw [if_pos hb, hk, if_pos (show (none : Option Obj).isNone = true from rfl), e] <;> rfl
theorem of_argH {b : Addr} {u : HO} (q : argH K h A b = some u) : b ∈ A ∧ K.lookup b = none := by
  unfold argH at q
  by_cases hb : b ∈ A
  · rw [if_pos hb] at q
    cases hk : K.lookup b with
    | none => exact ⟨hb, rfl⟩
    | some o =>
      rw [hk, if_neg (by simp)] at q
      cases q
  · rw [if_neg hb] at q
    cases q
/-- what stands tracked -/
theorem argH_is (ar : ∀ a ∈ A, ArgOb h A a) {b : Addr} {u : HO} (q : argH K h A b = some u) : K.lookup b = none ∧ ∃ vs : List Value, vs.length ≤ sizeLine ∧ (∀ u ∈ vs, OkU A u) ∧
    ((h.get? b = some { cls := .type "list", data := .seq vs.toArray } ∧ u = .frz { cls := .type "list", data := .seq vs.toArray } (.lst (vs.map toV))) ∨
     (h.get? b = some { cls := .type "tuple", data := .seq vs.toArray } ∧ u = .frz { cls := .type "tuple", data := .seq vs.toArray } (.tup (vs.map toV)))) := by
  obtain ⟨hb, hk⟩ := of_argH q
  obtain ⟨vs, h1, h2, h3⟩ := ar b hb
  refine ⟨hk, vs, h1, h2, ?_⟩
  rcases h3 with e | e
  · rw [argH_at hb hk e, hoOf_lst] at q
    exact .inl ⟨e, (Option.some.inj q).symm⟩
  · rw [argH_at hb hk e, hoOf_tup] at q
    exact .inr ⟨e, (Option.some.inj q).symm⟩
theorem argH_only (ar : ∀ a ∈ A, ArgOb h A a) : OnlyF (argH K h A) := fun b => by
  cases q : argH K h A b with
  | none => exact .inl rfl
  | some u =>
    obtain ⟨_, vs, _, _, ⟨_, e⟩ | ⟨_, e⟩⟩ := argH_is ar q
    · exact .inr ⟨_, _, by rw [e]⟩
    · exact .inr ⟨_, _, by rw [e]⟩
theorem argH_ok (ar : ∀ a ∈ A, ArgOb h A a) : HOk P w (argH K h A) h := fun b u q => by
  obtain ⟨_, vs, h1, h2, ⟨e, rfl⟩ | ⟨e, rfl⟩⟩ := argH_is ar q
  · exact ⟨e, by rw [List.length_map]; exact h1, vs, _, vals_toV h2, e⟩
  · exact ⟨e, by rw [List.length_map]; exact h1, vs, vals_toV h2, _, e, rfl, _, rfl⟩
theorem seq_inj {c c' : Value} {vs us : List Value} (e : (some { cls := c, data := .seq vs.toArray } : Option Obj) = some { cls := c', data := .seq us.toArray }) : c = c' ∧ vs = us := by
  have e1 := Option.some.inj e
  have e2 : c = c' := congrArg Obj.cls e1
  have e3 : Data.seq vs.toArray = Data.seq us.toArray := congrArg Obj.data e1
  injection e3 with e4
  refine ⟨e2, ?_⟩
  have e5 := congrArg Array.toList e4
  simpa using e5
/-- a list argument -/
theorem argL (KX : K.In h) (ar : ∀ a ∈ A, ArgOb h A a) {a : Addr} {vs : List Value} (ha : a ∈ A) (e : h.get? a = some { cls := .type "list", data := .seq vs.toArray }) : (∀ u ∈ vs, OkU A u) ∧ SqL K (argH K h A) a (vs.map toV) := by
  obtain ⟨us, h1, h2, h3⟩ := ar a ha
  have hu : us = vs := by
    rcases h3 with q | q
    · rw [e] at q
      exact (seq_inj q).2.symm
    · rw [e] at q
      exact absurd (Value.type.inj (seq_inj q).1) (by decide)
  subst hu
  refine ⟨h2, ?_⟩
  cases hk : K.lookup a with
  | none => exact .inl (.inr ⟨_, by rw [argH_at ha hk e, hoOf_lst]⟩)
  | some o =>
    have e2 := KX a o hk
    rw [e] at e2
    obtain rfl := Option.some.inj e2
    exact .inr ⟨_, us.toArray, _, hk, rfl, rfl, rfl, by rw [List.size_toArray]; exact h1, by simpa using vals_toV h2⟩
theorem argT (KX : K.In h) (ar : ∀ a ∈ A, ArgOb h A a) {a : Addr} {vs : List Value} (ha : a ∈ A) (e : h.get? a = some { cls := .type "tuple", data := .seq vs.toArray }) : (∀ u ∈ vs, OkU A u) ∧ SqT K (argH K h A) a (vs.map toV) := by
  obtain ⟨us, h1, h2, h3⟩ := ar a ha
  have hu : us = vs := by
    rcases h3 with q | q
    · rw [e] at q
      exact absurd (Value.type.inj (seq_inj q).1) (by decide)
    · rw [e] at q
      exact (seq_inj q).2.symm
  subst hu
  refine ⟨h2, ?_⟩
  cases hk : K.lookup a with
  | none => exact .inl (.inr ⟨_, by rw [argH_at ha hk e, hoOf_tup]⟩)
  | some o =>
    have e2 := KX a o hk
    rw [e] at e2
    obtain rfl := Option.some.inj e2
    exact .inr ⟨_, us.toArray, _, hk, rfl, rfl, by rw [List.size_toArray]; exact h1, by simpa using vals_toV h2⟩
mutual
theorem dw_one {Pm : Params} (KX : K.In h) (ar : ∀ a ∈ A, ArgOb h A a) : ∀ (d : WData) (v : Value), Well Pm h v d → plW d = true → OkU A v → Dw K (argH K h A) (toV v) d
  | .none, _, x, _, _ => by
    cases x
    exact .non
  | .bool b, _, x, _, _ => by
    cases x
    exact .bl b
  | .int i, _, x, _, _ => by
    cases x
    exact .int i
  | .str s, _, x, _, _ => by
    cases x
    exact .str s
  | .bytes b, _, x, _, _ => by
    cases x
    have z := Dw.byt (K := K) (H := argH K h A) b.toArray
    exact z
  | .list ds, _, x, p, hu => by
    obtain ⟨a, vs, rfl, ho, hall⟩ := well_list x
    obtain ⟨h2, hs⟩ := argL KX ar hu ho
    exact .lst hs (dw_all KX ar ds _ hall p h2)
  | .tuple ds, _, x, p, hu => by
    obtain ⟨a, vs, rfl, ho, hall⟩ := well_tuple x
    obtain ⟨h2, hs⟩ := argT KX ar hu ho
    exact .tup hs (dw_all KX ar ds _ hall p h2)
  | .float _, _, _, p, _ => Bool.noConfusion (show false = true from p)
  | .dict _, _, _, p, _ => Bool.noConfusion (show false = true from p)
  | .bytearray _, _, _, p, _ => Bool.noConfusion (show false = true from p)
  | .set _, _, _, p, _ => Bool.noConfusion (show false = true from p)
  | .frozenset _, _, _, p, _ => Bool.noConfusion (show false = true from p)
  | .obj _ _, _, _, p, _ => Bool.noConfusion (show false = true from p)
theorem dw_all {Pm : Params} (KX : K.In h) (ar : ∀ a ∈ A, ArgOb h A a) : ∀ (ds : List WData) (vs : List Value), WellAll Pm h vs ds → plWs ds = true → (∀ u ∈ vs, OkU A u) → DwAll K (argH K h A) (vs.map toV) ds
  | [], _, x, _, _ => by
    cases x
    exact .nil
  | d :: ds, _, x, p, hu => by
    obtain ⟨v, vs, rfl, x1, x2⟩ := well_cons x
    have q : plW d = true ∧ plWs ds = true := Bool.and_eq_true_iff.mp p
    exact .cons (dw_one KX ar d v x1 q.1 (hu _ (List.mem_cons_self ..))) (dw_all KX ar ds vs x2 q.2 fun u m => hu u (List.mem_cons_of_mem _ m))
end
end
/-! ### the call -/
theorem spec_call {P : Program} {w : World} {K : PySem.W.Frag} {mg mb : Str → Option Value} {CX : CXT} {k : Nat} {fa : Addr} {fd : FuncData} {ps : List Str} {sp : Sp} {s₁ : Shared} {vals : List Value} {ds : List WData} {R : PySem.W.WRecords} {cl : Str → Option Addr} {d0 : WData}
    (KX : K.In s₁.heap) (hns : s₁.heap.Ns mainGlobals mg) (hb : s₁.heap.Ns builtinsNs mb) (hbb : ∀ x : Str, x ≠ "__name__" → mb x = bootBuiltins x) (hlim : s₁.heap.NoLimit) (hg : s₁.gens = #[])
    (hwl : WellAll w.params s₁.heap vals ds) (hpl : plWs ds = true) (hwt : ∀ d ∈ ds, d.weight ≤ 1048576) (hr : Room k callerA)
    (F : ∀ base : Heap, K.In base → base.Ns mainGlobals mg → FnOk P w K mg base CX k fa fd ps sp) (hbind : ∀ (s : Shared) (us : List Value), us.length = ps.length → BindsTo s fd ⟨us, []⟩ (ps.zip us)) (hlen : ds.length = ps.length)
    (hsp : ∀ (H : Hp) (xs : List V), OnlyF H → DwAll K H xs ds → sp xs H (fun v H' => Dw K H' v d0) fun _ _ _ => False)
    (hCX : ∀ H e s', CX [] H s₁ (fun _ _ _ => False) e s' → False) :
    codeAny (model P w) callerA (.call (.ref fa) ⟨vals, []⟩) (fun r s' => ∃ u as, r = .ok (.ret u) ∧ ReadsW R cl s'.heap u d0 as ∧ OldK s₁.heap s'.heap ∧ s'.os = s₁.os ∧ AllBare s'.gens) s₁ := by
  obtain ⟨A, ho, ar⟩ := area_all ds vals hwl hpl hwt
  have hO : OnlyF (argH K s₁.heap A) := argH_only ar
  have hok : HOk P w (argH K s₁.heap A) s₁.heap := argH_ok ar
  have hS := dw_all KX ar ds vals hwl hpl ho
  have hV := vals_toV ho
  have hK : ∀ b u, argH K s₁.heap A b = some u → K.lookup b = none := fun b u q => (argH_is ar q).1
  have noA : ∀ {b : Addr} {o : Obj} {es : Array DictEntry} {ep : Nat}, s₁.heap.get? b = some o → o.data = .dict es ep → argH K s₁.heap A b = none := fun {b o es ep} e d => by
    cases q : argH K s₁.heap A b with
    | none => rfl
    | some u =>
      obtain ⟨_, vs, _, _, ⟨e2, _⟩ | ⟨e2, _⟩⟩ := argH_is ar q
      · rw [e2] at e
        cases e
        have d' : Data.seq vs.toArray _ = Data.dict es ep := d
        cases d'
      · rw [e2] at e
        cases e
        have d' : Data.seq vs.toArray _ = Data.dict es ep := d
        cases d'
  generalize argH K s₁.heap A = H at hO hok hS hK noA
  have base_of : ∀ {b : Addr} {o : Obj}, s₁.heap.get? b = some o → H b = none → (hidT s₁.heap H).get? b = some o := fun e n => hidT_get e n
  have nsK : ∀ {b : Addr} {m : Str → Option Value}, s₁.heap.Ns b m → (hidT s₁.heap H).Ns b m := fun {b m} ⟨o, es, ep, e, d, r⟩ => ⟨o, es, ep, base_of e (noA e d), d, r⟩
  have nK : ∀ b o, K.lookup b = some o → H b = none := fun b o e => by
    cases q : H b with
    | none => rfl
    | some u =>
      rw [hK b u q] at e
      cases e
  have hKb : K.In (hidT s₁.heap H) := fun b o e => base_of (KX b o e) (nK b o e)
  have hM : Mod K mg (hidT s₁.heap H) := ⟨hKb, nsK hns, ⟨mb, nsK hb, hbb⟩, let ⟨mc, h1, h2⟩ := hlim; ⟨mc, nsK h1, h2⟩⟩
  have e0 : Env0 P w K mg (hidT s₁.heap H) callerA [] s₁ H := ⟨rfl, hM, fun b o e => of_hidT e, Nat.le_of_eq (hidT_size _ _), trivial, fun b hb => absurd (show b ∈ ([] : List Addr) from hb) (by simp), hok, .of_eq hg⟩
  have hl : vals.length = ps.length := by rw [wellAll_len hwl]; exact hlen
  refine codeAny_mono ((F _ hKb (nsK hns)).run callerA [] s₁ H ⟨vals, []⟩ vals (vals.map toV) _ _ hr e0 (hbind s₁ vals hl) hV (hsp H _ hO hS)) fun r s' x => ?_
  cases r with
  | error e => exact (hCX H e s' x).elim
  | ok fl =>
    cases fl with
    | next => exact False.elim x
    | brk => exact False.elim x
    | cont => exact False.elim x
    | ret u =>
      obtain ⟨v, H', os, bare, un, hok', r', q⟩ := x
      have kept : ∀ b o, s₁.heap.get? b = some o → s'.heap.get? b = some o := fun b o e => by
        cases q2 : H b with
        | none => exact un.keep b o e q2 (by intro z; exact absurd (show b ∈ ([] : List Addr) from z) (by simp)) (by simp)
        | some u2 =>
          rcases hO b with z | ⟨ob, u3, z⟩
          · rw [q2] at z
            cases z
          · have z2 := un.frzs b ob _ z
            obtain ⟨e1, _⟩ := hok b _ z
            obtain ⟨e2, _⟩ := hok' b _ z2
            rw [e] at e1
            cases e1
            exact e2
      have KX' : K.In s'.heap := fun b o e => kept b o (KX b o e)
      obtain ⟨as, hrd⟩ := Dw.reads (R := R) (cl := cl) hok' KX' d0 v u q r'
      exact ⟨u, as, rfl, hrd, OldK.of_keep kept, os, bare⟩
/-! ### the row -/
theorem layable_weight {ds : List WData} (h : WData.layableAll ds = true) : ∀ d ∈ ds, d.weight ≤ 1048576 := fun d hd =>
  (PySem.W.layableW_iff.mp (List.all_eq_true.mp h d hd)).2.2
theorem encAll_len : ∀ (cs : List Codec) (a : Codec.denoteAll cs), (Codec.encAll cs a).length = cs.length
  | [], _ => rfl
  | c :: cs, a => by
    show (Codec.encAll cs a.2).length + 1 = cs.length + 1
    rw [encAll_len cs a.2]
/-- the goal that k_headS leaves (case hc), from the promise of the row's def: whatever the arguments that the codecs let and the row asks for, the def gives what stands for enc (f ..) -/
theorem walk_spec {r : OpenSpec} {k : Nat} {q : Program} {loose : List Str} {XP : (Str → Option Value) → Heap → Prop} {YP : World → Heap → Prop} {d : DefRec} {K : Params → PySem.W.Frag} {CX : World → CXT} {ps : List Str} {sp : World → Sp}
    (hwell : r.wellSaid = true) (hdf : d.params.defaults = []) (hlen : r.args.length = ps.length) (hr : Room k callerA)
    (hY : ∀ (w : World) (h : Heap), YP w h → (K w.params).In h)
    (F : ∀ (w : World) (mg : Str → Option Value) (fa : Addr) (h : Heap), YP w h → (K w.params).In h → h.Ns mainGlobals mg → mg d.name = some (.ref fa) →
      ∃ fd : FuncData, (∀ (s : Shared) (us : List Value), us.length = ps.length → BindsTo s fd ⟨us, []⟩ (ps.zip us)) ∧
        ∀ base : Heap, (K w.params).In base → base.Ns mainGlobals mg → FnOk r.prog w (K w.params) mg base (CX w) k fa fd ps (sp w))
    (hsp : ∀ (w : World) (H : Hp) (xs : List V) (a : Codec.denoteAll r.args), OnlyF H → Codec.withinAll r.args a = true → Codec.app r.args r.asked a = true → DwAll (K w.params) H xs (Codec.encAll r.args a) →
      sp w xs H (fun v H' => Dw (K w.params) H' v (r.ret.enc (Codec.app r.args r.f a))) fun _ _ _ => False)
    (hCX : ∀ (w : World) (H : Hp) (s : Shared) (e : Value) (s' : Shared), CX w [] H s (fun _ _ _ => False) e s' → False) :
    PySem.W.WalkOS q loose XP YP r d [] (fun f vs => PySem.call f vs) := by
  intro w s_0 s₁ mg mb G Y fa o pm cd doc dV kV ho hd hcd hD hmg hg args vals as hpre hlay hrd hwl hlo
  obtain ⟨a, e1, e2⟩ := PySem.W.os_pre_some hpre
  obtain ⟨e3, hwi⟩ := Codec.encAll_of_decAll r.args args a e1
  subst e3
  have KX := hY w _ Y
  obtain ⟨fd, hb, hF⟩ := F w mg fa _ Y KX G.T.g hmg
  refine PySem.W.enter_call (codeAny_mono (spec_call (R := []) (cl := classAt s_0.heap) (d0 := r.ret.enc (Codec.app r.args r.f a)) KX G.T.g G.T.b G.T.builtins G.T.nolimit hg hwl (pl_encAll _ _) (layable_weight hlay) hr hF hb (by rw [encAll_len]; exact hlen)
    (fun H xs hO hS => hsp w H xs a hO hwi e2 hS) fun H e s' => hCX w H s₁ e s') fun r' s' hq => ?_)
  obtain ⟨u, as', rfl, h1, h2, h3, h4⟩ := hq
  exact ⟨.inl ⟨u, _, as', rfl, fun _ => rfl, h1, (OpenSpec.post_iff hwell hwi _ _).mpr rfl, fun z => Bool.noConfusion (show false = true from z)⟩, h2, h3, h4⟩
/-- the same where the promise hangs on the written part alone -/
theorem walk_specK {r : OpenSpec} {k : Nat} {q : Program} {loose : List Str} {XP : (Str → Option Value) → Heap → Prop} {YP : World → Heap → Prop} {d : DefRec} {K : Params → PySem.W.Frag} {CX : CXT} {ps : List Str} {sp : PySem.W.Frag → Sp}
    (hwell : r.wellSaid = true) (hdf : d.params.defaults = []) (hlen : r.args.length = ps.length) (hr : Room k callerA)
    (hY : ∀ (w : World) (h : Heap), YP w h → (K w.params).In h)
    (F : ∀ (w : World) (mg : Str → Option Value) (fa : Addr) (h : Heap), YP w h → (K w.params).In h → h.Ns mainGlobals mg → mg d.name = some (.ref fa) →
      ∃ fd : FuncData, (∀ (s : Shared) (us : List Value), us.length = ps.length → BindsTo s fd ⟨us, []⟩ (ps.zip us)) ∧
        ∀ base : Heap, (K w.params).In base → base.Ns mainGlobals mg → FnOk r.prog w (K w.params) mg base CX k fa fd ps (sp (K w.params)))
    (hsp : ∀ (K : PySem.W.Frag) (H : Hp) (xs : List V) (a : Codec.denoteAll r.args), OnlyF H → Codec.withinAll r.args a = true → Codec.app r.args r.asked a = true → DwAll K H xs (Codec.encAll r.args a) →
      sp K xs H (fun v H' => Dw K H' v (r.ret.enc (Codec.app r.args r.f a))) fun _ _ _ => False)
    (hCX : ∀ (H : Hp) (s : Shared) (e : Value) (s' : Shared), CX [] H s (fun _ _ _ => False) e s' → False) :
    PySem.W.WalkOS q loose XP YP r d [] (fun f vs => PySem.call f vs) :=
  walk_spec (K := K) (CX := fun _ => CX) (sp := fun w => sp (K w.params)) hwell hdf hlen hr hY F (fun w H xs a h1 h2 h3 h4 => hsp (K w.params) H xs a h1 h2 h3 h4) fun _ H s e s' => hCX H s e s'
end L2
end
end

section
/-! What holds of every state that the specification comes to. -/
namespace Ld
open Lead

/-- what was said by (or is answered to) who led in a term -/
def Led (x : Node) (t u : Nat) : Prop := t < x.term ∨ (t = x.term ∧ x.role ≠ 1 ∧ (x.role = 2 → u ≤ x.log.length))
def Grows (x y : Node) : Prop := x.term < y.term ∨ (x.term = y.term ∧ (x.role ≠ 1 → y.role ≠ 1 ∧ (y.role = 2 → x.role = 2 ∧ x.log.length ≤ y.log.length)))
theorem Led.grows {x y : Node} {t u : Nat} (h : Led x t u) (g : Grows x y) : Led y t u := by
  rcases h with h | ⟨h1, h2, h3⟩
  · rcases g with g | ⟨g, _⟩
    · exact .inl (by omega)
    · exact .inl (by omega)
  · rcases g with g | ⟨g, g2⟩
    · exact .inl (by omega)
    · obtain ⟨g3, g4⟩ := g2 h2
      exact .inr ⟨by omega, g3, fun q => by
        obtain ⟨g5, g6⟩ := g4 q
        have := h3 g5
        omega⟩
theorem Grows.refl (x : Node) : Grows x x := .inr ⟨rfl, fun h => ⟨h, fun q => ⟨q, Nat.le_refl _⟩⟩⟩
theorem Grows.trans {x y z : Node} (a : Grows x y) (b : Grows y z) : Grows x z := by
  rcases a with a | ⟨a, a2⟩
  · rcases b with b | ⟨b, _⟩
    · exact .inl (by omega)
    · exact .inl (by omega)
  · rcases b with b | ⟨b, b2⟩
    · exact .inl (by omega)
    · refine .inr ⟨by omega, fun h => ?_⟩
      obtain ⟨a3, a4⟩ := a2 h
      obtain ⟨b3, b4⟩ := b2 a3
      refine ⟨b3, fun q => ?_⟩
      obtain ⟨b5, b6⟩ := b4 q
      obtain ⟨a5, a6⟩ := a4 b5
      exact ⟨a5, by omega⟩

structure NOk (n : Nat) (x : Node) : Prop where
  nl : x.next.length = n
  sl : x.same.length = n
  ll : x.log.length ≤ 32
  n1 : ∀ k ∈ x.next, 1 ≤ k
  ln : x.role = 2 → ∀ k ∈ x.next, k ≤ x.log.length + 1
  ls : x.role = 2 → ∀ k ∈ x.same, k ≤ x.log.length
  v1 : x.role = 1 → 2 * x.votes.length ≤ n
  v5 : x.votes.length ≤ 5
  st : x.settled ≤ 32

/-- a message among n replicas -/
structure MOk (n : Nat) (m : Message) : Prop where
  fr : m.from_ < n
  to : m.to_ < n
  e4 : m.entries.length ≤ 4
  up : m.kind = 2 → m.a + m.entries.length ≤ 32
  kd : m.kind ≤ 3

/-- what a message tells of who led -/
def Tells (f : Nat → Node → Prop) (m : Message) : Prop :=
  (m.kind = 2 → ∀ x, f m.from_ x → Led x m.term (m.a + m.entries.length)) ∧ (m.kind = 3 → m.a = 1 → ∀ x, f m.to_ x → Led x m.term m.b)
abbrev at_ (l : List Node) : Nat → Node → Prop := fun i x => l[i]? = some x

structure Ok (s : State) : Prop where
  n5 : s.nodes.length = 0 ∨ s.nodes.length = 3 ∨ s.nodes.length = 5
  nd : ∀ x ∈ s.nodes, NOk s.nodes.length x
  ms : ∀ m ∈ s.net, MOk s.nodes.length m
  tl : ∀ m ∈ s.net, Tells (at_ s.nodes) m
  nt : s.net.length ≤ 64
  ids : (s.net.map Message.id).Pairwise (· < ·)
  lt : ∀ m ∈ s.net, m.id < s.next

/-- the parts of a message but its number -/
def Alike (m m' : Message) : Prop := m.kind = m'.kind ∧ m.from_ = m'.from_ ∧ m.to_ = m'.to_ ∧ m.term = m'.term ∧ m.a = m'.a ∧ m.b = m'.b ∧ m.c = m'.c ∧ m.entries = m'.entries
theorem Alike.refl (m : Message) : Alike m m := ⟨rfl, rfl, rfl, rfl, rfl, rfl, rfl, rfl⟩
theorem Alike.symm {m m' : Message} (h : Alike m m') : Alike m' m := by
  obtain ⟨h1, h2, h3, h4, h5, h6, h7, h8⟩ := h
  exact ⟨h1.symm, h2.symm, h3.symm, h4.symm, h5.symm, h6.symm, h7.symm, h8.symm⟩
theorem Alike.ok {n : Nat} {m m' : Message} (h : Alike m m') (q : MOk n m) : MOk n m' := by
  obtain ⟨h1, h2, h3, h4, h5, h6, h7, h8⟩ := h
  obtain ⟨q1, q2, q3, q4, q5⟩ := q
  exact ⟨h2 ▸ q1, h3 ▸ q2, h8 ▸ q3, fun e => by rw [← h5, ← h8]; exact q4 (h1.trans e), h1 ▸ q5⟩
theorem Alike.tells {f : Nat → Node → Prop} {m m' : Message} (h : Alike m m') (q : Tells f m) : Tells f m' := by
  obtain ⟨h1, h2, h3, h4, h5, h6, h7, h8⟩ := h
  refine ⟨fun e x hx => ?_, fun e e2 x hx => ?_⟩
  · rw [← h4, ← h5, ← h8]
    exact q.1 (h1.trans e) x (by rw [h2]; exact hx)
  · rw [← h4, ← h6]
    exact q.2 (h1.trans e) (h5.trans e2) x (by rw [h3]; exact hx)

theorem mem_numbered : ∀ {l : List Message} {k : Nat} {m : Message}, m ∈ numbered k l → ∃ m' ∈ l, Alike m' m ∧ k ≤ m.id ∧ m.id < k + l.length
  | [], k, m, h => by cases h
  | a :: l, k, m, h => by
    rcases List.mem_cons.mp h with e | h
    · subst e
      exact ⟨a, List.mem_cons_self, ⟨rfl, rfl, rfl, rfl, rfl, rfl, rfl, rfl⟩, Nat.le_refl _, by simp⟩
    · obtain ⟨m', h1, h2, h3, h4⟩ := mem_numbered h
      exact ⟨m', List.mem_cons_of_mem _ h1, h2, by omega, by simp only [List.length_cons]; omega⟩
theorem numbered_length : ∀ (k : Nat) (l : List Message), (numbered k l).length = l.length
  | _, [] => rfl
  | k, a :: l => by
    show (numbered (k + 1) l).length + 1 = l.length + 1
    rw [numbered_length]
theorem numbered_ids : ∀ (k : Nat) (l : List Message), ((numbered k l).map Message.id).Pairwise (· < ·)
  | _, [] => .nil
  | k, a :: l => by
    show (k :: (numbered (k + 1) l).map Message.id).Pairwise (· < ·)
    refine List.pairwise_cons.mpr ⟨fun b hb => ?_, numbered_ids (k + 1) l⟩
    obtain ⟨m, hm, rfl⟩ := List.mem_map.mp hb
    obtain ⟨_, _, _, h, _⟩ := mem_numbered hm
    omega

/-- a replica told anew, messages said -/
theorem Ok.after {s : State} (h : Ok s) {i : Nat} {x y : Node} {l : List Message} (hx : s.nodes[i]? = some x) (g : Grows x y) (hy : NOk s.nodes.length y)
    (hl : s.net.length + l.length ≤ 64) (hm : ∀ m ∈ l, MOk s.nodes.length m) (ht : ∀ m ∈ l, Tells (at_ (s.nodes.set i y)) m) : Ok (s.after i y l) := by
  obtain ⟨hi, hxi⟩ := List.getElem?_eq_some_iff.mp hx
  have len : (s.nodes.set i y).length = s.nodes.length := List.length_set
  have low : ∀ (j : Nat) (z : Node) (t u : Nat), (s.nodes.set i y)[j]? = some z → (∀ x', s.nodes[j]? = some x' → Led x' t u) → Led z t u := by
    intro j z t u hj q
    by_cases e : i = j
    · subst e
      rw [List.getElem?_set_self hi] at hj
      cases hj
      exact (q x hx).grows g
    · rw [List.getElem?_set_ne e] at hj
      exact q z hj
  have old : ∀ m, Tells (at_ s.nodes) m → Tells (at_ (s.nodes.set i y)) m := fun m q =>
    ⟨fun e z hz => low _ z _ _ hz fun x' hx' => q.1 e x' hx', fun e e2 z hz => low _ z _ _ hz fun x' hx' => q.2 e e2 x' hx'⟩
  refine ⟨?_, ?_, ?_, ?_, ?_, ?_, ?_⟩
  · show (s.nodes.set i y).length = 0 ∨ (s.nodes.set i y).length = 3 ∨ (s.nodes.set i y).length = 5
    rw [len]; exact h.n5
  · intro z hz
    show NOk (s.nodes.set i y).length z
    rw [len]
    rcases List.mem_or_eq_of_mem_set hz with hz | rfl
    · exact h.nd z hz
    · exact hy
  · intro m hm'
    show MOk (s.nodes.set i y).length m
    rw [len]
    rcases List.mem_append.mp hm' with hm' | hm'
    · exact h.ms m hm'
    · obtain ⟨m', h1, h2, _, _⟩ := mem_numbered hm'
      exact h2.ok (hm m' h1)
  · intro m hm'
    rcases List.mem_append.mp hm' with hm' | hm'
    · exact old m (h.tl m hm')
    · obtain ⟨m', h1, h2, _, _⟩ := mem_numbered hm'
      exact h2.tells (ht m' h1)
  · show (s.net ++ numbered s.next l).length ≤ 64
    rw [List.length_append, numbered_length]
    exact hl
  · show ((s.net ++ numbered s.next l).map Message.id).Pairwise (· < ·)
    rw [List.map_append]
    refine List.pairwise_append.mpr ⟨h.ids, numbered_ids _ _, fun a ha b hb => ?_⟩
    obtain ⟨m, hm1, rfl⟩ := List.mem_map.mp ha
    obtain ⟨m2, hm2, rfl⟩ := List.mem_map.mp hb
    have := h.lt m hm1
    obtain ⟨_, _, _, q, _⟩ := mem_numbered hm2
    omega
  · intro m hm'
    show m.id < s.next + l.length
    rcases List.mem_append.mp hm' with hm' | hm'
    · have := h.lt m hm'
      omega
    · obtain ⟨_, _, _, _, q⟩ := mem_numbered hm'
      exact q
theorem Ok.without {s : State} (h : Ok s) (m : Nat) : Ok (s.without m) := by
  have sub : ∀ x ∈ (s.without m).net, x ∈ s.net := fun x hx => (List.mem_filter.mp hx).1
  refine ⟨h.n5, h.nd, fun x hx => h.ms x (sub x hx), fun x hx => h.tl x (sub x hx), Nat.le_trans (List.length_filter_le _ _) h.nt, ?_, fun x hx => h.lt x (sub x hx)⟩
  exact h.ids.sublist (List.filter_sublist.map _)
theorem Ok.find {s : State} (_h : Ok s) {m : Nat} {x : Message} (e : s.find m = some x) : x ∈ s.net ∧ x.id = m := by
  refine ⟨List.mem_of_find?_eq_some e, ?_⟩
  have := List.find?_some e
  exact eq_of_beq this
theorem without_lt {s : State} {m : Nat} {x : Message} (hm : x ∈ s.net) (hi : x.id = m) : (s.without m).net.length + 1 ≤ s.net.length := by
  show (s.net.filter fun (y : Message) => y.id != m).length + 1 ≤ s.net.length
  have : ∀ l : List Message, x ∈ l → (l.filter fun (y : Message) => y.id != m).length + 1 ≤ l.length := by
    intro l
    induction l with
    | nil => intro h; cases h
    | cons a l ih =>
      intro h
      rw [List.filter_cons]
      split
      · rename_i ha
        rcases List.mem_cons.mp h with e | h
        · subst e
          rw [hi] at ha
          simp at ha
        · have := ih h
          simp only [List.length_cons]
          omega
      · have := List.length_filter_le (fun (y : Message) => y.id != m) l
        simp only [List.length_cons]
        omega
  exact this _ hm
theorem Ok.copy {s : State} (h : Ok s) {x : Message} (hx : x ∈ s.net) (hf : s.net.length + 1 ≤ 64) : Ok ⟨s.nodes, s.net ++ numbered s.next [x], s.next + 1⟩ := by
  refine ⟨h.n5, h.nd, ?_, ?_, ?_, ?_, ?_⟩
  · intro m hm
    rcases List.mem_append.mp hm with hm | hm
    · exact h.ms m hm
    · obtain ⟨m', h1, h2, _, _⟩ := mem_numbered hm
      rw [List.mem_singleton] at h1
      subst h1
      exact h2.ok (h.ms _ hx)
  · intro m hm
    rcases List.mem_append.mp hm with hm | hm
    · exact h.tl m hm
    · obtain ⟨m', h1, h2, _, _⟩ := mem_numbered hm
      rw [List.mem_singleton] at h1
      subst h1
      exact h2.tells (h.tl _ hx)
  · show (s.net ++ numbered s.next [x]).length ≤ 64
    rw [List.length_append, numbered_length]
    exact hf
  · show ((s.net ++ numbered s.next [x]).map Message.id).Pairwise (· < ·)
    rw [List.map_append]
    refine List.pairwise_append.mpr ⟨h.ids, numbered_ids _ _, fun a ha b hb => ?_⟩
    obtain ⟨m, hm1, rfl⟩ := List.mem_map.mp ha
    obtain ⟨m2, hm2, rfl⟩ := List.mem_map.mp hb
    have := h.lt m hm1
    obtain ⟨_, _, _, q, _⟩ := mem_numbered hm2
    omega
  · intro m hm
    show m.id < s.next + 1
    rcases List.mem_append.mp hm with hm | hm
    · have := h.lt m hm
      omega
    · obtain ⟨_, _, _, _, q⟩ := mem_numbered hm
      exact q

theorem mem_others {n i j : Nat} (h : j ∈ others n i) : j < n ∧ j ≠ i := by
  obtain ⟨h1, h2⟩ := List.mem_filter.mp h
  exact ⟨List.mem_range.mp h1, by simpa using h2⟩
theorem others_length {n i : Nat} (h : i < n) : (others n i).length = n - 1 := by
  unfold others
  have : ∀ n, ((List.range n).filter fun (j : Nat) => j != i).length = if i < n then n - 1 else n := by
    intro n
    induction n with
    | zero => rfl
    | succ n ih =>
      rw [List.range_succ, List.filter_append, List.length_append, ih]
      by_cases e : n = i
      · subst e
        simp
      · have : ([n].filter fun (j : Nat) => j != i) = [n] := by simp [e]
        rw [this]
        simp only [List.length_cons, List.length_nil]
        split <;> split <;> omega
  rw [this, if_pos h]

theorem NOk.fresh (n : Nat) : NOk n (fresh n) := by
  refine ⟨by simp [Lead.fresh], by simp [Lead.fresh], by simp [Lead.fresh], ?_, ?_, ?_, ?_, by simp [Lead.fresh], by simp [Lead.fresh]⟩
  · intro k hk
    have : k ∈ List.replicate n 1 := hk
    rw [(List.mem_replicate.mp this).2]
    exact Nat.le_refl _
  · intro q; cases q
  · intro q; cases q
  · intro q; cases q
theorem NOk.heard {n : Nat} {x : Node} (h : NOk n x) (t : Nat) : NOk n (x.heard t) ∧ Grows x (x.heard t) ∧ t ≤ (x.heard t).term := by
  unfold Node.heard
  split
  · rename_i hlt
    refine ⟨⟨h.nl, h.sl, h.ll, h.n1, ?_, ?_, ?_, Nat.zero_le _, h.st⟩, .inl hlt, Nat.le_refl _⟩
    · intro q; cases q
    · intro q; cases q
    · intro q; cases q
  · exact ⟨h, Grows.refl _, by omega⟩
theorem NOk.votes_ {n : Nat} {x : Node} (h : NOk n x) (v : Nat) : NOk n (x.votes_ v) ∧ Grows x (x.votes_ v) :=
  ⟨⟨h.nl, h.sl, h.ll, h.n1, h.ln, h.ls, h.v1, h.v5, h.st⟩, .inr ⟨rfl, fun q => ⟨q, fun r => ⟨r, Nat.le_refl _⟩⟩⟩⟩
theorem NOk.follows {n : Nat} {x : Node} (h : NOk n x) : NOk n x.follows ∧ Grows x x.follows := by
  refine ⟨⟨h.nl, h.sl, h.ll, h.n1, ?_, ?_, ?_, Nat.zero_le _, h.st⟩, .inr ⟨rfl, fun _ => ⟨?_, ?_⟩⟩⟩
  · intro q; cases q
  · intro q; cases q
  · intro q; cases q
  · intro q; cases q
  · intro q; cases q
theorem NOk.crashed {n : Nat} {x : Node} (h : NOk n x) : NOk n x.crashed ∧ Grows x x.crashed := by
  refine ⟨⟨by show (x.next.map _).length = n; rw [List.length_map]; exact h.nl, by show (x.same.map _).length = n; rw [List.length_map]; exact h.sl, h.ll, ?_, ?_, ?_, ?_, Nat.zero_le _, Nat.zero_le _⟩, .inr ⟨rfl, fun _ => ⟨?_, ?_⟩⟩⟩
  · intro k hk
    obtain ⟨_, _, rfl⟩ := List.mem_map.mp hk
    exact Nat.le_refl _
  · intro q; cases q
  · intro q; cases q
  · intro q; cases q
  · intro q; cases q
  · intro q; cases q
theorem NOk.stands {n : Nat} {x : Node} (h : NOk n x) (hn : 3 ≤ n) (i : Nat) : NOk n (x.stands i) ∧ Grows x (x.stands i) := by
  refine ⟨⟨h.nl, h.sl, h.ll, h.n1, ?_, ?_, ?_, by show 1 ≤ 5; omega, h.st⟩, .inl (Nat.lt_succ_self _)⟩
  · intro q; cases q
  · intro q; cases q
  · intro _
    show 2 * 1 ≤ n
    omega
/-- another log while it follows -/
theorem NOk.keeps0 {n : Nat} {x : Node} (h : NOk n x) (hr : x.role = 0) {l : Log} (hl : l.length ≤ 32) {k : Nat} (hk : k ≤ 32) : NOk n (x.keeps l k) ∧ Grows x (x.keeps l k) := by
  refine ⟨⟨h.nl, h.sl, hl, h.n1, ?_, ?_, ?_, h.v5, hk⟩, .inr ⟨rfl, fun q => ⟨q, ?_⟩⟩⟩
  · intro q
    have q : x.role = 2 := q
    omega
  · intro q
    have q : x.role = 2 := q
    omega
  · intro q
    have q : x.role = 1 := q
    omega
  · intro q
    have q : x.role = 2 := q
    omega
/-- a longer log -/
theorem NOk.keeps {n : Nat} {x : Node} (h : NOk n x) {l : Log} (h1 : x.log.length ≤ l.length) (hl : l.length ≤ 32) {k : Nat} (hk : k ≤ 32) : NOk n (x.keeps l k) ∧ Grows x (x.keeps l k) := by
  refine ⟨⟨h.nl, h.sl, hl, h.n1, ?_, ?_, h.v1, h.v5, hk⟩, .inr ⟨rfl, fun q => ⟨q, fun r => ⟨r, h1⟩⟩⟩⟩
  · intro q j hj
    exact Nat.le_trans (h.ln q j hj) (Nat.succ_le_succ h1)
  · intro q j hj
    exact Nat.le_trans (h.ls q j hj) h1
theorem mem_set {l : List Nat} {i a b : Nat} (h : b ∈ l.set i a) : b ∈ l ∨ b = a := List.mem_or_eq_of_mem_set h
theorem NOk.knows {n : Nat} {x : Node} (h : NOk n x) {j a b : Nat} (ha : 1 ≤ a) (hl : x.role = 2 → a ≤ x.log.length + 1 ∧ b ≤ x.log.length) : NOk n (x.knows j a b) ∧ Grows x (x.knows j a b) := by
  refine ⟨⟨by show (x.next.set j a).length = n; rw [List.length_set]; exact h.nl, by show (x.same.set j b).length = n; rw [List.length_set]; exact h.sl, h.ll, ?_, ?_, ?_, h.v1, h.v5, h.st⟩, .inr ⟨rfl, fun q => ⟨q, fun r => ⟨r, Nat.le_refl _⟩⟩⟩⟩
  · intro k hk
    rcases mem_set hk with hk | rfl
    · exact h.n1 k hk
    · exact ha
  · intro q k hk
    rcases mem_set hk with hk | rfl
    · exact h.ln q k hk
    · exact (hl q).1
  · intro q k hk
    rcases mem_set hk with hk | rfl
    · exact h.ls q k hk
    · exact (hl q).2
theorem joined_length : ∀ (l es : Log) (N : Nat), l.length ≤ N → es.length ≤ N → (joined l es).length ≤ N
  | l, [], N, h, _ => by
    cases l <;> exact h
  | [], e :: r, N, _, h => h
  | x :: l, e :: r, N, h1, h2 => by
    unfold joined
    simp only [List.length_cons] at h1 h2
    split
    · have := joined_length l r (N - 1) (by omega) (by omega)
      simp only [List.length_cons]
      omega
    · simpa using h2
theorem put_length {l es : Log} {k N : Nat} (h1 : l.length ≤ N) (h2 : k + es.length ≤ N) : (put l k es).length ≤ N := by
  unfold put
  rw [List.length_append]
  by_cases hk : k ≤ l.length
  · have a : (l.take k).length = k := by rw [List.length_take]; omega
    have b := joined_length (l.drop k) es (N - k) (by rw [List.length_drop]; omega) (by omega)
    omega
  · have a : (l.take k).length ≤ k := by rw [List.length_take]; omega
    have b := joined_length (l.drop k) es (N - k) (by rw [List.length_drop]; omega) (by omega)
    omega
theorem NOk.voted {n : Nat} {x : Node} (h : NOk n x) (hn : n ≤ 5) (hr : x.role = 1) (j : Nat) : NOk n (if most n (x.voted j).votes.length = true then (x.voted j).leads else x.voted j) ∧ Grows x (if most n (x.voted j).votes.length = true then (x.voted j).leads else x.voted j) := by
  have v1 := h.v1 hr
  have hv : (x.voted j).votes.length ≤ x.votes.length + 1 := by
    show (if x.votes.contains j = true then x.votes else x.votes ++ [j]).length ≤ _
    split
    · omega
    · rw [List.length_append]
      simp
  split
  · rename_i hm
    refine ⟨⟨by show (x.next.map _).length = n; rw [List.length_map]; exact h.nl, by show (x.same.map _).length = n; rw [List.length_map]; exact h.sl, h.ll, ?_, ?_, ?_, ?_, ?_, h.st⟩, .inr ⟨rfl, fun q => absurd hr q⟩⟩
    · intro k hk
      obtain ⟨_, _, rfl⟩ := List.mem_map.mp hk
      omega
    · intro _ k hk
      obtain ⟨_, _, rfl⟩ := List.mem_map.mp hk
      exact Nat.le_refl _
    · intro _ k hk
      obtain ⟨_, _, rfl⟩ := List.mem_map.mp hk
      exact Nat.zero_le _
    · intro q; cases q
    · show (x.voted j).votes.length ≤ 5
      omega
  · rename_i hm
    have hm : ¬ n < 2 * (x.voted j).votes.length := by
      intro q
      exact hm (decide_eq_true q)
    refine ⟨⟨h.nl, h.sl, h.ll, h.n1, ?_, ?_, ?_, ?_, h.st⟩, .inr ⟨rfl, fun q => absurd hr q⟩⟩
    · intro q
      have q : x.role = 2 := q
      omega
    · intro q
      have q : x.role = 2 := q
      omega
    · intro _
      omega
    · omega

/-- what a replica comes to on a message, and what it says -/
structure Out (n : Nat) (x : Node) (m : Message) (z : Node × List Message) : Prop where
  ok : NOk n z.1
  gr : Grows x z.1
  few : z.2.length ≤ 1
  ms : ∀ m' ∈ z.2, MOk n m'
  no2 : ∀ m' ∈ z.2, m'.kind ≠ 2
  k3 : ∀ m' ∈ z.2, m'.kind = 3 → m'.a = 1 → m.kind = 2 ∧ m'.to_ = m.from_ ∧ m'.term = m.term ∧ m'.b = m.a + m.entries.length
theorem fold_le (p : Nat → Nat → Prop) [∀ s k, Decidable (p s k)] (N : Nat) : ∀ (l : List Nat) (s : Nat), s ≤ N → (∀ k ∈ l, k ≤ N) → l.foldl (fun s k => if p s k then k else s) s ≤ N
  | [], s, h, _ => h
  | k :: l, s, h, hl => by
    rw [List.foldl_cons]
    refine fold_le p N l _ ?_ fun j hj => hl j (List.mem_cons_of_mem _ hj)
    split
    · exact hl k List.mem_cons_self
    · exact h
theorem settles_ok {n : Nat} {x : Node} (h : NOk n x) (i : Nat) : NOk n (x.settles i) ∧ Grows x (x.settles i) := by
  refine NOk.keeps h (Nat.le_refl _) h.ll ?_
  refine fold_le (fun s k => s < k ∧ most x.same.length (have_ x i k) = true ∧ termAt x.log k = x.term) 32 _ _ h.st fun k hk => ?_
  obtain ⟨j, hj, rfl⟩ := List.mem_map.mp hk
  have := List.mem_range.mp hj
  have := h.ll
  omega
theorem on_out {n : Nat} {x : Node} {m : Message} (hn : n ≤ 5) (h : NOk n x) (hm : MOk n m) (hl : m.kind = 3 → m.a = 1 → Led x m.term m.b) : Out n x m (onMessage n x m) := by
  obtain ⟨h1, g1, t1⟩ := h.heard m.term
  unfold onMessage
  dsimp only
  split
  · -- kind 0
    unfold onVote
    refine ⟨?_, ?_, Nat.le_refl _, ?_, ?_, ?_⟩
    · dsimp only
      split
      · exact (h1.votes_ _).1
      · exact h1
    · dsimp only
      split
      · exact g1.trans (h1.votes_ _).2
      · exact g1
    · intro m' hm'
      rw [List.mem_singleton] at hm'
      subst hm'
      exact ⟨hm.to, hm.fr, by show 0 ≤ 4; omega, (fun q => by cases q), by show 1 ≤ 3; omega⟩
    · intro m' hm' q
      rw [List.mem_singleton] at hm'
      subst hm'
      cases q
    · intro m' hm' q
      rw [List.mem_singleton] at hm'
      subst hm'
      cases q
  split
  · -- kind 1
    unfold onVoted
    split
    · rename_i hc
      exact ⟨(h1.voted hn hc.1 _).1, g1.trans (h1.voted hn hc.1 _).2, Nat.zero_le _, (fun _ q => by cases q), (fun _ q => by cases q), (fun _ q => by cases q)⟩
    · exact ⟨h1, g1, Nat.zero_le _, (fun _ q => by cases q), (fun _ q => by cases q), (fun _ q => by cases q)⟩
  split
  · -- kind 2
    rename_i hk
    have mo : ∀ (t a b : Nat), MOk n (⟨0, 3, m.to_, m.from_, t, a, b, 0, []⟩ : Message) := fun t a b => ⟨hm.to, hm.fr, by show 0 ≤ 4; omega, (fun q => by cases q), by show 3 ≤ 3; omega⟩
    have one : ∀ (y : Node) (t : Nat), NOk n y → Grows x y → Out n x m (y, [⟨0, 3, m.to_, m.from_, t, 0, 0, 0, []⟩]) := by
      intro y t hy gy
      refine ⟨hy, gy, Nat.le_refl _, ?_, ?_, ?_⟩
      · intro m' hm'
        rw [List.mem_singleton] at hm'
        subst hm'
        exact mo t 0 0
      · intro m' hm' q
        rw [List.mem_singleton] at hm'
        subst hm'
        cases q
      · intro m' hm' _ q
        rw [List.mem_singleton] at hm'
        subst hm'
        cases q
    obtain ⟨h2, g2⟩ := h1.follows
    unfold onEntries
    split
    · exact one _ _ h1 g1
    · rename_i hlt
      dsimp only
      split
      · exact one _ _ h2 (g1.trans g2)
      · have hp : (put (x.heard m.term).follows.log m.a m.entries).length ≤ 32 := put_length h2.ll (hm.up hk)
        obtain ⟨h3, g3⟩ := h2.keeps0 rfl hp (k := max (x.heard m.term).follows.settled (min m.c (m.a + m.entries.length))) (by have := h2.st; have := hm.up hk; omega)
        refine ⟨h3, (g1.trans g2).trans g3, Nat.le_refl _, ?_, ?_, ?_⟩
        · intro m' hm'
          rw [List.mem_singleton] at hm'
          subst hm'
          exact mo _ _ _
        · intro m' hm' q
          rw [List.mem_singleton] at hm'
          subst hm'
          cases q
        · intro m' hm' _ _
          rw [List.mem_singleton] at hm'
          subst hm'
          refine ⟨hk, rfl, ?_, rfl⟩
          show (x.heard m.term).term = m.term
          omega
  · -- kind 3
    rename_i k0 k1 k2
    have k3 : m.kind = 3 := by
      have := hm.kd
      omega
    unfold onHad
    split
    · rename_i hc
      split
      · rename_i ha
        have led : m.b ≤ (x.heard m.term).log.length := by
          rcases (hl k3 ha).grows g1 with q | ⟨_, _, q⟩
          · omega
          · exact q hc.1
        have hs : max ((x.heard m.term).same.getD m.from_ 0) m.b ≤ (x.heard m.term).log.length := by
          have : (x.heard m.term).same.getD m.from_ 0 ≤ (x.heard m.term).log.length := by
            rw [List.getD_eq_getElem?_getD]
            cases e : (x.heard m.term).same[m.from_]? with
            | none => exact Nat.zero_le _
            | some v => exact h1.ls hc.1 v (List.mem_of_getElem? e)
          omega
        obtain ⟨h2, g2⟩ := h1.knows (j := m.from_) (a := max ((x.heard m.term).same.getD m.from_ 0) m.b + 1) (b := max ((x.heard m.term).same.getD m.from_ 0) m.b) (by omega) (fun _ => ⟨by omega, hs⟩)
        obtain ⟨h3, g3⟩ := settles_ok h2 m.to_
        exact ⟨h3, (g1.trans g2).trans g3, Nat.zero_le _, (fun _ q => by cases q), (fun _ q => by cases q), (fun _ q => by cases q)⟩
      · have hs : (x.heard m.term).same.getD m.from_ 0 ≤ (x.heard m.term).log.length := by
          rw [List.getD_eq_getElem?_getD]
          cases e : (x.heard m.term).same[m.from_]? with
          | none => exact Nat.zero_le _
          | some v => exact h1.ls hc.1 v (List.mem_of_getElem? e)
        have hx : (x.heard m.term).next.getD m.from_ 1 ≤ (x.heard m.term).log.length + 1 := by
          rw [List.getD_eq_getElem?_getD]
          cases e : (x.heard m.term).next[m.from_]? with
          | none => exact Nat.succ_le_succ (Nat.zero_le _)
          | some v => exact h1.ln hc.1 v (List.mem_of_getElem? e)
        obtain ⟨h2, g2⟩ := h1.knows (j := m.from_) (a := max 1 ((x.heard m.term).next.getD m.from_ 1 - 1)) (b := (x.heard m.term).same.getD m.from_ 0) (by omega) (fun _ => ⟨by omega, hs⟩)
        exact ⟨h2, g1.trans g2, Nat.zero_le _, (fun _ q => by cases q), (fun _ q => by cases q), (fun _ q => by cases q)⟩
    · exact ⟨h1, g1, Nat.zero_le _, (fun _ q => by cases q), (fun _ q => by cases q), (fun _ q => by cases q)⟩

theorem set_led {l : List Node} {i j : Nat} {x y z : Node} {t u : Nat} (hx : l[i]? = some x) (g : Grows x y) (hj : (l.set i y)[j]? = some z) (q : ∀ x', l[j]? = some x' → Led x' t u) : Led z t u := by
  obtain ⟨hi, _⟩ := List.getElem?_eq_some_iff.mp hx
  by_cases e : i = j
  · subst e
    rw [List.getElem?_set_self hi] at hj
    cases hj
    exact (q x hx).grows g
  · rw [List.getElem?_set_ne e] at hj
    exact q z hj
theorem Ok.small {s : State} (h : Ok s) : s.nodes.length ≤ 5 := by
  rcases h.n5 with e | e | e <;> omega
theorem Ok.start : Ok Lead.start := ⟨.inl rfl, (fun _ q => by cases q), (fun _ q => by cases q), (fun _ q => by cases q), Nat.zero_le _, List.Pairwise.nil, (fun _ q => by cases q)⟩
theorem Ok.begin_ {n : Nat} (hn : n = 3 ∨ n = 5) : Ok ⟨List.replicate n (fresh n), [], 1⟩ := by
  have len : (List.replicate n (fresh n)).length = n := List.length_replicate
  refine ⟨?_, ?_, (fun _ q => by cases q), (fun _ q => by cases q), Nat.zero_le _, List.Pairwise.nil, (fun _ q => by cases q)⟩
  · show (List.replicate n (fresh n)).length = 0 ∨ _
    rw [len]
    exact .inr hn
  · intro x hx
    show NOk (List.replicate n (fresh n)).length x
    rw [len, (List.mem_replicate.mp hx).2]
    exact NOk.fresh n
theorem Ok.stand {s : State} (h : Ok s) {i : Nat} {x : Node} (hx : s.nodes[i]? = some x) (hf : s.net.length + (s.nodes.length - 1) ≤ 64) : Ok (s.after i (x.stands i) ((others s.nodes.length i).map (askVote (x.stands i) i))) := by
  obtain ⟨hi, _⟩ := List.getElem?_eq_some_iff.mp hx
  obtain ⟨h1, g1⟩ := (h.nd x (List.mem_of_getElem? hx)).stands (by rcases h.n5 with e | e | e <;> omega) i
  refine h.after hx g1 h1 ?_ ?_ ?_
  · rw [List.length_map, others_length hi]
    exact hf
  · intro m hm
    obtain ⟨j, hj, rfl⟩ := List.mem_map.mp hm
    exact ⟨hi, (mem_others hj).1, by show 0 ≤ 4; omega, (fun q => by cases q), by show 0 ≤ 3; omega⟩
  · intro m hm
    obtain ⟨j, hj, rfl⟩ := List.mem_map.mp hm
    exact ⟨(fun q => by cases q), (fun q => by cases q)⟩
theorem Ok.propose {s : State} (h : Ok s) {i v : Nat} {x : Node} (hx : s.nodes[i]? = some x) (hf : x.log.length < 32) : Ok (s.after i (x.keeps (x.log ++ [⟨x.term, v⟩]) x.settled) []) := by
  obtain ⟨h1, g1⟩ := (h.nd x (List.mem_of_getElem? hx)).keeps (l := x.log ++ [⟨x.term, v⟩]) (by rw [List.length_append]; omega) (by rw [List.length_append]; exact hf) (h.nd x (List.mem_of_getElem? hx)).st
  exact h.after hx g1 h1 h.nt (fun _ q => by cases q) (fun _ q => by cases q)
theorem Ok.beat {s : State} (h : Ok s) {i : Nat} {x : Node} (hx : s.nodes[i]? = some x) (hr : x.role = 2) (hf : s.net.length + (s.nodes.length - 1) ≤ 64) : Ok (s.after i x ((others s.nodes.length i).map (giveEntries x i))) := by
  obtain ⟨hi, _⟩ := List.getElem?_eq_some_iff.mp hx
  have h1 := h.nd x (List.mem_of_getElem? hx)
  have up : ∀ j, (x.next.getD j 1 - 1) + ((x.log.drop (x.next.getD j 1 - 1)).take SOME).length ≤ x.log.length := by
    intro j
    have hb : x.next.getD j 1 ≤ x.log.length + 1 := by
      rw [List.getD_eq_getElem?_getD]
      cases e : x.next[j]? with
      | none => exact Nat.succ_le_succ (Nat.zero_le _)
      | some v => exact h1.ln hr v (List.mem_of_getElem? e)
    rw [List.length_take, List.length_drop]
    omega
  refine h.after hx (Grows.refl x) h1 ?_ ?_ ?_
  · rw [List.length_map, others_length hi]
    exact hf
  · intro m hm
    obtain ⟨j, hj, rfl⟩ := List.mem_map.mp hm
    refine ⟨hi, (mem_others hj).1, ?_, fun _ => ?_, by show 2 ≤ 3; omega⟩
    · show ((x.log.drop (x.next.getD j 1 - 1)).take SOME).length ≤ 4
      rw [List.length_take]
      exact Nat.min_le_left _ _
    · show (x.next.getD j 1 - 1) + ((x.log.drop (x.next.getD j 1 - 1)).take SOME).length ≤ 32
      exact Nat.le_trans (up j) h1.ll
  · intro m hm
    obtain ⟨j, hj, rfl⟩ := List.mem_map.mp hm
    refine ⟨fun _ z hz => ?_, (fun q => by cases q)⟩
    have e : z = x := by
      have hz : (s.nodes.set i x)[i]? = some z := hz
      rw [List.getElem?_set_self hi] at hz
      exact (Option.some.inj hz).symm
    subst e
    exact .inr ⟨rfl, by omega, fun _ => up j⟩
theorem Ok.deliver {s : State} (h : Ok s) {m : Nat} {x : Message} {y : Node} (hm : s.find m = some x) (hy : s.nodes[x.to_]? = some y) : Ok ((s.without m).after x.to_ (onMessage s.nodes.length y x).1 (onMessage s.nodes.length y x).2) := by
  obtain ⟨hx, hid⟩ := h.find hm
  have w := h.without m
  have o := on_out (n := s.nodes.length) (x := y) (m := x) h.small (h.nd y (List.mem_of_getElem? hy)) (h.ms x hx) (fun e e2 => (h.tl x hx).2 e e2 y hy)
  refine w.after hy o.gr o.ok ?_ o.ms ?_
  · have a := without_lt hx hid
    have b := o.few
    have c := h.nt
    omega
  · intro m' hm'
    refine ⟨fun e => absurd e (o.no2 m' hm'), fun e e2 z hz => ?_⟩
    obtain ⟨k1, k2, k3, k4⟩ := o.k3 m' hm' e e2
    rw [k3, k4]
    refine set_led (x := y) hy o.gr hz fun x' hx' => ?_
    rw [k2] at hx'
    exact (h.tl x hx).1 k1 x' hx'
theorem Ok.step {s : State} (h : Ok s) (c : Call) : Ok (step s c).1 := by
  cases c with
  | begin_ n =>
    unfold Lead.step
    dsimp only
    split
    · exact h
    · exact Ok.begin_ (by omega)
  | stand i =>
    unfold Lead.step
    dsimp only
    split
    · exact h
    · rename_i x hx
      split
      · exact h
      split
      · exact h
      · rename_i hf
        refine h.stand hx ?_
        have : ¬ (s.full (s.nodes.length - 1) = true) := fun q => hf (.inr q)
        have : ¬ (NET < s.net.length + (s.nodes.length - 1)) := fun q => this (decide_eq_true q)
        unfold NET at this
        omega
  | propose i v =>
    unfold Lead.step
    dsimp only
    split
    · exact h
    · rename_i x hx
      split
      · exact h
      split
      · exact h
      split
      · exact h
      · rename_i hf
        refine h.propose hx ?_
        unfold LOG at hf
        omega
  | beat i =>
    unfold Lead.step
    dsimp only
    split
    · exact h
    · rename_i x hx
      split
      · exact h
      split
      · exact h
      · rename_i hr hf
        refine h.beat hx (by omega) ?_
        have : ¬ (NET < s.net.length + (s.nodes.length - 1)) := fun q => hf (decide_eq_true q)
        unfold NET at this
        omega
  | deliver m =>
    unfold Lead.step
    dsimp only
    split
    · exact h
    · rename_i x hx
      split
      · exact h
      · rename_i y hy
        exact h.deliver hx hy
  | lose m =>
    unfold Lead.step
    dsimp only
    split
    · exact h
    · exact h.without m
  | copy m =>
    unfold Lead.step
    dsimp only
    split
    · exact h
    · rename_i x hx
      split
      · exact h
      · rename_i hf
        refine h.copy (h.find hx).1 ?_
        have : ¬ (NET < s.net.length + 1) := fun q => hf (decide_eq_true q)
        unfold NET at this
        omega
  | crash i =>
    unfold Lead.step
    dsimp only
    split
    · exact h
    · rename_i x hx
      obtain ⟨h1, g1⟩ := (h.nd x (List.mem_of_getElem? hx)).crashed
      exact h.after hx g1 h1 h.nt (fun _ q => by cases q) (fun _ q => by cases q)
  | look i => exact h
  | log i => exact h
  | settled i => exact h
  | net => exact h
  | message m => exact h
end Ld
end

section
/-! Equations of the specification's functions, in the form in which the program comes to them. -/
namespace Ld
open Lead
/-! ### put, step by step -/
theorem put_start (l : Log) (a : Nat) (es : Log) : put l a es = l.take (a + 0) ++ joined (l.drop (a + 0)) (es.drop 0) := rfl
theorem joined_nil (l : Log) : joined l [] = l := by cases l <;> rfl
theorem put_stop {l es : Log} {a t : Nat} {e : Entry} (he : es[t]? = some e) (h : l.length = a + t ∨ ∃ y, l[a + t]? = some y ∧ y.term ≠ e.term) : l.take (a + t) ++ joined (l.drop (a + t)) (es.drop t) = l.take (a + t) ++ es.drop t := by
  have e1 : es.drop t = e :: es.drop (t + 1) := by
    obtain ⟨h1, h2⟩ := List.getElem?_eq_some_iff.mp he
    rw [List.drop_eq_getElem_cons h1, h2]
  rcases h with h | ⟨y, hy, hn⟩
  · rw [List.drop_eq_nil_of_le (by omega : l.length ≤ a + t), e1]
    rfl
  · obtain ⟨h1, h2⟩ := List.getElem?_eq_some_iff.mp hy
    rw [List.drop_eq_getElem_cons h1, h2, e1]
    show _ ++ (if y.term = e.term then y :: joined _ _ else e :: _) = _
    rw [if_neg hn]
theorem put_go {l es : Log} {a t : Nat} {e y : Entry} (he : es[t]? = some e) (hy : l[a + t]? = some y) (h : y.term = e.term) : l.take (a + t) ++ joined (l.drop (a + t)) (es.drop t) = l.take (a + (t + 1)) ++ joined (l.drop (a + (t + 1))) (es.drop (t + 1)) := by
  have e1 : es.drop t = e :: es.drop (t + 1) := by
    obtain ⟨h1, h2⟩ := List.getElem?_eq_some_iff.mp he
    rw [List.drop_eq_getElem_cons h1, h2]
  obtain ⟨h1, h2⟩ := List.getElem?_eq_some_iff.mp hy
  rw [List.drop_eq_getElem_cons h1, h2, e1]
  show _ ++ (if y.term = e.term then y :: joined (l.drop (a + t + 1)) (es.drop (t + 1)) else _) = _
  rw [if_pos h]
  have e2 : l.take (a + (t + 1)) = l.take (a + t) ++ [y] := by
    rw [show a + (t + 1) = (a + t) + 1 by omega, List.take_succ, hy]
    rfl
  rw [e2, List.append_assoc]
  rfl
theorem put_end {l es : Log} {a : Nat} : l.take (a + es.length) ++ joined (l.drop (a + es.length)) (es.drop es.length) = l := by
  rw [List.drop_length, joined_nil, List.take_append_drop]

/-! ### have_ -/
theorem have_aux (i : Nat) (p : Nat → Bool) : ∀ m, ((List.range m).filter fun j => j == i || p j).length = (if i < m then 1 else 0) + (((List.range m).filter fun j => j != i).filter p).length
  | 0 => by simp
  | m + 1 => by
    rw [List.range_succ, List.filter_append, List.length_append, have_aux i p m, List.filter_append, List.filter_append, List.length_append]
    by_cases e : m = i
    · subst e
      simp
      omega
    · have h1 : (m == i) = false := beq_eq_false_iff_ne.mpr e
      have h2 : (m != i) = true := by simp [e]
      have h3 : ((if i < m then 1 else 0) : Nat) = if i < m + 1 then 1 else 0 := by
        by_cases h : i < m
        · rw [if_pos h, if_pos (by omega)]
        · rw [if_neg h, if_neg (by omega)]
      rw [h3]
      simp only [List.filter_cons, List.filter_nil, h1, h2, Bool.false_or, if_true]
      split <;> simp <;> omega
theorem zipIdx_range (l : List Nat) : l.zipIdx = (List.range l.length).map fun j => (l.getD j 0, j) := by
  apply List.ext_getElem
  · simp
  · intro j h1 h2
    simp at h1
    simp [h1]
theorem have_eq {x : Node} {i k n : Nat} (hl : x.same.length = n) (hi : i < n) : have_ x i k = 1 + ((others n i).filter fun j => decide (k ≤ x.same.getD j 0)).length := by
  unfold have_ others
  rw [zipIdx_range, List.filter_map, List.length_map, hl]
  have := have_aux i (fun j => decide (k ≤ x.same.getD j 0)) n
  rw [if_pos hi] at this
  exact this

/-! ### settles -/
def cond (x : Node) (i k : Nat) : Prop := most x.same.length (have_ x i k) = true ∧ termAt x.log k = x.term
def best (x : Node) (i m : Nat) : Nat := ((List.range m).map fun (k : Nat) => k + 1).foldl (fun (s k : Nat) => if s < k ∧ most x.same.length (have_ x i k) = true ∧ termAt x.log k = x.term then k else s) x.settled
theorem settles_best (x : Node) (i : Nat) : x.settles i = x.keeps x.log (best x i x.log.length) := rfl
theorem best_succ (x : Node) (i m : Nat) : best x i (m + 1) = if best x i m < m + 1 ∧ most x.same.length (have_ x i (m + 1)) = true ∧ termAt x.log (m + 1) = x.term then m + 1 else best x i m := by
  unfold best
  rw [List.range_succ, List.map_append, List.foldl_append]
  rfl
theorem best_low (x : Node) (i : Nat) : ∀ m, best x i m = x.settled ∨ (x.settled < best x i m ∧ best x i m ≤ m)
  | 0 => .inl rfl
  | m + 1 => by
    rw [best_succ]
    split
    · rename_i h
      rcases best_low x i m with q | q
      · right
        omega
      · right
        omega
    · rcases best_low x i m with q | q
      · exact .inl q
      · right
        omega
theorem best_hit {x : Node} {i m : Nat} (hs : x.settled < m + 1) (h : cond x i (m + 1)) : best x i (m + 1) = m + 1 := by
  rw [best_succ, if_pos]
  refine ⟨?_, h.1, h.2⟩
  rcases best_low x i m with q | q <;> omega
theorem best_miss {x : Node} {i m : Nat} (h : ¬ cond x i (m + 1)) : best x i (m + 1) = best x i m := by
  rw [best_succ, if_neg]
  exact fun q => h ⟨q.2.1, q.2.2⟩
theorem best_under {x : Node} {i : Nat} : ∀ {m : Nat}, m ≤ x.settled → best x i m = x.settled
  | 0, _ => rfl
  | m + 1, h => by
    rw [best_succ, best_under (by omega : m ≤ x.settled), if_neg (by omega)]
end Ld
end

section
/-! What is settled stays: of every state that the specification comes to, what a replica knows to be settled is no more than its log has. -/
namespace Ld
open Lead

-- (1) lists

theorem pre_get {a b : Log} (h : a <+: b) {i : Nat} {e : Entry} (q : a[i]? = some e) : b[i]? = some e := by
  obtain ⟨t, rfl⟩ := h
  obtain ⟨hi, _⟩ := List.getElem?_eq_some_iff.mp q
  rw [List.getElem?_append_left hi]
  exact q
theorem pre_mem {a b : Log} (h : a <+: b) {e : Entry} (q : e ∈ a) : e ∈ b := by
  obtain ⟨t, rfl⟩ := h
  exact List.mem_append_left _ q
theorem pre_take {a b : Log} (h : a <+: b) {k : Nat} (hk : k ≤ a.length) : a.take k = b.take k := by
  obtain ⟨t, rfl⟩ := h
  rw [List.take_append_of_le_length hk]
theorem take_len {a : Log} {k : Nat} (h : k ≤ a.length) : (a.take k).length = k := by
  rw [List.length_take]; omega
theorem get_lt {a : Log} {i : Nat} {e : Entry} (q : a[i]? = some e) : i < a.length := (List.getElem?_eq_some_iff.mp q).1
theorem get_take {a : Log} {k i : Nat} {e : Entry} (q : a[i]? = some e) (h : i < k) : (a.take k)[i]? = some e := by
  rw [List.getElem?_take_of_lt h]; exact q
theorem last_get {a : Log} (h : a ≠ []) : ∃ e, a[a.length - 1]? = some e ∧ lastTerm a = e.term := by
  have hl : 0 < a.length := List.length_pos_iff.mpr h
  refine ⟨a[a.length - 1], List.getElem?_eq_getElem (by omega), ?_⟩
  unfold lastTerm
  rw [List.getLast?_eq_getElem?, List.getElem?_eq_getElem (by omega)]
theorem last_nil {a : Log} (h : a = []) : lastTerm a = 0 := by
  subst h; rfl
theorem nodup_le : ∀ (n : Nat) (l : List Nat), l.Nodup → (∀ j ∈ l, j < n) → l.length ≤ n
  | 0, l, _, h => by
    cases l with
    | nil => exact Nat.le_refl _
    | cons a l => exact absurd (h a List.mem_cons_self) (by omega)
  | n + 1, l, hn, h => by
    have h1 : (l.filter fun j => j != n).length ≤ n := by
      refine nodup_le n _ (hn.filter _) fun j hj => ?_
      obtain ⟨h1, h2⟩ := List.mem_filter.mp hj
      have := h j h1
      have : j ≠ n := by simpa using h2
      omega
    have h2 : ∀ l : List Nat, l.Nodup → l.length ≤ (l.filter fun j => j != n).length + 1 := by
      intro l
      induction l with
      | nil => intro _; simp
      | cons a l ih =>
        intro hn
        rw [List.filter_cons]
        obtain ⟨ha, hn⟩ := List.nodup_cons.mp hn
        by_cases e : a = n
        · subst e
          have : (l.filter fun j => j != a) = l := by
            rw [List.filter_eq_self]
            intro b hb
            have : b ≠ a := fun q => ha (q ▸ hb)
            simpa using this
          rw [if_neg (by simp), this]
          simp
        · rw [if_pos (by simpa using e)]
          have := ih hn
          simp only [List.length_cons]
          omega
    have := h2 l hn
    omega
/-- two of more than half have one in common -/
theorem common {n : Nat} {a b : List Nat} (ha : a.Nodup) (hb : b.Nodup) (la : ∀ j ∈ a, j < n) (lb : ∀ j ∈ b, j < n) (h : n < 2 * a.length) (h' : n < 2 * b.length) : ∃ j, j ∈ a ∧ j ∈ b := by
  refine Classical.byContradiction fun q => ?_
  have : (a ++ b).length ≤ n := by
    refine nodup_le n _ ?_ fun j hj => ?_
    · refine List.nodup_append.mpr ⟨ha, hb, fun x hx y hy e => ?_⟩
      subst e
      exact q ⟨x, hx, hy⟩
    · rcases List.mem_append.mp hj with hj | hj
      · exact la j hj
      · exact lb j hj
  rw [List.length_append] at this
  omega

-- (2) what was: who led in which term, with which log; who voted for whom, with which log; up to which entry of which term's log each said yes

structure Gh where
  el : Nat → Prop
  ld : Nat → Nat
  E : Nat → Log
  L : Nat → Log
  V : Nat → List Nat
  vf : Nat → Nat → Option (Nat × Log)
  ak : Nat → Nat → Nat
def Good (g : Gh) (X : Log) : Prop := ∀ i e, X[i]? = some e → g.el e.term ∧ X.take (i + 1) <+: g.L e.term
def Mono (X : Log) : Prop := ∀ (i j : Nat) (e f : Entry), i ≤ j → X[i]? = some e → X[j]? = some f → e.term ≤ f.term
theorem Good.pre {g : Gh} {X Y : Log} (h : Good g Y) (p : X <+: Y) : Good g X := by
  intro i e q
  obtain ⟨h1, h2⟩ := h i e (pre_get p q)
  have hi := get_lt q
  exact ⟨h1, by rw [pre_take p hi]; exact h2⟩
theorem Mono.pre {X Y : Log} (h : Mono Y) (p : X <+: Y) : Mono X := fun i j e f hij q r => h i j e f hij (pre_get p q) (pre_get p r)
theorem Good.match_ {g : Gh} {X Y : Log} (h : Good g X) (h' : Good g Y) {i : Nat} {e f : Entry} (q : X[i]? = some e) (r : Y[i]? = some f) (t : e.term = f.term) : X.take (i + 1) = Y.take (i + 1) := by
  have h1 := (h i e q).2
  have h2 := (h' i f r).2
  rw [t] at h1
  have l1 : (X.take (i + 1)).length = i + 1 := take_len (get_lt q)
  have l2 : (Y.take (i + 1)).length = i + 1 := take_len (get_lt r)
  exact (List.prefix_of_prefix_length_le h1 h2 (by omega)).eq_of_length (by omega)

-- (3) entries put

theorem joined_pre : ∀ (P l es r : Log), P <+: l → P <+: es ++ r → P <+: joined l es
  | P, l, [], r, h, _ => by cases l <;> exact h
  | P, [], e :: es, r, h, _ => by
    rw [List.prefix_nil.mp h]
    exact List.nil_prefix
  | [], x :: l, e :: es, r, _, _ => List.nil_prefix
  | p :: P, x :: l, e :: es, r, h, h' => by
    obtain ⟨h1, h2⟩ := List.cons_prefix_cons.mp h
    obtain ⟨h3, h4⟩ := List.cons_prefix_cons.mp h'
    subst h1
    subst h3
    unfold joined
    rw [if_pos rfl]
    exact List.cons_prefix_cons.mpr ⟨rfl, joined_pre P l es r h2 h4⟩
theorem put_pre {P l M es r : Log} {a : Nat} (h : P <+: l) (h' : P <+: M) (hm : M.drop a = es ++ r) : P <+: put l a es := by
  unfold put
  by_cases q : P.length ≤ a
  · refine List.IsPrefix.trans ?_ (List.prefix_append _ _)
    obtain ⟨t, rfl⟩ := h
    rw [List.take_append]
    rw [List.take_of_length_le q]
    exact List.prefix_append _ _
  · have ha : a ≤ P.length := by omega
    have e1 : P = P.take a ++ P.drop a := (List.take_append_drop a P).symm
    have e2 : P.take a = l.take a := pre_take h ha
    rw [e1, e2]
    refine (List.prefix_append_right_inj _).mpr ?_
    refine joined_pre _ _ _ r ?_ ?_
    · obtain ⟨t, rfl⟩ := h
      rw [List.drop_append_of_le_length ha]
      exact List.prefix_append _ _
    · rw [← hm]
      obtain ⟨t, rfl⟩ := h'
      rw [List.drop_append_of_le_length ha]
      exact List.prefix_append _ _
theorem joined_two {g : Gh} : ∀ (es A l r : Log), Good g (A ++ l) → Good g (A ++ (es ++ r)) → (joined l es = l ∧ es <+: l) ∨ joined l es = es
  | [], A, l, r, _, _ => .inl ⟨by cases l <;> rfl, List.nil_prefix⟩
  | e :: es, A, [], r, _, _ => .inr rfl
  | e :: es, A, x :: l, r, h, h' => by
    unfold joined
    split
    · rename_i t
      have g1 : (A ++ x :: l)[A.length]? = some x := by simp
      have g2 : (A ++ ((e :: es) ++ r))[A.length]? = some e := by simp
      have m := h.match_ h' g1 g2 t
      have hx : x = e := by
        have a1 := get_take g1 (Nat.lt_succ_self A.length)
        rw [m, get_take g2 (Nat.lt_succ_self A.length)] at a1
        exact (Option.some.inj a1).symm
      subst hx
      have := joined_two es (A ++ [x]) l r (by simpa using h) (by simpa using h')
      rcases this with ⟨q, q'⟩ | q
      · exact .inl ⟨by rw [q], List.cons_prefix_cons.mpr ⟨rfl, q'⟩⟩
      · exact .inr (by rw [q])
    · exact .inr rfl
/-- entries of a log that agrees with it so far: it has them then -/
theorem put_two {g : Gh} {l M es r : Log} {a : Nat} (hl : Good g l) (hM : Good g M) (hm : M.drop a = es ++ r) (ht : l.take a = M.take a) :
    (put l a es = l ∧ M.take (a + es.length) <+: l) ∨ put l a es = M.take (a + es.length) := by
  have eM : M.take (a + es.length) = M.take a ++ es := by
    rw [List.take_add, hm, List.take_left']
    rfl
  have h1 : Good g (l.take a ++ l.drop a) := by rw [List.take_append_drop]; exact hl
  have h2 : Good g (l.take a ++ (es ++ r)) := by rw [ht, ← hm, List.take_append_drop]; exact hM
  unfold put
  rcases joined_two es (l.take a) (l.drop a) r h1 h2 with ⟨q, q'⟩ | q
  · refine .inl ⟨by rw [q, List.take_append_drop], ?_⟩
    rw [eM, ← ht]
    conv => rhs; rw [← List.take_append_drop a l]
    exact (List.prefix_append_right_inj _).mpr q'
  · exact .inr (by rw [q, eM, ht])

-- (4) what holds of what was

def Pv (g : Gh) (j T : Nat) (W : Log) : Prop := ∀ T' k, T' < T → k ≤ g.ak j T' → (g.L T').take k <+: W ∨ ∃ T'', T' < T'' ∧ T'' < T ∧ g.el T'' ∧ ¬ (g.L T').take k <+: g.E T''
def Akl (g : Gh) (j t : Nat) (l : Log) : Prop := ∀ T' k, k ≤ g.ak j T' → (g.L T').take k <+: l ∨ ∃ T'', T' < T'' ∧ T'' ≤ t ∧ g.el T'' ∧ ¬ (g.L T').take k <+: g.E T''
def Com (n : Nat) (g : Gh) (T k : Nat) : Prop := g.el T ∧ 1 ≤ k ∧ (∃ e, (g.L T)[k - 1]? = some e ∧ e.term = T) ∧ ∃ Q : List Nat, Q.Nodup ∧ (∀ j ∈ Q, j < n ∧ k ≤ g.ak j T) ∧ n < 2 * Q.length
def Cm (n : Nat) (g : Gh) (t s : Nat) (l : Log) : Prop := s = 0 ∨ ∃ T k, T ≤ t ∧ Com n g T k ∧ s ≤ k ∧ (g.L T).take s <+: l
theorem Com.len {n : Nat} {g : Gh} {T k : Nat} (h : Com n g T k) : k ≤ (g.L T).length := by
  obtain ⟨_, h1, ⟨e, h2, _⟩, _⟩ := h
  have := get_lt h2
  omega
theorem Cm.len {n : Nat} {g : Gh} {t s : Nat} {l : Log} (h : Cm n g t s l) : s ≤ l.length := by
  rcases h with rfl | ⟨T, k, _, h1, h2, h3⟩
  · exact Nat.zero_le _
  · have := h1.len
    have l1 : ((g.L T).take s).length = s := take_len (by omega)
    have := h3.length_le
    omega
structure GI (n : Nat) (g : Gh) : Prop where
  el_ld : ∀ T, g.el T → g.ld T < n
  el_E : ∀ T, g.el T → g.E T <+: g.L T
  el_good : ∀ T, g.el T → Good g (g.L T)
  el_mono : ∀ T, g.el T → Mono (g.L T)
  el_lt : ∀ T, g.el T → ∀ e ∈ g.E T, e.term < T
  el_le : ∀ T, g.el T → ∀ e ∈ g.L T, e.term ≤ T
  v_nd : ∀ T, g.el T → (g.V T).Nodup
  v_lt : ∀ T, g.el T → ∀ j ∈ g.V T, j < n
  v_most : ∀ T, g.el T → n < 2 * (g.V T).length
  v_vf : ∀ T, g.el T → ∀ j ∈ g.V T, ∃ W, g.vf j T = some (g.ld T, W) ∧ newer W (g.E T).length (lastTerm (g.E T)) = false
  w_good : ∀ j T c W, g.vf j T = some (c, W) → Good g W
  w_mono : ∀ j T c W, g.vf j T = some (c, W) → Mono W
  ak_el : ∀ j T, 0 < g.ak j T → g.el T
  ak_le : ∀ j T, g.el T → g.ak j T ≤ (g.L T).length
  ak_ld : ∀ T, g.el T → g.ak (g.ld T) T = (g.L T).length
  va : ∀ j T c W, g.vf j T = some (c, W) → (¬ g.el T ∨ j ∈ g.V T) → Pv g j T W

/-- who leads later has what is settled -/
theorem GI.lc {n : Nat} {g : Gh} (h : GI n g) {T' k : Nat} (hc : Com n g T' k) : ∀ T, T' < T → g.el T → (g.L T').take k <+: g.E T := by
  intro T
  induction T using Nat.strongRecOn with
  | ind T ih =>
  intro hT hel
  have klen := hc.len
  obtain ⟨hel', hk1, ⟨e, he, het⟩, Q, hQ1, hQ2, hQ3⟩ := hc
  obtain ⟨j, hj1, hj2⟩ := common (h.v_nd T hel) hQ1 (h.v_lt T hel) (fun j hj => (hQ2 j hj).1) (h.v_most T hel) hQ3
  obtain ⟨W, hW, hnew⟩ := h.v_vf T hel j hj1
  rcases h.va j T _ W hW (.inr hj1) T' k hT (hQ2 j hj2).2 with pre | ⟨T'', q1, q2, q3, q4⟩
  case inr => exact absurd (ih T'' q2 q1 q3) q4
  have plen : ((g.L T').take k).length = k := take_len klen
  have pe : ((g.L T').take k)[k - 1]? = some e := get_take he (by omega)
  have wlen := pre.length_le
  have wne : W ≠ [] := by
    intro q
    rw [q] at wlen
    simp only [List.length_nil] at wlen
    omega
  obtain ⟨w, hw, hwt⟩ := last_get wne
  have wT : T' ≤ w.term := by
    have := h.w_mono j T _ W hW (k - 1) (W.length - 1) e w (by omega) (pre_get pre pe) hw
    omega
  unfold newer at hnew
  rw [Bool.or_eq_false_iff, Bool.and_eq_false_iff] at hnew
  obtain ⟨n1, n2⟩ := hnew
  have n1 : ¬ lastTerm (g.E T) < lastTerm W := of_decide_eq_false n1
  have gW := h.w_good j T _ W hW
  have gE : Good g (g.E T) := (h.el_good T hel).pre (h.el_E T hel)
  have wU := (gW _ w hw).2
  rw [show W.length - 1 + 1 = W.length by omega, List.take_length] at wU
  by_cases eq : lastTerm W = lastTerm (g.E T)
  · have hlen : W.length ≤ (g.E T).length := by
      rcases n2 with n2 | n2
      · rw [eq] at n2
        simp at n2
      · have := of_decide_eq_false n2
        omega
    have ene : g.E T ≠ [] := by
      intro q
      rw [q] at hlen
      simp only [List.length_nil] at hlen
      omega
    obtain ⟨f, hf, hft⟩ := last_get ene
    have eU := (gE _ f hf).2
    rw [show (g.E T).length - 1 + 1 = (g.E T).length by omega, List.take_length] at eU
    have t : f.term = w.term := by omega
    rw [t] at eU
    exact pre.trans (List.prefix_of_prefix_length_le wU eU hlen)
  · have ene : g.E T ≠ [] := by
      intro q
      have := last_nil q
      omega
    obtain ⟨f, hf, hft⟩ := last_get ene
    obtain ⟨elU, eU⟩ := gE _ f hf
    have epos := List.length_pos_iff.mpr ene
    rw [show (g.E T).length - 1 + 1 = (g.E T).length by omega, List.take_length] at eU
    have hU : f.term < T := h.el_lt T hel f (List.mem_of_getElem? hf)
    have pU := (ih f.term hU (by omega) elU).trans (h.el_E _ elU)
    by_cases hk : k ≤ (g.E T).length
    · exact List.prefix_of_prefix_length_le pU eU (by omega)
    · have := h.el_mono _ elU ((g.E T).length - 1) (k - 1) f e (by omega) (pre_get eU hf) (pre_get pU pe)
      omega
end Ld
end

section
/-! What was, beside a state: what holds of both, and how a replica that changes keeps it. -/
namespace Ld
open Lead

-- (5) what was grows, by one replica

structure Ext (i : Nat) (g g' : Gh) : Prop where
  el : ∀ T, g.el T → g'.el T
  el2 : ∀ T, g'.el T → g.el T ∨ g'.ld T = i
  ld : ∀ T, g.el T → g'.ld T = g.ld T
  E : ∀ T, g.el T → g'.E T = g.E T
  V : ∀ T, g.el T → g'.V T = g.V T
  L : ∀ T, g.el T → g.L T <+: g'.L T
  L2 : ∀ T, g.el T → g.ld T ≠ i → g'.L T = g.L T
  ak : ∀ j T, j ≠ i → g'.ak j T = g.ak j T
  ak2 : ∀ T, g.ak i T ≤ g'.ak i T
  vf : ∀ j T, j ≠ i → g'.vf j T = g.vf j T
  vf2 : ∀ T r, g.vf i T = some r → g'.vf i T = some r
theorem Ext.refl (i : Nat) (g : Gh) : Ext i g g := ⟨fun _ h => h, fun _ h => .inl h, fun _ _ => rfl, fun _ _ => rfl, fun _ _ => rfl, fun _ _ => List.prefix_refl _, fun _ _ _ => rfl, fun _ _ _ => rfl, fun _ => Nat.le_refl _, fun _ _ _ => rfl, fun _ _ h => h⟩
theorem Ext.akm {i : Nat} {g g' : Gh} (x : Ext i g g') (j T : Nat) : g.ak j T ≤ g'.ak j T := by
  by_cases e : j = i
  · subst e; exact x.ak2 T
  · rw [x.ak j T e]; exact Nat.le_refl _
theorem Ext.vfm {i : Nat} {g g' : Gh} (x : Ext i g g') {j T : Nat} {r : Nat × Log} (h : g.vf j T = some r) : g'.vf j T = some r := by
  by_cases e : j = i
  · subst e; exact x.vf2 T r h
  · rw [x.vf j T e]; exact h
theorem Ext.good {i : Nat} {g g' : Gh} (x : Ext i g g') {X : Log} (h : Good g X) : Good g' X := fun k e q => by
  obtain ⟨h1, h2⟩ := h k e q
  exact ⟨x.el _ h1, h2.trans (x.L _ h1)⟩
theorem Ext.take {i n : Nat} {g g' : Gh} (x : Ext i g g') (h : GI n g) {j T k : Nat} (hk : k ≤ g.ak j T) : (g'.L T).take k = (g.L T).take k := by
  by_cases k0 : k = 0
  · subst k0; rfl
  · have e := h.ak_el j T (by omega)
    have := h.ak_le j T e
    exact (pre_take (x.L T e) (by omega)).symm
theorem Ext.com {i n : Nat} {g g' : Gh} (x : Ext i g g') {T k : Nat} (h : Com n g T k) : Com n g' T k := by
  obtain ⟨h1, h2, ⟨e, h3, h4⟩, Q, h5, h6, h7⟩ := h
  exact ⟨x.el T h1, h2, ⟨e, pre_get (x.L T h1) h3, h4⟩, Q, h5, fun j hj => ⟨(h6 j hj).1, Nat.le_trans (h6 j hj).2 (x.akm j T)⟩, h7⟩
theorem Ext.cm {i n : Nat} {g g' : Gh} (x : Ext i g g') {t s : Nat} {l : Log} (h : Cm n g t s l) : Cm n g' t s l := by
  rcases h with h | ⟨T, k, h1, h2, h3, h4⟩
  · exact .inl h
  · refine .inr ⟨T, k, h1, x.com h2, h3, ?_⟩
    have := h2.len
    rw [← pre_take (x.L T h2.1) (by omega)]
    exact h4
theorem Cm.up {n : Nat} {g : Gh} {t t' s : Nat} {l l' : Log} (h : Cm n g t s l) (ht : t ≤ t') (hl : ∀ P, P <+: l → (∃ T, T ≤ t ∧ ∃ k, Com n g T k ∧ P <+: (g.L T).take k) → P <+: l') : Cm n g t' s l' := by
  rcases h with h | ⟨T, k, h1, h2, h3, h4⟩
  · exact .inl h
  · refine .inr ⟨T, k, by omega, h2, h3, hl _ h4 ⟨T, h1, k, h2, ?_⟩⟩
    exact List.take_prefix_take_left h3
theorem Ext.akl {i n : Nat} {g g' : Gh} (x : Ext i g g') (h : GI n g) {j t : Nat} {l : Log} (q : ∀ T, g'.ak j T = g.ak j T) (a : Akl g j t l) : Akl g' j t l := by
  intro T' k hk
  rw [q] at hk
  rw [x.take h hk]
  rcases a T' k hk with a | ⟨T'', a1, a2, a3, a4⟩
  · exact .inl a
  · exact .inr ⟨T'', a1, a2, x.el _ a3, by rw [x.E _ a3]; exact a4⟩
theorem Akl.up {g : Gh} {j t t' : Nat} {l : Log} (a : Akl g j t l) (h : t ≤ t') : Akl g j t' l := by
  intro T' k hk
  rcases a T' k hk with a | ⟨T'', a1, a2, a3, a4⟩
  · exact .inl a
  · exact .inr ⟨T'', a1, by omega, a3, a4⟩
theorem Ext.pv {i n : Nat} {g g' : Gh} (x : Ext i g g') (h : GI n g) {j T : Nat} {W : Log} (q : ∀ T', T' < T → g'.ak j T' = g.ak j T') (a : Pv g j T W) : Pv g' j T W := by
  intro T' k hT hk
  rw [q T' hT] at hk
  rw [x.take h hk]
  rcases a T' k hT hk with a | ⟨T'', a1, a2, a3, a4⟩
  · exact .inl a
  · exact .inr ⟨T'', a1, a2, x.el _ a3, by rw [x.E _ a3]; exact a4⟩

-- (6) a replica; a message; a state

structure NI (n : Nat) (g : Gh) (i : Nat) (x : Node) : Prop where
  good : Good g x.log
  mono : Mono x.log
  tle : ∀ e ∈ x.log, e.term ≤ x.term
  vf0 : x.vote = 0 → g.vf i x.term = none
  vf1 : x.vote ≠ 0 → ∃ W, g.vf i x.term = some (x.vote - 1, W)
  vfn : ∀ T, x.term < T → g.vf i T = none
  akn : ∀ T, x.term < T → g.ak i T = 0
  akl : Akl g i x.term x.log
  led : ∀ T, g.el T → g.ld T = i → T < x.term ∨ (T = x.term ∧ x.role ≠ 1)
  r1 : x.role = 1 → (∀ e ∈ x.log, e.term < x.term) ∧ x.votes.Nodup ∧ ∀ j ∈ x.votes, j < n ∧ ∃ W, g.vf j x.term = some (i, W)
  r2 : x.role = 2 → g.el x.term ∧ g.ld x.term = i ∧ g.L x.term = x.log ∧ ∀ j, x.same.getD j 0 ≤ g.ak j x.term
  sc : Cm n g x.term x.settled x.log
structure MI (n : Nat) (g : Gh) (nodes : List Node) (m : Message) : Prop where
  m0 : m.kind = 0 → ∀ x, nodes[m.from_]? = some x → m.term ≤ x.term ∧ (m.term = x.term → x.role = 1 → m.a = x.log.length ∧ m.b = lastTerm x.log)
  m1 : m.kind = 1 → m.a = 1 → m.from_ < n ∧ ∃ W, g.vf m.from_ m.term = some (m.to_, W)
  m2 : m.kind = 2 → g.el m.term ∧ m.a ≤ (g.L m.term).length ∧ (∃ r, (g.L m.term).drop m.a = m.entries ++ r) ∧ m.b = termAt (g.L m.term) m.a ∧ Cm n g m.term m.c (g.L m.term)
  m3 : m.kind = 3 → m.a = 1 → m.b ≤ g.ak m.from_ m.term
structure JI (n : Nat) (g : Gh) (nodes : List Node) (net : List Message) : Prop where
  gi : GI n g
  len : nodes.length = n
  ni : ∀ i x, nodes[i]? = some x → NI n g i x
  rv : ∀ c x j W, nodes[c]? = some x → x.role = 1 → g.vf j x.term = some (c, W) → newer W x.log.length (lastTerm x.log) = false
  vt : ∀ j T c W x, g.vf j T = some (c, W) → nodes[c]? = some x → T ≤ x.term
  mi : ∀ m ∈ net, MI n g nodes m

theorem Ext.ni {i n : Nat} {g g' : Gh} (e : Ext i g g') (h : GI n g) {j : Nat} (hj : j ≠ i) {x : Node} (q : NI n g j x) : NI n g' j x where
  good := e.good q.good
  mono := q.mono
  tle := q.tle
  vf0 := fun v => by rw [e.vf j _ hj]; exact q.vf0 v
  vf1 := fun v => by rw [e.vf j _ hj]; exact q.vf1 v
  vfn := fun T v => by rw [e.vf j _ hj]; exact q.vfn T v
  akn := fun T v => by rw [e.ak j _ hj]; exact q.akn T v
  akl := e.akl h (fun T => e.ak j T hj) q.akl
  led := fun T v w => by
    rcases e.el2 T v with v | v
    · exact q.led T v (by rw [← e.ld T v]; exact w)
    · exact absurd (w.symm.trans v) hj
  r1 := fun v => by
    obtain ⟨a, b, c⟩ := q.r1 v
    exact ⟨a, b, fun k hk => ⟨(c k hk).1, by
      obtain ⟨W, w⟩ := (c k hk).2
      exact ⟨W, e.vfm w⟩⟩⟩
  r2 := fun v => by
    obtain ⟨a, b, c, d⟩ := q.r2 v
    exact ⟨e.el _ a, by rw [e.ld _ a]; exact b, by rw [e.L2 _ a (by rw [b]; exact hj)]; exact c, fun k => Nat.le_trans (d k) (e.akm k _)⟩
  sc := e.cm q.sc
theorem termAt_pre {a b : Log} (h : a <+: b) {k : Nat} (hk : k ≤ a.length) : termAt b k = termAt a k := by
  unfold termAt
  split
  · rfl
  · obtain ⟨t, rfl⟩ := h
    rw [List.getElem?_append_left (by omega)]
/-- of one that changes: its term does not fall; where it stands in the same term it stood, with the same log -/
def Goes (x y : Node) : Prop := x.term ≤ y.term ∧ (y.role = 1 → y.term = x.term → x.role = 1 ∧ y.log = x.log)
theorem get_set {l : List Node} {i j : Nat} {x y z : Node} (hx : l[i]? = some x) (h : (l.set i y)[j]? = some z) : (j = i ∧ z = y) ∨ (j ≠ i ∧ l[j]? = some z) := by
  obtain ⟨hi, _⟩ := List.getElem?_eq_some_iff.mp hx
  by_cases e : i = j
  · subst e
    rw [List.getElem?_set_self hi] at h
    exact .inl ⟨rfl, (Option.some.inj h).symm⟩
  · rw [List.getElem?_set_ne e] at h
    exact .inr ⟨fun q => e q.symm, h⟩
theorem Ext.mi {i n : Nat} {g g' : Gh} (e : Ext i g g') {nodes : List Node} {x y : Node} (hx : nodes[i]? = some x) (go : Goes x y) {m : Message} (q : MI n g nodes m) : MI n g' (nodes.set i y) m where
  m0 := fun k z hz => by
    rcases get_set hx hz with ⟨h1, h2⟩ | ⟨_, h⟩
    · subst h2
      obtain ⟨a, b⟩ := q.m0 k x (by rw [h1]; exact hx)
      refine ⟨Nat.le_trans a go.1, fun c d => ?_⟩
      have : z.term = x.term := by have := go.1; omega
      obtain ⟨d1, d2⟩ := go.2 d this
      rw [d2]
      exact b (by omega) d1
    · exact q.m0 k z h
  m1 := fun k a => by
    obtain ⟨b, W, c⟩ := q.m1 k a
    exact ⟨b, W, e.vfm c⟩
  m2 := fun k => by
    obtain ⟨a, b, ⟨r, c⟩, d, f⟩ := q.m2 k
    have p := e.L _ a
    refine ⟨e.el _ a, Nat.le_trans b p.length_le, ?_, ?_, ?_⟩
    · obtain ⟨t, p⟩ := p
      refine ⟨r ++ t, ?_⟩
      rw [← p, List.drop_append_of_le_length b, c, List.append_assoc]
    · rw [termAt_pre p b]; exact d
    · exact (e.cm f).up (Nat.le_refl _) fun P h _ => h.trans p
  m3 := fun k a => Nat.le_trans (q.m3 k a) (e.akm _ _)
/-- one replica changes, and what was grows by it -/
theorem JI.set {n : Nat} {g g' : Gh} {nodes : List Node} {net : List Message} (h : JI n g nodes net) {i : Nat} {x y : Node} (hx : nodes[i]? = some x) (e : Ext i g g') (gi : GI n g') (ni : NI n g' i y) (go : Goes x y)
    (nv : ∀ T c W, g'.vf i T = some (c, W) → g.vf i T = some (c, W) ∨ ∀ z, (nodes.set i y)[c]? = some z → T ≤ z.term ∧ (z.role = 1 → z.term = T → newer W z.log.length (lastTerm z.log) = false)) : JI n g' (nodes.set i y) net where
  gi := gi
  len := by rw [List.length_set]; exact h.len
  ni := fun j z hz => by
    rcases get_set hx hz with ⟨h1, h2⟩ | ⟨h1, h2⟩
    · subst h1; subst h2; exact ni
    · exact e.ni h.gi h1 (h.ni j z h2)
  rv := fun c z j W hz hr hv => by
    have old : g.vf j z.term = some (c, W) → newer W z.log.length (lastTerm z.log) = false := by
      intro ho
      rcases get_set hx hz with ⟨h1, h2⟩ | ⟨h1, h2⟩
      · subst h1; subst h2
        have t := h.vt j z.term c W x ho hx
        have t : z.term = x.term := by have := go.1; omega
        obtain ⟨r1, r2⟩ := go.2 hr t
        rw [r2]
        exact h.rv c x j W hx r1 (by rw [← t]; exact ho)
      · exact h.rv c z j W h2 hr ho
    by_cases hj : j = i
    · subst hj
      rcases nv _ c W hv with o | o
      · exact old o
      · exact (o z hz).2 hr rfl
    · rw [e.vf j _ hj] at hv
      exact old hv
  vt := fun j T c W z hv hz => by
    have old : g.vf j T = some (c, W) → T ≤ z.term := by
      intro ho
      rcases get_set hx hz with ⟨h1, h2⟩ | ⟨h1, h2⟩
      · subst h1; subst h2
        exact Nat.le_trans (h.vt j T c W x ho hx) go.1
      · exact h.vt j T c W z ho h2
    by_cases hj : j = i
    · subst hj
      rcases nv _ c W hv with o | o
      · exact old o
      · exact (o z hz).1
    · rw [e.vf j _ hj] at hv
      exact old hv
  mi := fun m hm => e.mi hx go (h.mi m hm)
/-- one replica changes, and nothing else -/
theorem JI.plain {n : Nat} {g : Gh} {nodes : List Node} {net : List Message} (h : JI n g nodes net) {i : Nat} {x y : Node} (hx : nodes[i]? = some x) (ni : NI n g i y) (go : Goes x y) : JI n g (nodes.set i y) net :=
  h.set hx (Ext.refl i g) h.gi ni go fun _ _ _ q => .inl q
theorem MI.alike {n : Nat} {g : Gh} {nodes : List Node} {m m' : Message} (a : Alike m m') (h : MI n g nodes m) : MI n g nodes m' := by
  obtain ⟨h1, h2, h3, h4, h5, h6, h7, h8⟩ := a
  obtain ⟨q1, q2, q3, q4⟩ := h
  constructor
  · rw [← h1, ← h2, ← h4, ← h5, ← h6]; exact q1
  · rw [← h1, ← h2, ← h3, ← h4, ← h5]; exact q2
  · rw [← h1, ← h4, ← h5, ← h6, ← h7, ← h8]; exact q3
  · rw [← h1, ← h2, ← h4, ← h5, ← h6]; exact q4
theorem JI.net {n : Nat} {g : Gh} {nodes : List Node} {net net' : List Message} (h : JI n g nodes net) (q : ∀ m ∈ net', MI n g nodes m) : JI n g nodes net' := ⟨h.gi, h.len, h.ni, h.rv, h.vt, q⟩
end Ld
end

section
/-! What each call and each message makes of what was. -/
namespace Ld
open Lead

def upd {A : Type} (f : Nat → A) (a : Nat) (b : A) : Nat → A := fun x => if x = a then b else f x
def upd2 {A : Type} (f : Nat → Nat → A) (a b : Nat) (v : A) : Nat → Nat → A := fun x y => if x = a ∧ y = b then v else f x y
theorem upd_self {A : Type} (f : Nat → A) (a : Nat) (b : A) : upd f a b a = b := if_pos rfl
theorem upd_ne {A : Type} (f : Nat → A) {a x : Nat} (b : A) (h : x ≠ a) : upd f a b x = f x := if_neg h
theorem upd2_self {A : Type} (f : Nat → Nat → A) (a b : Nat) (v : A) : upd2 f a b v a b = v := if_pos ⟨rfl, rfl⟩
theorem upd2_ne {A : Type} (f : Nat → Nat → A) {a b x y : Nat} (v : A) (h : ¬ (x = a ∧ y = b)) : upd2 f a b v x y = f x y := if_neg h

-- (7) a vote
def Gh.votes (g : Gh) (i T c : Nat) (W : Log) : Gh := ⟨g.el, g.ld, g.E, g.L, g.V, upd2 g.vf i T (some (c, W)), g.ak⟩
theorem Gh.votes_ext {g : Gh} {i T c : Nat} {W : Log} (h0 : g.vf i T = none) : Ext i g (g.votes i T c W) where
  el := fun _ h => h
  el2 := fun _ h => .inl h
  ld := fun _ _ => rfl
  E := fun _ _ => rfl
  V := fun _ _ => rfl
  L := fun _ _ => List.prefix_refl _
  L2 := fun _ _ _ => rfl
  ak := fun _ _ _ => rfl
  ak2 := fun _ => Nat.le_refl _
  vf := fun j T' hj => upd2_ne _ _ fun q => hj q.1
  vf2 := fun T' r hr => by
    refine (upd2_ne _ _ fun q => ?_).trans hr
    rw [q.2, h0] at hr
    cases hr
theorem Gh.votes_new {g : Gh} {i T c : Nat} {W : Log} {j T' c' : Nat} {W' : Log} (h : (g.votes i T c W).vf j T' = some (c', W')) : (j = i ∧ T' = T ∧ c' = c ∧ W' = W) ∨ g.vf j T' = some (c', W') := by
  have h : upd2 g.vf i T (some (c, W)) j T' = some (c', W') := h
  by_cases q : j = i ∧ T' = T
  · obtain ⟨rfl, rfl⟩ := q
    rw [upd2_self] at h
    cases h
    exact .inl ⟨rfl, rfl, rfl, rfl⟩
  · rw [upd2_ne _ _ q] at h
    exact .inr h
theorem Gh.votes_self (g : Gh) (i T c : Nat) (W : Log) : (g.votes i T c W).vf i T = some (c, W) := upd2_self _ _ _ _
theorem Gh.votes_other (g : Gh) (i T c : Nat) (W : Log) {T' : Nat} (h : T' ≠ T) : (g.votes i T c W).vf i T' = g.vf i T' := upd2_ne _ _ fun q => h q.2
theorem GI.votes {n : Nat} {g : Gh} (h : GI n g) {i T c : Nat} {W : Log} (h0 : g.vf i T = none) (hg : Good g W) (hm : Mono W) (hv : ¬ g.el T → Pv g i T W) : GI n (g.votes i T c W) where
  el_ld := h.el_ld
  el_E := h.el_E
  el_good := h.el_good
  el_mono := h.el_mono
  el_lt := h.el_lt
  el_le := h.el_le
  v_nd := h.v_nd
  v_lt := h.v_lt
  v_most := h.v_most
  v_vf := fun U hU j hj => by
    obtain ⟨W', a, b⟩ := h.v_vf U hU j hj
    exact ⟨W', (Gh.votes_ext h0).vfm a, b⟩
  w_good := fun j T' c' W' q => by
    rcases Gh.votes_new q with ⟨_, _, _, rfl⟩ | q
    · exact hg
    · exact h.w_good _ _ _ _ q
  w_mono := fun j T' c' W' q => by
    rcases Gh.votes_new q with ⟨_, _, _, rfl⟩ | q
    · exact hm
    · exact h.w_mono _ _ _ _ q
  ak_el := h.ak_el
  ak_le := h.ak_le
  ak_ld := h.ak_ld
  va := fun j T' c' W' q r => by
    rcases Gh.votes_new q with ⟨rfl, rfl, _, rfl⟩ | q
    · rcases r with r | r
      · exact hv r
      · refine Classical.byContradiction fun _ => ?_
        by_cases u : g.el T'
        · obtain ⟨_, a, _⟩ := h.v_vf T' u j r
          rw [h0] at a
          cases a
        · exact absurd (hv u) (by assumption)
    · exact h.va j T' c' W' q r
theorem newer_self (l : Log) : newer l l.length (lastTerm l) = false := by
  unfold newer
  simp
theorem Goes.refl (x : Node) : Goes x x := ⟨Nat.le_refl _, fun h _ => ⟨h, rfl⟩⟩

/-- it stands -/
theorem JI.stand {n : Nat} {g : Gh} {nodes : List Node} {net : List Message} (h : JI n g nodes net) {i : Nat} {x : Node} (hx : nodes[i]? = some x) (hi : i < n) : ∃ g', JI n g' (nodes.set i (x.stands i)) net := by
  have q := h.ni i x hx
  have h0 := q.vfn (x.term + 1) (by omega)
  refine ⟨g.votes i (x.term + 1) i x.log, h.set hx (Gh.votes_ext h0) ?_ ?_ ?_ ?_⟩
  · refine h.gi.votes h0 q.good q.mono fun _ T' k hT hk => ?_
    rcases q.akl T' k hk with a | ⟨T'', a1, a2, a3, a4⟩
    · exact .inl a
    · exact .inr ⟨T'', a1, by omega, a3, a4⟩
  · refine ⟨q.good, q.mono, ?_, ?_, ?_, ?_, ?_, ?_, ?_, ?_, ?_, ?_⟩
    · intro e he
      have := q.tle e he
      show e.term ≤ x.term + 1
      omega
    · intro e; cases e
    · intro _
      exact ⟨x.log, Gh.votes_self _ _ _ _ _⟩
    · intro T hT
      have hT : x.term + 1 < T := hT
      rw [Gh.votes_other _ _ _ _ _ (by omega)]
      exact q.vfn T (by omega)
    · intro T hT
      have hT : x.term + 1 < T := hT
      exact q.akn T (by omega)
    · exact ((Gh.votes_ext h0).akl h.gi (fun _ => rfl) q.akl).up (Nat.le_succ _)
    · intro T hT hl
      show T < x.term + 1 ∨ _
      rcases q.led T hT hl with a | a
      · exact .inl (by omega)
      · exact .inl (by omega)
    · intro _
      refine ⟨?_, ?_, ?_⟩
      · intro e he
        have := q.tle e he
        show e.term < x.term + 1
        omega
      · show [i].Nodup
        simp
      · intro j hj
        have hj : j ∈ [i] := hj
        rw [List.mem_singleton] at hj
        subst hj
        exact ⟨hi, x.log, Gh.votes_self _ _ _ _ _⟩
    · intro e; cases e
    · exact ((Gh.votes_ext h0).cm q.sc).up (Nat.le_succ _) fun P hP _ => hP
  · refine ⟨Nat.le_succ _, fun _ e => ?_⟩
    have e : x.term + 1 = x.term := e
    omega
  · intro T c W hv
    rcases Gh.votes_new hv with ⟨_, rfl, rfl, rfl⟩ | hv
    · refine .inr fun z hz => ?_
      rcases get_set hx hz with ⟨_, rfl⟩ | ⟨a, _⟩
      · exact ⟨Nat.le_refl _, fun _ _ => newer_self _⟩
      · exact absurd rfl a
    · exact .inl hv

/-- it hears of a term -/
theorem JI.heard {n : Nat} {g : Gh} {nodes : List Node} {net : List Message} (h : JI n g nodes net) {i : Nat} {x : Node} (hx : nodes[i]? = some x) (t : Nat) : JI n g (nodes.set i (x.heard t)) net := by
  have q := h.ni i x hx
  unfold Node.heard
  split
  · rename_i ht
    refine h.plain hx ?_ ?_
    · refine ⟨q.good, q.mono, ?_, ?_, ?_, ?_, ?_, ?_, ?_, ?_, ?_, ?_⟩
      · intro e he
        have := q.tle e he
        show e.term ≤ t
        omega
      · intro _
        exact q.vfn t ht
      · intro e; exact absurd rfl e
      · intro T hT
        have hT : t < T := hT
        exact q.vfn T (by omega)
      · intro T hT
        have hT : t < T := hT
        exact q.akn T (by omega)
      · exact q.akl.up (Nat.le_of_lt ht)
      · intro T hT hl
        show T < t ∨ _
        rcases q.led T hT hl with a | a
        · exact .inl (by omega)
        · exact .inl (by omega)
      · intro e; cases e
      · intro e; cases e
      · exact q.sc.up (Nat.le_of_lt ht) fun P hP _ => hP
    · exact ⟨Nat.le_of_lt ht, fun e => by cases e⟩
  · have : nodes.set i x = nodes := by
      obtain ⟨hi, hxi⟩ := List.getElem?_eq_some_iff.mp hx
      rw [← hxi]
      exact List.set_getElem_self hi
    rw [this]
    exact h
/-- it follows -/
theorem NI.follows {n : Nat} {g : Gh} {i : Nat} {x : Node} (q : NI n g i x) : NI n g i x.follows := by
  refine ⟨q.good, q.mono, q.tle, q.vf0, q.vf1, q.vfn, q.akn, q.akl, ?_, ?_, ?_, q.sc⟩
  · intro T hT hl
    rcases q.led T hT hl with a | a
    · exact .inl a
    · exact .inr ⟨a.1, fun e => by cases e⟩
  · intro e; cases e
  · intro e; cases e
theorem JI.follows {n : Nat} {g : Gh} {nodes : List Node} {net : List Message} (h : JI n g nodes net) {i : Nat} {x : Node} (hx : nodes[i]? = some x) : JI n g (nodes.set i x.follows) net :=
  h.plain hx (h.ni i x hx).follows ⟨Nat.le_refl _, fun e => by cases e⟩
theorem JI.crashed {n : Nat} {g : Gh} {nodes : List Node} {net : List Message} (h : JI n g nodes net) {i : Nat} {x : Node} (hx : nodes[i]? = some x) : JI n g (nodes.set i x.crashed) net := by
  have q := h.ni i x hx
  refine h.plain hx ?_ ⟨Nat.le_refl _, fun e => by cases e⟩
  refine ⟨q.good, q.mono, q.tle, q.vf0, q.vf1, q.vfn, q.akn, q.akl, ?_, ?_, ?_, .inl rfl⟩
  · intro T hT hl
    rcases q.led T hT hl with a | a
    · exact .inl a
    · exact .inr ⟨a.1, fun e => by cases e⟩
  · intro e; cases e
  · intro e; cases e

theorem set_get {nodes : List Node} {i : Nat} {x : Node} (y : Node) (hx : nodes[i]? = some x) : (nodes.set i y)[i]? = some y := by
  obtain ⟨hi, _⟩ := List.getElem?_eq_some_iff.mp hx
  exact List.getElem?_set_self hi
theorem set_same {nodes : List Node} {i : Nat} {x : Node} (hx : nodes[i]? = some x) : nodes.set i x = nodes := by
  obtain ⟨hi, hxi⟩ := List.getElem?_eq_some_iff.mp hx
  rw [← hxi]
  exact List.set_getElem_self hi

/-- asked for its vote -/
theorem JI.onVote {n : Nat} {g : Gh} {nodes : List Node} {net : List Message} (h : JI n g nodes net) {x : Node} {m : Message} (hx : nodes[m.to_]? = some x) (hm : m ∈ net) (hk : m.kind = 0) :
    ∃ g', JI n g' (nodes.set m.to_ (onVote x m).1) net ∧ ∀ m' ∈ (onVote x m).2, MI n g' (nodes.set m.to_ (onVote x m).1) m' := by
  have q := h.ni _ x hx
  have o := h.mi m hm
  have mono : ∀ (g' : Gh) (l : List Node) (a : Nat), (a = 1 → m.to_ < n ∧ ∃ W, g'.vf m.to_ x.term = some (m.from_, W)) → MI n g' l ⟨0, 1, m.to_, m.from_, x.term, a, 0, 0, []⟩ := by
    intro g' l a ha
    exact ⟨(fun e => by cases e), (fun _ => ha), (fun e => by cases e), (fun e => by cases e)⟩
  have hto : m.to_ < n := by
    rw [← h.len]; exact (List.getElem?_eq_some_iff.mp hx).1
  unfold Lead.onVote
  dsimp only
  split
  · rename_i hy
    rw [Bool.and_eq_true, Bool.and_eq_true, Bool.or_eq_true, Bool.not_eq_true'] at hy
    obtain ⟨y1, y2, y3⟩ := hy
    have y1 : x.term = m.term := eq_of_beq y1
    by_cases v0 : x.vote = 0
    · have h0 := q.vf0 v0
      refine ⟨g.votes m.to_ x.term m.from_ x.log, ?_, ?_⟩
      · refine h.set hx (Gh.votes_ext h0) ?_ ?_ ?_ ?_
        · refine h.gi.votes h0 q.good q.mono fun nel T' k hT hk => ?_
          rcases q.akl T' k hk with a | ⟨T'', a1, a2, a3, a4⟩
          · exact .inl a
          · refine .inr ⟨T'', a1, ?_, a3, a4⟩
            have : T'' ≠ x.term := fun e => nel (e ▸ a3)
            omega
        · refine ⟨q.good, q.mono, q.tle, ?_, ?_, ?_, q.akn, (Gh.votes_ext h0).akl h.gi (fun _ => rfl) q.akl, q.led, ?_, q.r2, (Gh.votes_ext h0).cm q.sc⟩
          · intro e; cases e
          · intro _
            exact ⟨x.log, Gh.votes_self _ _ _ _ _⟩
          · intro T hT
            have hT : x.term < T := hT
            rw [Gh.votes_other _ _ _ _ _ (by omega)]
            exact q.vfn T hT
          · intro e
            obtain ⟨a, b, c⟩ := q.r1 e
            exact ⟨a, b, fun j hj => ⟨(c j hj).1, by
              obtain ⟨W, w⟩ := (c j hj).2
              exact ⟨W, (Gh.votes_ext h0).vfm w⟩⟩⟩
        · exact ⟨Nat.le_refl _, fun e _ => ⟨e, rfl⟩⟩
        · intro T c W hv
          rcases Gh.votes_new hv with ⟨_, rfl, rfl, rfl⟩ | hv
          · refine .inr fun z hz => ?_
            have use : ∀ w : Node, nodes[m.from_]? = some w → w.term = z.term → w.role = z.role → w.log = z.log → x.term ≤ z.term ∧ (z.role = 1 → z.term = x.term → newer x.log z.log.length (lastTerm z.log) = false) := by
              intro w hw t1 t2 t3
              obtain ⟨a, b⟩ := o.m0 hk w hw
              refine ⟨by omega, fun r t => ?_⟩
              obtain ⟨b1, b2⟩ := b (by omega) (by omega)
              rw [← t3, ← b1, ← b2]
              exact y3
            rcases get_set hx hz with ⟨e, rfl⟩ | ⟨_, hz⟩
            · exact use x (by rw [e]; exact hx) rfl rfl rfl
            · exact use z hz rfl rfl rfl
          · exact .inl hv
      · intro m' hm'
        rw [List.mem_singleton] at hm'
        subst hm'
        exact mono _ _ _ fun _ => ⟨hto, x.log, Gh.votes_self _ _ _ _ _⟩
    · have v1 : x.vote = m.from_ + 1 := by
        rcases y2 with y2 | y2
        · exact absurd (eq_of_beq y2) v0
        · exact eq_of_beq y2
      have e : x.votes_ (m.from_ + 1) = x := by
        rw [← v1]; rfl
      rw [e, set_same hx]
      refine ⟨g, h, ?_⟩
      intro m' hm'
      rw [List.mem_singleton] at hm'
      subst hm'
      refine mono _ _ _ fun _ => ⟨hto, ?_⟩
      obtain ⟨W, w⟩ := q.vf1 v0
      rw [v1] at w
      exact ⟨W, w⟩
  · rw [set_same hx]
    refine ⟨g, h, ?_⟩
    intro m' hm'
    rw [List.mem_singleton] at hm'
    subst hm'
    exact mono _ _ _ fun e => by cases e

-- (8) one comes to lead
def Gh.elects (g : Gh) (i T : Nat) (l : Log) (v : List Nat) : Gh := ⟨fun U => g.el U ∨ U = T, upd g.ld T i, upd g.E T l, upd g.L T l, upd g.V T v, g.vf, upd2 g.ak i T l.length⟩
theorem Gh.elects_ext {n : Nat} {g : Gh} (h : GI n g) {i T : Nat} {l : Log} {v : List Nat} (h0 : ¬ g.el T) : Ext i g (g.elects i T l v) where
  el := fun _ h => .inl h
  el2 := fun U hU => by
    rcases hU with hU | rfl
    · exact .inl hU
    · exact .inr (upd_self _ _ _)
  ld := fun U hU => upd_ne _ _ fun e => h0 (e ▸ hU)
  E := fun U hU => upd_ne _ _ fun e => h0 (e ▸ hU)
  V := fun U hU => upd_ne _ _ fun e => h0 (e ▸ hU)
  L := fun U hU => by
    have : (g.elects i T l v).L U = g.L U := upd_ne _ _ fun e => h0 (e ▸ hU)
    rw [this]
    exact List.prefix_refl _
  L2 := fun U hU _ => upd_ne _ _ fun e => h0 (e ▸ hU)
  ak := fun j U hj => upd2_ne _ _ fun q => hj q.1
  ak2 := fun U => by
    by_cases e : U = T
    · have : g.ak i U = 0 := by
        have : ¬ 0 < g.ak i U := fun q => h0 (e ▸ h.ak_el i U q)
        omega
      omega
    · have : (g.elects i T l v).ak i U = g.ak i U := upd2_ne _ _ fun q => e q.2
      rw [this]
      exact Nat.le_refl _
  vf := fun _ _ _ => rfl
  vf2 := fun _ _ h => h
theorem GI.elects {n : Nat} {g : Gh} (h : GI n g) {i T : Nat} {l : Log} {v : List Nat} (h0 : ¬ g.el T) (hi : i < n) (hg : Good g l) (hm : Mono l) (hl : ∀ e ∈ l, e.term < T)
    (v1 : v.Nodup) (v2 : ∀ j ∈ v, j < n) (v3 : n < 2 * v.length) (v4 : ∀ j ∈ v, ∃ W, g.vf j T = some (i, W) ∧ newer W l.length (lastTerm l) = false) (hn : ∀ U, T < U → g.vf i U = none) : GI n (g.elects i T l v) := by
  have x := Gh.elects_ext h (i := i) (l := l) (v := v) h0
  have ld1 : (g.elects i T l v).ld T = i := upd_self _ _ _
  have E1 : (g.elects i T l v).E T = l := upd_self _ _ _
  have L1 : (g.elects i T l v).L T = l := upd_self _ _ _
  have V1 : (g.elects i T l v).V T = v := upd_self _ _ _
  have L2 : ∀ U, g.el U → (g.elects i T l v).L U = g.L U := fun U hU => upd_ne _ _ fun e => h0 (e ▸ hU)
  have a0 : ∀ j, g.ak j T = 0 := fun j => by
    have : ¬ 0 < g.ak j T := fun q => h0 (h.ak_el j T q)
    omega
  have a1 : ∀ j U, (g.elects i T l v).ak j U = if j = i ∧ U = T then l.length else g.ak j U := fun _ _ => rfl
  refine ⟨?_, ?_, ?_, ?_, ?_, ?_, ?_, ?_, ?_, ?_, ?_, ?_, ?_, ?_, ?_, ?_⟩
  · intro U hU
    rcases hU with hU | rfl
    · rw [x.ld U hU]; exact h.el_ld U hU
    · rw [ld1]; exact hi
  · intro U hU
    rcases hU with hU | rfl
    · rw [x.E U hU, L2 U hU]; exact h.el_E U hU
    · rw [E1, L1]; exact List.prefix_refl _
  · intro U hU
    rcases hU with hU | rfl
    · rw [L2 U hU]; exact x.good (h.el_good U hU)
    · rw [L1]; exact x.good hg
  · intro U hU
    rcases hU with hU | rfl
    · rw [L2 U hU]; exact h.el_mono U hU
    · rw [L1]; exact hm
  · intro U hU
    rcases hU with hU | rfl
    · rw [x.E U hU]; exact h.el_lt U hU
    · rw [E1]; exact hl
  · intro U hU
    rcases hU with hU | rfl
    · rw [L2 U hU]; exact h.el_le U hU
    · rw [L1]; exact fun e he => Nat.le_of_lt (hl e he)
  · intro U hU
    rcases hU with hU | rfl
    · rw [x.V U hU]; exact h.v_nd U hU
    · rw [V1]; exact v1
  · intro U hU
    rcases hU with hU | rfl
    · rw [x.V U hU]; exact h.v_lt U hU
    · rw [V1]; exact v2
  · intro U hU
    rcases hU with hU | rfl
    · rw [x.V U hU]; exact h.v_most U hU
    · rw [V1]; exact v3
  · intro U hU
    rcases hU with hU | rfl
    · rw [x.V U hU, x.ld U hU, x.E U hU]; exact h.v_vf U hU
    · rw [V1, ld1, E1]; exact v4
  · intro j U c W q
    exact x.good (h.w_good j U c W q)
  · intro j U c W q
    exact h.w_mono j U c W q
  · intro j U q
    rw [a1] at q
    split at q
    · rename_i e
      exact .inr e.2
    · exact .inl (h.ak_el j U q)
  · intro j U hU
    rw [a1]
    split
    · rename_i e
      rw [e.2, L1]
      exact Nat.le_refl _
    · rcases hU with hU | rfl
      · rw [L2 U hU]; exact h.ak_le j U hU
      · rw [a0]; exact Nat.zero_le _
  · intro U hU
    rcases hU with hU | rfl
    · rw [a1, if_neg (by rintro ⟨_, rfl⟩; exact h0 hU), x.ld U hU, L2 U hU]; exact h.ak_ld U hU
    · rw [a1, ld1, if_pos ⟨rfl, rfl⟩, L1]
  · intro j U c W q r
    have q0 : g.vf j U = some (c, W) := q
    refine x.pv h (fun T' hT => ?_) (h.va j U c W q0 ?_)
    · rw [a1]
      split
      · rename_i e
        rw [e.1, hn U (by omega)] at q0
        cases q0
      · rfl
    · by_cases e : U = T
      · exact .inl (e ▸ h0)
      · rcases r with r | r
        · exact .inl fun s => r (.inl s)
        · have : (g.elects i T l v).V U = g.V U := upd_ne _ _ e
          rw [this] at r
          exact .inr r
theorem getD_map0 (l : List Nat) (j : Nat) : (l.map fun (_ : Nat) => 0).getD j 0 = 0 := by
  rw [List.getD_eq_getElem?_getD, List.getElem?_map]
  cases l[j]? <;> rfl
/-- told of a vote -/
theorem JI.onVoted {n : Nat} {g : Gh} {nodes : List Node} {net : List Message} (h : JI n g nodes net) {x : Node} {m : Message} (hx : nodes[m.to_]? = some x) (hm : m ∈ net) (hk : m.kind = 1) :
    ∃ g', JI n g' (nodes.set m.to_ (onVoted n x m).1) net := by
  have q := h.ni _ x hx
  have o := h.mi m hm
  have hto : m.to_ < n := by
    rw [← h.len]; exact (List.getElem?_eq_some_iff.mp hx).1
  unfold Lead.onVoted
  split
  · rename_i hc
    obtain ⟨c1, c2, c3⟩ := hc
    obtain ⟨o1, W, o2⟩ := o.m1 hk c3
    obtain ⟨r1, r2, r3⟩ := q.r1 c1
    have v1 : (x.voted m.from_).votes.Nodup := by
      show (if x.votes.contains m.from_ = true then x.votes else x.votes ++ [m.from_]).Nodup
      split
      · exact r2
      · rename_i hn
        refine List.nodup_append.mpr ⟨r2, by simp, fun a ha b hb e => hn ?_⟩
        rw [List.mem_singleton] at hb
        subst hb
        subst e
        exact List.contains_iff_mem.mpr ha
    have v2 : ∀ j ∈ (x.voted m.from_).votes, j < n ∧ ∃ W, g.vf j x.term = some (m.to_, W) := by
      intro j hj
      have hj : j ∈ (if x.votes.contains m.from_ = true then x.votes else x.votes ++ [m.from_]) := hj
      split at hj
      · exact r3 j hj
      · rcases List.mem_append.mp hj with hj | hj
        · exact r3 j hj
        · rw [List.mem_singleton] at hj
          subst hj
          rw [c2]
          exact ⟨o1, W, o2⟩
    have n1 : NI n g m.to_ (x.voted m.from_) := ⟨q.good, q.mono, q.tle, q.vf0, q.vf1, q.vfn, q.akn, q.akl, q.led, fun _ => ⟨r1, v1, v2⟩, q.r2, q.sc⟩
    dsimp only
    split
    · rename_i hmost
      have hmost : n < 2 * (x.voted m.from_).votes.length := of_decide_eq_true hmost
      have h0 : ¬ g.el x.term := by
        intro el
        obtain ⟨j, j1, j2⟩ := common (h.gi.v_nd _ el) v1 (h.gi.v_lt _ el) (fun j hj => (v2 j hj).1) (h.gi.v_most _ el) hmost
        obtain ⟨W1, w1, _⟩ := h.gi.v_vf _ el j j1
        obtain ⟨_, W2, w2⟩ := v2 j j2
        rw [w1] at w2
        have e : g.ld x.term = m.to_ := by
          injection w2 with w2
          injection w2
        rcases q.led _ el e with a | a
        · omega
        · exact a.2 c1
      have ext := Gh.elects_ext h.gi (i := m.to_) (l := x.log) (v := (x.voted m.from_).votes) h0
      have L1 : (g.elects m.to_ x.term x.log (x.voted m.from_).votes).L x.term = x.log := upd_self _ _ _
      refine ⟨g.elects m.to_ x.term x.log (x.voted m.from_).votes, h.set hx ext ?_ ?_ ?_ ?_⟩
      · refine h.gi.elects h0 hto q.good q.mono r1 v1 (fun j hj => (v2 j hj).1) hmost ?_ q.vfn
        intro j hj
        obtain ⟨_, W, w⟩ := v2 j hj
        exact ⟨W, w, h.rv _ x j W hx c1 w⟩
      · refine ⟨ext.good q.good, q.mono, q.tle, q.vf0, q.vf1, q.vfn, ?_, ?_, ?_, ?_, ?_, ext.cm q.sc⟩
        · intro T hT
          have hT : x.term < T := hT
          refine (upd2_ne _ _ fun e => ?_).trans (q.akn T hT)
          omega
        · intro T' k hk
          by_cases e : T' = x.term
          · subst e
            rw [L1]
            exact .inl (List.take_prefix _ _)
          · have hk : k ≤ g.ak m.to_ T' := by
              have a : (g.elects m.to_ x.term x.log (x.voted m.from_).votes).ak m.to_ T' = g.ak m.to_ T' := upd2_ne _ _ fun q => e q.2
              rw [a] at hk
              exact hk
            rw [ext.take h.gi hk]
            rcases q.akl T' k hk with a | ⟨T'', a1, a2, a3, a4⟩
            · exact .inl a
            · exact .inr ⟨T'', a1, a2, ext.el _ a3, by rw [ext.E _ a3]; exact a4⟩
        · intro T hT hl
          rcases hT with hT | rfl
          · rw [ext.ld T hT] at hl
            rcases q.led T hT hl with a | a
            · exact .inl a
            · exact .inr ⟨a.1, fun e => by cases e⟩
          · exact .inr ⟨rfl, fun e => by cases e⟩
        · intro e; cases e
        · intro _
          refine ⟨.inr rfl, upd_self _ _ _, L1, fun j => ?_⟩
          show (x.same.map fun (_ : Nat) => 0).getD j 0 ≤ _
          rw [getD_map0]
          exact Nat.zero_le _
      · exact ⟨Nat.le_refl _, fun e => by cases e⟩
      · intro T c W hv
        exact .inl hv
    · exact ⟨g, h.plain hx n1 ⟨Nat.le_refl _, fun e _ => ⟨e, rfl⟩⟩⟩
  · rw [set_same hx]
    exact ⟨g, h⟩

-- (9) a value proposed
def Gh.grows (g : Gh) (i T : Nat) (l : Log) : Gh := ⟨g.el, g.ld, g.E, upd g.L T l, g.V, g.vf, upd2 g.ak i T l.length⟩
theorem JI.propose {n : Nat} {g : Gh} {nodes : List Node} {net : List Message} (h : JI n g nodes net) {i : Nat} {x : Node} (hx : nodes[i]? = some x) (hr : x.role = 2) (v : Nat) :
    ∃ g', JI n g' (nodes.set i (x.keeps (x.log ++ [⟨x.term, v⟩]) x.settled)) net := by
  have q := h.ni _ x hx
  obtain ⟨r1, r2, r3, r4⟩ := q.r2 hr
  have al : g.ak i x.term = x.log.length := by
    have := h.gi.ak_ld _ r1
    rw [r2, r3] at this
    exact this
  have pre : x.log <+: x.log ++ [⟨x.term, v⟩] := List.prefix_append _ _
  refine ⟨g.grows i x.term (x.log ++ [⟨x.term, v⟩]), ?_⟩
  have L1 : (g.grows i x.term (x.log ++ [⟨x.term, v⟩])).L x.term = x.log ++ [⟨x.term, v⟩] := upd_self _ _ _
  have L2 : ∀ U, U ≠ x.term → (g.grows i x.term (x.log ++ [⟨x.term, v⟩])).L U = g.L U := fun U hU => upd_ne _ _ hU
  have a1 : ∀ j U, (g.grows i x.term (x.log ++ [⟨x.term, v⟩])).ak j U = if j = i ∧ U = x.term then (x.log ++ [(⟨x.term, v⟩ : Entry)]).length else g.ak j U := fun _ _ => rfl
  have ln : (x.log ++ [(⟨x.term, v⟩ : Entry)]).length = x.log.length + 1 := by rw [List.length_append]; rfl
  have ext : Ext i g (g.grows i x.term (x.log ++ [⟨x.term, v⟩])) := by
    refine ⟨fun _ h => h, fun _ h => .inl h, fun _ _ => rfl, fun _ _ => rfl, fun _ _ => rfl, ?_, ?_, ?_, ?_, fun _ _ _ => rfl, fun _ _ h => h⟩
    · intro U hU
      by_cases e : U = x.term
      · subst e
        rw [L1, r3]; exact pre
      · rw [L2 U e]; exact List.prefix_refl _
    · intro U hU hl
      exact L2 U fun e => hl (e ▸ r2)
    · intro j U hj
      rw [a1, if_neg (fun q => hj q.1)]
    · intro U
      rw [a1]
      split
      · rename_i e
        rw [e.2, al, ln]
        exact Nat.le_succ _
      · exact Nat.le_refl _
  have get : ∀ k e, (x.log ++ [(⟨x.term, v⟩ : Entry)])[k]? = some e → (k < x.log.length ∧ x.log[k]? = some e) ∨ (k = x.log.length ∧ e = ⟨x.term, v⟩) := by
    intro k e hk
    by_cases c : k < x.log.length
    · rw [List.getElem?_append_left c] at hk
      exact .inl ⟨c, hk⟩
    · have := get_lt hk
      have kl : k = x.log.length := by omega
      subst kl
      rw [List.getElem?_append_right (Nat.le_refl _), Nat.sub_self] at hk
      exact .inr ⟨rfl, (Option.some.inj hk).symm⟩
  have gd : Good (g.grows i x.term (x.log ++ [⟨x.term, v⟩])) (x.log ++ [⟨x.term, v⟩]) := by
    intro k e hk
    rcases get k e hk with ⟨c, hk⟩ | ⟨rfl, rfl⟩
    · have := ext.good q.good k e hk
      rw [← pre_take pre c]
      exact this
    · refine ⟨r1, ?_⟩
      show _ <+: (g.grows i x.term (x.log ++ [⟨x.term, v⟩])).L x.term
      rw [L1]
      exact List.take_prefix _ _
  have mo : Mono (x.log ++ [⟨x.term, v⟩]) := by
    intro a b e f hab ha hb
    rcases get b f hb with ⟨c, hb⟩ | ⟨rfl, rfl⟩
    · rcases get a e ha with ⟨_, ha⟩ | ⟨rfl, rfl⟩
      · exact q.mono a b e f hab ha hb
      · omega
    · rcases get a e ha with ⟨_, ha⟩ | ⟨_, rfl⟩
      · exact q.tle e (List.mem_of_getElem? ha)
      · exact Nat.le_refl _
  have tl : ∀ e ∈ x.log ++ [(⟨x.term, v⟩ : Entry)], e.term ≤ x.term := by
    intro e he
    rcases List.mem_append.mp he with he | he
    · exact q.tle e he
    · rw [List.mem_singleton] at he
      subst he
      exact Nat.le_refl _
  refine h.set hx ext ?_ ?_ ?_ (fun T c W hv => .inl hv)
  · refine ⟨h.gi.el_ld, ?_, ?_, ?_, h.gi.el_lt, ?_, h.gi.v_nd, h.gi.v_lt, h.gi.v_most, h.gi.v_vf, ?_, h.gi.w_mono, ?_, ?_, ?_, ?_⟩
    · intro U hU
      exact (h.gi.el_E U hU).trans (ext.L U hU)
    · intro U hU
      by_cases e : U = x.term
      · subst e; rw [L1]; exact gd
      · rw [L2 U e]; exact ext.good (h.gi.el_good U hU)
    · intro U hU
      by_cases e : U = x.term
      · subst e; rw [L1]; exact mo
      · rw [L2 U e]; exact h.gi.el_mono U hU
    · intro U hU
      by_cases e : U = x.term
      · subst e; rw [L1]; exact tl
      · rw [L2 U e]; exact h.gi.el_le U hU
    · intro j U c W hv
      exact ext.good (h.gi.w_good j U c W hv)
    · intro j U hp
      rw [a1] at hp
      split at hp
      · rename_i e
        rw [e.2]; exact r1
      · exact h.gi.ak_el j U hp
    · intro j U hU
      rw [a1]
      split
      · rename_i e
        rw [e.2, L1]; exact Nat.le_refl _
      · exact Nat.le_trans (h.gi.ak_le j U hU) (ext.L U hU).length_le
    · intro U hU
      show (g.grows i x.term (x.log ++ [⟨x.term, v⟩])).ak (g.ld U) U = _
      rw [a1]
      by_cases e : U = x.term
      · subst e
        rw [if_pos ⟨r2, rfl⟩, L1]
      · rw [if_neg (fun q => e q.2), L2 U e]
        exact h.gi.ak_ld U hU
    · intro j U c W hv hr
      refine ext.pv h.gi (fun T' hT => ?_) (h.gi.va j U c W hv hr)
      rw [a1]
      split
      · rename_i e
        obtain ⟨rfl, rfl⟩ := e
        have hv : g.vf j U = some (c, W) := hv
        rw [q.vfn U hT] at hv
        cases hv
      · rfl
  · refine ⟨gd, mo, tl, q.vf0, q.vf1, q.vfn, ?_, ?_, q.led, ?_, ?_, (ext.cm q.sc).up (Nat.le_refl _) fun P hP _ => hP.trans pre⟩
    · intro T hT
      have hT : x.term < T := hT
      rw [a1, if_neg (by omega)]
      exact q.akn T hT
    · intro T' k hk
      by_cases e : T' = x.term
      · subst e
        rw [L1]
        exact .inl (List.take_prefix _ _)
      · rw [a1, if_neg (fun q => e q.2)] at hk
        rw [ext.take h.gi hk]
        rcases q.akl T' k hk with a | ⟨T'', a1, a2, a3, a4⟩
        · exact .inl (a.trans pre)
        · exact .inr ⟨T'', a1, a2, a3, a4⟩
    · intro e
      have e : x.role = 1 := e
      omega
    · intro _
      exact ⟨r1, r2, L1, fun j => Nat.le_trans (r4 j) (ext.akm j _)⟩
  · refine ⟨Nat.le_refl _, fun e => ?_⟩
    have e : x.role = 1 := e
    omega
end Ld
end

section
/-! Entries told, entries had; each step; what is settled is in the log. -/
namespace Ld
open Lead

-- (10) entries
def Gh.acks (g : Gh) (i T k : Nat) : Gh := ⟨g.el, g.ld, g.E, g.L, g.V, g.vf, upd2 g.ak i T (max (g.ak i T) k)⟩
theorem termAt_take {a b : Log} {g : Gh} (ha : Good g a) (hb : Good g b) {k : Nat} (h1 : k ≤ a.length) (h2 : k ≤ b.length) (h : termAt a k = termAt b k) : a.take k = b.take k := by
  by_cases k0 : k = 0
  · subst k0; rfl
  · have e1 : a[k - 1]? = some a[k - 1] := List.getElem?_eq_getElem (by omega)
    have e2 : b[k - 1]? = some b[k - 1] := List.getElem?_eq_getElem (by omega)
    unfold termAt at h
    rw [if_neg k0, if_neg k0, e1, e2] at h
    have := ha.match_ hb e1 e2 h
    rwa [show k - 1 + 1 = k by omega] at this
theorem JI.onEntries {n : Nat} {g : Gh} {nodes : List Node} {net : List Message} (h : JI n g nodes net) {x : Node} {m : Message} (hx : nodes[m.to_]? = some x) (hm : m ∈ net) (hk : m.kind = 2) (ht : m.term ≤ x.term) :
    ∃ g', JI n g' (nodes.set m.to_ (onEntries x m).1) net ∧ ∀ m' ∈ (onEntries x m).2, MI n g' (nodes.set m.to_ (onEntries x m).1) m' := by
  have q := h.ni _ x hx
  have o := h.mi m hm
  have mo : ∀ (g' : Gh) (l : List Node) (t a b : Nat), (a = 1 → b ≤ g'.ak m.to_ t) → MI n g' l ⟨0, 3, m.to_, m.from_, t, a, b, 0, []⟩ := by
    intro g' l t a b ha
    exact ⟨(fun e => by cases e), (fun e => by cases e), (fun e => by cases e), (fun _ => ha)⟩
  unfold Lead.onEntries
  split
  · rw [set_same hx]
    refine ⟨g, h, ?_⟩
    intro m' hm'
    rw [List.mem_singleton] at hm'
    subst hm'
    exact mo _ _ _ _ _ (fun e => by cases e)
  · rename_i hlt
    have ht : m.term = x.term := by omega
    dsimp only
    split
    · refine ⟨g, h.follows hx, ?_⟩
      intro m' hm'
      rw [List.mem_singleton] at hm'
      subst hm'
      exact mo _ _ _ _ _ (fun e => by cases e)
    · rename_i hc
      have c1 : m.a ≤ x.log.length := by
        have : ¬ x.log.length < m.a := fun e => hc (.inl e)
        omega
      have c2 : termAt x.log m.a = m.b := Classical.byContradiction fun e => hc (.inr e)
      obtain ⟨o1, o2, ⟨r, o3⟩, o4, o5⟩ := o.m2 hk
      rw [ht] at o1 o2 o3 o4 o5
      have same := termAt_take q.good (h.gi.el_good _ o1) c1 o2 (c2.trans o4)
      have two := put_two q.good (h.gi.el_good _ o1) o3 same
      have pp : ∀ P, P <+: x.log → P <+: g.L x.term → P <+: put x.log m.a m.entries := fun P h1 h2 => put_pre h1 h2 o3
      have kl : m.a + m.entries.length ≤ (g.L x.term).length := by
        have := congrArg List.length o3
        rw [List.length_drop, List.length_append] at this
        omega
      have up : (g.L x.term).take (m.a + m.entries.length) <+: put x.log m.a m.entries := by
        rcases two with ⟨t1, t2⟩ | t1
        · rw [t1]; exact t2
        · rw [t1]; exact List.prefix_refl _
      let g' := g.acks m.to_ x.term (m.a + m.entries.length)
      have a1 : ∀ j U, g'.ak j U = if j = m.to_ ∧ U = x.term then max (g.ak m.to_ x.term) (m.a + m.entries.length) else g.ak j U := fun _ _ => rfl
      have ext : Ext m.to_ g g' := by
        refine ⟨fun _ h => h, fun _ h => .inl h, fun _ _ => rfl, fun _ _ => rfl, fun _ _ => rfl, fun _ _ => List.prefix_refl _, fun _ _ _ => rfl, ?_, ?_, fun _ _ _ => rfl, fun _ _ h => h⟩
        · intro j U hj
          rw [a1, if_neg (fun q => hj q.1)]
        · intro U
          rw [a1]
          split
          · rename_i e
            rw [e.2]; omega
          · exact Nat.le_refl _
      have gd : Good g (put x.log m.a m.entries) := by
        rcases two with ⟨t1, _⟩ | t1
        · rw [t1]; exact q.good
        · rw [t1]; exact (h.gi.el_good _ o1).pre (List.take_prefix _ _)
      have mn : Mono (put x.log m.a m.entries) := by
        rcases two with ⟨t1, _⟩ | t1
        · rw [t1]; exact q.mono
        · rw [t1]; exact (h.gi.el_mono _ o1).pre (List.take_prefix _ _)
      have tl : ∀ e ∈ put x.log m.a m.entries, e.term ≤ x.term := by
        rcases two with ⟨t1, _⟩ | t1
        · rw [t1]; exact q.tle
        · rw [t1]; exact fun e he => h.gi.el_le _ o1 e (pre_mem (List.take_prefix _ _) he)
      have aklN : Akl g m.to_ x.term (put x.log m.a m.entries) := by
        intro T' k hk
        rcases q.akl T' k hk with a | a
        · by_cases e : T' = x.term
          · subst e
            exact .inl (pp _ a (List.take_prefix _ _))
          · by_cases k0 : k = 0
            · subst k0
              exact .inl List.nil_prefix
            · have lt : T' < x.term := by
                by_cases b : x.term < T'
                · have := q.akn T' b
                  omega
                · omega
              by_cases b : (g.L T').take k <+: g.E x.term
              · exact .inl (pp _ a (b.trans (h.gi.el_E _ o1)))
              · exact .inr ⟨x.term, lt, Nat.le_refl _, o1, b⟩
        · exact .inr a
      have scN : Cm n g x.term x.settled (put x.log m.a m.entries) := by
        refine q.sc.up (Nat.le_refl _) fun P hP ⟨T, hT, k, hc, hp⟩ => pp P hP ?_
        by_cases e : T = x.term
        · subst e
          exact hp.trans (List.take_prefix _ _)
        · exact hp.trans ((h.gi.lc hc x.term (by omega) o1).trans (h.gi.el_E _ o1))
      have scM : Cm n g x.term (min m.c (m.a + m.entries.length)) (put x.log m.a m.entries) := by
        rcases o5 with e | ⟨T, k, h1, h2, h3, h4⟩
        · exact .inl (by omega)
        · refine .inr ⟨T, k, h1, h2, by omega, ?_⟩
          have hl := h2.len
          have a : (g.L T).take (min m.c (m.a + m.entries.length)) <+: g.L x.term := (List.take_prefix_take_left (by omega)).trans h4
          refine (List.prefix_of_prefix_length_le a (List.take_prefix (m.a + m.entries.length) _) ?_).trans up
          rw [List.length_take, List.length_take]
          omega
      have scX : Cm n g x.term (max x.settled (min m.c (m.a + m.entries.length))) (put x.log m.a m.entries) := by
        by_cases e : x.settled ≤ min m.c (m.a + m.entries.length)
        · rw [Nat.max_eq_right e]; exact scM
        · rw [Nat.max_eq_left (by omega)]; exact scN
      refine ⟨g', h.set hx ext ?_ ?_ ?_ (fun T c W hv => .inl hv), ?_⟩
      · refine ⟨h.gi.el_ld, h.gi.el_E, h.gi.el_good, h.gi.el_mono, h.gi.el_lt, h.gi.el_le, h.gi.v_nd, h.gi.v_lt, h.gi.v_most, h.gi.v_vf, h.gi.w_good, h.gi.w_mono, ?_, ?_, ?_, ?_⟩
        · intro j U hp
          rw [a1] at hp
          split at hp
          · rename_i e
            rw [e.2]; exact o1
          · exact h.gi.ak_el j U hp
        · intro j U hU
          rw [a1]
          split
          · rename_i e
            rw [e.2]
            have := h.gi.ak_le m.to_ x.term o1
            show _ ≤ (g.L x.term).length
            omega
          · exact h.gi.ak_le j U hU
        · intro U hU
          show g'.ak (g.ld U) U = _
          rw [a1]
          split
          · rename_i e
            have := h.gi.ak_ld U hU
            rw [e.1, e.2] at this
            rw [e.2]
            show _ = (g.L x.term).length
            omega
          · exact h.gi.ak_ld U hU
        · intro j U c W hv hr
          refine ext.pv h.gi (fun T' hT => ?_) (h.gi.va j U c W hv hr)
          rw [a1]
          split
          · rename_i e
            have hv : g.vf j U = some (c, W) := hv
            rw [e.1, q.vfn U (by omega)] at hv
            cases hv
          · rfl
      · refine ⟨gd, mn, tl, q.vf0, q.vf1, q.vfn, ?_, ?_, ?_, ?_, ?_, ext.cm scX⟩
        · intro T hT
          have hT : x.term < T := hT
          rw [a1, if_neg (by omega)]
          exact q.akn T hT
        · intro T' k hk
          by_cases c : k ≤ g.ak m.to_ T'
          · exact aklN T' k c
          · rw [a1] at hk
            split at hk
            · rename_i e
              rw [e.2]
              refine .inl (List.IsPrefix.trans ?_ up)
              rw [e.2] at c
              exact List.take_prefix_take_left (by omega)
            · exact absurd hk c
        · intro T hT hl
          rcases q.led T hT hl with a | a
          · exact .inl a
          · exact .inr ⟨a.1, fun e => by cases e⟩
        · intro e; cases e
        · intro e; cases e
      · exact ⟨Nat.le_refl _, fun e => by cases e⟩
      · intro m' hm'
        rw [List.mem_singleton] at hm'
        subst hm'
        refine mo _ _ _ _ _ (fun _ => ?_)
        show _ ≤ g'.ak m.to_ x.term
        rw [a1, if_pos ⟨rfl, rfl⟩]
        omega

-- (11) entries had
theorem zip_nodup : ∀ (l : List Nat) (k : Nat), ((l.zipIdx k).map Prod.snd).Nodup ∧ ∀ p ∈ l.zipIdx k, k ≤ p.2 ∧ p.2 < k + l.length ∧ l.getD (p.2 - k) 0 = p.1
  | [], k => ⟨List.nodup_nil, fun p hp => by cases hp⟩
  | a :: l, k => by
    obtain ⟨h1, h2⟩ := zip_nodup l (k + 1)
    rw [List.zipIdx_cons]
    refine ⟨?_, ?_⟩
    · rw [List.map_cons]
      refine List.nodup_cons.mpr ⟨fun q => ?_, h1⟩
      obtain ⟨p, hp, e⟩ := List.mem_map.mp q
      have := (h2 p hp).1
      have e : p.2 = k := e
      omega
    · intro p hp
      rcases List.mem_cons.mp hp with e | hp
      · subst e
        refine ⟨Nat.le_refl _, ?_, ?_⟩
        · rw [List.length_cons]
          show k < _
          omega
        · show (a :: l).getD (k - k) 0 = a
          rw [Nat.sub_self]; rfl
      · obtain ⟨b1, b2, b3⟩ := h2 p hp
        rw [List.length_cons]
        refine ⟨by omega, by omega, ?_⟩
        rw [show p.2 - k = (p.2 - (k + 1)) + 1 by omega, List.getD_cons_succ]
        exact b3
theorem fold_or (p : Nat → Nat → Prop) [∀ s k, Decidable (p s k)] : ∀ (l : List Nat) (s : Nat), l.foldl (fun s k => if p s k then k else s) s = s ∨ ∃ s', ∃ k ∈ l, p s' k ∧ l.foldl (fun s k => if p s k then k else s) s = k
  | [], s => .inl rfl
  | k :: l, s => by
    rw [List.foldl_cons]
    by_cases c : p s k
    · rw [if_pos c]
      rcases fold_or p l k with h | ⟨s', k', h1, h2, h3⟩
      · exact .inr ⟨s, k, List.mem_cons_self, c, h⟩
      · exact .inr ⟨s', k', List.mem_cons_of_mem _ h1, h2, h3⟩
    · rw [if_neg c]
      rcases fold_or p l s with h | ⟨s', k', h1, h2, h3⟩
      · exact .inl h
      · exact .inr ⟨s', k', List.mem_cons_of_mem _ h1, h2, h3⟩
theorem getD_set (l : List Nat) (i j a : Nat) : (l.set i a).getD j 0 = l.getD j 0 ∨ (j = i ∧ (l.set i a).getD j 0 = a) := by
  rw [List.getD_eq_getElem?_getD, List.getD_eq_getElem?_getD, List.getElem?_set]
  by_cases e : i = j
  · subst e
    rw [if_pos rfl]
    by_cases c : i < l.length
    · rw [if_pos c]
      exact .inr ⟨rfl, rfl⟩
    · rw [if_neg c]
      rw [List.getElem?_eq_none (by omega)]
      exact .inl rfl
  · rw [if_neg e]
    exact .inl rfl
theorem NI.knows {n : Nat} {g : Gh} {i : Nat} {x : Node} (q : NI n g i x) {j a b : Nat} (hb : x.role = 2 → b ≤ g.ak j x.term) : NI n g i (x.knows j a b) := by
  refine ⟨q.good, q.mono, q.tle, q.vf0, q.vf1, q.vfn, q.akn, q.akl, q.led, q.r1, ?_, q.sc⟩
  intro r
  obtain ⟨r1, r2, r3, r4⟩ := q.r2 r
  refine ⟨r1, r2, r3, fun k => ?_⟩
  rcases getD_set x.same j k b with e | ⟨e1, e2⟩
  · show (x.same.set j b).getD k 0 ≤ _
    rw [e]; exact r4 k
  · show (x.same.set j b).getD k 0 ≤ _
    rw [e2, e1]; exact hb r
theorem NI.settles {n : Nat} {g : Gh} {i : Nat} {x : Node} (gi : GI n g) (q : NI n g i x) (hr : x.role = 2) (hs : x.same.length = n) : NI n g i (x.settles i) := by
  refine ⟨q.good, q.mono, q.tle, q.vf0, q.vf1, q.vfn, q.akn, q.akl, q.led, q.r1, q.r2, ?_⟩
  obtain ⟨r1, r2, r3, r4⟩ := q.r2 hr
  rcases fold_or (fun s k => s < k ∧ most x.same.length (have_ x i k) = true ∧ termAt x.log k = x.term) ((List.range x.log.length).map fun (k : Nat) => k + 1) x.settled with e | ⟨s', k, hk, ⟨_, p2, p3⟩, e⟩
  · show Cm n g x.term (List.foldl _ x.settled _) x.log
    rw [e]; exact q.sc
  · show Cm n g x.term (List.foldl _ x.settled _) x.log
    rw [e]
    obtain ⟨k', hk', rfl⟩ := List.mem_map.mp hk
    have hk' := List.mem_range.mp hk'
    refine .inr ⟨x.term, k' + 1, Nat.le_refl _, ⟨r1, by omega, ?_, ?_⟩, Nat.le_refl _, by rw [r3]; exact List.take_prefix _ _⟩
    · rw [r3]
      refine ⟨x.log[k'], List.getElem?_eq_getElem hk', ?_⟩
      unfold termAt at p3
      rw [if_neg (by omega), show k' + 1 - 1 = k' by omega, List.getElem?_eq_getElem hk'] at p3
      exact p3
    · obtain ⟨z1, z2⟩ := zip_nodup x.same 0
      refine ⟨(x.same.zipIdx.filter fun (s : Nat × Nat) => s.2 == i || decide (k' + 1 ≤ s.1)).map Prod.snd, ?_, ?_, ?_⟩
      · exact List.Nodup.sublist (List.filter_sublist.map _) z1
      · intro j hj
        obtain ⟨p, hp, rfl⟩ := List.mem_map.mp hj
        obtain ⟨hp1, hp2⟩ := List.mem_filter.mp hp
        obtain ⟨b1, b2, b3⟩ := z2 p hp1
        refine ⟨by omega, ?_⟩
        rw [Bool.or_eq_true] at hp2
        rcases hp2 with hp2 | hp2
        · have e : p.2 = i := eq_of_beq hp2
          have := gi.ak_ld _ r1
          rw [r2, r3] at this
          rw [e, this]
          omega
        · have a := of_decide_eq_true hp2
          have c := r4 p.2
          rw [Nat.sub_zero] at b3
          rw [b3] at c
          omega
      · rw [List.length_map]
        have := of_decide_eq_true p2
        rw [hs] at this
        exact this
theorem JI.onHad {n : Nat} {g : Gh} {nodes : List Node} {net : List Message} (h : JI n g nodes net) {x : Node} {m : Message} (hx : nodes[m.to_]? = some x) (hm : m ∈ net) (hk : m.kind = 3) (hs : x.same.length = n) :
    JI n g (nodes.set m.to_ (onHad x m).1) net := by
  have q := h.ni _ x hx
  have o := h.mi m hm
  unfold Lead.onHad
  split
  · rename_i hc
    split
    · rename_i ha
      refine h.plain hx ?_ ?_
      · refine NI.settles h.gi (q.knows fun r => ?_) hc.1 (by show (x.same.set _ _).length = n; rw [List.length_set]; exact hs)
        have a := o.m3 hk ha
        have b := (q.r2 r).2.2.2 m.from_
        rw [← hc.2] at a
        omega
      · refine ⟨Nat.le_refl _, fun e => ?_⟩
        have e : x.role = 1 := e
        omega
    · refine h.plain hx (q.knows fun r => (q.r2 r).2.2.2 m.from_) ?_
      refine ⟨Nat.le_refl _, fun e => ?_⟩
      have e : x.role = 1 := e
      omega
  · rw [set_same hx]
    exact h

-- (12) each step
def Safe (s : State) : Prop := ∃ g, JI s.nodes.length g s.nodes s.net
theorem Safe.start : Safe Lead.start := by
  refine ⟨⟨fun _ => False, fun _ => 0, fun _ => [], fun _ => [], fun _ => [], fun _ _ => none, fun _ _ => 0⟩, ?_, rfl, ?_, ?_, ?_, ?_⟩
  · constructor <;> intros <;> first | contradiction | (rename_i a; cases a) | skip
    all_goals (rename_i a b; first | cases a | cases b | (exfalso; omega))
  · intro i x hx; cases hx
  · intro c x j W hx; cases hx
  · intro j T c W x hv; cases hv
  · intro m hm; cases hm
end Ld
end

section
/-! Each step keeps it. -/
namespace Ld
open Lead

theorem JI.begin_ (n : Nat) : ∃ g, JI n g (List.replicate n (fresh n)) [] := by
  refine ⟨⟨fun _ => False, fun _ => 0, fun _ => [], fun _ => [], fun _ => [], fun _ _ => none, fun _ _ => 0⟩, ?_, List.length_replicate, ?_, ?_, ?_, ?_⟩
  · constructor <;> intros <;> first | contradiction | (rename_i a; cases a) | skip
    all_goals (rename_i a b; first | cases a | cases b | (exfalso; omega))
  · intro i x hx
    have e : x = fresh n := (List.mem_replicate.mp (List.mem_of_getElem? hx)).2
    subst e
    refine ⟨?_, ?_, ?_, ?_, ?_, ?_, ?_, ?_, ?_, ?_, ?_, .inl rfl⟩
    · intro k e he; cases he
    · intro k j e f _ he; cases he
    · intro e he; cases he
    · intro _; rfl
    · intro e; exact absurd rfl e
    · intro _ _; rfl
    · intro _ _; rfl
    · intro T' k hk
      have hk : k ≤ 0 := hk
      have e : k = 0 := by omega
      subst e
      exact .inl List.nil_prefix
    · intro T hT; cases hT
    · intro e; cases e
    · intro e; cases e
  · intro c x j W _ _ hv; cases hv
  · intro j T c W x hv; cases hv
  · intro m hm; cases hm
theorem JI.onMessage {n : Nat} {g : Gh} {nodes : List Node} {net : List Message} (h : JI n g nodes net) {x : Node} {m : Message} (hx : nodes[m.to_]? = some x) (hm : m ∈ net) (hs : x.same.length = n) (h3 : m.kind ≤ 3) :
    ∃ g', JI n g' (nodes.set m.to_ (onMessage n x m).1) net ∧ ∀ m' ∈ (onMessage n x m).2, MI n g' (nodes.set m.to_ (onMessage n x m).1) m' := by
  have j := h.heard hx m.term
  have hx' := set_get (x.heard m.term) hx
  have ss : ∀ z, (nodes.set m.to_ (x.heard m.term)).set m.to_ z = nodes.set m.to_ z := fun z => List.set_set _
  have hsl : (x.heard m.term).same.length = n := by
    unfold Node.heard
    split <;> exact hs
  have htm : m.term ≤ (x.heard m.term).term := by
    unfold Node.heard
    split
    · exact Nat.le_refl _
    · omega
  unfold Lead.onMessage
  dsimp only
  split
  · rename_i k
    have := j.onVote hx' hm k
    simp only [ss] at this
    exact this
  split
  · rename_i k
    obtain ⟨g', this⟩ := j.onVoted hx' hm k
    rw [ss] at this
    refine ⟨g', this, ?_⟩
    intro m' hm'
    unfold Lead.onVoted at hm'
    split at hm' <;> cases hm'
  split
  · rename_i k
    have := j.onEntries hx' hm k htm
    simp only [ss] at this
    exact this
  · have := j.onHad hx' hm (by omega) hsl
    rw [ss] at this
    refine ⟨g, this, ?_⟩
    intro m' hm'
    unfold Lead.onHad at hm'
    split at hm'
    · split at hm' <;> cases hm'
    · cases hm'
theorem JI.after {s : State} {g : Gh} {i : Nat} {y : Node} {l : List Message} {net : List Message} (h : JI s.nodes.length g (s.nodes.set i y) net) (sub : ∀ m ∈ s.net, m ∈ net) (hl : ∀ m ∈ l, MI s.nodes.length g (s.nodes.set i y) m) : Safe (s.after i y l) := by
  refine ⟨g, ?_⟩
  show JI (s.nodes.set i y).length g (s.nodes.set i y) (s.net ++ numbered s.next l)
  rw [List.length_set]
  refine h.net fun m hm => ?_
  rcases List.mem_append.mp hm with hm | hm
  · exact h.mi m (sub m hm)
  · obtain ⟨m', h1, h2, _, _⟩ := mem_numbered hm
    exact (hl m' h1).alike h2
theorem Safe.step {s : State} (h : Safe s) (ok : Ok s) (c : Call) : Safe (step s c).1 := by
  obtain ⟨g, h⟩ := h
  cases c with
  | begin_ n =>
    unfold Lead.step
    dsimp only
    split
    · exact ⟨g, h⟩
    · obtain ⟨g', h'⟩ := JI.begin_ n
      refine ⟨g', ?_⟩
      show JI (List.replicate n (fresh n)).length g' (List.replicate n (fresh n)) []
      rw [List.length_replicate]
      exact h'
  | stand i =>
    unfold Lead.step
    dsimp only
    split
    · exact ⟨g, h⟩
    · rename_i x hx
      split
      · exact ⟨g, h⟩
      split
      · exact ⟨g, h⟩
      · obtain ⟨hi, _⟩ := List.getElem?_eq_some_iff.mp hx
        obtain ⟨g', h'⟩ := h.stand hx hi
        refine h'.after (fun _ q => q) fun m hm => ?_
        obtain ⟨j, hj, rfl⟩ := List.mem_map.mp hm
        refine ⟨fun _ z hz => ?_, (fun e => by cases e), (fun e => by cases e), (fun e => by cases e)⟩
        have hz : (s.nodes.set i (x.stands i))[i]? = some z := hz
        rw [set_get _ hx] at hz
        cases hz
        exact ⟨Nat.le_refl _, fun _ _ => ⟨rfl, rfl⟩⟩
  | propose i v =>
    unfold Lead.step
    dsimp only
    split
    · exact ⟨g, h⟩
    · rename_i x hx
      split
      · exact ⟨g, h⟩
      split
      · exact ⟨g, h⟩
      split
      · exact ⟨g, h⟩
      · rename_i hr _
        obtain ⟨g', h'⟩ := h.propose hx (by omega) v
        exact h'.after (fun _ q => q) fun m hm => by cases hm
  | beat i =>
    unfold Lead.step
    dsimp only
    split
    · exact ⟨g, h⟩
    · rename_i x hx
      split
      · exact ⟨g, h⟩
      split
      · exact ⟨g, h⟩
      · rename_i hr _
        have hr : x.role = 2 := by omega
        obtain ⟨r1, r2, r3, r4⟩ := (h.ni i x hx).r2 hr
        have no := ok.nd x (List.mem_of_getElem? hx)
        have h' : JI s.nodes.length g (s.nodes.set i x) s.net := by rw [set_same hx]; exact h
        refine h'.after (fun _ q => q) fun m hm => ?_
        obtain ⟨j, hj, rfl⟩ := List.mem_map.mp hm
        refine ⟨(fun e => by cases e), (fun e => by cases e), (fun _ => ?_), (fun e => by cases e)⟩
        show g.el x.term ∧ x.next.getD j 1 - 1 ≤ (g.L x.term).length ∧ (∃ r, (g.L x.term).drop (x.next.getD j 1 - 1) = (x.log.drop (x.next.getD j 1 - 1)).take SOME ++ r) ∧ termAt x.log (x.next.getD j 1 - 1) = termAt (g.L x.term) (x.next.getD j 1 - 1) ∧ Cm s.nodes.length g x.term x.settled (g.L x.term)
        rw [r3]
        have hb : x.next.getD j 1 ≤ x.log.length + 1 := by
          rw [List.getD_eq_getElem?_getD]
          cases e : x.next[j]? with
          | none => exact Nat.succ_le_succ (Nat.zero_le _)
          | some v => exact no.ln hr v (List.mem_of_getElem? e)
        exact ⟨r1, by omega, ⟨_, (List.take_append_drop SOME _).symm⟩, rfl, (h.ni i x hx).sc⟩
  | deliver m =>
    unfold Lead.step
    dsimp only
    split
    · exact ⟨g, h⟩
    · rename_i x hx
      split
      · exact ⟨g, h⟩
      · rename_i y hy
        obtain ⟨hm, _⟩ := ok.find hx
        obtain ⟨g', h', hl⟩ := h.onMessage hy hm (ok.nd y (List.mem_of_getElem? hy)).sl (ok.ms x hm).kd
        exact JI.after (s := s.without m) h' (fun z hz => (List.mem_filter.mp hz).1) hl
  | lose m =>
    unfold Lead.step
    dsimp only
    split
    · exact ⟨g, h⟩
    · exact ⟨g, h.net fun z hz => h.mi z (List.mem_filter.mp hz).1⟩
  | copy m =>
    unfold Lead.step
    dsimp only
    split
    · exact ⟨g, h⟩
    · rename_i x hx
      split
      · exact ⟨g, h⟩
      · refine ⟨g, h.net fun z hz => ?_⟩
        rcases List.mem_append.mp hz with hz | hz
        · exact h.mi z hz
        · obtain ⟨m', h1, h2, _, _⟩ := mem_numbered hz
          rw [List.mem_singleton] at h1
          subst h1
          exact (h.mi _ (ok.find hx).1).alike h2
  | crash i =>
    unfold Lead.step
    dsimp only
    split
    · exact ⟨g, h⟩
    · rename_i x hx
      exact (h.crashed hx).after (fun _ q => q) fun m hm => by cases hm
  | look i => exact ⟨g, h⟩
  | log i => exact ⟨g, h⟩
  | settled i => exact ⟨g, h⟩
  | net => exact ⟨g, h⟩
  | message m => exact ⟨g, h⟩
theorem Safe.le {s : State} (h : Safe s) {x : Node} (hx : x ∈ s.nodes) : x.settled ≤ x.log.length := by
  obtain ⟨g, h⟩ := h
  obtain ⟨i, hi, e⟩ := List.mem_iff_getElem.mp hx
  exact (h.ni i x (by rw [List.getElem?_eq_getElem hi, e])).sc.len
end Ld
end

section
/-! A line of whole numbers as calls of the specification; what is answered. -/
namespace Ld
open Lead
def flat : Call → List Int
  | .begin_ n => [0, n]
  | .stand i => [1, i]
  | .propose i v => [2, i, v]
  | .beat i => [3, i]
  | .deliver m => [4, m]
  | .lose m => [5, m]
  | .copy m => [6, m]
  | .crash i => [7, i]
  | .look i => [8, i]
  | .log i => [9, i]
  | .settled i => [10, i]
  | .net => [11]
  | .message m => [12, m]
def out : State → List Call → List Int
  | _, [] => []
  | s, c :: r => ((LeadNeutral.shown (step s c).2).length : Int) :: LeadNeutral.shown (step s c).2 ++ out (step s c).1 r
def big (c : Call) : Prop := ∀ z ∈ flat c, 0 ≤ z ∧ z < 2 ^ 63
theorem one_call {p : Int} {r t : List Int} {c : List (List Int)} (h : PyFlat.call PyWrlead.shape (p :: r) = some (c, t)) (ha : LeadNeutral.asked1 (PyWrlead.whole c) = true) :
    ∃ k : Call, p :: r = flat k ++ t ∧ LeadNeutral.callOf (PyWrlead.whole c) = some k ∧ big k := by
  have one : ∀ {q : Int} {n : Nat}, PyWrlead.shape q = some (n, 0) → PyFlat.call PyWrlead.shape (q :: r) = some (c, t) → n ≤ r.length ∧ c = [q :: r.take n] ∧ t = r.drop n := by
    intro q n hs hc
    unfold PyFlat.call at hc
    dsimp only at hc
    rw [hs] at hc
    dsimp only at hc
    split at hc
    · cases hc
    · rename_i hl
      have e : PyFlat.rows 0 (r.drop n) = some ([], r.drop n) := rfl
      rw [e] at hc
      simp only [Option.some.injEq, Prod.mk.injEq] at hc
      exact ⟨by omega, hc.1.symm, hc.2.symm⟩
  have two : ∀ {q : Int}, PyWrlead.shape q = some (1, 0) → PyFlat.call PyWrlead.shape (q :: r) = some (c, t) → ∃ x, c = [[q, x]] ∧ r = x :: t := by
    intro q hs hc
    obtain ⟨h1, h2, h3⟩ := one hs hc
    cases r with
    | nil => simp at h1
    | cons x r =>
      refine ⟨x, ?_, ?_⟩
      · rw [h2]; simp
      · rw [h3]; simp
  have nat : ∀ {x : Int}, LeadNeutral.natural x 63 = true → 0 ≤ x ∧ x < 2 ^ 63 := by
    intro x hx
    unfold LeadNeutral.natural at hx
    rw [Bool.and_eq_true] at hx
    exact ⟨of_decide_eq_true hx.1, of_decide_eq_true hx.2⟩
  have wh : ∀ {x : Int}, 0 ≤ x → LeadNeutral.whole [x] = true := by
    intro x hx
    unfold LeadNeutral.whole
    simp [hx]
  have bg : ∀ {q x : Int}, 0 ≤ q → q < 13 → 0 ≤ x ∧ x < 2 ^ 63 → ∀ z ∈ [q, x], 0 ≤ z ∧ z < 2 ^ 63 := by
    intro q x h1 h2 h3 z hz
    simp only [List.mem_cons, List.not_mem_nil, or_false] at hz
    rcases hz with rfl | rfl
    · exact ⟨h1, by omega⟩
    · exact h3
  by_cases h0 : p = 0
  · subst h0
    obtain ⟨x, rfl, rfl⟩ := two rfl h
    have hx := nat ha
    refine ⟨.begin_ x.toNat, ?_, ?_, ?_⟩
    · show _ = [(0 : Int), (x.toNat : Int)] ++ t
      rw [Int.toNat_of_nonneg hx.1]; rfl
    · show (if LeadNeutral.whole [x] = true then _ else _) = _
      rw [if_pos (wh hx.1)]
    · show ∀ z ∈ [(0 : Int), (x.toNat : Int)], _
      rw [Int.toNat_of_nonneg hx.1]; exact bg (by omega) (by omega) hx
  by_cases h1 : p = 1
  · subst h1
    obtain ⟨x, rfl, rfl⟩ := two rfl h
    have hx := nat ha
    refine ⟨.stand x.toNat, ?_, ?_, ?_⟩
    · show _ = [(1 : Int), (x.toNat : Int)] ++ t
      rw [Int.toNat_of_nonneg hx.1]; rfl
    · show (if LeadNeutral.whole [x] = true then _ else _) = _
      rw [if_pos (wh hx.1)]
    · show ∀ z ∈ [(1 : Int), (x.toNat : Int)], _
      rw [Int.toNat_of_nonneg hx.1]; exact bg (by omega) (by omega) hx
  by_cases h2 : p = 2
  · subst h2
    obtain ⟨q1, q2, q3⟩ := one (n := 2) rfl h
    match r, q1, q2, q3 with
    | [], q1, _, _ => simp at q1
    | [x], q1, _, _ => simp at q1
    | x :: y :: r, _, q2, q3 =>
      have q3 : t = r := by rw [q3]; rfl
      subst q3
      subst q2
      have ha : (LeadNeutral.natural x 63 && LeadNeutral.natural y 63) = true := ha
      rw [Bool.and_eq_true] at ha
      have hx := nat ha.1
      have hy := nat ha.2
      refine ⟨.propose x.toNat y.toNat, ?_, ?_, ?_⟩
      · show _ = [(2 : Int), (x.toNat : Int), (y.toNat : Int)] ++ t
        rw [Int.toNat_of_nonneg hx.1, Int.toNat_of_nonneg hy.1]; rfl
      · show (if LeadNeutral.whole [x, y] = true then _ else _) = _
        rw [if_pos (by unfold LeadNeutral.whole; simp [hx.1, hy.1])]
      · show ∀ z ∈ [(2 : Int), (x.toNat : Int), (y.toNat : Int)], _
        rw [Int.toNat_of_nonneg hx.1, Int.toNat_of_nonneg hy.1]
        intro z hz
        simp only [List.mem_cons, List.not_mem_nil, or_false] at hz
        rcases hz with rfl | rfl | rfl
        · exact ⟨by omega, by omega⟩
        · exact hx
        · exact hy
  by_cases h3 : p = 3
  · subst h3
    obtain ⟨x, rfl, rfl⟩ := two rfl h
    have hx := nat ha
    refine ⟨.beat x.toNat, ?_, ?_, ?_⟩
    · show _ = [(3 : Int), (x.toNat : Int)] ++ t
      rw [Int.toNat_of_nonneg hx.1]; rfl
    · show (if LeadNeutral.whole [x] = true then _ else _) = _
      rw [if_pos (wh hx.1)]
    · show ∀ z ∈ [(3 : Int), (x.toNat : Int)], _
      rw [Int.toNat_of_nonneg hx.1]; exact bg (by omega) (by omega) hx
  by_cases h4 : p = 4
  · subst h4
    obtain ⟨x, rfl, rfl⟩ := two rfl h
    have hx := nat ha
    refine ⟨.deliver x.toNat, ?_, ?_, ?_⟩
    · show _ = [(4 : Int), (x.toNat : Int)] ++ t
      rw [Int.toNat_of_nonneg hx.1]; rfl
    · show (if LeadNeutral.whole [x] = true then _ else _) = _
      rw [if_pos (wh hx.1)]
    · show ∀ z ∈ [(4 : Int), (x.toNat : Int)], _
      rw [Int.toNat_of_nonneg hx.1]; exact bg (by omega) (by omega) hx
  by_cases h5 : p = 5
  · subst h5
    obtain ⟨x, rfl, rfl⟩ := two rfl h
    have hx := nat ha
    refine ⟨.lose x.toNat, ?_, ?_, ?_⟩
    · show _ = [(5 : Int), (x.toNat : Int)] ++ t
      rw [Int.toNat_of_nonneg hx.1]; rfl
    · show (if LeadNeutral.whole [x] = true then _ else _) = _
      rw [if_pos (wh hx.1)]
    · show ∀ z ∈ [(5 : Int), (x.toNat : Int)], _
      rw [Int.toNat_of_nonneg hx.1]; exact bg (by omega) (by omega) hx
  by_cases h6 : p = 6
  · subst h6
    obtain ⟨x, rfl, rfl⟩ := two rfl h
    have hx := nat ha
    refine ⟨.copy x.toNat, ?_, ?_, ?_⟩
    · show _ = [(6 : Int), (x.toNat : Int)] ++ t
      rw [Int.toNat_of_nonneg hx.1]; rfl
    · show (if LeadNeutral.whole [x] = true then _ else _) = _
      rw [if_pos (wh hx.1)]
    · show ∀ z ∈ [(6 : Int), (x.toNat : Int)], _
      rw [Int.toNat_of_nonneg hx.1]; exact bg (by omega) (by omega) hx
  by_cases h7 : p = 7
  · subst h7
    obtain ⟨x, rfl, rfl⟩ := two rfl h
    have hx := nat ha
    refine ⟨.crash x.toNat, ?_, ?_, ?_⟩
    · show _ = [(7 : Int), (x.toNat : Int)] ++ t
      rw [Int.toNat_of_nonneg hx.1]; rfl
    · show (if LeadNeutral.whole [x] = true then _ else _) = _
      rw [if_pos (wh hx.1)]
    · show ∀ z ∈ [(7 : Int), (x.toNat : Int)], _
      rw [Int.toNat_of_nonneg hx.1]; exact bg (by omega) (by omega) hx
  by_cases h8 : p = 8
  · subst h8
    obtain ⟨x, rfl, rfl⟩ := two rfl h
    have hx := nat ha
    refine ⟨.look x.toNat, ?_, ?_, ?_⟩
    · show _ = [(8 : Int), (x.toNat : Int)] ++ t
      rw [Int.toNat_of_nonneg hx.1]; rfl
    · show (if LeadNeutral.whole [x] = true then _ else _) = _
      rw [if_pos (wh hx.1)]
    · show ∀ z ∈ [(8 : Int), (x.toNat : Int)], _
      rw [Int.toNat_of_nonneg hx.1]; exact bg (by omega) (by omega) hx
  by_cases h9 : p = 9
  · subst h9
    obtain ⟨x, rfl, rfl⟩ := two rfl h
    have hx := nat ha
    refine ⟨.log x.toNat, ?_, ?_, ?_⟩
    · show _ = [(9 : Int), (x.toNat : Int)] ++ t
      rw [Int.toNat_of_nonneg hx.1]; rfl
    · show (if LeadNeutral.whole [x] = true then _ else _) = _
      rw [if_pos (wh hx.1)]
    · show ∀ z ∈ [(9 : Int), (x.toNat : Int)], _
      rw [Int.toNat_of_nonneg hx.1]; exact bg (by omega) (by omega) hx
  by_cases h10 : p = 10
  · subst h10
    obtain ⟨x, rfl, rfl⟩ := two rfl h
    have hx := nat ha
    refine ⟨.settled x.toNat, ?_, ?_, ?_⟩
    · show _ = [(10 : Int), (x.toNat : Int)] ++ t
      rw [Int.toNat_of_nonneg hx.1]; rfl
    · show (if LeadNeutral.whole [x] = true then _ else _) = _
      rw [if_pos (wh hx.1)]
    · show ∀ z ∈ [(10 : Int), (x.toNat : Int)], _
      rw [Int.toNat_of_nonneg hx.1]; exact bg (by omega) (by omega) hx
  by_cases h11 : p = 11
  · subst h11
    obtain ⟨_, q2, q3⟩ := one (n := 0) rfl h
    refine ⟨.net, ?_, ?_, ?_⟩
    · rw [q3]; rfl
    · rw [q2]; rfl
    · intro z hz
      have hz : z ∈ [(11 : Int)] := hz
      rw [List.mem_singleton] at hz
      subst hz
      exact ⟨by omega, by omega⟩
  by_cases h12 : p = 12
  · subst h12
    obtain ⟨x, rfl, rfl⟩ := two rfl h
    have hx := nat ha
    refine ⟨.message x.toNat, ?_, ?_, ?_⟩
    · show _ = [(12 : Int), (x.toNat : Int)] ++ t
      rw [Int.toNat_of_nonneg hx.1]; rfl
    · show (if LeadNeutral.whole [x] = true then _ else _) = _
      rw [if_pos (wh hx.1)]
    · show ∀ z ∈ [(12 : Int), (x.toNat : Int)], _
      rw [Int.toNat_of_nonneg hx.1]; exact bg (by omega) (by omega) hx
  · unfold PyFlat.call at h
    dsimp only at h
    have e : PyWrlead.shape p = none := by
      unfold PyWrlead.shape
      rw [if_neg h0, if_neg h1, if_neg h2, if_neg h3, if_neg h4, if_neg h5, if_neg h6, if_neg h7, if_neg h8, if_neg h9, if_neg h10, if_neg h11, if_neg h12]
    rw [e] at h
    cases h
theorem all_calls : ∀ (f : Nat) (l : List Int) (cs : List (List (List Int))) (s : State), PyFlat.calls PyWrlead.shape f l = some cs → (cs.map PyWrlead.whole).all LeadNeutral.asked1 = true →
    ∃ ks : List Call, l = ks.flatMap flat ∧ ks.length = cs.length ∧ (∀ k ∈ ks, big k) ∧ PyFlat.told (PyFlat.played LeadNeutral.step s (cs.map PyWrlead.whole)) = out s ks
  | f, [], cs, s, h, _ => by
    have e : cs = [] := by
      cases f <;> (unfold PyFlat.calls at h; exact (Option.some.inj h).symm)
    subst e
    exact ⟨[], rfl, rfl, (fun k hk => by cases hk), rfl⟩
  | 0, p :: r, cs, s, h, _ => by
    unfold PyFlat.calls at h
    cases h
  | f + 1, p :: r, cs, s, h, ha => by
    unfold PyFlat.calls at h
    split at h
    · cases h
    · rename_i c t hc
      split at h
      · cases h
      · rename_i cs' hcs
        cases h
        rw [List.map_cons, List.all_cons, Bool.and_eq_true] at ha
        obtain ⟨k, k1, k2, k3⟩ := one_call hc ha.1
        have st : LeadNeutral.step s (PyWrlead.whole c) = ((step s k).1, LeadNeutral.shown (step s k).2) := by
          unfold LeadNeutral.step
          rw [k2]
        obtain ⟨ks, i1, i2, i3, i4⟩ := all_calls f t cs' (step s k).1 hcs ha.2
        refine ⟨k :: ks, ?_, ?_, ?_, ?_⟩
        · rw [List.flatMap_cons, ← i1, k1]
        · rw [List.length_cons, List.length_cons, i2]
        · intro z hz
          rcases List.mem_cons.mp hz with rfl | hz
          · exact k3
          · exact i3 z hz
        · rw [List.map_cons]
          unfold PyFlat.played
          rw [st]
          show PyFlat.told (LeadNeutral.shown (step s k).2 :: PyFlat.played LeadNeutral.step (step s k).1 (cs'.map PyWrlead.whole)) = _
          unfold PyFlat.told
          rw [List.flatMap_cons]
          show _ ++ PyFlat.told (PyFlat.played LeadNeutral.step (step s k).1 (cs'.map PyWrlead.whole)) = _
          rw [i4]
          rfl
theorem asked_calls {l : List Int} (h : PyWrlead.answers_asked l = true) : ∃ ks : List Call, l = ks.flatMap flat ∧ ks.length ≤ 200 ∧ (∀ k ∈ ks, big k) ∧ PyWrlead.answers l = out Lead.start ks := by
  unfold PyWrlead.answers_asked at h
  unfold PyWrlead.answers
  split at h
  · cases h
  · rename_i cs hcs
    unfold PyWrlead.calls at hcs
    split at hcs
    · cases hcs
    · rename_i cs' hcs'
      cases hcs
      rw [Bool.and_eq_true] at h
      have h1 := of_decide_eq_true h.1
      have h2 := h.2
      unfold LeadNeutral.asked at h2
      rw [Bool.and_eq_true] at h2
      obtain ⟨ks, i1, i2, i3, i4⟩ := all_calls _ _ _ Lead.start hcs' h2.1
      rw [List.length_map] at h1
      refine ⟨ks, i1, by omega, i3, ?_⟩
      have e : PyWrlead.calls l = some (cs'.map PyWrlead.whole) := by
        unfold PyWrlead.calls
        rw [hcs']
      first
        | (rw [e]; exact i4)
        | exact i4
/-! terms stay below 65,536 -/
def Tm (s : State) : Prop := (∀ x ∈ s.nodes, x.term ≤ 65535) ∧ ∀ m ∈ s.net, m.term ≤ 65535
theorem Tm.after {s : State} (h : Tm s) {i : Nat} {y : Node} {l : List Message} (hy : y.term ≤ 65535) (hl : ∀ m ∈ l, m.term ≤ 65535) : Tm (s.after i y l) := by
  refine ⟨fun x hx => ?_, fun m hm => ?_⟩
  · rcases List.mem_or_eq_of_mem_set hx with q | q
    · exact h.1 x q
    · rw [q]; exact hy
  · rcases List.mem_append.mp hm with q | q
    · exact h.2 m q
    · obtain ⟨m', h1, h2, _⟩ := mem_numbered q
      rw [← h2.2.2.2.1]
      exact hl m' h1
theorem Tm.without {s : State} (h : Tm s) (m : Nat) : Tm (s.without m) := ⟨h.1, fun x hx => h.2 x (List.mem_filter.mp hx).1⟩
theorem on_tm {n : Nat} {x : Node} {m : Message} (hx : x.term ≤ 65535) (hm : m.term ≤ 65535) : (onMessage n x m).1.term ≤ 65535 ∧ ∀ m' ∈ (onMessage n x m).2, m'.term ≤ 65535 := by
  have hh : (x.heard m.term).term ≤ 65535 := by
    unfold Node.heard
    split
    · exact hm
    · exact hx
  unfold Lead.onMessage
  dsimp only
  split
  · unfold onVote
    refine ⟨?_, fun m' q => ?_⟩
    · dsimp only
      split <;> exact hh
    · rw [List.mem_singleton] at q
      subst q
      exact hh
  split
  · unfold onVoted
    split
    · refine ⟨?_, fun m' q => by cases q⟩
      dsimp only
      split <;> exact hh
    · exact ⟨hh, fun m' q => by cases q⟩
  split
  · unfold onEntries
    split
    · refine ⟨hh, fun m' q => ?_⟩
      rw [List.mem_singleton] at q
      subst q
      exact hh
    · dsimp only
      split
      · refine ⟨hh, fun m' q => ?_⟩
        rw [List.mem_singleton] at q
        subst q
        exact hh
      · refine ⟨hh, fun m' q => ?_⟩
        rw [List.mem_singleton] at q
        subst q
        exact hh
  · unfold onHad
    split
    · split
      · exact ⟨hh, fun m' q => by cases q⟩
      · exact ⟨hh, fun m' q => by cases q⟩
    · exact ⟨hh, fun m' q => by cases q⟩
theorem Tm.step {s : State} (h : Tm s) (c : Call) : Tm (Lead.step s c).1 := by
  cases c with
  | begin_ n =>
    unfold Lead.step
    dsimp only
    split
    · exact h
    · refine ⟨fun x hx => ?_, fun m hm => by cases hm⟩
      rw [(List.mem_replicate.mp hx).2]
      exact Nat.zero_le _
  | stand i =>
    unfold Lead.step
    dsimp only
    split
    · exact h
    · rename_i x hx
      split
      · exact h
      split
      · exact h
      · rename_i hf
        have ht : x.term + 1 ≤ 65535 := by
          have : ¬ TERM ≤ x.term + 1 := fun q => hf (.inl q)
          unfold TERM at this
          omega
        refine h.after ht fun m hm => ?_
        obtain ⟨j, _, rfl⟩ := List.mem_map.mp hm
        exact ht
  | propose i v =>
    unfold Lead.step
    dsimp only
    split
    · exact h
    · rename_i x hx
      split
      · exact h
      split
      · exact h
      split
      · exact h
      · exact h.after (y := x.keeps _ _) (h.1 x (List.mem_of_getElem? hx)) (fun m hm => by cases hm)
  | beat i =>
    unfold Lead.step
    dsimp only
    split
    · exact h
    · rename_i x hx
      split
      · exact h
      split
      · exact h
      · refine h.after (h.1 x (List.mem_of_getElem? hx)) fun m hm => ?_
        obtain ⟨j, _, rfl⟩ := List.mem_map.mp hm
        exact h.1 x (List.mem_of_getElem? hx)
  | deliver m =>
    unfold Lead.step
    dsimp only
    split
    · exact h
    · rename_i x hx
      split
      · exact h
      · rename_i y hy
        obtain ⟨a, b⟩ := on_tm (n := s.nodes.length) (h.1 y (List.mem_of_getElem? hy)) (h.2 x (List.mem_of_find?_eq_some hx))
        exact (h.without m).after a b
  | lose m =>
    unfold Lead.step
    dsimp only
    split
    · exact h
    · exact h.without m
  | copy m =>
    unfold Lead.step
    dsimp only
    split
    · exact h
    · rename_i x hx
      split
      · exact h
      · refine ⟨h.1, fun m' hm => ?_⟩
        rcases List.mem_append.mp hm with q | q
        · exact h.2 m' q
        · obtain ⟨m2, h1, h2, _⟩ := mem_numbered q
          rw [List.mem_singleton] at h1
          subst h1
          rw [← h2.2.2.2.1]
          exact h.2 _ (List.mem_of_find?_eq_some hx)
  | crash i =>
    unfold Lead.step
    dsimp only
    split
    · exact h
    · rename_i x hx
      exact h.after (y := x.crashed) (h.1 x (List.mem_of_getElem? hx)) (fun m hm => by cases hm)
  | look i => exact h
  | log i => exact h
  | settled i => exact h
  | net => exact h
  | message m => exact h
/-- what holds of a state all along -/
structure Fine (s : State) : Prop where
  ok : Ok s
  safe : Safe s
  tm : Tm s
theorem Fine.start : Fine Lead.start := ⟨Ok.start, Safe.start, (fun x hx => by cases hx), (fun x hx => by cases hx)⟩
theorem Fine.step {s : State} (h : Fine s) (c : Call) : Fine (Lead.step s c).1 := ⟨h.ok.step c, h.safe.step h.ok c, h.tm.step c⟩
end Ld
end

section
set_option Elab.async false
set_option maxRecDepth 100000
set_option maxHeartbeats 2000000
namespace En
open PySem
open Sem (wp)
open AutoSeq1 (wpAny_loadPart')
section
variable {prog : Program} {w : World} {A : Around} {E : Value → Shared → Prop} {s : Shared}
theorem next_item {it t : Addr} {i : Nat} {items : Array Value} {x : Value} {Q : Value → Shared → Prop} (hit : s.heap.IsTupleIter it t i) (hl : s.heap.IsTuple t items) (hx : items[i]? = some x)
    (hQ : ∀ h', h'.IsTupleIter it t (i + 1) → Heap.SameBut it s.heap h' → Q x { s with heap := h' }) : wpAny (model prog w) A (Builtin.SmallTypes.nextOf (.ref it)) Q E s := by
  obtain ⟨o, ho, hc, hd⟩ := id hit
  obtain ⟨ol, hol, _, nl, hdl⟩ := hl
  unfold Builtin.SmallTypes.nextOf
  refine wpAny_bind (wpAny_callSpecial?_slot (name := Str.ofString "__next__") hit.typeIs F.slot_tuple_iterator_next (wpAny_call_entry F.slot_tuple_iterator_next hit.typeIs F.entry_tuple_iterator_next ?_ (F.args_tuple_iterator_next_1 _)))
  show wpAny _ _ (field (.ref it) 0 >>= _) _ _ s
  refine wpAny_bind (wpAny_field ho hd (x := .ref t) rfl ?_)
  show wpAny _ _ (if (Value.ref t == Value.none) = true then _ else _) _ _ s
  rw [if_neg (show ¬ ((Value.ref t == Value.none) = true) from Bool.false_ne_true)]
  show wpAny _ _ (field (.ref it) 1 >>= _) _ _ s
  refine wpAny_bind (wpAny_field ho hd (x := .int i 0) rfl ?_)
  show wpAny _ _ (seqItems? (.ref t) >>= _) _ _ s
  refine wpAny_bind (wpAny_seqItems hol hdl ?_)
  simp only [Int.toNat_natCast, hx]
  refine wpAny_bind (wpAny_setField ho hd (by simp) (wpAny_pure ⟨x, rfl, wpAny_pure (hQ _ ?_ (Heap.SameBut.update ..))⟩))
  exact ⟨_, Heap.get?_update_self _ ho (Obj.isFreed_of_fields (Obj.data_mapFields hd _)), (Obj.cls_mapFields ..).trans hc, by rw [Obj.data_mapFields hd]; simp [rawInt]⟩
theorem next_end {it t : Addr} {i : Nat} {items : Array Value} {Q : Value → Shared → Prop} (hh : A.handled = none) (hit : s.heap.IsTupleIter it t i) (hl : s.heap.IsTuple t items) (hx : items[i]? = none)
    (hE : ∀ h' e, Heap.ExtBut it s.heap h' → (∃ o, h'.get? e = some o ∧ o.cls = .type "StopIteration") → E (.ref e) { s with heap := h' }) : wpAny (model prog w) A (Builtin.SmallTypes.nextOf (.ref it)) Q E s := by
  obtain ⟨o, ho, hc, hd⟩ := id hit
  obtain ⟨ol, hol, _, nl, hdl⟩ := hl
  unfold Builtin.SmallTypes.nextOf
  refine wpAny_bind (wpAny_callSpecial?_slot (name := Str.ofString "__next__") hit.typeIs F.slot_tuple_iterator_next (wpAny_call_entry F.slot_tuple_iterator_next hit.typeIs F.entry_tuple_iterator_next ?_ (F.args_tuple_iterator_next_1 _)))
  show wpAny _ _ (field (.ref it) 0 >>= _) _ _ s
  refine wpAny_bind (wpAny_field ho hd (x := .ref t) rfl ?_)
  show wpAny _ _ (if (Value.ref t == Value.none) = true then _ else _) _ _ s
  rw [if_neg (show ¬ ((Value.ref t == Value.none) = true) from Bool.false_ne_true)]
  show wpAny _ _ (field (.ref it) 1 >>= _) _ _ s
  refine wpAny_bind (wpAny_field ho hd (x := .int i 0) rfl ?_)
  show wpAny _ _ (seqItems? (.ref t) >>= _) _ _ s
  refine wpAny_bind (wpAny_seqItems hol hdl ?_)
  simp only [Int.toNat_natCast, hx]
  refine wpAny_bind (wpAny_rule (wpAny_bind (wpAny_setField ho hd (by simp) ?_)))
  show wpAny _ _ (newExc (.type "StopIteration") [] >>= _) _ _ _
  refine wpAny_bind ?_
  simp only [newExc, newTuple]
  refine wpAny_bind (wpAny_newObj_type ?_ (by size_fits))
  refine wpAny_bind (m := firstArgMember _ _) (wpAny_of_eq (a := Value.none) (by first | rfl | (simp only [firstArgMember]; rfl)) ?_)
  refine wpAny_newObj_type ?_ (by size_fits)
  simp only [raiseNew]
  refine wpAny_bind (wpAny_handled ?_)
  first | rw [show A.in1.handled = none from hh] | rw [hh]
  refine wpAny_bind (wpAny_pure (wpAny_throw ?_))
  exact hE _ _ (((Heap.SameBut.update ..).extBut.push _).push _) ⟨_, Heap.get?_push_size _ rfl, rfl⟩
end
/-- a tuple drawn, counted from a on -/
theorem draws {prog : Program} {w : World} {A : Around} (hh : A.handled = none) (it t : Addr) (hne : t ≠ it) (items : Array Value) (a : Nat) :
    Draws prog w A it [it, t] (a + items.size) (fun i x => items[i - a]? = some x) (fun i h => a ≤ i ∧ h.IsTupleIter it t (i - a) ∧ h.IsTuple t items) where
  live := fun i h st => by
    obtain ⟨_, ⟨o, ho, _⟩, _⟩ := st
    exact ⟨o, ho⟩
  frame := fun i h h' st k => by
    obtain ⟨ha, hi, o, ho, r⟩ := st
    exact ⟨ha, hi.at fun o q => k it (by simp) o q, o, k t (by simp) o ho, r⟩
  item := fun i s Q E hi st hQ => by
    obtain ⟨ha, hit, ht⟩ := st
    have hx : items[i - a]? = some (items[i - a]'(by omega)) := Array.getElem?_eq_getElem (by omega)
    refine next_item hit ht hx fun h' hit' sb => hQ _ h' s.toks hx ⟨by omega, ?_, ?_⟩ sb
    · rw [show i + 1 - a = i - a + 1 by omega]
      exact hit'
    · obtain ⟨o, ho, r⟩ := ht
      exact ⟨o, (sb.2 t hne).trans ho, r⟩
  done := fun s Q E st hE => by
    obtain ⟨ha, hit, ht⟩ := st
    exact next_end hh hit ht (by rw [show a + items.size - a = items.size by omega]; simp) hE
end En
end

section
set_option Elab.async false
set_option maxRecDepth 100000
set_option maxHeartbeats 4000000
namespace En
open PySem
open Sem (wp)
open Builtin.SmallTypes
open AutoSeq1
theorem idx (a : Nat) (t : Tok) : indexObject "enumerate.__new__" (Value.int a t) = pure (Value.int a t) := by kernel_rfl
theorem asi (a : Nat) (t : Tok) : asInt? (Value.int a t) = pure (some (a : Int)) := rfl
theorem new_meets (l : Addr) (items : Array Value) (n : Nat) (dct : Option Addr) (sl : Array (Option Value)) (a : Nat) (tk0 : Tok) (ha : fitsIndex (a : Int) = true) :
    Meets (Builtin.«enumerate.__new__» ⟨[.type "enumerate", .ref l], [("start", .int a tk0)]⟩) (fun _ R s => s.heap.get? l = some { cls := .type "tuple", dict := dct, data := .seq items n, slots := sl } ∧
      R (.ok (.ret (.ref (s.heap.push { cls := .type "tuple_iterator", data := .fields #[.ref l, .int 0 0] }).objs.size)))
        { s with heap := (s.heap.push { cls := .type "tuple_iterator", data := .fields #[.ref l, .int 0 0] }).push { cls := .type "enumerate", data := .fields #[.none, .bool false, .ref s.heap.objs.size, rawInt a, .none, .none] } }) :=
  .of_wp fun prog w A R s h => by
    obtain ⟨hp, g, d, tk, os⟩ := s
    obtain ⟨hl, h⟩ := h
    have hsub := sub_enumerate
    have hL : Heap.IsTuple (Shared.heap ⟨hp, g, d, tk, os⟩) l items := ⟨_, hl, rfl, n, rfl⟩
    wp_walk using wpAny_loadPart' hl
    refine wpAny_stack_any fun st => wpAny_pure ?_
    have nf : ¬ (!fitsIndex (a : Int)) = true := by rw [ha]; exact Bool.false_ne_true
    split
    · rename_i c _ _ _ _ _
      cases (c == Value.type "enumerate")
      · dsimp only
        rw [if_neg Bool.false_ne_true]
        refine wpAny_bind ?_
        refine wpAny_of_eq (a := (Value.ref l, some (Value.int a tk0))) ?_ ?_
        · kernel_rfl
        dsimp only
        refine wpAny_bind ?_
        rw [idx]
        refine wpAny_pure ?_
        refine wpAny_bind ?_
        rw [asi]
        refine wpAny_pure ?_
        dsimp only
        rw [if_neg nf]
        refine wpAny_bind (wpAny_pyIter_tuple hL ?_)
        wp_walk
        exact ⟨_, rfl, h⟩
      · dsimp only
        rw [if_pos rfl]
        refine wpAny_bind ?_
        refine wpAny_of_eq (a := (Value.ref l, some (Value.int a tk0))) ?_ ?_
        · kernel_rfl
        dsimp only
        refine wpAny_bind ?_
        rw [idx]
        refine wpAny_pure ?_
        refine wpAny_bind ?_
        rw [asi]
        refine wpAny_pure ?_
        dsimp only
        rw [if_neg nf]
        refine wpAny_bind (wpAny_pyIter_tuple hL ?_)
        wp_walk
        exact ⟨_, rfl, h⟩
    · dsimp only
      rw [if_neg Bool.false_ne_true]
      refine wpAny_bind ?_
      refine wpAny_of_eq (a := (Value.ref l, some (Value.int a tk0))) ?_ ?_
      · kernel_rfl
      dsimp only
      refine wpAny_bind ?_
      rw [idx]
      refine wpAny_pure ?_
      refine wpAny_bind ?_
      rw [asi]
      refine wpAny_pure ?_
      dsimp only
      rw [if_neg nf]
      refine wpAny_bind (wpAny_pyIter_tuple hL ?_)
      wp_walk
      exact ⟨_, rfl, h⟩
end En
end

section
set_option Elab.async false
set_option maxRecDepth 100000
set_option maxHeartbeats 4000000
namespace En
open PySem
open Sem (wp)
section
variable {prog : Program} {w : World} {A : Around} {E : Value → Shared → Prop} {s : Shared}
theorem init_meets {self : Value} {rest : List Value} {kw : List (Str × Value)} :
    Meets (Builtin.«object.__init__» ⟨self :: rest, kw⟩) (fun _ R s => s.TypeIs self "enumerate" ∧ R (.ok (.ret .none)) s) := by
  have hl := F.called_enumerate.init.lookup
  have hm := F.called_enumerate.made
  have hne : (some "enumerate.__new__" != some "object.__new__") = true := by decide
  refine Meets.of_wp fun prog w A R s hs => ?_
  obtain ⟨hT, hq⟩ := hs
  cases rest with
  | nil =>
    cases kw with
    | nil => exact wpAny_pure ⟨_, rfl, hq⟩
    | cons k kw =>
      repeat (any_goals (first | assumption | wp_step))
      exact ⟨_, rfl, hq⟩
  | cons a rest =>
    repeat (any_goals (first | assumption | wp_step))
    exact ⟨_, rfl, hq⟩
theorem type_call {args : List Value} {kw : List (Str × Value)} {S : PySem.Spec} {Q : Value → Shared → Prop}
    (hct : checkTypeCall "enumerate" ⟨args, kw⟩ = pure ()) (hcn : checkBuiltinCall "enumerate.__new__" ⟨.type "enumerate" :: args, kw⟩ = pure ())
    (hok : ∀ obj, argsOk "object.__init__" ⟨obj :: args, kw⟩) (g : Meets (Builtin.«enumerate.__new__» ⟨.type "enumerate" :: args, kw⟩) S)
    (h : S A.in1 (wants (fun obj s₁ => s₁.TypeIs obj "enumerate" ∧ Q obj s₁) E) s) : wpAny (model prog w) A (call (.type "enumerate") args kw) Q E s := by
  have ft := F.called_enumerate
  obtain ⟨c, tl, hmro⟩ := ft.mro
  have hmade := ft.made
  have hsub := ft.sub
  refine wpAny_call (codeAny_of_tree ?_)
  show wpAny _ _ (callAny (.type "enumerate") _) _ _ _
  refine wpAny_pure ⟨Code.quiet_builtin _ (by decide +kernel), codeAny_builtin F.entry_type_call ?_⟩
  rw [Around.under_plain (weight_type_call_type "enumerate" args kw) (units_type_call_type "enumerate" args kw)]
  have h1 := ft.notType
  have h2 := ft.canCreate
  repeat (any_goals (first | assumption | wp_step))
  refine codeAny_mono (codeAny_call_builtin ft.plain F.entry_enumerate_new (wpAny_of_eq hcn (g prog w A.in1 _ s h))) fun r s₁ hr => ?_
  cases r with
  | error e => exact hr
  | ok fl =>
    cases fl with
    | ret obj =>
      obtain ⟨hT, hq⟩ := hr
      have hli := ft.init.lookup
      have hbi := ft.init.bind obj
      repeat (any_goals (first | assumption | wp_step))
      refine codeAny_mono (codeAny_call_builtin ft.init.plain F.entry_object_init (ft.init.check _ _ _ _ _ _ _ _ hT (hok obj) (init_meets prog w A.in1 (wants (fun r s₂ => r = Value.none ∧ Q obj s₂) E) s₁ ⟨hT, (show Value.none = Value.none ∧ Q obj s₁ from ⟨rfl, hq⟩)⟩))) fun r₂ s₂ hr₂ => ?_
      cases r₂ with
      | error e => exact hr₂
      | ok fl₂ =>
        cases fl₂ with
        | ret r =>
          obtain ⟨rfl, hq⟩ := hr₂
          repeat (any_goals (first | assumption | wp_step))
        | _ => exact hr₂.elim
    | _ => exact hr.elim
theorem tc (a b : Value) : checkTypeCall "enumerate" ⟨[a], [("start", b)]⟩ = pure () := by kernel_rfl
theorem bc (a b : Value) : checkBuiltinCall "enumerate.__new__" ⟨[.type "enumerate", a], [("start", b)]⟩ = pure () := by kernel_rfl
theorem ia (o a b : Value) : argsOk "object.__init__" ⟨[o, a], [("start", b)]⟩ := by
  unfold argsOk; rw [signature?_of (id := "object.__init__") (n := ['_', '_', 't', 'i', 'n', 'i', '_', '_']) (o := ['t', 'c', 'e', 'j', 'b', 'o']) (by kernel_rfl) F.owner_object]; kernel_rfl
theorem call_ {l : Addr} {items : Array Value} {a : Nat} {tk : Tok} {Q : Value → Shared → Prop} (hL : s.heap.IsTuple l items) (ha : Builtin.SmallTypes.fitsIndex (a : Int) = true)
    (h : ∀ h', IsEnum h' (s.heap.objs.size + 1) s.heap.objs.size a .none → h'.IsTupleIter s.heap.objs.size l 0 → h'.objs.size = s.heap.objs.size + 2 →
      (∀ b o, s.heap.get? b = some o → h'.get? b = some o) → Q (.ref (s.heap.objs.size + 1)) { s with heap := h' }) :
    wpAny (model prog w) A (call (.type "enumerate") [.ref l] [("start", .int a tk)]) Q E s := by
  obtain ⟨⟨c, dct, dt, sl⟩, hl, hc, n, hd⟩ := hL
  replace hc : c = .type "tuple" := hc
  replace hd : dt = .seq items n := hd
  subst hc hd
  refine type_call (tc _ _) (bc _ _) (fun obj => ia obj _ _) (new_meets l items n dct sl a tk ha) ⟨hl, ?_⟩
  have hz : (s.heap.push { cls := .type "tuple_iterator", data := .fields #[.ref l, .int 0 0] }).objs.size = s.heap.objs.size + 1 := Heap.size_push ..
  show _ ∧ _
  rw [hz]
  have he := Heap.get?_push_size (s.heap.push { cls := .type "tuple_iterator", data := .fields #[.ref l, .int 0 0] })
      (o := { cls := .type "enumerate", data := .fields #[.none, .bool false, .ref s.heap.objs.size, rawInt a, .none, .none] }) rfl
  rw [hz] at he
  exact ⟨⟨_, he, rfl⟩, h _ he ⟨_, Heap.get?_push_of_some _ (Heap.get?_push_size _ rfl), rfl, rfl⟩ (by rw [Heap.size_push, hz]) fun b o x => Heap.get?_push_of_some _ (Heap.get?_push_of_some _ x)⟩
end
end En
end

section
set_option Elab.async false
set_option linter.all false
set_option maxRecDepth 100000
set_option maxHeartbeats 2000000
/-! ### further rules over the layer -/
namespace Pr
open PySem PySem.Spec L2
open PyProof.Rows hiding St

/-! in a comprehension: the fragment by its own name -/
theorem pe_fldK {X : Cx} {K : PySem.W.Frag} {e : Expr} {f : Str} {pos : Pos} {ta : TE} (hK : X.K = K) (he : PE X e ta) (hb : attributeBase e f X.env (eval e X.env) = eval e X.env) : PE X (.Attribute e f pos) (tFld K ta f) := by
  subst hK
  exact pe_fld he hb
theorem ix_listK {X : Cx} {K : PySem.W.Frag} (hK : X.K = K) : IxR X (rIxL K) := by
  subst hK
  exact ix_list

/-! enumerate(t, start=a), t a tuple -/
def IteT (K : PySem.W.Frag) (a : Addr) (st : Nat) : It :=
  ⟨fun i H => ∃ (xs : List V) (x : V), SqT K H a xs ∧ xs[i]? = some x, fun i H v H' => ∃ T x, v = .ref T ∧ H T = none ∧ H' = upd H T (.tup [.int ((st + i : Nat) : Int), x]) ∧ ∀ xs, SqT K H a xs → xs[i]? = some x, fun i H => ∃ xs : List V, SqT K H a xs ∧ xs.length ≤ i⟩
theorem turn_enumT {P : Program} {w : World} {K : PySem.W.Frag} {elts : List Expr} {kk : Nat} {tpos : Pos} (a e it st : Nat) :
    Turn P w K (.Tuple elts kk tpos) (IteT K a st) [e, it] e (fun i h => (∃ old, IsEnum h e it ((st + i : Nat) : Int) old) ∧ h.IsTupleIter it a i ∧ e ≠ it ∧ a ≠ it ∧ e ≠ a) where
  mem := by simp
  obj := fun i h tn b hb => by
    obtain ⟨⟨old, he⟩, ⟨o, ho, hc, hd⟩, _⟩ := tn
    have e' : b = e ∨ b = it := by simpa using hb
    rcases e' with z | z
    · rw [z]; exact ⟨_, he, fun v q => nomatch q⟩
    · rw [z]; exact ⟨o, ho, fun v q => by rw [hd] at q; cases q⟩
  keep := fun i h h' tn k => let ⟨⟨old, he⟩, hi, hne⟩ := tn; ⟨⟨old, k e (by simp) _ he⟩, hi.at fun o q => k it (by simp) o q, hne⟩
  item := by
    intro X hP hw hK hc i pins s σ H E I hf tn hg
    subst hP hw hK
    obtain ⟨⟨old, he⟩, hit, hne, hai, hea⟩ := tn
    obtain ⟨xs, x, hq, hx⟩ := hg
    obtain ⟨its, rv, p, hz⟩ := I.tuple hq
    obtain ⟨u, hu, ru⟩ := rv.get hx
    have hel : e < s.heap.objs.size := Heap.lt_size he
    have hil : it < s.heap.objs.size := by obtain ⟨_, q, _⟩ := hit; exact Heap.lt_size q
    have hlen : its.toArray.size = its.length := List.size_toArray ..
    have hxl : i < its.length := (List.getElem?_eq_some_iff.mp hu).1
    have D := En.draws (prog := X.prog) (w := X.w) (A := X.A.in1) (I.ok.hd hc) it a hai its.toArray st
    refine wpAny_pyNext_enum_itemD D he ⟨Nat.le_add_right _ _, by rw [show st + i - st = i by omega]; exact hit, p⟩ (by rw [hlen]; omega) hne (by simp [hne, hea]) fun x' h' tk hP ho hst hT hsz hk => ?_
    have hx' : u = x' := by
      have hP : its.toArray[st + i - st]? = some x' := hP
      rw [show st + i - st = i by omega] at hP
      have : its.toArray[i]? = some u := by simpa using hu
      rw [this] at hP
      exact Option.some.inj hP
    subst hx'
    refine ⟨_, rfl, wpAny_letOwnedTupleGo_enum (s := { s with heap := h', toks := tk + 1 }) ho fun h'' he' sb => ?_⟩
    have hT2 : h''.get? s.heap.objs.size = some { cls := .type "tuple", data := .seq #[.int ((st + i : Nat) : Int) tk, u] } := (sb.2 _ (Nat.ne_of_gt hel)).trans hT
    have new : ObjOk X.prog X.w (upd H s.heap.objs.size (.tup [.int ((st + i : Nat) : Int), x])) h'' s.heap.objs.size (.tup [.int ((st + i : Nat) : Int), x]) :=
      ⟨by show 2 ≤ sizeLine; decide, [.int ((st + i : Nat) : Int) tk, u], .cons ⟨_, rfl⟩ (.cons ru .nil), ⟨_, hT2, rfl, _, rfl⟩⟩
    have I1 : Inv X pins σ (upd H s.heap.objs.size (.tup [.int ((st + i : Nat) : Int), x])) { s with heap := h'', toks := tk + 1 } :=
      I.turnedNew (ch := [e, it]) (fun b ob hb q => (sb.2 b (fun z => hb (by simp [z]))).trans (hk b ob (fun z => hb (by simp [z])) (fun z => hb (by simp [z])) q)) hf (Nat.le_refl _) new
    refine ⟨.ref s.heap.objs.size, _, I1, rfl, ⟨_, x, rfl, I.hok.fresh (Nat.le_refl _), rfl, fun ys hy => by rw [I.tuple_inj hy hq]; exact hx⟩, ⟨⟨u, ?_⟩, ?_, hne, hai, hea⟩, fun b hb => ?_⟩
    · have e1 : ((st + (i + 1) : Nat) : Int) = ((st + i : Nat) : Int) + 1 := by omega
      rw [e1]; exact he'
    · obtain ⟨_, hit', _⟩ := hst
      rw [show st + i + 1 - st = i + 1 by omega] at hit'
      exact hit'.at fun o q => (sb.2 it (Ne.symm hne)).trans q
    · have hb' : b < s.heap.objs.size := by
        have e' : b = e ∨ b = it := by simpa using hb
        rcases e' with z | z
        · rw [z]; exact hel
        · rw [z]; exact hil
      rw [upd_ne (Nat.ne_of_lt hb')]
      exact (hf b hb).1
  done := by
    intro X hP hw hK hc i pins s σ H E I hf tn hg
    subst hP hw hK
    obtain ⟨⟨old, he⟩, hit, hne, hai, hea⟩ := tn
    obtain ⟨xs, hq, hx⟩ := hg
    obtain ⟨its, rv, p, hz⟩ := I.tuple hq
    obtain ⟨f0, f1, f2, f3, f4, f5⟩ := hf it (by simp)
    have hl := rv.length
    have D : Draws X.prog X.w X.A.in1 it [it, a] (st + i) (fun j x => its.toArray[j - st]? = some x) (fun j h => j = st + i ∧ h.IsTupleIter it a i ∧ h.IsTuple a its.toArray) :=
      ⟨fun j h q => by obtain ⟨_, ⟨o, ho, _⟩, _⟩ := q; exact ⟨o, ho⟩,
       fun j h h' q k => by
        obtain ⟨q0, q1, o, ho, r⟩ := q
        exact ⟨q0, q1.at fun o z => k it (by simp) o z, o, k a (by simp) o ho, r⟩,
       fun j s Q E hj q => by
        obtain ⟨q0, _⟩ := q
        omega,
       fun s Q E q hE => by
        obtain ⟨_, q1, q2⟩ := q
        exact En.next_end (I.ok.hd hc) q1 q2 (by simp; omega) hE⟩
    exact wpAny_pyNext_enum_endD D he ⟨rfl, hit, p⟩ fun h' eb => ⟨rfl, I.turned (t' := s.toks) (fun b o hb q => eb b o hb q) f0 f1 f3 f4 f5⟩
  self := fun A i s Q E tn h => let ⟨⟨_, he⟩, _⟩ := tn; wpAny_pyIter_enum he h
theorem callWith_tykw {M : Model} {A : Around} {E : Value → Shared → Prop} {s : Shared} {pos : Pos} {T : String} {args : List (Bool × Sem Value)} {keywords : List (Option Str × Sem Value)} {Q : Value → Shared → Prop}
    (hplain : args.any (·.1) = false) (hkw : keywords.any (·.1.isNone) = false)
    (h : wpAny M A (evalArgs (.type T) true args keywords) (fun a s₁ => wpAny M A (call (.type T) a.pos a.kw) Q E s₁) E s) : wpAny M A (callWith pos (.type T) [] args keywords) Q E s := by
  unfold callWith
  refine wpAny_bind (wpAny_holding (wpAny_mono h (fun a s₁ h₁ => wpAny_bind (wpAny_standAt ?_)) fun _ _ x => x))
  simp only [hplain, hkw, Bool.or_false]
  refine wpAny_bind (wpAny_pure ?_)
  exact wpAny_bind (wpAny_mono h₁ (fun r s₂ hr => wpAny_bind (wpAny_holding (wpAny_point (wpAny_pure hr)))) fun _ _ x => x)
def iEnumT (K : PySem.W.Frag) (ta tk : TA) : TI := fun σ H R => ta σ H fun vs H1 => tk σ H1 fun ws H2 => ∃ (a : Addr) (xs : List V) (st : Nat), vs = [.ref a] ∧ ws = [.int st] ∧ (st : Int) < 2 ^ 63 ∧ SqT K H2 a xs ∧ R (IteT K a st) H2
theorem pi_enumT {X : Cx} {e e2 : Expr} {ta tk : TA} {p pos kp tpos : Pos} {elts : List Expr} {kk : Nat} (hg : Gl X "enumerate") (hm : X.mg "enumerate" = none) (ha : PA X [e] ta) (hk : PK X [⟨some "start", e2, kp⟩] tk)
    (hs : backTo pos (starEach [e] X.env) = [(false, eval e X.env)] := by rfl) :
    PI X (.Tuple elts kk tpos) (.Call (.Name "enumerate" p) [e] [⟨some "start", e2, kp⟩] pos) (iEnumT X.K ta tk) := by
  intro pins s σ H R I h
  refine wpAny_Call_Name_kw (ld_blt I hg hm boot_enumerate (callWith_tykw ?_ rfl ?_))
  · rw [hs]; rfl
  have h1 := ha pos pins s σ H _ I h
  rw [hs] at h1 ⊢
  refine evalArgs_kwB rfl (thn h1 fun us s1 ⟨vs, H1, I1, r1, q1⟩ => ?_)
  refine thn (hk pos pins s1 σ H1 _ I1 q1) fun ws s2 ⟨zs, H2, I2, r2, q2⟩ => ?_
  obtain ⟨a, xs, st, rfl, rfl, hst, hq, q⟩ := q2
  cases r1 with
  | cons ra rr =>
    cases rr
    cases ra
    cases r2 with
    | cons rb rr =>
      cases rr
      obtain ⟨tok, rfl⟩ := rb
      obtain ⟨its, rv, p', hz⟩ := I2.tuple hq
      have hfit : Builtin.SmallTypes.fitsIndex (st : Int) = true := by
        unfold Builtin.SmallTypes.fitsIndex
        rw [Bool.and_eq_true]
        exact ⟨decide_eq_true (by omega), decide_eq_true hst⟩
      refine En.call_ p' hfit fun h' he hit hsz hkp => wpAny_pyIter_enum he ?_
      have I3 : Inv X pins σ H2 { s2 with heap := h' } := I2.kept (t' := s2.toks) hkp
      have hal : a < s2.heap.objs.size := by obtain ⟨o, ho, _⟩ := p'; exact Heap.lt_size ho
      refine ⟨s2.heap.objs.size + 1, [s2.heap.objs.size + 1, s2.heap.objs.size], _, _, H2, rfl, I3, turn_enumT a (s2.heap.objs.size + 1) s2.heap.objs.size st, ⟨⟨.none, he⟩, hit, Nat.succ_ne_self _, Nat.ne_of_lt hal, Nat.ne_of_gt (Nat.lt_succ_of_lt hal)⟩, fun b hb => ?_, q⟩
      have e' : b = s2.heap.objs.size + 1 ∨ b = s2.heap.objs.size := by simpa using hb
      have hle : s2.heap.objs.size ≤ b := by
        rcases e' with z | z
        · rw [z]; exact Nat.le_succ _
        · rw [z]; exact Nat.le_refl _
      exact I2.fpOk hle (I2.hok.fresh hle)
theorem for_enumT {K : PySem.W.Frag} {a : Addr} {st : Nat} {xs : List V} {g : TG} {tb : TS} {D : Ends} {σ : St} {H : Hp} (Pv : Nat → St → Hp → Prop) (h0 : Pv 0 σ H) (hl : ∀ i σ H, i ≤ xs.length → Pv i σ H → SqT K H a xs)
    (hs : ∀ i x σ H T, xs[i]? = some x → Pv i σ H → H T = none → g (.ref T) σ (upd H T (.tup [.int ((st + i : Nat) : Int), x])) fun σ2 H2 => tb { D with nx := Pv (i + 1), ct := Pv (i + 1), bk := D.nx } σ2 H2) (hd : ∀ σ H, Pv xs.length σ H → D.nx σ H) :
    ∃ W : Nat → Nat → St → Hp → Prop, (∃ m, W 0 m σ H) ∧ ∀ i m σ H, W i m σ H →
      ((IteT K a st).stop i H ∧ D.nx σ H) ∨ ((IteT K a st).go i H ∧ ∃ N : St → Hp → Prop, (∀ σ' H', N σ' H' → ∃ m', m' < m ∧ W (i + 1) m' σ' H') ∧ ∀ x H', (IteT K a st).yld i H x H' → g x σ H' fun σ2 H2 => tb { D with nx := N, ct := N, bk := D.nx } σ2 H2) := by
  refine ⟨fun i m σ H => m = xs.length - i ∧ i ≤ xs.length ∧ Pv i σ H, ⟨xs.length, by simp, Nat.zero_le _, h0⟩, ?_⟩
  rintro i m σ H ⟨rfl, hi, p⟩
  have q := hl i σ H hi p
  by_cases c : i = xs.length
  · subst c
    exact .inl ⟨⟨xs, q, Nat.le_refl _⟩, hd σ H p⟩
  · have hx : xs[i]? = some (xs[i]'(by omega)) := List.getElem?_eq_getElem (by omega)
    refine .inr ⟨⟨xs, _, q, hx⟩, Pv (i + 1), fun σ' H' p' => ⟨xs.length - (i + 1), by omega, rfl, by omega, p'⟩, ?_⟩
    rintro v H' ⟨T, x, rfl, hT, rfl, hy⟩
    exact hs i x σ H T (hy xs q) p hT

/-! t[lo:hi], the whole or not -/
theorem get_whole {prog : Program} {w : World} {A : Around} {E : Value → Shared → Prop} {s : Shared} {t sl : Addr} {items : Array Value} {vl vu : Value} {lo hi : Option Int} {Q : Value → Shared → Prop} (ht : IsTup s.heap t items) (hs : s.heap.IsSliceOf sl vl vu .none) (pl : IsPart vl lo) (pu : IsPart vu hi)
    (hw : HT.sIx items.size 0 lo = 0 ∧ HT.sIx items.size items.size hi = items.size) (h : Q (.ref t) s) : wpAny (model prog w) A (getItem (.ref t) (.ref sl)) Q E s := by
  obtain ⟨os, hos, hcs, hds⟩ := id hs
  have hTs : s.TypeIs (.ref sl) "slice" := ⟨os, hos, hcs⟩
  unfold getItem
  try with_reducible refine wpAny_holding ?_
  first | refine wpAny_bind (wpAny_pure ?_) | skip
  refine wpAny_bind (wpAny_sequenceKey ht.typeIs (by decide) ?_)
  refine wpAny_bind (wpAny_callSpecial?_slot (name := Str.ofString "__getitem__") ht.typeIs PyProof.Rows.slot_tuple_getitem
    (wpAny_call_entry PyProof.Rows.slot_tuple_getitem ht.typeIs entry_tuple_getitem ?_ (args_tuple_getitem _ _)))
  show wpAny _ _ (Builtin.Tuple.tupleItemsOf (.ref t) >>= _) _ _ s
  refine wpAny_bind (tupleItemsOf_ ht ?_)
  refine wpAny_bind (wpAny_typeOf hTs ?_)
  rw [if_pos (by decide)]
  refine wpAny_bind (HT.sliceApplied_gen hs pl pu ?_)
  have hyes : (((HT.sIx items.size 0 lo : Nat) : Int) == 0 && (1 : Int) == 1 && (HT.sIx items.size items.size hi - HT.sIx items.size 0 lo) == items.size) = true := by
    rw [hw.1, hw.2]
    simp
  show wpAny _ _ (if (((HT.sIx items.size 0 lo : Nat) : Int) == 0 && (1 : Int) == 1 && (HT.sIx items.size items.size hi - HT.sIx items.size 0 lo) == items.size) = true then _ else _) _ _ s
  rw [if_pos hyes]
  refine wpAny_bind ?_
  unfold Builtin.Tuple.tupleIsExact
  refine wpAny_bind (wpAny_typeOf ht.typeIs (wpAny_pure ?_))
  rw [if_pos (by decide)]
  exact wpAny_bind (wpAny_rule (wpAny_pure ⟨_, rfl, wpAny_pure h⟩))
def rSlA (K : PySem.W.Frag) : V → Option Int → Option Int → Hp → VK → Prop := fun x lo hi H Q => ∃ a xs, x = .ref a ∧ SqT K H a xs ∧
  ((HT.sIx xs.length 0 lo = 0 ∧ HT.sIx xs.length xs.length hi = xs.length) → Q (.ref a) H) ∧
  (¬ (HT.sIx xs.length 0 lo = 0 ∧ HT.sIx xs.length xs.length hi = xs.length) → ∀ p, H p = none → Q (.ref p) (upd H p (.tup (cutV xs lo hi))))
theorem sl_tupA {X : Cx} : SlR X (rSlA X.K) := by
  intro pins s σ H x v vl vu lo hi sl Q I rx hs pl pu h
  obtain ⟨a, xs, rfl, hx, q1, q2⟩ := h
  by_cases c : HT.sIx xs.length 0 lo = 0 ∧ HT.sIx xs.length xs.length hi = xs.length
  · cases rx
    obtain ⟨its, r, ht, hz⟩ := I.tuple hx
    have hlen : its.toArray.size = xs.length := by rw [List.size_toArray]; exact r.length.symm
    refine ⟨"tuple", _, PyProof.Rows.slot_tuple_getitem.lookup, ht.typeIs, ?_⟩
    exact get_whole ht hs pl pu (by rw [hlen]; exact c) ⟨.ref a, H, I, rfl, q1 c⟩
  · exact sl_tup pins s σ H _ v vl vu lo hi sl Q I rx hs pl pu ⟨a, xs, rfl, hx, c, q2 c⟩

/-! xs.extend(t), t a tuple -/
theorem ext_tup (l : Addr) (items : Array Value) (n : Nat) (b : Addr) (items2 : Array Value) (n2 : Nat) (dct : Option Addr) (sl : Array (Option Value)) (hs0 : ¬(!items.isEmpty && Builtin.List.listTooLong (items.size + items2.size)) = true) (hs1 : items.size ≤ sizeLine) (hs2 : items.size + items2.size ≤ sizeLine + 1) :
    Meets (Builtin.«list.extend» ⟨[.ref l, .ref b], []⟩) (fun _ R s => s.heap.get? l = some { cls := .type "list", dict := none, data := .seq items n, slots := #[] } ∧ s.heap.get? b = some { cls := .type "tuple", dict := dct, data := .seq items2 n2, slots := sl } ∧ R (.ok (.ret Value.none)) { s with heap := s.heap.update l (Obj.mapSeq fun x => x ++ items2), toks := s.toks }) :=
  .of_wp fun prog w A R s h => by
    obtain ⟨hp, g, d, tk, os⟩ := s
    obtain ⟨hl, hb, h⟩ := h
    have f1 := AutoSeq1.idx_int; have f2 := AutoSeq1.sub_tuple_tuple; have f3 := AutoSeq1.sub_list_list; have f4 := AutoSeq1.sub_tuple_list; have f5 := AutoSeq1.sub_list_tuple
    have hz' : (items ++ items2).size ≤ sizeLine + 1 := by rw [Array.size_append]; exact hs2
    wp_walk using (wpAny_updateSeq hl rfl (hz := hs1) (_hz' := hz')), AutoSeq1.wpAny_loadPart' hl, AutoSeq1.wpAny_loadPart' hb
    exact ⟨_, rfl, h⟩
def rExtT (K : PySem.W.Frag) : V → List V → Hp → VK → Prop := fun x vs H Q => ∃ l b xs zs, x = .ref l ∧ vs = [.ref b] ∧ H l = some (.lst xs) ∧ SqT K H b zs ∧ xs.length + zs.length ≤ sizeLine ∧ Q .non (upd H l (.lst (xs ++ zs)))
theorem mt_extT {X : Cx} : MtM X "list.extend" (rExtT X.K) := by
  intro pins s σ H x vs v us Q I rx rv h
  obtain ⟨l, b, xs, zs, rfl, rfl, hH, hB, hz, q⟩ := h
  cases rx
  obtain ⟨u, rfl, ru⟩ := rv.one
  cases ru
  obtain ⟨z, its, n, r, hl, e⟩ := I.lstM hH
  obtain ⟨its2, r2, ⟨⟨c2, d2, dt2, s2⟩, e2, hc2, n2, hd2⟩, hz2⟩ := I.tuple hB
  replace hc2 : c2 = .type "tuple" := hc2
  replace hd2 : dt2 = .seq its2.toArray n2 := hd2
  subst hc2 hd2
  have hl2 := r2.length
  have hsz : its.toArray.size + its2.toArray.size ≤ sizeLine := by rw [List.size_toArray, List.size_toArray]; omega
  have hlong : ¬ (!its.toArray.isEmpty && Builtin.List.listTooLong (its.toArray.size + its2.toArray.size)) = true := by
    rw [notLongL hsz, Bool.and_false]
    exact Bool.false_ne_true
  refine call_meets F.slot_list_extend ⟨_, e, rfl⟩ F.entry_list_extend (F.args_list_extend_2 _ _) (ext_tup l its.toArray n b its2.toArray n2 d2 s2 hlong (by rw [List.size_toArray]; omega) (by omega)) ⟨e, e2, ?_⟩
  refine ⟨.non, _, I.lset (its' := its ++ its2) hH e (by simp) (r.append r2) ?_, rfl, q⟩
  rw [List.length_append]
  omega

/-! list(d) -/
theorem call_list_dict {X : Cx} (hc : X.calm = true) : CallR X (.type "list") (fun xs H Q => ∃ p kvs, xs = [.ref p] ∧ H p = some (.dK kvs) ∧ ∀ l, H l = none → Q (.ref l) (upd H l (.lst (kvs.map fun q => kV q.1)))) := by
  intro pins s σ H xs us Q I r h
  obtain ⟨p, kvs, rfl, hp, q⟩ := h
  obtain ⟨u, rfl, rx⟩ := vals1 r
  cases rx
  obtain ⟨z, lo, vs, rel, dd⟩ := dk_of I.hok hp
  obtain ⟨ep, dat⟩ := dd.dictAt
  have hlen : vs.length = kvs.length := rel.length.symm
  refine PySem.W.kdl_call (PySem.W.kdl_dict (knd := mixKind X.prog X.w) (kvs := vs) (ep := ep) lo) (I.ok.hd hc) dat (by rw [hlen]; exact z) fun h' tk acc' c' hk hD hacc => ?_
  have rv : Vals (kvs.map fun q => kV q.1) acc'.toList := by
    obtain ⟨hsz, hit⟩ := hacc
    have go : ∀ (kvs : List (Key × V)) (vs : List (Key × Value)) (l : List Value), KV kvs vs → l.length = vs.length → (∀ (j : Nat) (v : Value), l[j]? = some v → ∃ k x, vs[j]? = some (k, x) ∧ (mixKind X.prog X.w).is k v = true) → Vals (kvs.map fun q => kV q.1) l := by
      intro kvs vs l rel
      induction rel generalizing l with
      | nil =>
        intro hl _
        have : l = [] := List.length_eq_zero_iff.mp hl
        subst this
        exact .nil
      | @cons a b as bs hab t ih =>
        intro hl hj
        cases l with
        | nil => simp at hl
        | cons v l =>
          obtain ⟨k, x, e, hk⟩ := hj 0 v rfl
          have e : b = (k, x) := by simpa using e
          subst e
          have ek : a.1 = k := hab.1
          refine .cons ?_ (ih l (by simpa using hl) fun j v' hv' => by simpa using hj (j + 1) v' (by simpa using hv'))
          show RelV (kV a.1) v
          rw [ek]
          rcases keyIs_shape hk with ⟨i, t, rfl, rfl⟩ | ⟨x', t, rfl, rfl⟩
          · exact ⟨t, rfl⟩
          · exact ⟨t, rfl⟩
    refine go kvs vs acc'.toList rel (by rw [Array.length_toList]; exact hsz) fun j v e => hit j v (by rw [← Array.getElem?_toList]; exact e)
  refine ⟨.ref s.heap.objs.size, _, I.laid (t' := tk) (o := .lst (kvs.map fun q => kV q.1)) hk (Nat.le_refl _) ?_, rfl, q _ (I.hok.fresh (Nat.le_refl _))⟩
  exact ⟨by rw [List.length_map]; exact z, acc'.toList, c', rv, by rw [Array.toArray_toList]; exact hD⟩

/-! a dict of the module: numbers to functions -/
structure KDict (K : PySem.W.Frag) (a : Addr) (kvs : List (Int × Addr)) : Prop where
  ns : (a == sysModules) = false
  ob : ∃ o, K.lookup a = some o ∧ ∀ (P : Program) (w : World), o.IsDictOf (PySem.intKind P w) (kvs.map fun q => (q.1, Value.ref q.2))
def atKD : List (Int × Addr) → Int → Option Addr
  | [], _ => none
  | q :: r, i => if q.1 = i then some q.2 else atKD r i
theorem valueAt_kd : ∀ (kvs : List (Int × Addr)) (i : Int), valueAt (kvs.map fun q => (q.1, Value.ref q.2)) i = (atKD kvs i).map Value.ref
  | [], i => rfl
  | q :: r, i => by
    have ih := valueAt_kd r i
    unfold valueAt at ih ⊢
    unfold atKD
    rw [List.map_cons, List.find?_cons]
    by_cases h : q.1 = i
    · simp [h]
    · simp only [h, decide_false, if_false]
      exact ih
section
variable {X : Cx} {x : Str} {p pos apos : Pos} {d : Addr} {kvs : List (Int × Addr)} {i : Expr} {ty : TE}
theorem kd_dict {pins : List (Addr × Obj)} {σ : St} {H : Hp} {s : Shared} (D : KDict X.K d kvs) (I : Inv X pins σ H s) : s.heap.DictOf (PySem.intKind X.prog X.w) d (kvs.map fun q => (q.1, Value.ref q.2)) := by
  obtain ⟨o, ho, h⟩ := D.ob
  exact Heap.dictOf_iff.mpr ⟨o, I.kIn d o ho, h X.prog X.w⟩
/-- y in D -/
theorem pt_kin (D : KDict X.K d kvs) (hi : PE X i ty) (hg : Gl X x) (hm : X.mg x = some (.ref d)) (hdb : (x == ("__debug__" : Str)) = false := by decide) (h1 : behindInMarks .In (.Name x p) = false := by rfl) :
    PT X (.Compare i [.In] [.Name x p] pos) (fun σ H Q => ty σ H fun y H1 => ∃ k : Int, y = .int k ∧ Q (atKD kvs k).isSome H1) := by
  intro pins s σ H Q I h
  refine wpAny_isTrue_Compare1 (thn (hi pins s σ H _ I h) fun iv s1 ⟨y, H1, I1, ry, k, ey, q⟩ => ld_glob I1 hg hm ?_ hdb) h1
  subst ey
  obtain ⟨t, rfl⟩ := ry
  refine wpAny_in_of (knd := PySem.intKind X.prog X.w) (k := k) (by show Value.isInt k (Value.int k t) = true; simp [Value.isInt]) D.ns (kd_dict D I1).mapOf ?_
  rw [valueAt_kd, Option.isSome_map]
  exact wpAny_truthy_bool ⟨H1, I1.tok _, q⟩
/-- each function of it keeps a promise -/
def KOk (X : Cx) (kk : Nat) (kvs : List (Int × Addr)) (spf : Int → Sp) : Prop := ∀ (k : Int) (f : Addr), atKD kvs k = some f → PySem.W.keepIn X.K (.ref f) = true ∧ ∃ (fd : FuncData) (ps : List Str), FnOk X.prog X.w X.K X.mg X.base CX0 kk f fd ps (spf k) ∧ Binds X.K fd ps []
/-- D[y](e, ..) -/
theorem pe_kcall {kk : Nat} {spf : Int → Sp} {e : Expr} {es : List Expr} {t : TA} (D : KDict X.K d kvs) (F : KOk X kk kvs spf) (hr : Room kk X.A) (hi : PE X i ty) (hs : NoSl i) (hg : Gl X x) (hm : X.mg x = some (.ref d)) (ha : PA X (e :: es) t)
    (hdb : (x == ("__debug__" : Str)) = false := by decide) (he : starEach (e :: es) X.env = (false, eval e X.env) :: starEach es X.env := by rfl) (hpl : (backTo pos (starEach es X.env)).any (·.1) = false := by rfl) :
    PE X (.Call (.Subscript (.Name x p) i apos) (e :: es) [] pos) (fun σ H Q => ty σ H fun y H1 => ∃ (k : Int) (f : Addr), y = .int k ∧ atKD kvs k = some f ∧ t σ H1 fun vs H2 => spf k (vs ++ []) H2 Q E0) := by
  intro pins s σ H Q I h
  show wpAny _ _ (eval (.Subscript (.Name x p) i apos) X.env >>= fun f => callWith pos f [] (backTo pos (starEach (e :: es) X.env)) (backToKw pos (keywordEach [] X.env))) _ _ s
  refine wpAny_bind (subD_of PySem.F.slot_dict_getitem.lookup hs (ld_glob I hg hm (thn (hi pins s σ H _ I h) fun iv s1 ⟨y, H1, I1, ry, k, f, ey, ef, q⟩ => ?_) hdb))
  subst ey
  obtain ⟨tk, rfl⟩ := ry
  have dd := kd_dict D I1
  refine ⟨dd.typeIs, wpAny_getItem_of (knd := PySem.intKind X.prog X.w) (k := k) (v := .ref f) (by show Value.isInt k (Value.int k tk) = true; simp [Value.isInt]) dd.mapOf (by rw [valueAt_kd, ef]; rfl) ?_⟩
  obtain ⟨hk, fd, ps, G, hb⟩ := F k f ef
  have I2 : Inv X pins σ H1 { s1 with toks := s1.toks + 1 } := I1.tok _
  refine PySem.W.callWith_K (h₀ := X.base) I.ok.mod.kin hk (thn (ha pos pins _ σ H1 _ I2 q) fun us s2 ⟨vs, H2, I3, r, q2⟩ => ⟨I3.kIn, ?_⟩) he hpl
  exact run_fn G hr hb .nil pass0 I3 r q2
end
end Pr
end

section
set_option Elab.async false
set_option linter.all false
set_option maxRecDepth 100000
set_option maxHeartbeats 2000000
/-! ### own words over the layer -/
namespace Pr
open PySem PySem.Spec L2
open PyProof.Rows hiding St

/-- an int of the module -/
def GInt (mg : Str → Option Value) (x : Str) (i : Int) : Prop := ∃ t, mg x = some (Value.int i t)
theorem pe_gi {X : Cx} {x : Str} {i : Int} {pos : Pos} (h : GInt X.mg x i) (hg : Gl X x := by rfl) (hd : (x == ("__debug__" : Str)) = false := by decide) : PE X (.Name x pos) (tC (.int i)) := by
  obtain ⟨t, h⟩ := h
  exact pe_glob hg h ⟨t, rfl⟩ hd

/-! ### a def with defaults -/
structure FunD (K : PySem.W.Frag) (x qual : Str) (st : Stmt) (dV : Value) (f : Addr) (fd : FuncData) : Prop where
  ex : ∃ (oc : Value) (od : Option Addr) (kV doc pm : Value) (an : Option Addr) (cdv ct : Value) (osl : Array (Option Value)),
    fd = PySem.W.fnOf x qual (defArgs st) (defBody st) (defScope st) dV kV doc pm an cdv ct ∧ K.lookup f = some ⟨oc, od, .func fd, osl⟩ ∧ PySem.W.codeIn K cdv qual = true
  kp : PySem.W.keepIn K (.ref f) = true
section
variable {P : Program} {w : World} {K : PySem.W.Frag} {mg : Str → Option Value} {base : Heap}
theorem FunD.ok {x qual : Str} {st : Stmt} {dV : Value} {f : Addr} {fd : FuncData} {N ps : List Str} {k : Nat} {sp : Sp} (F : FunD K x qual st dV f fd) (S : FnScope N ps (defScope st)) (len : ∀ vs H Q E, sp vs H Q E → vs.length = ps.length)
    (hbody : ∀ (cdv : Value) (A : Around) (outer : List Env) (s : Shared) (H : Hp) (vs : List V) (Q : VK) (E : XK), Room k (A.deeper (envOfC qual (defScope st) s.heap.objs.size f cdv)) → sp vs H Q E →
      ∃ t, PSs (cxOf CX0 P w K mg base N qual (defScope st) f cdv A outer s H E).nox (defBody st) t ∧ t { nx := fun _ H' => Q .non H', rt := Q } (start N vs) H) : FnOk P w K mg base CX0 (k + 1) f fd ps sp := by
  obtain ⟨oc, od, kV, doc, pm, an, cdv, ct, osl, rfl, lk, hcd⟩ := F.ex
  refine fn_of lk hcd S len fun A outer s H vs Q E hr hsp => ?_
  obtain ⟨t, h, q⟩ := hbody cdv A outer s H vs Q E hr hsp
  exact ⟨t, h.nox, q⟩
theorem FunD.binds {x qual : Str} {st : Stmt} {dV : Value} {f : Addr} {fd : FuncData} {ps : List Str} (F : FunD K x qual st dV f fd)
    (h : ∀ (kV doc pm : Value) (an : Option Addr) (cdv ct : Value) (us : List Value), us.length = ps.length → bindArgs (PySem.W.fnOf x qual (defArgs st) (defBody st) (defScope st) dV kV doc pm an cdv ct) ⟨us, []⟩ = pure (ps.zip us)) : Binds K fd ps [] := by
  obtain ⟨oc, od, kV, doc, pm, an, cdv, ct, osl, rfl, lk, hcd⟩ := F.ex
  exact .all (h kV doc pm an cdv ct)
theorem fund_mk {x qual : Str} {st : Stmt} {dV : Value} {f : Addr} {oc : Value} {od an : Option Addr} {osl : Array (Option Value)} {kV doc pm cdv ct : Value} (l : K.lookup f = some ⟨oc, od, .func (PySem.W.fnOf x qual (defArgs st) (defBody st) (defScope st) dV kV doc pm an cdv ct), osl⟩)
    (c : PySem.W.codeIn K cdv qual = true) (k : PySem.W.keepIn K (.ref f) = true) : FunD K x qual st dV f (PySem.W.fnOf x qual (defArgs st) (defBody st) (defScope st) dV kV doc pm an cdv ct) := ⟨⟨oc, od, kV, doc, pm, an, cdv, ct, osl, rfl, l, c⟩, k⟩
end

end Pr
/-! ### the text by places -/
namespace Pr
open PySem PySem.Spec L2
open PyProof.Rows hiding St
def top (i : Nat) : Stmt := PySem.Challenge.pw_oneleader_s01_answers.main.body.getD i (.Pass ⟨0, 0, 0, 0⟩)
abbrev st_m_init : Stmt := inClass (top 5) 0
abbrev st_r_init : Stmt := inClass (top 11) 0
abbrev st_r_forget : Stmt := inClass (top 11) 1
abbrev st_r_others : Stmt := inClass (top 11) 2
abbrev st_r_more_than_half : Stmt := inClass (top 11) 3
abbrev st_r_term_of_entry : Stmt := inClass (top 11) 4
abbrev st_r_last_term : Stmt := inClass (top 11) 5
abbrev st_r_has_newer_log : Stmt := inClass (top 11) 6
abbrev st_r_stand : Stmt := inClass (top 11) 7
abbrev st_r_ask_for_vote : Stmt := inClass (top 11) 8
abbrev st_r_propose : Stmt := inClass (top 11) 9
abbrev st_r_beat : Stmt := inClass (top 11) 10
abbrev st_r_send_entries : Stmt := inClass (top 11) 11
abbrev st_r_hear : Stmt := inClass (top 11) 12
abbrev st_r_enter_term : Stmt := inClass (top 11) 13
abbrev st_r_follow : Stmt := inClass (top 11) 14
abbrev st_r_reply : Stmt := inClass (top 11) 15
abbrev st_r_hear_vote_for_me : Stmt := inClass (top 11) 16
abbrev st_r_hear_about_vote : Stmt := inClass (top 11) 17
abbrev st_r_lead : Stmt := inClass (top 11) 18
abbrev st_r_hear_have_these : Stmt := inClass (top 11) 19
abbrev st_r_take_entries : Stmt := inClass (top 11) 20
abbrev st_r_hear_about_entries : Stmt := inClass (top 11) 21
abbrev st_r_settle : Stmt := inClass (top 11) 22
abbrev st_r_how_many_have : Stmt := inClass (top 11) 23
abbrev st_c_begin : Stmt := top 21
abbrev st_c_stand : Stmt := top 22
abbrev st_c_propose : Stmt := top 23
abbrev st_c_beat : Stmt := top 24
abbrev st_c_deliver : Stmt := top 25
abbrev st_c_lose : Stmt := top 26
abbrev st_c_copy : Stmt := top 27
abbrev st_c_crash : Stmt := top 28
abbrev st_c_look : Stmt := top 29
abbrev st_c_log : Stmt := top 30
abbrev st_c_settled : Stmt := top 31
abbrev st_c_net : Stmt := top 32
abbrev st_c_message : Stmt := top 33
abbrev st_c_with_lists : Stmt := top 34
abbrev st_c_tell_entries : Stmt := top 35
abbrev st_c_terms_and_values : Stmt := top 36
abbrev st_c_how_many_numbers : Stmt := top 40
abbrev st_c_answer : Stmt := top 41
abbrev st_s_init : Stmt := inClass (top 44) 0
abbrev st_s_start : Stmt := inClass (top 44) 1
abbrev st_s_has_replica : Stmt := inClass (top 44) 2
abbrev st_s_has_room_for : Stmt := inClass (top 44) 3
abbrev st_s_how_many_others : Stmt := inClass (top 44) 4
abbrev st_s_say : Stmt := inClass (top 44) 5
abbrev st_s_say_all : Stmt := inClass (top 44) 6
abbrev st_c_answers : Stmt := top 46
theorem sc_m_init : FnScope ["self", "kind", "sender", "receiver", "term", "a", "b", "c", "entries"] ["self", "kind", "sender", "receiver", "term", "a", "b", "c", "entries"] (defScope st_m_init) := ⟨rfl, rfl, rfl, by decide +kernel, rfl, by decide +kernel, by decide +kernel⟩
theorem sc_r_init : FnScope ["self", "number", "n"] ["self", "number", "n"] (defScope st_r_init) := ⟨rfl, rfl, rfl, by decide +kernel, rfl, by decide +kernel, by decide +kernel⟩
theorem sc_r_forget : FnScope ["self"] ["self"] (defScope st_r_forget) := ⟨rfl, rfl, rfl, by decide +kernel, rfl, by decide +kernel, by decide +kernel⟩
theorem sc_r_others : FnScope ["self", "j"] ["self"] (defScope st_r_others) := ⟨rfl, rfl, rfl, by decide +kernel, rfl, by decide +kernel, by decide +kernel⟩
theorem sc_r_more_than_half : FnScope ["self", "k"] ["self", "k"] (defScope st_r_more_than_half) := ⟨rfl, rfl, rfl, by decide +kernel, rfl, by decide +kernel, by decide +kernel⟩
theorem sc_r_term_of_entry : FnScope ["self", "k"] ["self", "k"] (defScope st_r_term_of_entry) := ⟨rfl, rfl, rfl, by decide +kernel, rfl, by decide +kernel, by decide +kernel⟩
theorem sc_r_last_term : FnScope ["self"] ["self"] (defScope st_r_last_term) := ⟨rfl, rfl, rfl, by decide +kernel, rfl, by decide +kernel, by decide +kernel⟩
theorem sc_r_has_newer_log : FnScope ["self", "length", "term", "own"] ["self", "length", "term"] (defScope st_r_has_newer_log) := ⟨rfl, rfl, rfl, by decide +kernel, rfl, by decide +kernel, by decide +kernel⟩
theorem sc_r_stand : FnScope ["self", "j"] ["self"] (defScope st_r_stand) := ⟨rfl, rfl, rfl, by decide +kernel, rfl, by decide +kernel, by decide +kernel⟩
theorem sc_r_ask_for_vote : FnScope ["self", "j"] ["self", "j"] (defScope st_r_ask_for_vote) := ⟨rfl, rfl, rfl, by decide +kernel, rfl, by decide +kernel, by decide +kernel⟩
theorem sc_r_propose : FnScope ["self", "value"] ["self", "value"] (defScope st_r_propose) := ⟨rfl, rfl, rfl, by decide +kernel, rfl, by decide +kernel, by decide +kernel⟩
theorem sc_r_beat : FnScope ["self", "j"] ["self"] (defScope st_r_beat) := ⟨rfl, rfl, rfl, by decide +kernel, rfl, by decide +kernel, by decide +kernel⟩
theorem sc_r_send_entries : FnScope ["self", "j", "a", "entries"] ["self", "j"] (defScope st_r_send_entries) := ⟨rfl, rfl, rfl, by decide +kernel, rfl, by decide +kernel, by decide +kernel⟩
theorem sc_r_hear : FnScope ["self", "message"] ["self", "message"] (defScope st_r_hear) := ⟨rfl, rfl, rfl, by decide +kernel, rfl, by decide +kernel, by decide +kernel⟩
theorem sc_r_enter_term : FnScope ["self", "term"] ["self", "term"] (defScope st_r_enter_term) := ⟨rfl, rfl, rfl, by decide +kernel, rfl, by decide +kernel, by decide +kernel⟩
theorem sc_r_follow : FnScope ["self"] ["self"] (defScope st_r_follow) := ⟨rfl, rfl, rfl, by decide +kernel, rfl, by decide +kernel, by decide +kernel⟩
theorem sc_r_reply : FnScope ["self", "message", "kind", "a", "b"] ["self", "message", "kind", "a", "b"] (defScope st_r_reply) := ⟨rfl, rfl, rfl, by decide +kernel, rfl, by decide +kernel, by decide +kernel⟩
theorem sc_r_hear_vote_for_me : FnScope ["self", "message", "asker"] ["self", "message"] (defScope st_r_hear_vote_for_me) := ⟨rfl, rfl, rfl, by decide +kernel, rfl, by decide +kernel, by decide +kernel⟩
theorem sc_r_hear_about_vote : FnScope ["self", "message"] ["self", "message"] (defScope st_r_hear_about_vote) := ⟨rfl, rfl, rfl, by decide +kernel, rfl, by decide +kernel, by decide +kernel⟩
theorem sc_r_lead : FnScope ["self"] ["self"] (defScope st_r_lead) := ⟨rfl, rfl, rfl, by decide +kernel, rfl, by decide +kernel, by decide +kernel⟩
theorem sc_r_hear_have_these : FnScope ["self", "message", "k"] ["self", "message"] (defScope st_r_hear_have_these) := ⟨rfl, rfl, rfl, by decide +kernel, rfl, by decide +kernel, by decide +kernel⟩
theorem sc_r_take_entries : FnScope ["self", "a", "entries", "place", "entry"] ["self", "a", "entries"] (defScope st_r_take_entries) := ⟨rfl, rfl, rfl, by decide +kernel, rfl, by decide +kernel, by decide +kernel⟩
theorem sc_r_hear_about_entries : FnScope ["self", "message", "j"] ["self", "message"] (defScope st_r_hear_about_entries) := ⟨rfl, rfl, rfl, by decide +kernel, rfl, by decide +kernel, by decide +kernel⟩
theorem sc_r_settle : FnScope ["self", "k"] ["self"] (defScope st_r_settle) := ⟨rfl, rfl, rfl, by decide +kernel, rfl, by decide +kernel, by decide +kernel⟩
theorem sc_r_how_many_have : FnScope ["self", "k", "j"] ["self", "k"] (defScope st_r_how_many_have) := ⟨rfl, rfl, rfl, by decide +kernel, rfl, by decide +kernel, by decide +kernel⟩
theorem sc_c_begin : FnScope ["state", "n"] ["state", "n"] (defScope st_c_begin) := ⟨rfl, rfl, rfl, by decide +kernel, rfl, by decide +kernel, by decide +kernel⟩
theorem sc_c_stand : FnScope ["state", "i", "replica"] ["state", "i"] (defScope st_c_stand) := ⟨rfl, rfl, rfl, by decide +kernel, rfl, by decide +kernel, by decide +kernel⟩
theorem sc_c_propose : FnScope ["state", "i", "v", "replica"] ["state", "i", "v"] (defScope st_c_propose) := ⟨rfl, rfl, rfl, by decide +kernel, rfl, by decide +kernel, by decide +kernel⟩
theorem sc_c_beat : FnScope ["state", "i", "replica"] ["state", "i"] (defScope st_c_beat) := ⟨rfl, rfl, rfl, by decide +kernel, rfl, by decide +kernel, by decide +kernel⟩
theorem sc_c_deliver : FnScope ["state", "m", "heard"] ["state", "m"] (defScope st_c_deliver) := ⟨rfl, rfl, rfl, by decide +kernel, rfl, by decide +kernel, by decide +kernel⟩
theorem sc_c_lose : FnScope ["state", "m"] ["state", "m"] (defScope st_c_lose) := ⟨rfl, rfl, rfl, by decide +kernel, rfl, by decide +kernel, by decide +kernel⟩
theorem sc_c_copy : FnScope ["state", "m"] ["state", "m"] (defScope st_c_copy) := ⟨rfl, rfl, rfl, by decide +kernel, rfl, by decide +kernel, by decide +kernel⟩
theorem sc_c_crash : FnScope ["state", "i"] ["state", "i"] (defScope st_c_crash) := ⟨rfl, rfl, rfl, by decide +kernel, rfl, by decide +kernel, by decide +kernel⟩
theorem sc_c_look : FnScope ["state", "i", "replica", "first", "lists"] ["state", "i"] (defScope st_c_look) := ⟨rfl, rfl, rfl, by decide +kernel, rfl, by decide +kernel, by decide +kernel⟩
theorem sc_c_log : FnScope ["state", "i"] ["state", "i"] (defScope st_c_log) := ⟨rfl, rfl, rfl, by decide +kernel, rfl, by decide +kernel, by decide +kernel⟩
theorem sc_c_settled : FnScope ["state", "i", "replica"] ["state", "i"] (defScope st_c_settled) := ⟨rfl, rfl, rfl, by decide +kernel, rfl, by decide +kernel, by decide +kernel⟩
theorem sc_c_net : FnScope ["state"] ["state"] (defScope st_c_net) := ⟨rfl, rfl, rfl, by decide +kernel, rfl, by decide +kernel, by decide +kernel⟩
theorem sc_c_message : FnScope ["state", "m", "said", "first"] ["state", "m"] (defScope st_c_message) := ⟨rfl, rfl, rfl, by decide +kernel, rfl, by decide +kernel, by decide +kernel⟩
theorem sc_c_with_lists : FnScope ["number", "lists", "numbers", "row"] ["number", "lists"] (defScope st_c_with_lists) := ⟨rfl, rfl, rfl, by decide +kernel, rfl, by decide +kernel, by decide +kernel⟩
theorem sc_c_tell_entries : FnScope ["entries"] ["entries"] (defScope st_c_tell_entries) := ⟨rfl, rfl, rfl, by decide +kernel, rfl, by decide +kernel, by decide +kernel⟩
theorem sc_c_terms_and_values : FnScope ["entries", "numbers", "entry"] ["entries"] (defScope st_c_terms_and_values) := ⟨rfl, rfl, rfl, by decide +kernel, rfl, by decide +kernel, by decide +kernel⟩
theorem sc_c_how_many_numbers : FnScope ["call"] ["call"] (defScope st_c_how_many_numbers) := ⟨rfl, rfl, rfl, by decide +kernel, rfl, by decide +kernel, by decide +kernel⟩
theorem sc_c_answer : FnScope ["state", "call", "numbers"] ["state", "call", "numbers"] (defScope st_c_answer) := ⟨rfl, rfl, rfl, by decide +kernel, rfl, by decide +kernel, by decide +kernel⟩
theorem sc_s_init : FnScope ["self"] ["self"] (defScope st_s_init) := ⟨rfl, rfl, rfl, by decide +kernel, rfl, by decide +kernel, by decide +kernel⟩
theorem sc_s_start : FnScope ["self", "n", "i"] ["self", "n"] (defScope st_s_start) := ⟨rfl, rfl, rfl, by decide +kernel, rfl, by decide +kernel, by decide +kernel⟩
theorem sc_s_has_replica : FnScope ["self", "i"] ["self", "i"] (defScope st_s_has_replica) := ⟨rfl, rfl, rfl, by decide +kernel, rfl, by decide +kernel, by decide +kernel⟩
theorem sc_s_has_room_for : FnScope ["self", "more"] ["self", "more"] (defScope st_s_has_room_for) := ⟨rfl, rfl, rfl, by decide +kernel, rfl, by decide +kernel, by decide +kernel⟩
theorem sc_s_how_many_others : FnScope ["self"] ["self"] (defScope st_s_how_many_others) := ⟨rfl, rfl, rfl, by decide +kernel, rfl, by decide +kernel, by decide +kernel⟩
theorem sc_s_say : FnScope ["self", "message", "number"] ["self", "message"] (defScope st_s_say) := ⟨rfl, rfl, rfl, by decide +kernel, rfl, by decide +kernel, by decide +kernel⟩
theorem sc_s_say_all : FnScope ["self", "messages", "message"] ["self", "messages"] (defScope st_s_say_all) := ⟨rfl, rfl, rfl, by decide +kernel, rfl, by decide +kernel, by decide +kernel⟩
theorem sc_c_answers : FnScope ["calls", "state", "told", "place", "behind", "numbers"] ["calls"] (defScope st_c_answers) := ⟨rfl, rfl, rfl, by decide +kernel, rfl, by decide +kernel, by decide +kernel⟩
/-! ### the facts of the text -/
structure Tx (K : PySem.W.Frag) (mg : Str → Option Value) : Type where
  CM : Addr
  cl_m : Cls K CM
  mg_m : mg "Message" = some (.ref CM)
  na_m_kind : NoAttr K CM "kind"
  na_m_sender : NoAttr K CM "sender"
  na_m_receiver : NoAttr K CM "receiver"
  na_m_term : NoAttr K CM "term"
  na_m_a : NoAttr K CM "a"
  na_m_b : NoAttr K CM "b"
  na_m_c : NoAttr K CM "c"
  na_m_entries : NoAttr K CM "entries"
  CR : Addr
  cl_r : Cls K CR
  mg_r : mg "Replica" = some (.ref CR)
  na_r_number : NoAttr K CR "number"
  na_r_n : NoAttr K CR "n"
  na_r_term : NoAttr K CR "term"
  na_r_vote : NoAttr K CR "vote"
  na_r_log : NoAttr K CR "log"
  na_r_settled : NoAttr K CR "settled"
  na_r_next_entry : NoAttr K CR "next_entry"
  na_r_same : NoAttr K CR "same"
  na_r_role : NoAttr K CR "role"
  na_r_voters : NoAttr K CR "voters"
  CS : Addr
  cl_s : Cls K CS
  mg_s : mg "State" = some (.ref CS)
  na_s_replicas : NoAttr K CS "replicas"
  na_s_under_way : NoAttr K CS "under_way"
  na_s_next_number : NoAttr K CS "next_number"
  a_m_init : Addr
  d_m_init : FuncData
  v_m_init : Value
  F_m_init : FunD K "__init__" "Message.__init__" st_m_init v_m_init a_m_init d_m_init
  B_m_init : Binds K d_m_init ["self", "kind", "sender", "receiver", "term", "a", "b", "c", "entries"] []
  K_m_init : Mk K CM a_m_init
  a_r_init : Addr
  d_r_init : FuncData
  F_r_init : FunD K "__init__" "Replica.__init__" st_r_init .none a_r_init d_r_init
  B_r_init : Binds K d_r_init ["self", "number", "n"] []
  K_r_init : Mk K CR a_r_init
  a_r_forget : Addr
  d_r_forget : FuncData
  F_r_forget : FunD K "forget" "Replica.forget" st_r_forget .none a_r_forget d_r_forget
  B_r_forget : Binds K d_r_forget ["self"] []
  M_r_forget : Meth K CR "forget" a_r_forget
  a_r_others : Addr
  d_r_others : FuncData
  F_r_others : FunD K "others" "Replica.others" st_r_others .none a_r_others d_r_others
  B_r_others : Binds K d_r_others ["self"] []
  M_r_others : Meth K CR "others" a_r_others
  a_r_more_than_half : Addr
  d_r_more_than_half : FuncData
  F_r_more_than_half : FunD K "more_than_half" "Replica.more_than_half" st_r_more_than_half .none a_r_more_than_half d_r_more_than_half
  B_r_more_than_half : Binds K d_r_more_than_half ["self", "k"] []
  M_r_more_than_half : Meth K CR "more_than_half" a_r_more_than_half
  a_r_term_of_entry : Addr
  d_r_term_of_entry : FuncData
  F_r_term_of_entry : FunD K "term_of_entry" "Replica.term_of_entry" st_r_term_of_entry .none a_r_term_of_entry d_r_term_of_entry
  B_r_term_of_entry : Binds K d_r_term_of_entry ["self", "k"] []
  M_r_term_of_entry : Meth K CR "term_of_entry" a_r_term_of_entry
  a_r_last_term : Addr
  d_r_last_term : FuncData
  F_r_last_term : FunD K "last_term" "Replica.last_term" st_r_last_term .none a_r_last_term d_r_last_term
  B_r_last_term : Binds K d_r_last_term ["self"] []
  M_r_last_term : Meth K CR "last_term" a_r_last_term
  a_r_has_newer_log : Addr
  d_r_has_newer_log : FuncData
  F_r_has_newer_log : FunD K "has_newer_log" "Replica.has_newer_log" st_r_has_newer_log .none a_r_has_newer_log d_r_has_newer_log
  B_r_has_newer_log : Binds K d_r_has_newer_log ["self", "length", "term"] []
  M_r_has_newer_log : Meth K CR "has_newer_log" a_r_has_newer_log
  a_r_stand : Addr
  d_r_stand : FuncData
  F_r_stand : FunD K "stand" "Replica.stand" st_r_stand .none a_r_stand d_r_stand
  B_r_stand : Binds K d_r_stand ["self"] []
  M_r_stand : Meth K CR "stand" a_r_stand
  a_r_ask_for_vote : Addr
  d_r_ask_for_vote : FuncData
  F_r_ask_for_vote : FunD K "ask_for_vote" "Replica.ask_for_vote" st_r_ask_for_vote .none a_r_ask_for_vote d_r_ask_for_vote
  B_r_ask_for_vote : Binds K d_r_ask_for_vote ["self", "j"] []
  M_r_ask_for_vote : Meth K CR "ask_for_vote" a_r_ask_for_vote
  a_r_propose : Addr
  d_r_propose : FuncData
  F_r_propose : FunD K "propose" "Replica.propose" st_r_propose .none a_r_propose d_r_propose
  B_r_propose : Binds K d_r_propose ["self", "value"] []
  M_r_propose : Meth K CR "propose" a_r_propose
  a_r_beat : Addr
  d_r_beat : FuncData
  F_r_beat : FunD K "beat" "Replica.beat" st_r_beat .none a_r_beat d_r_beat
  B_r_beat : Binds K d_r_beat ["self"] []
  M_r_beat : Meth K CR "beat" a_r_beat
  a_r_send_entries : Addr
  d_r_send_entries : FuncData
  F_r_send_entries : FunD K "send_entries" "Replica.send_entries" st_r_send_entries .none a_r_send_entries d_r_send_entries
  B_r_send_entries : Binds K d_r_send_entries ["self", "j"] []
  M_r_send_entries : Meth K CR "send_entries" a_r_send_entries
  a_r_hear : Addr
  d_r_hear : FuncData
  F_r_hear : FunD K "hear" "Replica.hear" st_r_hear .none a_r_hear d_r_hear
  B_r_hear : Binds K d_r_hear ["self", "message"] []
  M_r_hear : Meth K CR "hear" a_r_hear
  a_r_enter_term : Addr
  d_r_enter_term : FuncData
  F_r_enter_term : FunD K "enter_term" "Replica.enter_term" st_r_enter_term .none a_r_enter_term d_r_enter_term
  B_r_enter_term : Binds K d_r_enter_term ["self", "term"] []
  M_r_enter_term : Meth K CR "enter_term" a_r_enter_term
  a_r_follow : Addr
  d_r_follow : FuncData
  F_r_follow : FunD K "follow" "Replica.follow" st_r_follow .none a_r_follow d_r_follow
  B_r_follow : Binds K d_r_follow ["self"] []
  M_r_follow : Meth K CR "follow" a_r_follow
  a_r_reply : Addr
  d_r_reply : FuncData
  v_r_reply : Value
  F_r_reply : FunD K "reply" "Replica.reply" st_r_reply v_r_reply a_r_reply d_r_reply
  B_r_reply : Binds K d_r_reply ["self", "message", "kind", "a", "b"] []
  M_r_reply : Meth K CR "reply" a_r_reply
  a_r_hear_vote_for_me : Addr
  d_r_hear_vote_for_me : FuncData
  F_r_hear_vote_for_me : FunD K "hear_vote_for_me" "Replica.hear_vote_for_me" st_r_hear_vote_for_me .none a_r_hear_vote_for_me d_r_hear_vote_for_me
  B_r_hear_vote_for_me : Binds K d_r_hear_vote_for_me ["self", "message"] []
  M_r_hear_vote_for_me : Meth K CR "hear_vote_for_me" a_r_hear_vote_for_me
  a_r_hear_about_vote : Addr
  d_r_hear_about_vote : FuncData
  F_r_hear_about_vote : FunD K "hear_about_vote" "Replica.hear_about_vote" st_r_hear_about_vote .none a_r_hear_about_vote d_r_hear_about_vote
  B_r_hear_about_vote : Binds K d_r_hear_about_vote ["self", "message"] []
  M_r_hear_about_vote : Meth K CR "hear_about_vote" a_r_hear_about_vote
  a_r_lead : Addr
  d_r_lead : FuncData
  F_r_lead : FunD K "lead" "Replica.lead" st_r_lead .none a_r_lead d_r_lead
  B_r_lead : Binds K d_r_lead ["self"] []
  M_r_lead : Meth K CR "lead" a_r_lead
  a_r_hear_have_these : Addr
  d_r_hear_have_these : FuncData
  F_r_hear_have_these : FunD K "hear_have_these" "Replica.hear_have_these" st_r_hear_have_these .none a_r_hear_have_these d_r_hear_have_these
  B_r_hear_have_these : Binds K d_r_hear_have_these ["self", "message"] []
  M_r_hear_have_these : Meth K CR "hear_have_these" a_r_hear_have_these
  a_r_take_entries : Addr
  d_r_take_entries : FuncData
  F_r_take_entries : FunD K "take_entries" "Replica.take_entries" st_r_take_entries .none a_r_take_entries d_r_take_entries
  B_r_take_entries : Binds K d_r_take_entries ["self", "a", "entries"] []
  M_r_take_entries : Meth K CR "take_entries" a_r_take_entries
  a_r_hear_about_entries : Addr
  d_r_hear_about_entries : FuncData
  F_r_hear_about_entries : FunD K "hear_about_entries" "Replica.hear_about_entries" st_r_hear_about_entries .none a_r_hear_about_entries d_r_hear_about_entries
  B_r_hear_about_entries : Binds K d_r_hear_about_entries ["self", "message"] []
  M_r_hear_about_entries : Meth K CR "hear_about_entries" a_r_hear_about_entries
  a_r_settle : Addr
  d_r_settle : FuncData
  F_r_settle : FunD K "settle" "Replica.settle" st_r_settle .none a_r_settle d_r_settle
  B_r_settle : Binds K d_r_settle ["self"] []
  M_r_settle : Meth K CR "settle" a_r_settle
  a_r_how_many_have : Addr
  d_r_how_many_have : FuncData
  F_r_how_many_have : FunD K "how_many_have" "Replica.how_many_have" st_r_how_many_have .none a_r_how_many_have d_r_how_many_have
  B_r_how_many_have : Binds K d_r_how_many_have ["self", "k"] []
  M_r_how_many_have : Meth K CR "how_many_have" a_r_how_many_have
  a_c_begin : Addr
  d_c_begin : FuncData
  F_c_begin : FunD K "begin" "begin" st_c_begin .none a_c_begin d_c_begin
  B_c_begin : Binds K d_c_begin ["state", "n"] []
  G_c_begin : mg "begin" = some (.ref a_c_begin)
  a_c_stand : Addr
  d_c_stand : FuncData
  F_c_stand : FunD K "stand" "stand" st_c_stand .none a_c_stand d_c_stand
  B_c_stand : Binds K d_c_stand ["state", "i"] []
  G_c_stand : mg "stand" = some (.ref a_c_stand)
  a_c_propose : Addr
  d_c_propose : FuncData
  F_c_propose : FunD K "propose" "propose" st_c_propose .none a_c_propose d_c_propose
  B_c_propose : Binds K d_c_propose ["state", "i", "v"] []
  G_c_propose : mg "propose" = some (.ref a_c_propose)
  a_c_beat : Addr
  d_c_beat : FuncData
  F_c_beat : FunD K "beat" "beat" st_c_beat .none a_c_beat d_c_beat
  B_c_beat : Binds K d_c_beat ["state", "i"] []
  G_c_beat : mg "beat" = some (.ref a_c_beat)
  a_c_deliver : Addr
  d_c_deliver : FuncData
  F_c_deliver : FunD K "deliver" "deliver" st_c_deliver .none a_c_deliver d_c_deliver
  B_c_deliver : Binds K d_c_deliver ["state", "m"] []
  G_c_deliver : mg "deliver" = some (.ref a_c_deliver)
  a_c_lose : Addr
  d_c_lose : FuncData
  F_c_lose : FunD K "lose" "lose" st_c_lose .none a_c_lose d_c_lose
  B_c_lose : Binds K d_c_lose ["state", "m"] []
  G_c_lose : mg "lose" = some (.ref a_c_lose)
  a_c_copy : Addr
  d_c_copy : FuncData
  F_c_copy : FunD K "copy" "copy" st_c_copy .none a_c_copy d_c_copy
  B_c_copy : Binds K d_c_copy ["state", "m"] []
  G_c_copy : mg "copy" = some (.ref a_c_copy)
  a_c_crash : Addr
  d_c_crash : FuncData
  F_c_crash : FunD K "crash" "crash" st_c_crash .none a_c_crash d_c_crash
  B_c_crash : Binds K d_c_crash ["state", "i"] []
  G_c_crash : mg "crash" = some (.ref a_c_crash)
  a_c_look : Addr
  d_c_look : FuncData
  F_c_look : FunD K "look" "look" st_c_look .none a_c_look d_c_look
  B_c_look : Binds K d_c_look ["state", "i"] []
  G_c_look : mg "look" = some (.ref a_c_look)
  a_c_log : Addr
  d_c_log : FuncData
  F_c_log : FunD K "log" "log" st_c_log .none a_c_log d_c_log
  B_c_log : Binds K d_c_log ["state", "i"] []
  G_c_log : mg "log" = some (.ref a_c_log)
  a_c_settled : Addr
  d_c_settled : FuncData
  F_c_settled : FunD K "settled" "settled" st_c_settled .none a_c_settled d_c_settled
  B_c_settled : Binds K d_c_settled ["state", "i"] []
  G_c_settled : mg "settled" = some (.ref a_c_settled)
  a_c_net : Addr
  d_c_net : FuncData
  F_c_net : FunD K "net" "net" st_c_net .none a_c_net d_c_net
  B_c_net : Binds K d_c_net ["state"] []
  G_c_net : mg "net" = some (.ref a_c_net)
  a_c_message : Addr
  d_c_message : FuncData
  F_c_message : FunD K "message" "message" st_c_message .none a_c_message d_c_message
  B_c_message : Binds K d_c_message ["state", "m"] []
  G_c_message : mg "message" = some (.ref a_c_message)
  a_c_with_lists : Addr
  d_c_with_lists : FuncData
  F_c_with_lists : FunD K "with_lists" "with_lists" st_c_with_lists .none a_c_with_lists d_c_with_lists
  B_c_with_lists : Binds K d_c_with_lists ["number", "lists"] []
  G_c_with_lists : mg "with_lists" = some (.ref a_c_with_lists)
  a_c_tell_entries : Addr
  d_c_tell_entries : FuncData
  F_c_tell_entries : FunD K "tell_entries" "tell_entries" st_c_tell_entries .none a_c_tell_entries d_c_tell_entries
  B_c_tell_entries : Binds K d_c_tell_entries ["entries"] []
  G_c_tell_entries : mg "tell_entries" = some (.ref a_c_tell_entries)
  a_c_terms_and_values : Addr
  d_c_terms_and_values : FuncData
  F_c_terms_and_values : FunD K "terms_and_values" "terms_and_values" st_c_terms_and_values .none a_c_terms_and_values d_c_terms_and_values
  B_c_terms_and_values : Binds K d_c_terms_and_values ["entries"] []
  G_c_terms_and_values : mg "terms_and_values" = some (.ref a_c_terms_and_values)
  a_c_how_many_numbers : Addr
  d_c_how_many_numbers : FuncData
  F_c_how_many_numbers : FunD K "how_many_numbers" "how_many_numbers" st_c_how_many_numbers .none a_c_how_many_numbers d_c_how_many_numbers
  B_c_how_many_numbers : Binds K d_c_how_many_numbers ["call"] []
  G_c_how_many_numbers : mg "how_many_numbers" = some (.ref a_c_how_many_numbers)
  a_c_answer : Addr
  d_c_answer : FuncData
  F_c_answer : FunD K "answer" "answer" st_c_answer .none a_c_answer d_c_answer
  B_c_answer : Binds K d_c_answer ["state", "call", "numbers"] []
  G_c_answer : mg "answer" = some (.ref a_c_answer)
  a_s_init : Addr
  d_s_init : FuncData
  F_s_init : FunD K "__init__" "State.__init__" st_s_init .none a_s_init d_s_init
  B_s_init : Binds K d_s_init ["self"] []
  K_s_init : Mk K CS a_s_init
  a_s_start : Addr
  d_s_start : FuncData
  F_s_start : FunD K "start" "State.start" st_s_start .none a_s_start d_s_start
  B_s_start : Binds K d_s_start ["self", "n"] []
  M_s_start : Meth K CS "start" a_s_start
  a_s_has_replica : Addr
  d_s_has_replica : FuncData
  F_s_has_replica : FunD K "has_replica" "State.has_replica" st_s_has_replica .none a_s_has_replica d_s_has_replica
  B_s_has_replica : Binds K d_s_has_replica ["self", "i"] []
  M_s_has_replica : Meth K CS "has_replica" a_s_has_replica
  a_s_has_room_for : Addr
  d_s_has_room_for : FuncData
  F_s_has_room_for : FunD K "has_room_for" "State.has_room_for" st_s_has_room_for .none a_s_has_room_for d_s_has_room_for
  B_s_has_room_for : Binds K d_s_has_room_for ["self", "more"] []
  M_s_has_room_for : Meth K CS "has_room_for" a_s_has_room_for
  a_s_how_many_others : Addr
  d_s_how_many_others : FuncData
  F_s_how_many_others : FunD K "how_many_others" "State.how_many_others" st_s_how_many_others .none a_s_how_many_others d_s_how_many_others
  B_s_how_many_others : Binds K d_s_how_many_others ["self"] []
  M_s_how_many_others : Meth K CS "how_many_others" a_s_how_many_others
  a_s_say : Addr
  d_s_say : FuncData
  F_s_say : FunD K "say" "State.say" st_s_say .none a_s_say d_s_say
  B_s_say : Binds K d_s_say ["self", "message"] []
  M_s_say : Meth K CS "say" a_s_say
  a_s_say_all : Addr
  d_s_say_all : FuncData
  F_s_say_all : FunD K "say_all" "State.say_all" st_s_say_all .none a_s_say_all d_s_say_all
  B_s_say_all : Binds K d_s_say_all ["self", "messages"] []
  M_s_say_all : Meth K CS "say_all" a_s_say_all
  a_c_answers : Addr
  d_c_answers : FuncData
  F_c_answers : FunD K "answers" "answers" st_c_answers .none a_c_answers d_c_answers
  B_c_answers : Binds K d_c_answers ["calls"] []
  G_c_answers : mg "answers" = some (.ref a_c_answers)
  g_VOTE_FOR_ME : GInt mg "VOTE_FOR_ME" 0
  g_ABOUT_VOTE : GInt mg "ABOUT_VOTE" 1
  g_HAVE_THESE : GInt mg "HAVE_THESE" 2
  g_ABOUT_ENTRIES : GInt mg "ABOUT_ENTRIES" 3
  g_FOLLOWS : GInt mg "FOLLOWS" 0
  g_STANDS : GInt mg "STANDS" 1
  g_LEADS : GInt mg "LEADS" 2
  g_MOST_ENTRIES_SENT : GInt mg "MOST_ENTRIES_SENT" 4
  g_BAD_NUMBER : GInt mg "BAD_NUMBER" (-1)
  g_NOT_IN_THIS_ROLE : GInt mg "NOT_IN_THIS_ROLE" (-3)
  g_NOT_THERE : GInt mg "NOT_THERE" (-4)
  g_NO_ROOM : GInt mg "NO_ROOM" (-6)
  g_MOST_VALUE : GInt mg "MOST_VALUE" 4294967295
  g_MOST_TERM : GInt mg "MOST_TERM" 65535
  g_MOST_ENTRIES : GInt mg "MOST_ENTRIES" 32
  g_MOST_UNDER_WAY : GInt mg "MOST_UNDER_WAY" 64
  b_len : mg "len" = none
  b_max : mg "max" = none
  b_enumerate : mg "enumerate" = none
  b_range : mg "range" = none
  b_tuple : mg "tuple" = none
  b_min : mg "min" = none
  b_list : mg "list" = none
end Pr
end

section
set_option Elab.async false
set_option linter.all false
set_option maxRecDepth 100000
set_option maxHeartbeats 2000000
namespace Pr
open PySem PySem.Spec L2
open PyProof.Rows hiding St
/-! ### attributes by places -/
theorem look_at : ∀ {fs : List (Str × V)} {ks : List Str} {f : Str} {i : Nat} {p : Str × V}, fs.map (·.1) = ks → ks.findIdx? (· == f) = some i → fs[i]? = some p → fs.lookup f = some p.2
  | [], ks, f, i, p, hk, hi, hv => by simp at hv
  | q :: fs, ks, f, i, p, hk, hi, hv => by
    subst hk
    rw [List.map_cons, List.findIdx?_cons] at hi
    rw [List.lookup_cons]
    by_cases e : q.1 = f
    · have e1 : (q.1 == f) = true := by rw [e]; exact beq_self_eq_true f
      have e2 : (f == q.1) = true := by rw [e]; exact beq_self_eq_true f
      rw [e1] at hi
      simp at hi
      subst hi
      have : q = p := by simpa using hv
      subst this
      rw [e2]
    · have e1 : (q.1 == f) = false := beq_eq_false_iff_ne.mpr e
      have e2 : (f == q.1) = false := beq_eq_false_iff_ne.mpr (Ne.symm e)
      rw [e1] at hi
      simp only [Bool.false_eq_true, if_false] at hi
      cases hj : (fs.map (·.1)).findIdx? (· == f) with
      | none => rw [hj] at hi; cases hi
      | some j =>
        rw [hj] at hi
        simp at hi
        subst hi
        rw [e2]
        exact look_at rfl hj (by simpa using hv)
theorem look_no : ∀ {fs : List (Str × V)} {ks : List Str} {f : Str}, fs.map (·.1) = ks → ks.findIdx? (· == f) = none → fs.lookup f = none
  | [], ks, f, hk, hi => rfl
  | q :: fs, ks, f, hk, hi => by
    subst hk
    rw [List.map_cons, List.findIdx?_cons] at hi
    rw [List.lookup_cons]
    by_cases e : q.1 = f
    · have e1 : (q.1 == f) = true := by rw [e]; exact beq_self_eq_true f
      rw [e1] at hi
      simp at hi
    · have e1 : (q.1 == f) = false := beq_eq_false_iff_ne.mpr e
      have e2 : (f == q.1) = false := beq_eq_false_iff_ne.mpr (Ne.symm e)
      rw [e1] at hi
      simp only [Bool.false_eq_true, if_false] at hi
      rw [e2]
      cases hj : (fs.map (·.1)).findIdx? (· == f) with
      | none => exact look_no rfl hj
      | some j => rw [hj] at hi; cases hi
theorem put_at : ∀ {fs : List (Str × V)} {ks : List Str} {f : Str} {v : V} {i : Nat}, fs.map (·.1) = ks → ks.findIdx? (· == f) = some i → putF f v fs = fs.set i (f, v)
  | [], ks, f, v, i, hk, hi => by subst hk; simp at hi
  | q :: fs, ks, f, v, i, hk, hi => by
    subst hk
    rw [List.map_cons, List.findIdx?_cons] at hi
    show (if q.1 = f then (q.1, v) :: fs else q :: putF f v fs) = _
    by_cases e : q.1 = f
    · have e1 : (q.1 == f) = true := by rw [e]; exact beq_self_eq_true f
      rw [e1] at hi
      simp at hi
      subst hi
      rw [if_pos e, e]
      rfl
    · have e1 : (q.1 == f) = false := beq_eq_false_iff_ne.mpr e
      rw [e1] at hi
      simp only [Bool.false_eq_true, if_false] at hi
      cases hj : (fs.map (·.1)).findIdx? (· == f) with
      | none => rw [hj] at hi; cases hi
      | some j =>
        rw [hj] at hi
        simp at hi
        subst hi
        rw [if_neg e, put_at rfl hj]
        rfl
theorem put_new : ∀ {fs : List (Str × V)} {ks : List Str} {f : Str} {v : V}, fs.map (·.1) = ks → ks.findIdx? (· == f) = none → putF f v fs = fs ++ [(f, v)]
  | [], ks, f, v, hk, hi => rfl
  | q :: fs, ks, f, v, hk, hi => by
    subst hk
    rw [List.map_cons, List.findIdx?_cons] at hi
    show (if q.1 = f then (q.1, v) :: fs else q :: putF f v fs) = _
    by_cases e : q.1 = f
    · have e1 : (q.1 == f) = true := by rw [e]; exact beq_self_eq_true f
      rw [e1] at hi
      simp at hi
    · have e1 : (q.1 == f) = false := beq_eq_false_iff_ne.mpr e
      rw [e1] at hi
      simp only [Bool.false_eq_true, if_false] at hi
      cases hj : (fs.map (·.1)).findIdx? (· == f) with
      | none => rw [if_neg e, put_new rfl hj]; rfl
      | some j => rw [hj] at hi; cases hi

/-! ### what a part of the program leaves as it was -/
structure Fr (H H' : Hp) (ws : List Addr) : Prop where
  kp : ∀ b o, H b = some o → b ∉ ws → H' b = some o
  tp : ∀ b xs, H b = some (.tup xs) → H' b = some (.tup xs)
  lv : ∀ b o, H b = some o → ∃ o', H' b = some o'
section
variable {H H1 H2 : Hp} {ws ws' : List Addr} {a : Addr} {o u : HO}
theorem Fr.refl : Fr H H ws := ⟨fun _ _ h _ => h, fun _ _ h => h, fun _ o h => ⟨o, h⟩⟩
theorem Fr.free (h : Fr H H1 ws) (n : H1 a = none) : H a = none := by
  cases e : H a with
  | none => rfl
  | some o =>
    obtain ⟨o', e'⟩ := h.lv a o e
    rw [n] at e'
    cases e'
theorem Fr.new (h : Fr H H1 ws) (n : H1 a = none) : Fr H (upd H1 a o) ws := by
  have hn := h.free n
  refine ⟨fun b v hb hw => ?_, fun b xs hb => ?_, fun b v hb => ?_⟩
  · rw [upd_ne (ne_of_none hb hn)]
    exact h.kp b v hb hw
  · rw [upd_ne (ne_of_none hb hn)]
    exact h.tp b xs hb
  · rw [upd_ne (ne_of_none hb hn)]
    exact h.lv b v hb
theorem Fr.put (h : Fr H H1 ws) (ha : a ∈ ws ∨ H a = none) (e : H1 a = some u) (hu : ∀ xs, u ≠ .tup xs) : Fr H (upd H1 a o) ws := by
  refine ⟨fun b v hb hw => ?_, fun b xs hb => ?_, fun b v hb => ?_⟩
  · have : b ≠ a := by
      rintro rfl
      rcases ha with q | q
      · exact hw q
      · rw [q] at hb; cases hb
    rw [upd_ne this]
    exact h.kp b v hb hw
  · have q := h.tp b xs hb
    have : b ≠ a := by
      rintro rfl
      rw [e] at q
      exact hu xs (Option.some.inj q)
    rw [upd_ne this]
    exact q
  · by_cases hb' : b = a
    · subst hb'
      exact ⟨o, upd_same⟩
    · rw [upd_ne hb']
      exact h.lv b v hb
theorem Fr.mono (h : Fr H H1 ws) (s : ∀ b ∈ ws, b ∈ ws' ∨ H b = none) : Fr H H1 ws' := by
  refine ⟨fun b v hb hw => h.kp b v hb fun q => ?_, h.tp, h.lv⟩
  rcases s b q with z | z
  · exact hw z
  · rw [z] at hb
    cases hb
theorem Fr.trans (h : Fr H H1 ws) (h' : Fr H1 H2 ws') (s : ∀ b ∈ ws', b ∈ ws ∨ H b = none) : Fr H H2 ws := by
  refine ⟨fun b v hb hw => ?_, fun b xs hb => h'.tp b xs (h.tp b xs hb), fun b v hb => ?_⟩
  · refine h'.kp b v (h.kp b v hb hw) fun q => ?_
    rcases s b q with z | z
    · exact hw z
    · rw [z] at hb; cases hb
  · obtain ⟨v', hv⟩ := h.lv b v hb
    exact h'.lv b v' hv
theorem Fr.trans0 (h : Fr H H1 ws) (h' : Fr H1 H2 []) : Fr H H2 ws := h.trans h' fun _ q => by cases q
theorem Fr.of0 (h : Fr H H1 []) : Fr H H1 ws := h.mono fun _ q => by cases q
end

/-! ### the program's data -/
def ni (l : List Nat) : List V := l.map fun (k : Nat) => V.int k
theorem ni_length (l : List Nat) : (ni l).length = l.length := by unfold ni; rw [List.length_map]
theorem ni_get {l : List Nat} {j k : Nat} (h : l[j]? = some k) : (ni l)[j]? = some (V.int k) := by
  unfold ni
  rw [List.getElem?_map, h]
  rfl
theorem ni_set (l : List Nat) (j k : Nat) : (ni l).set j (V.int k) = ni (l.set j k) := by
  unfold ni
  rw [List.map_set]
abbrev EntAt (H : Hp) (t : Addr) (e : Lead.Entry) : Prop := H t = some (.tup [.int e.term, .int e.value])
abbrev Ents (H : Hp) : List Addr → List Lead.Entry → Prop := Paired (EntAt H)
theorem Ents.fr {H H' : Hp} {ws : List Addr} {ts : List Addr} {es : List Lead.Entry} (h : Ents H ts es) (f : Fr H H' ws) : Ents H' ts es := Paired.mapP h fun _ _ q => f.tp _ _ q
theorem Ents.get {H : Hp} : ∀ {ts : List Addr} {es : List Lead.Entry} {i : Nat} {t : Addr}, Ents H ts es → ts[i]? = some t → ∃ e, es[i]? = some e ∧ EntAt H t e
  | _, _, _, _, .nil, h => by simp at h
  | _, _, 0, _, .cons r _, h => by simp at h; subst h; exact ⟨_, rfl, r⟩
  | _, _, i + 1, _, .cons _ q, h => by
    obtain ⟨e, h1, h2⟩ := Ents.get (i := i) q (by simpa using h)
    exact ⟨e, by simpa using h1, h2⟩
theorem Ents.get' {H : Hp} : ∀ {ts : List Addr} {es : List Lead.Entry} {i : Nat} {e : Lead.Entry}, Ents H ts es → es[i]? = some e → ∃ t, ts[i]? = some t ∧ EntAt H t e
  | _, _, _, _, .nil, h => by simp at h
  | _, _, 0, _, .cons r _, h => by simp at h; subst h; exact ⟨_, rfl, r⟩
  | _, _, i + 1, _, .cons _ q, h => by
    obtain ⟨e, h1, h2⟩ := Ents.get' (i := i) q (by simpa using h)
    exact ⟨e, by simpa using h1, h2⟩
theorem Ents.take {H : Hp} : ∀ {ts : List Addr} {es : List Lead.Entry} (n : Nat), Ents H ts es → Ents H (ts.take n) (es.take n)
  | _, _, 0, _ => .nil
  | _, _, _ + 1, .nil => .nil
  | _, _, n + 1, .cons r q => .cons r (Ents.take n q)
theorem Ents.drop {H : Hp} : ∀ {ts : List Addr} {es : List Lead.Entry} (n : Nat), Ents H ts es → Ents H (ts.drop n) (es.drop n)
  | _, _, 0, q => q
  | _, _, _ + 1, .nil => .nil
  | _, _, n + 1, .cons _ q => Ents.drop n q
theorem Ents.append {H : Hp} : ∀ {ts us : List Addr} {es fs : List Lead.Entry}, Ents H ts es → Ents H us fs → Ents H (ts ++ us) (es ++ fs)
  | _, _, _, _, .nil, q => q
  | _, _, _, _, .cons r q, q' => .cons r (Ents.append q q')

/-- a message's object -/
def mf (m : Lead.Message) (e : Addr) : List (Str × V) :=
  [("kind", .int m.kind), ("sender", .int m.from_), ("receiver", .int m.to_), ("term", .int m.term), ("a", .int m.a), ("b", .int m.b), ("c", .int m.c), ("entries", .ref e)]
def MsgAt (C : Addr) (H : Hp) (a : Addr) (m : Lead.Message) : Prop := ∃ dx e ts, H a = some (.ins C dx (mf m e)) ∧ H e = some (.tup (ts.map V.ref)) ∧ Ents H ts m.entries
theorem MsgAt.fr {C : Addr} {H H' : Hp} {ws : List Addr} {a : Addr} {m : Lead.Message} (h : MsgAt C H a m) (f : Fr H H' ws) (n : a ∉ ws) : MsgAt C H' a m := by
  obtain ⟨dx, e, ts, h1, h2, h3⟩ := h
  exact ⟨dx, e, ts, f.kp _ _ h1 n, f.tp _ _ h2, h3.fr f⟩

/-- where a replica's parts lie -/
structure RA where
  p : Addr
  lg : Addr
  vo : Addr
  ne : Addr
  sa : Addr
def own (r : RA) : List Addr := [r.p, r.lg, r.vo, r.ne, r.sa]
def rf (i n : Nat) (x : Lead.Node) (r : RA) : List (Str × V) :=
  [("number", .int i), ("n", .int n), ("term", .int x.term), ("vote", .int x.vote), ("log", .ref r.lg), ("role", .int x.role), ("voters", .ref r.vo), ("settled", .int x.settled), ("next_entry", .ref r.ne), ("same", .ref r.sa)]
structure RepAt (C : Addr) (H : Hp) (i n : Nat) (x : Lead.Node) (r : RA) : Prop where
  ins : ∃ dx, H r.p = some (.ins C dx (rf i n x r))
  lg : ∃ ts, H r.lg = some (.lst (ts.map V.ref)) ∧ Ents H ts x.log
  vo : H r.vo = some (.lst (ni x.votes))
  ne : H r.ne = some (.lst (ni x.next))
  sa : H r.sa = some (.lst (ni x.same))
  nd : (own r).Nodup
theorem RepAt.fr {C : Addr} {H H' : Hp} {ws : List Addr} {i n : Nat} {x : Lead.Node} {r : RA} (h : RepAt C H i n x r) (f : Fr H H' ws) (nw : ∀ a ∈ own r, a ∉ ws) : RepAt C H' i n x r := by
  obtain ⟨⟨dx, h1⟩, ⟨ts, h2, h2'⟩, h3, h4, h5, h6⟩ := h
  have w : ∀ a, a ∈ own r → a ∉ ws := nw
  exact ⟨⟨dx, f.kp _ _ h1 (w _ (by simp [own]))⟩, ⟨ts, f.kp _ _ h2 (w _ (by simp [own])), h2'.fr f⟩, f.kp _ _ h3 (w _ (by simp [own])), f.kp _ _ h4 (w _ (by simp [own])), f.kp _ _ h5 (w _ (by simp [own])), h6⟩
theorem RepAt.fr0 {C : Addr} {H H' : Hp} {i n : Nat} {x : Lead.Node} {r : RA} (h : RepAt C H i n x r) (f : Fr H H' []) : RepAt C H' i n x r := h.fr f fun _ _ q => by cases q
theorem RepAt.live {C : Addr} {H : Hp} {i n : Nat} {x : Lead.Node} {r : RA} (h : RepAt C H i n x r) : ∀ a ∈ own r, ∃ o, H a = some o := by
  obtain ⟨⟨dx, h1⟩, ⟨ts, h2, h2'⟩, h3, h4, h5, h6⟩ := h
  intro a ha
  simp only [own, List.mem_cons, List.not_mem_nil, or_false] at ha
  rcases ha with rfl | rfl | rfl | rfl | rfl
  · exact ⟨_, h1⟩
  · exact ⟨_, h2⟩
  · exact ⟨_, h3⟩
  · exact ⟨_, h4⟩
  · exact ⟨_, h5⟩
/-- a message's object is none of a replica's -/
theorem MsgAt.out {C C' : Addr} {H : Hp} {i n : Nat} {x : Lead.Node} {r : RA} {a : Addr} {m : Lead.Message} (h : MsgAt C H a m) (R : RepAt C' H i n x r) : a ∉ own r := by
  obtain ⟨dx, e, ts, h1, _, _⟩ := h
  obtain ⟨⟨dx', q1⟩, ⟨ts', q2, _⟩, q3, q4, q5, _⟩ := R
  intro ha
  simp only [own, List.mem_cons, List.not_mem_nil, or_false] at ha
  rcases ha with rfl | rfl | rfl | rfl | rfl
  · rw [q1] at h1
    have := (HO.ins.inj (Option.some.inj h1)).2.2
    have := congrArg List.length this
    simp [rf, mf] at this
  · rw [q2] at h1; cases h1
  · rw [q3] at h1; cases h1
  · rw [q4] at h1; cases h1
  · rw [q5] at h1; cases h1

/-- a replica has gone from one state to another -/
structure Mv (C : Addr) (H H' : Hp) (i n : Nat) (x' : Lead.Node) (r r' : RA) : Prop where
  rep : RepAt C H' i n x' r'
  p : r'.p = r.p
  ow : ∀ a ∈ own r', a ∈ own r ∨ H a = none
  fr : Fr H H' (own r)
theorem Mv.refl {C : Addr} {H : Hp} {i n : Nat} {x : Lead.Node} {r : RA} (h : RepAt C H i n x r) : Mv C H H i n x r r := ⟨h, rfl, fun _ q => .inl q, Fr.refl⟩
theorem Mv.trans {C : Addr} {H H1 H2 : Hp} {i n : Nat} {x1 x2 : Lead.Node} {r r1 r2 : RA} (a : Mv C H H1 i n x1 r r1) (b : Mv C H1 H2 i n x2 r1 r2) : Mv C H H2 i n x2 r r2 := by
  refine ⟨b.rep, b.p.trans a.p, fun c hc => ?_, a.fr.trans b.fr a.ow⟩
  rcases b.ow c hc with q | q
  · exact a.ow c q
  · exact .inr (a.fr.free q)
theorem Mv.new {C : Addr} {H H1 H2 : Hp} {i n : Nat} {x1 : Lead.Node} {r r1 : RA} (a : Mv C H H1 i n x1 r r1) (f : Fr H1 H2 []) : Mv C H H2 i n x1 r r1 := ⟨a.rep.fr0 f, a.p, a.ow, a.fr.trans0 f⟩
/-- a list of messages -/
def Said (C : Addr) (H : Hp) (l : Addr) (ms : List Lead.Message) : Prop := ∃ as : List Addr, H l = some (.lst (as.map V.ref)) ∧ Paired (MsgAt C H) as ms
end Pr
/-! ### a replica's parts, read and written -/
namespace Pr
open PySem PySem.Spec L2
open PyProof.Rows hiding St
theorem own_ne {r : RA} (h : (own r).Nodup) : r.p ≠ r.lg ∧ r.p ≠ r.vo ∧ r.p ≠ r.ne ∧ r.p ≠ r.sa ∧ r.lg ≠ r.vo ∧ r.lg ≠ r.ne ∧ r.lg ≠ r.sa ∧ r.vo ≠ r.ne ∧ r.vo ≠ r.sa ∧ r.ne ≠ r.sa := by
  simp only [own, List.nodup_cons, List.mem_cons, List.not_mem_nil, or_false, not_or] at h
  obtain ⟨⟨a1, a2, a3, a4⟩, ⟨b1, b2, b3⟩, ⟨c1, c2⟩, d1, _⟩ := h
  exact ⟨a1, a2, a3, a4, b1, b2, b3, c1, c2, d1⟩
theorem own_nd {r : RA} (h : r.p ≠ r.lg ∧ r.p ≠ r.vo ∧ r.p ≠ r.ne ∧ r.p ≠ r.sa ∧ r.lg ≠ r.vo ∧ r.lg ≠ r.ne ∧ r.lg ≠ r.sa ∧ r.vo ≠ r.ne ∧ r.vo ≠ r.sa ∧ r.ne ≠ r.sa) : (own r).Nodup := by
  obtain ⟨a1, a2, a3, a4, b1, b2, b3, c1, c2, d1⟩ := h
  simp only [own, List.nodup_cons, List.mem_cons, List.not_mem_nil, or_false, not_or]
  exact ⟨⟨a1, a2, a3, a4⟩, ⟨b1, b2, b3⟩, ⟨c1, c2⟩, d1, not_false, List.nodup_nil⟩
theorem mem_own {r : RA} {a : Addr} : a ∈ own r ↔ a = r.p ∨ a = r.lg ∨ a = r.vo ∨ a = r.ne ∨ a = r.sa := by
  simp only [own, List.mem_cons, List.not_mem_nil, or_false]
section
variable {C : Addr} {H0 H : Hp} {i n : Nat} {x : Lead.Node} {r0 r : RA}
/-- the instance is written -/
theorem Mv.ins (A : Mv C H0 H i n x r0 r) {x' : Lead.Node} {r' : RA} {dx : Addr} {fs : List (Str × V)} (hins : H r.p = some (.ins C dx fs)) (hp : r'.p = r.p) (ow : ∀ a ∈ own r', a ∈ own r0 ∨ H0 a = none) (nd : (own r').Nodup)
    (lg : ∃ ts, H r'.lg = some (.lst (ts.map V.ref)) ∧ Ents H ts x'.log) (vo : H r'.vo = some (.lst (ni x'.votes))) (ne : H r'.ne = some (.lst (ni x'.next))) (sa : H r'.sa = some (.lst (ni x'.same))) :
    Mv C H0 (upd H r.p (.ins C dx (rf i n x' r'))) i n x' r0 r' := by
  obtain ⟨a1, a2, a3, a4, _⟩ := own_ne nd
  rw [hp] at a1 a2 a3 a4
  have hr : r.p ∈ own r0 ∨ H0 r.p = none := .inl (by rw [A.p]; exact mem_own.mpr (.inl rfl))
  have f : Fr H (upd H r.p (.ins C dx (rf i n x' r'))) [r.p] := Fr.refl.put (.inl (by simp)) hins (fun _ q => by cases q)
  refine ⟨⟨⟨dx, by rw [hp]; exact upd_same⟩, ?_, ?_, ?_, ?_, nd⟩, hp.trans A.p, ow, A.fr.put hr hins (fun _ q => by cases q)⟩
  · obtain ⟨ts, h1, h2⟩ := lg
    exact ⟨ts, by rw [upd_ne (Ne.symm a1)]; exact h1, h2.fr f⟩
  · rw [upd_ne (Ne.symm a2)]; exact vo
  · rw [upd_ne (Ne.symm a3)]; exact ne
  · rw [upd_ne (Ne.symm a4)]; exact sa
theorem Mv.lists (A : Mv C H0 H i n x r0 r) {a : Addr} {ys zs : List V} (ha : a ∈ own r) (hl : H a = some (.lst ys)) : Fr H0 (upd H a (.lst zs)) (own r0) ∧ Fr H (upd H a (.lst zs)) [a] :=
  ⟨A.fr.put (A.ow a ha) hl (fun _ q => by cases q), Fr.refl.put (.inl (by simp)) hl (fun _ q => by cases q)⟩
theorem Mv.up_vo (A : Mv C H0 H i n x r0 r) (vs : List Nat) : Mv C H0 (upd H r.vo (.lst (ni vs))) i n { x with votes := vs } r0 r := by
  obtain ⟨⟨dx, h1⟩, ⟨ts, h2, h2'⟩, h3, h4, h5, h6⟩ := A.rep
  obtain ⟨a1, a2, a3, a4, b1, b2, b3, c1, c2, d1⟩ := own_ne h6
  obtain ⟨f1, f2⟩ := A.lists (zs := ni vs) (mem_own.mpr (.inr (.inr (.inl rfl)))) h3
  exact ⟨⟨⟨dx, by rw [upd_ne a2]; exact h1⟩, ⟨ts, by rw [upd_ne b1]; exact h2, h2'.fr f2⟩, upd_same, by rw [upd_ne (Ne.symm c1)]; exact h4, by rw [upd_ne (Ne.symm c2)]; exact h5, h6⟩, A.p, A.ow, f1⟩
theorem Mv.up_ne (A : Mv C H0 H i n x r0 r) (vs : List Nat) : Mv C H0 (upd H r.ne (.lst (ni vs))) i n { x with next := vs } r0 r := by
  obtain ⟨⟨dx, h1⟩, ⟨ts, h2, h2'⟩, h3, h4, h5, h6⟩ := A.rep
  obtain ⟨a1, a2, a3, a4, b1, b2, b3, c1, c2, d1⟩ := own_ne h6
  obtain ⟨f1, f2⟩ := A.lists (zs := ni vs) (mem_own.mpr (.inr (.inr (.inr (.inl rfl))))) h4
  exact ⟨⟨⟨dx, by rw [upd_ne a3]; exact h1⟩, ⟨ts, by rw [upd_ne b2]; exact h2, h2'.fr f2⟩, by rw [upd_ne c1]; exact h3, upd_same, by rw [upd_ne (Ne.symm d1)]; exact h5, h6⟩, A.p, A.ow, f1⟩
theorem Mv.up_sa (A : Mv C H0 H i n x r0 r) (vs : List Nat) : Mv C H0 (upd H r.sa (.lst (ni vs))) i n { x with same := vs } r0 r := by
  obtain ⟨⟨dx, h1⟩, ⟨ts, h2, h2'⟩, h3, h4, h5, h6⟩ := A.rep
  obtain ⟨a1, a2, a3, a4, b1, b2, b3, c1, c2, d1⟩ := own_ne h6
  obtain ⟨f1, f2⟩ := A.lists (zs := ni vs) (mem_own.mpr (.inr (.inr (.inr (.inr rfl))))) h5
  exact ⟨⟨⟨dx, by rw [upd_ne a4]; exact h1⟩, ⟨ts, by rw [upd_ne b3]; exact h2, h2'.fr f2⟩, by rw [upd_ne c2]; exact h3, by rw [upd_ne d1]; exact h4, upd_same, h6⟩, A.p, A.ow, f1⟩
theorem Mv.up_lg (A : Mv C H0 H i n x r0 r) {ts : List Addr} {es : Lead.Log} (h : Ents H ts es) : Mv C H0 (upd H r.lg (.lst (ts.map V.ref))) i n { x with log := es } r0 r := by
  obtain ⟨⟨dx, h1⟩, ⟨us, h2, h2'⟩, h3, h4, h5, h6⟩ := A.rep
  obtain ⟨a1, a2, a3, a4, b1, b2, b3, c1, c2, d1⟩ := own_ne h6
  obtain ⟨f1, f2⟩ := A.lists (zs := ts.map V.ref) (mem_own.mpr (.inr (.inl rfl))) h2
  exact ⟨⟨⟨dx, by rw [upd_ne a1]; exact h1⟩, ⟨ts, upd_same, h.fr f2⟩, by rw [upd_ne (Ne.symm b1)]; exact h3, by rw [upd_ne (Ne.symm b2)]; exact h4, by rw [upd_ne (Ne.symm b3)]; exact h5, h6⟩, A.p, A.ow, f1⟩
theorem Mv.nw (A : Mv C H0 H i n x r0 r) {a : Addr} {o : HO} (hn : H a = none) : Mv C H0 (upd H a o) i n x r0 r := A.new (Fr.refl.new hn)
end

def rkeys : List Str := ["number", "n", "term", "vote", "log", "role", "voters", "settled", "next_entry", "same"]
theorem rf_keys (i n : Nat) (x : Lead.Node) (r : RA) : (rf i n x r).map (·.1) = rkeys := rfl
def mkeys : List Str := ["kind", "sender", "receiver", "term", "a", "b", "c", "entries"]
theorem mf_keys (m : Lead.Message) (e : Addr) : (mf m e).map (·.1) = mkeys := rfl
section
variable {K : PySem.W.Frag} {mg : Str → Option Value} {H0 H : Hp} {i n s : Nat} {x : Lead.Node} {r0 r : RA} {σ : St} {Q : VK}
theorem f_number (T : Tx K mg) (R : RepAt T.CR H i n x r) (hσ : σ[s]? = some (some (.ref r.p))) (q : Q (.int i) H) : tFld K (tVar s) "number" σ H Q := by
  obtain ⟨dx, h1⟩ := R.ins
  exact ⟨_, hσ, r.p, T.CR, dx, _, _, rfl, h1, T.cl_r, T.na_r_number, look_at (i := 0) (rf_keys i n x r) (by decide +kernel) rfl, q⟩
theorem f_n (T : Tx K mg) (R : RepAt T.CR H i n x r) (hσ : σ[s]? = some (some (.ref r.p))) (q : Q (.int n) H) : tFld K (tVar s) "n" σ H Q := by
  obtain ⟨dx, h1⟩ := R.ins
  exact ⟨_, hσ, r.p, T.CR, dx, _, _, rfl, h1, T.cl_r, T.na_r_n, look_at (i := 1) (rf_keys i n x r) (by decide +kernel) rfl, q⟩
theorem f_term (T : Tx K mg) (R : RepAt T.CR H i n x r) (hσ : σ[s]? = some (some (.ref r.p))) (q : Q (.int x.term) H) : tFld K (tVar s) "term" σ H Q := by
  obtain ⟨dx, h1⟩ := R.ins
  exact ⟨_, hσ, r.p, T.CR, dx, _, _, rfl, h1, T.cl_r, T.na_r_term, look_at (i := 2) (rf_keys i n x r) (by decide +kernel) rfl, q⟩
theorem f_vote (T : Tx K mg) (R : RepAt T.CR H i n x r) (hσ : σ[s]? = some (some (.ref r.p))) (q : Q (.int x.vote) H) : tFld K (tVar s) "vote" σ H Q := by
  obtain ⟨dx, h1⟩ := R.ins
  exact ⟨_, hσ, r.p, T.CR, dx, _, _, rfl, h1, T.cl_r, T.na_r_vote, look_at (i := 3) (rf_keys i n x r) (by decide +kernel) rfl, q⟩
theorem f_log (T : Tx K mg) (R : RepAt T.CR H i n x r) (hσ : σ[s]? = some (some (.ref r.p))) (q : Q (.ref r.lg) H) : tFld K (tVar s) "log" σ H Q := by
  obtain ⟨dx, h1⟩ := R.ins
  exact ⟨_, hσ, r.p, T.CR, dx, _, _, rfl, h1, T.cl_r, T.na_r_log, look_at (i := 4) (rf_keys i n x r) (by decide +kernel) rfl, q⟩
theorem f_role (T : Tx K mg) (R : RepAt T.CR H i n x r) (hσ : σ[s]? = some (some (.ref r.p))) (q : Q (.int x.role) H) : tFld K (tVar s) "role" σ H Q := by
  obtain ⟨dx, h1⟩ := R.ins
  exact ⟨_, hσ, r.p, T.CR, dx, _, _, rfl, h1, T.cl_r, T.na_r_role, look_at (i := 5) (rf_keys i n x r) (by decide +kernel) rfl, q⟩
theorem f_settled (T : Tx K mg) (R : RepAt T.CR H i n x r) (hσ : σ[s]? = some (some (.ref r.p))) (q : Q (.int x.settled) H) : tFld K (tVar s) "settled" σ H Q := by
  obtain ⟨dx, h1⟩ := R.ins
  exact ⟨_, hσ, r.p, T.CR, dx, _, _, rfl, h1, T.cl_r, T.na_r_settled, look_at (i := 7) (rf_keys i n x r) (by decide +kernel) rfl, q⟩
theorem f_voters (T : Tx K mg) (R : RepAt T.CR H i n x r) (hσ : σ[s]? = some (some (.ref r.p))) (q : Q (.ref r.vo) H) : tFld K (tVar s) "voters" σ H Q := by
  obtain ⟨dx, h1⟩ := R.ins
  exact ⟨_, hσ, r.p, T.CR, dx, _, _, rfl, h1, T.cl_r, T.na_r_voters, look_at (i := 6) (rf_keys i n x r) (by decide +kernel) rfl, q⟩
theorem f_next_entry (T : Tx K mg) (R : RepAt T.CR H i n x r) (hσ : σ[s]? = some (some (.ref r.p))) (q : Q (.ref r.ne) H) : tFld K (tVar s) "next_entry" σ H Q := by
  obtain ⟨dx, h1⟩ := R.ins
  exact ⟨_, hσ, r.p, T.CR, dx, _, _, rfl, h1, T.cl_r, T.na_r_next_entry, look_at (i := 8) (rf_keys i n x r) (by decide +kernel) rfl, q⟩
theorem f_same (T : Tx K mg) (R : RepAt T.CR H i n x r) (hσ : σ[s]? = some (some (.ref r.p))) (q : Q (.ref r.sa) H) : tFld K (tVar s) "same" σ H Q := by
  obtain ⟨dx, h1⟩ := R.ins
  exact ⟨_, hσ, r.p, T.CR, dx, _, _, rfl, h1, T.cl_r, T.na_r_same, look_at (i := 9) (rf_keys i n x r) (by decide +kernel) rfl, q⟩
theorem g_kind (T : Tx K mg) {a : Addr} {m : Lead.Message} (R : MsgAt T.CM H a m) (hσ : σ[s]? = some (some (.ref a))) (q : Q (.int m.kind) H) : tFld K (tVar s) "kind" σ H Q := by
  obtain ⟨dx, e, ts, h1, _, _⟩ := R
  exact ⟨_, hσ, a, T.CM, dx, _, _, rfl, h1, T.cl_m, T.na_m_kind, look_at (i := 0) (mf_keys m e) (by decide +kernel) rfl, q⟩
theorem g_sender (T : Tx K mg) {a : Addr} {m : Lead.Message} (R : MsgAt T.CM H a m) (hσ : σ[s]? = some (some (.ref a))) (q : Q (.int m.from_) H) : tFld K (tVar s) "sender" σ H Q := by
  obtain ⟨dx, e, ts, h1, _, _⟩ := R
  exact ⟨_, hσ, a, T.CM, dx, _, _, rfl, h1, T.cl_m, T.na_m_sender, look_at (i := 1) (mf_keys m e) (by decide +kernel) rfl, q⟩
theorem g_receiver (T : Tx K mg) {a : Addr} {m : Lead.Message} (R : MsgAt T.CM H a m) (hσ : σ[s]? = some (some (.ref a))) (q : Q (.int m.to_) H) : tFld K (tVar s) "receiver" σ H Q := by
  obtain ⟨dx, e, ts, h1, _, _⟩ := R
  exact ⟨_, hσ, a, T.CM, dx, _, _, rfl, h1, T.cl_m, T.na_m_receiver, look_at (i := 2) (mf_keys m e) (by decide +kernel) rfl, q⟩
theorem g_term (T : Tx K mg) {a : Addr} {m : Lead.Message} (R : MsgAt T.CM H a m) (hσ : σ[s]? = some (some (.ref a))) (q : Q (.int m.term) H) : tFld K (tVar s) "term" σ H Q := by
  obtain ⟨dx, e, ts, h1, _, _⟩ := R
  exact ⟨_, hσ, a, T.CM, dx, _, _, rfl, h1, T.cl_m, T.na_m_term, look_at (i := 3) (mf_keys m e) (by decide +kernel) rfl, q⟩
theorem g_a (T : Tx K mg) {a : Addr} {m : Lead.Message} (R : MsgAt T.CM H a m) (hσ : σ[s]? = some (some (.ref a))) (q : Q (.int m.a) H) : tFld K (tVar s) "a" σ H Q := by
  obtain ⟨dx, e, ts, h1, _, _⟩ := R
  exact ⟨_, hσ, a, T.CM, dx, _, _, rfl, h1, T.cl_m, T.na_m_a, look_at (i := 4) (mf_keys m e) (by decide +kernel) rfl, q⟩
theorem g_b (T : Tx K mg) {a : Addr} {m : Lead.Message} (R : MsgAt T.CM H a m) (hσ : σ[s]? = some (some (.ref a))) (q : Q (.int m.b) H) : tFld K (tVar s) "b" σ H Q := by
  obtain ⟨dx, e, ts, h1, _, _⟩ := R
  exact ⟨_, hσ, a, T.CM, dx, _, _, rfl, h1, T.cl_m, T.na_m_b, look_at (i := 5) (mf_keys m e) (by decide +kernel) rfl, q⟩
theorem g_c (T : Tx K mg) {a : Addr} {m : Lead.Message} (R : MsgAt T.CM H a m) (hσ : σ[s]? = some (some (.ref a))) (q : Q (.int m.c) H) : tFld K (tVar s) "c" σ H Q := by
  obtain ⟨dx, e, ts, h1, _, _⟩ := R
  exact ⟨_, hσ, a, T.CM, dx, _, _, rfl, h1, T.cl_m, T.na_m_c, look_at (i := 6) (mf_keys m e) (by decide +kernel) rfl, q⟩
theorem g_entries (T : Tx K mg) {a : Addr} {m : Lead.Message} (R : MsgAt T.CM H a m) (hσ : σ[s]? = some (some (.ref a))) (q : ∀ e ts, H e = some (.tup (ts.map V.ref)) → Ents H ts m.entries → Q (.ref e) H) : tFld K (tVar s) "entries" σ H Q := by
  obtain ⟨dx, e, ts, h1, h2, h3⟩ := R
  exact ⟨_, hσ, a, T.CM, dx, _, _, rfl, h1, T.cl_m, T.na_m_entries, look_at (i := 7) (mf_keys m e) (by decide +kernel) rfl, q e ts h2 h3⟩
/-- self.f = y, a plain attribute -/
abbrev Wr (K : PySem.W.Frag) (s : Nat) (f : Str) (y : V) (D : Hp → Prop) (σ : St) (H : Hp) : Prop :=
  tVar s σ H fun v H2 => ∃ a C dx fs, v = .ref a ∧ H2 a = some (.ins C dx fs) ∧ Cls K C ∧ NoAttr K C f ∧ fs.length < 1000 ∧ D (upd H2 a (.ins C dx (putF f y fs)))
variable {D : Hp → Prop}
theorem w_ins (T : Tx K mg) (A : Mv T.CR H0 H i n x r0 r) {f : Str} {y : V} {j : Nat} {x' : Lead.Node} {r' : RA} (hσ : σ[s]? = some (some (.ref r.p))) (na : NoAttr K T.CR f) (hf : rkeys.findIdx? (· == f) = some j) (he : (rf i n x r).set j (f, y) = rf i n x' r')
    (hp : r'.p = r.p) (ow : ∀ a ∈ own r', a ∈ own r0 ∨ H0 a = none) (nd : (own r').Nodup)
    (lg : ∃ ts, H r'.lg = some (.lst (ts.map V.ref)) ∧ Ents H ts x'.log) (vo : H r'.vo = some (.lst (ni x'.votes))) (ne : H r'.ne = some (.lst (ni x'.next))) (sa : H r'.sa = some (.lst (ni x'.same)))
    (k : ∀ H', Mv T.CR H0 H' i n x' r0 r' → D H') : Wr K s f y D σ H := by
  obtain ⟨dx, h1⟩ := A.rep.ins
  refine ⟨_, hσ, r.p, T.CR, dx, _, rfl, h1, T.cl_r, na, (by show 10 < 1000; decide), ?_⟩
  rw [put_at (rf_keys i n x r) hf, he]
  exact k _ (A.ins h1 hp ow nd lg vo ne sa)
theorem w_term (T : Tx K mg) (A : Mv T.CR H0 H i n x r0 r) (v : Nat) (hσ : σ[s]? = some (some (.ref r.p))) (k : ∀ H', Mv T.CR H0 H' i n { x with term := v } r0 r → D H') : Wr K s "term" (.int v) D σ H :=
  w_ins T A hσ T.na_r_term (j := 2) (x' := { x with term := v }) (r' := r) (by decide +kernel) rfl rfl A.ow A.rep.nd A.rep.lg A.rep.vo A.rep.ne A.rep.sa k
theorem w_vote (T : Tx K mg) (A : Mv T.CR H0 H i n x r0 r) (v : Nat) (hσ : σ[s]? = some (some (.ref r.p))) (k : ∀ H', Mv T.CR H0 H' i n { x with vote := v } r0 r → D H') : Wr K s "vote" (.int v) D σ H :=
  w_ins T A hσ T.na_r_vote (j := 3) (x' := { x with vote := v }) (r' := r) (by decide +kernel) rfl rfl A.ow A.rep.nd A.rep.lg A.rep.vo A.rep.ne A.rep.sa k
theorem w_role (T : Tx K mg) (A : Mv T.CR H0 H i n x r0 r) (v : Nat) (hσ : σ[s]? = some (some (.ref r.p))) (k : ∀ H', Mv T.CR H0 H' i n { x with role := v } r0 r → D H') : Wr K s "role" (.int v) D σ H :=
  w_ins T A hσ T.na_r_role (j := 5) (x' := { x with role := v }) (r' := r) (by decide +kernel) rfl rfl A.ow A.rep.nd A.rep.lg A.rep.vo A.rep.ne A.rep.sa k
theorem w_settled (T : Tx K mg) (A : Mv T.CR H0 H i n x r0 r) (v : Nat) (hσ : σ[s]? = some (some (.ref r.p))) (k : ∀ H', Mv T.CR H0 H' i n { x with settled := v } r0 r → D H') : Wr K s "settled" (.int v) D σ H :=
  w_ins T A hσ T.na_r_settled (j := 7) (x' := { x with settled := v }) (r' := r) (by decide +kernel) rfl rfl A.ow A.rep.nd A.rep.lg A.rep.vo A.rep.ne A.rep.sa k
theorem w_new_ow (A : Mv C H0 H i n x r0 r) {l : Addr} (h0 : H0 l = none) (hl : l ∉ own r) : ∀ a, (a ∈ own r ∨ a = l) → a ∈ own r0 ∨ H0 a = none := fun a ha => by
  rcases ha with ha | rfl
  · exact A.ow a ha
  · exact .inr h0
theorem w_vo (T : Tx K mg) (A : Mv T.CR H0 H i n x r0 r) {l : Addr} {vs : List Nat} (hl : H l = some (.lst (ni vs))) (h0 : H0 l = none) (hn : l ∉ own r) (hσ : σ[s]? = some (some (.ref r.p)))
    (k : ∀ H', Mv T.CR H0 H' i n { x with votes := vs } r0 { r with vo := l } → D H') : Wr K s "voters" (.ref l) D σ H := by
  obtain ⟨a1, a2, a3, a4, b1, b2, b3, c1, c2, d1⟩ := own_ne A.rep.nd
  have e : ∀ a ∈ own r, a ≠ l := fun a ha q => hn (q ▸ ha)
  have e1 := e r.p (by simp [own]); have e2 := e r.lg (by simp [own]); have e4 := e r.ne (by simp [own]); have e5 := e r.sa (by simp [own])
  refine w_ins T A hσ T.na_r_voters (j := 6) (x' := { x with votes := vs }) (r' := { r with vo := l }) (by decide +kernel) rfl rfl (fun a ha => ?_) (own_nd ⟨a1, e1, a3, a4, e2, b2, b3, Ne.symm e4, Ne.symm e5, d1⟩) A.rep.lg hl A.rep.ne A.rep.sa k
  rcases mem_own.mp ha with q | q | q | q | q
  · exact A.ow a (mem_own.mpr (.inl q))
  · exact A.ow a (mem_own.mpr (.inr (.inl q)))
  · exact .inr (by rw [q]; exact h0)
  · exact A.ow a (mem_own.mpr (.inr (.inr (.inr (.inl q)))))
  · exact A.ow a (mem_own.mpr (.inr (.inr (.inr (.inr q)))))
theorem w_ne (T : Tx K mg) (A : Mv T.CR H0 H i n x r0 r) {l : Addr} {vs : List Nat} (hl : H l = some (.lst (ni vs))) (h0 : H0 l = none) (hn : l ∉ own r) (hσ : σ[s]? = some (some (.ref r.p)))
    (k : ∀ H', Mv T.CR H0 H' i n { x with next := vs } r0 { r with ne := l } → D H') : Wr K s "next_entry" (.ref l) D σ H := by
  obtain ⟨a1, a2, a3, a4, b1, b2, b3, c1, c2, d1⟩ := own_ne A.rep.nd
  have e : ∀ a ∈ own r, a ≠ l := fun a ha q => hn (q ▸ ha)
  have e1 := e r.p (by simp [own]); have e2 := e r.lg (by simp [own]); have e3 := e r.vo (by simp [own]); have e5 := e r.sa (by simp [own])
  refine w_ins T A hσ T.na_r_next_entry (j := 8) (x' := { x with next := vs }) (r' := { r with ne := l }) (by decide +kernel) rfl rfl (fun a ha => ?_) (own_nd ⟨a1, a2, e1, a4, b1, e2, b3, e3, c2, Ne.symm e5⟩) A.rep.lg A.rep.vo hl A.rep.sa k
  rcases mem_own.mp ha with q | q | q | q | q
  · exact A.ow a (mem_own.mpr (.inl q))
  · exact A.ow a (mem_own.mpr (.inr (.inl q)))
  · exact A.ow a (mem_own.mpr (.inr (.inr (.inl q))))
  · exact .inr (by rw [q]; exact h0)
  · exact A.ow a (mem_own.mpr (.inr (.inr (.inr (.inr q)))))
theorem w_sa (T : Tx K mg) (A : Mv T.CR H0 H i n x r0 r) {l : Addr} {vs : List Nat} (hl : H l = some (.lst (ni vs))) (h0 : H0 l = none) (hn : l ∉ own r) (hσ : σ[s]? = some (some (.ref r.p)))
    (k : ∀ H', Mv T.CR H0 H' i n { x with same := vs } r0 { r with sa := l } → D H') : Wr K s "same" (.ref l) D σ H := by
  obtain ⟨a1, a2, a3, a4, b1, b2, b3, c1, c2, d1⟩ := own_ne A.rep.nd
  have e : ∀ a ∈ own r, a ≠ l := fun a ha q => hn (q ▸ ha)
  have e1 := e r.p (by simp [own]); have e2 := e r.lg (by simp [own]); have e3 := e r.vo (by simp [own]); have e4 := e r.ne (by simp [own])
  refine w_ins T A hσ T.na_r_same (j := 9) (x' := { x with same := vs }) (r' := { r with sa := l }) (by decide +kernel) rfl rfl (fun a ha => ?_) (own_nd ⟨a1, a2, a3, e1, b1, b2, e2, c1, e3, e4⟩) A.rep.lg A.rep.vo A.rep.ne hl k
  rcases mem_own.mp ha with q | q | q | q | q
  · exact A.ow a (mem_own.mpr (.inl q))
  · exact A.ow a (mem_own.mpr (.inr (.inl q)))
  · exact A.ow a (mem_own.mpr (.inr (.inr (.inl q))))
  · exact A.ow a (mem_own.mpr (.inr (.inr (.inr (.inl q)))))
  · exact .inr (by rw [q]; exact h0)
theorem w_lg (T : Tx K mg) (A : Mv T.CR H0 H i n x r0 r) {l : Addr} {ts : List Addr} {es : Lead.Log} (hl : H l = some (.lst (ts.map V.ref))) (he : Ents H ts es) (h0 : H0 l = none) (hn : l ∉ own r) (hσ : σ[s]? = some (some (.ref r.p)))
    (k : ∀ H', Mv T.CR H0 H' i n { x with log := es } r0 { r with lg := l } → D H') : Wr K s "log" (.ref l) D σ H := by
  obtain ⟨a1, a2, a3, a4, b1, b2, b3, c1, c2, d1⟩ := own_ne A.rep.nd
  have e : ∀ a ∈ own r, a ≠ l := fun a ha q => hn (q ▸ ha)
  have e1 := e r.p (by simp [own]); have e3 := e r.vo (by simp [own]); have e4 := e r.ne (by simp [own]); have e5 := e r.sa (by simp [own])
  refine w_ins T A hσ T.na_r_log (j := 4) (x' := { x with log := es }) (r' := { r with lg := l }) (by decide +kernel) rfl rfl (fun a ha => ?_) (own_nd ⟨e1, a2, a3, a4, Ne.symm e3, Ne.symm e4, Ne.symm e5, c1, c2, d1⟩) ⟨ts, hl, he⟩ A.rep.vo A.rep.ne A.rep.sa k
  rcases mem_own.mp ha with q | q | q | q | q
  · exact A.ow a (mem_own.mpr (.inl q))
  · exact .inr (by rw [q]; exact h0)
  · exact A.ow a (mem_own.mpr (.inr (.inr (.inl q))))
  · exact A.ow a (mem_own.mpr (.inr (.inr (.inr (.inl q)))))
  · exact A.ow a (mem_own.mpr (.inr (.inr (.inr (.inr q)))))
/-- a new list is none of the replica's -/
theorem Mv.out (A : Mv C H0 H i n x r0 r) {l : Addr} (h : H l = none) : H0 l = none ∧ l ∉ own r := ⟨A.fr.free h, fun q => by
  obtain ⟨o, e⟩ := A.rep.live l q
  rw [h] at e
  cases e⟩
end
/-! attributes read, behind the name -/
section
variable {K : PySem.W.Frag} {mg : Str → Option Value} {H : Hp} {i n : Nat} {x : Lead.Node} {r : RA} {G : V → Prop} {a : Addr} {m : Lead.Message}
theorem r_number (T : Tx K mg) (R : RepAt T.CR H i n x r) (q : G (.int i)) : ∃ (b C dx : Addr) (fs : List (Str × V)) (v : V), V.ref r.p = V.ref b ∧ H b = some (.ins C dx fs) ∧ Cls K C ∧ NoAttr K C "number" ∧ fs.lookup ("number" : Str) = some v ∧ G v := by
  obtain ⟨dx, h1⟩ := R.ins
  exact ⟨r.p, T.CR, dx, _, _, rfl, h1, T.cl_r, T.na_r_number, look_at (i := 0) (rf_keys i n x r) (by decide +kernel) rfl, q⟩
theorem r_n (T : Tx K mg) (R : RepAt T.CR H i n x r) (q : G (.int n)) : ∃ (b C dx : Addr) (fs : List (Str × V)) (v : V), V.ref r.p = V.ref b ∧ H b = some (.ins C dx fs) ∧ Cls K C ∧ NoAttr K C "n" ∧ fs.lookup ("n" : Str) = some v ∧ G v := by
  obtain ⟨dx, h1⟩ := R.ins
  exact ⟨r.p, T.CR, dx, _, _, rfl, h1, T.cl_r, T.na_r_n, look_at (i := 1) (rf_keys i n x r) (by decide +kernel) rfl, q⟩
theorem r_term (T : Tx K mg) (R : RepAt T.CR H i n x r) (q : G (.int x.term)) : ∃ (b C dx : Addr) (fs : List (Str × V)) (v : V), V.ref r.p = V.ref b ∧ H b = some (.ins C dx fs) ∧ Cls K C ∧ NoAttr K C "term" ∧ fs.lookup ("term" : Str) = some v ∧ G v := by
  obtain ⟨dx, h1⟩ := R.ins
  exact ⟨r.p, T.CR, dx, _, _, rfl, h1, T.cl_r, T.na_r_term, look_at (i := 2) (rf_keys i n x r) (by decide +kernel) rfl, q⟩
theorem r_vote (T : Tx K mg) (R : RepAt T.CR H i n x r) (q : G (.int x.vote)) : ∃ (b C dx : Addr) (fs : List (Str × V)) (v : V), V.ref r.p = V.ref b ∧ H b = some (.ins C dx fs) ∧ Cls K C ∧ NoAttr K C "vote" ∧ fs.lookup ("vote" : Str) = some v ∧ G v := by
  obtain ⟨dx, h1⟩ := R.ins
  exact ⟨r.p, T.CR, dx, _, _, rfl, h1, T.cl_r, T.na_r_vote, look_at (i := 3) (rf_keys i n x r) (by decide +kernel) rfl, q⟩
theorem r_log (T : Tx K mg) (R : RepAt T.CR H i n x r) (q : G (.ref r.lg)) : ∃ (b C dx : Addr) (fs : List (Str × V)) (v : V), V.ref r.p = V.ref b ∧ H b = some (.ins C dx fs) ∧ Cls K C ∧ NoAttr K C "log" ∧ fs.lookup ("log" : Str) = some v ∧ G v := by
  obtain ⟨dx, h1⟩ := R.ins
  exact ⟨r.p, T.CR, dx, _, _, rfl, h1, T.cl_r, T.na_r_log, look_at (i := 4) (rf_keys i n x r) (by decide +kernel) rfl, q⟩
theorem r_role (T : Tx K mg) (R : RepAt T.CR H i n x r) (q : G (.int x.role)) : ∃ (b C dx : Addr) (fs : List (Str × V)) (v : V), V.ref r.p = V.ref b ∧ H b = some (.ins C dx fs) ∧ Cls K C ∧ NoAttr K C "role" ∧ fs.lookup ("role" : Str) = some v ∧ G v := by
  obtain ⟨dx, h1⟩ := R.ins
  exact ⟨r.p, T.CR, dx, _, _, rfl, h1, T.cl_r, T.na_r_role, look_at (i := 5) (rf_keys i n x r) (by decide +kernel) rfl, q⟩
theorem r_voters (T : Tx K mg) (R : RepAt T.CR H i n x r) (q : G (.ref r.vo)) : ∃ (b C dx : Addr) (fs : List (Str × V)) (v : V), V.ref r.p = V.ref b ∧ H b = some (.ins C dx fs) ∧ Cls K C ∧ NoAttr K C "voters" ∧ fs.lookup ("voters" : Str) = some v ∧ G v := by
  obtain ⟨dx, h1⟩ := R.ins
  exact ⟨r.p, T.CR, dx, _, _, rfl, h1, T.cl_r, T.na_r_voters, look_at (i := 6) (rf_keys i n x r) (by decide +kernel) rfl, q⟩
theorem r_settled (T : Tx K mg) (R : RepAt T.CR H i n x r) (q : G (.int x.settled)) : ∃ (b C dx : Addr) (fs : List (Str × V)) (v : V), V.ref r.p = V.ref b ∧ H b = some (.ins C dx fs) ∧ Cls K C ∧ NoAttr K C "settled" ∧ fs.lookup ("settled" : Str) = some v ∧ G v := by
  obtain ⟨dx, h1⟩ := R.ins
  exact ⟨r.p, T.CR, dx, _, _, rfl, h1, T.cl_r, T.na_r_settled, look_at (i := 7) (rf_keys i n x r) (by decide +kernel) rfl, q⟩
theorem r_next_entry (T : Tx K mg) (R : RepAt T.CR H i n x r) (q : G (.ref r.ne)) : ∃ (b C dx : Addr) (fs : List (Str × V)) (v : V), V.ref r.p = V.ref b ∧ H b = some (.ins C dx fs) ∧ Cls K C ∧ NoAttr K C "next_entry" ∧ fs.lookup ("next_entry" : Str) = some v ∧ G v := by
  obtain ⟨dx, h1⟩ := R.ins
  exact ⟨r.p, T.CR, dx, _, _, rfl, h1, T.cl_r, T.na_r_next_entry, look_at (i := 8) (rf_keys i n x r) (by decide +kernel) rfl, q⟩
theorem r_same (T : Tx K mg) (R : RepAt T.CR H i n x r) (q : G (.ref r.sa)) : ∃ (b C dx : Addr) (fs : List (Str × V)) (v : V), V.ref r.p = V.ref b ∧ H b = some (.ins C dx fs) ∧ Cls K C ∧ NoAttr K C "same" ∧ fs.lookup ("same" : Str) = some v ∧ G v := by
  obtain ⟨dx, h1⟩ := R.ins
  exact ⟨r.p, T.CR, dx, _, _, rfl, h1, T.cl_r, T.na_r_same, look_at (i := 9) (rf_keys i n x r) (by decide +kernel) rfl, q⟩
theorem m_kind (T : Tx K mg) (R : MsgAt T.CM H a m) (q : G (.int m.kind)) : ∃ (b C dx : Addr) (fs : List (Str × V)) (v : V), V.ref a = V.ref b ∧ H b = some (.ins C dx fs) ∧ Cls K C ∧ NoAttr K C "kind" ∧ fs.lookup ("kind" : Str) = some v ∧ G v := by
  obtain ⟨dx, e, ts, h1, _, _⟩ := R
  exact ⟨a, T.CM, dx, _, _, rfl, h1, T.cl_m, T.na_m_kind, look_at (i := 0) (mf_keys m e) (by decide +kernel) rfl, q⟩
theorem m_sender (T : Tx K mg) (R : MsgAt T.CM H a m) (q : G (.int m.from_)) : ∃ (b C dx : Addr) (fs : List (Str × V)) (v : V), V.ref a = V.ref b ∧ H b = some (.ins C dx fs) ∧ Cls K C ∧ NoAttr K C "sender" ∧ fs.lookup ("sender" : Str) = some v ∧ G v := by
  obtain ⟨dx, e, ts, h1, _, _⟩ := R
  exact ⟨a, T.CM, dx, _, _, rfl, h1, T.cl_m, T.na_m_sender, look_at (i := 1) (mf_keys m e) (by decide +kernel) rfl, q⟩
theorem m_receiver (T : Tx K mg) (R : MsgAt T.CM H a m) (q : G (.int m.to_)) : ∃ (b C dx : Addr) (fs : List (Str × V)) (v : V), V.ref a = V.ref b ∧ H b = some (.ins C dx fs) ∧ Cls K C ∧ NoAttr K C "receiver" ∧ fs.lookup ("receiver" : Str) = some v ∧ G v := by
  obtain ⟨dx, e, ts, h1, _, _⟩ := R
  exact ⟨a, T.CM, dx, _, _, rfl, h1, T.cl_m, T.na_m_receiver, look_at (i := 2) (mf_keys m e) (by decide +kernel) rfl, q⟩
theorem m_term (T : Tx K mg) (R : MsgAt T.CM H a m) (q : G (.int m.term)) : ∃ (b C dx : Addr) (fs : List (Str × V)) (v : V), V.ref a = V.ref b ∧ H b = some (.ins C dx fs) ∧ Cls K C ∧ NoAttr K C "term" ∧ fs.lookup ("term" : Str) = some v ∧ G v := by
  obtain ⟨dx, e, ts, h1, _, _⟩ := R
  exact ⟨a, T.CM, dx, _, _, rfl, h1, T.cl_m, T.na_m_term, look_at (i := 3) (mf_keys m e) (by decide +kernel) rfl, q⟩
theorem m_a (T : Tx K mg) (R : MsgAt T.CM H a m) (q : G (.int m.a)) : ∃ (b C dx : Addr) (fs : List (Str × V)) (v : V), V.ref a = V.ref b ∧ H b = some (.ins C dx fs) ∧ Cls K C ∧ NoAttr K C "a" ∧ fs.lookup ("a" : Str) = some v ∧ G v := by
  obtain ⟨dx, e, ts, h1, _, _⟩ := R
  exact ⟨a, T.CM, dx, _, _, rfl, h1, T.cl_m, T.na_m_a, look_at (i := 4) (mf_keys m e) (by decide +kernel) rfl, q⟩
theorem m_b (T : Tx K mg) (R : MsgAt T.CM H a m) (q : G (.int m.b)) : ∃ (b C dx : Addr) (fs : List (Str × V)) (v : V), V.ref a = V.ref b ∧ H b = some (.ins C dx fs) ∧ Cls K C ∧ NoAttr K C "b" ∧ fs.lookup ("b" : Str) = some v ∧ G v := by
  obtain ⟨dx, e, ts, h1, _, _⟩ := R
  exact ⟨a, T.CM, dx, _, _, rfl, h1, T.cl_m, T.na_m_b, look_at (i := 5) (mf_keys m e) (by decide +kernel) rfl, q⟩
theorem m_c (T : Tx K mg) (R : MsgAt T.CM H a m) (q : G (.int m.c)) : ∃ (b C dx : Addr) (fs : List (Str × V)) (v : V), V.ref a = V.ref b ∧ H b = some (.ins C dx fs) ∧ Cls K C ∧ NoAttr K C "c" ∧ fs.lookup ("c" : Str) = some v ∧ G v := by
  obtain ⟨dx, e, ts, h1, _, _⟩ := R
  exact ⟨a, T.CM, dx, _, _, rfl, h1, T.cl_m, T.na_m_c, look_at (i := 6) (mf_keys m e) (by decide +kernel) rfl, q⟩
theorem m_entries (T : Tx K mg) (R : MsgAt T.CM H a m) (q : ∀ e ts, H e = some (.tup (ts.map V.ref)) → Ents H ts m.entries → G (.ref e)) : ∃ (b C dx : Addr) (fs : List (Str × V)) (v : V), V.ref a = V.ref b ∧ H b = some (.ins C dx fs) ∧ Cls K C ∧ NoAttr K C "entries" ∧ fs.lookup ("entries" : Str) = some v ∧ G v := by
  obtain ⟨dx, e, ts, h1, h2, h3⟩ := R
  exact ⟨a, T.CM, dx, _, _, rfl, h1, T.cl_m, T.na_m_entries, look_at (i := 7) (mf_keys m e) (by decide +kernel) rfl, q e ts h2 h3⟩
/-- a method of a replica -/
theorem r_meth (T : Tx K mg) (R : RepAt T.CR H i n x r) {f : Str} (hf : rkeys.findIdx? (· == f) = none) {B : Prop} (q : B) : ∃ (b dx : Addr) (fs : List (Str × V)), V.ref r.p = V.ref b ∧ H b = some (.ins T.CR dx fs) ∧ fs.lookup f = none ∧ B := by
  obtain ⟨dx, h1⟩ := R.ins
  exact ⟨r.p, dx, _, rfl, h1, look_no (rf_keys i n x r) hf, q⟩
end
end Pr
end

section
set_option Elab.async false
set_option linter.all false
set_option maxRecDepth 100000
set_option maxHeartbeats 2000000
/-! ### the replica's methods -/
namespace Pr
open PySem PySem.Spec L2
open PyProof.Rows hiding St
/-- a new instance and its __init__ -/
theorem fr_made {H H' : Hp} {x dx : Addr} {o : HO} (nx : H x = none) (nd : H dx = none) (ne : dx ≠ x) (f : Fr (upd (upd H dx (.own x)) x o) H' [x]) : Fr H H' [] := by
  have h1 : Fr H (upd H dx (.own x)) [] := Fr.refl.new nd
  have h2 : (upd H dx (.own x)) x = none := by rw [upd_ne (Ne.symm ne)]; exact nx
  exact (h1.new h2).trans f fun b hb => by
    rw [List.mem_singleton] at hb
    exact .inr (hb ▸ nx)
section
variable {P : Program} {w : World} {K : PySem.W.Frag} {mg : Str → Option Value} {base : Heap}

/-! more_than_half -/
def spMth (T : Tx K mg) : Sp := fun vs H Q _ => ∃ (i n : Nat) (x : Lead.Node) (r : RA) (k : Int), vs = [.ref r.p, .int k] ∧ RepAt T.CR H i n x r ∧ Q (.bl (decide ((n : Int) < 2 * k))) H
theorem ok_mth (T : Tx K mg) : FnOk P w K mg base CX0 1 T.a_r_more_than_half T.d_r_more_than_half ["self", "k"] (spMth T) := by
  refine T.F_r_more_than_half.ok sc_r_more_than_half (fun vs H Q E h => ?_) (fun cdv A outer s H vs Q E hr h => ?_)
  · obtain ⟨i, n, x, r, k, rfl, _⟩ := h
    rfl
  · obtain ⟨i, n, x, r, k, rfl, R, q⟩ := h
    refine ⟨_, pss_one (ps_ret (pe_cmpR op_lt (pe_fld (pv 0) rfl) (pe_op op_mul pe_int (pv 1)) (nomark _))), ?_⟩
    unfold tRet tOp
    exact f_n T R rfl ⟨_, rfl, _, _, rfl, rfl, .inl ⟨by decide, by decide⟩, _, _, rfl, rfl, q⟩

/-! term_of_entry -/
def spToe (T : Tx K mg) : Sp := fun vs H Q _ => ∃ (i n : Nat) (x : Lead.Node) (r : RA) (k : Nat), vs = [.ref r.p, .int k] ∧ RepAt T.CR H i n x r ∧ k ≤ x.log.length ∧ Q (.int (Lead.termAt x.log k)) H
theorem ok_toe (T : Tx K mg) : FnOk P w K mg base CX0 1 T.a_r_term_of_entry T.d_r_term_of_entry ["self", "k"] (spToe T) := by
  refine T.F_r_term_of_entry.ok sc_r_term_of_entry (fun vs H Q E h => ?_) (fun cdv A outer s H vs Q E hr h => ?_)
  · obtain ⟨i, n, x, r, k, rfl, _⟩ := h
    rfl
  · obtain ⟨i, n, x, r, k, rfl, R, hk, q⟩ := h
    refine ⟨_, pss_one (ps_ret (pe_ifExp (pt_cmpR op_eq (pv 1) pe_int (nomark _)) pe_int (pe_ix ix_tup (pe_ix ix_list (pe_fld (pv 0) rfl) (pe_op op_sub (pv 1) pe_int) (fun _ _ => rfl)) pe_int (fun _ _ => rfl)))), ?_⟩
    refine ⟨_, rfl, rfl, _, rfl, ite2 (fun h => ?_) (fun h => ?_)⟩
    · have e : k = 0 := by
        have := V.int.inj (of_decide_eq_true h)
        omega
      subst e
      exact q
    · have e : k ≠ 0 := by
        intro e
        subst e
        exact h (decide_eq_true rfl)
      obtain ⟨ts, h1, h2⟩ := R.lg
      obtain ⟨en, he⟩ : ∃ en, x.log[k - 1]? = some en := ⟨_, List.getElem?_eq_getElem (by omega)⟩
      obtain ⟨t, ht, hte⟩ := h2.get' he
      unfold tOp
      refine f_log T R rfl ⟨_, rfl, _, _, rfl, rfl, r.lg, _, _, V.ref t, rfl, rfl, SqL.of h1, at_of (j := k - 1) (by omega) (by rw [List.getElem?_map, ht]; rfl), t, _, _, _, rfl, rfl, SqT.of hte, at_of (j := 0) rfl rfl, ?_⟩
      have e2 : Lead.termAt x.log k = en.term := by
        unfold Lead.termAt
        rw [if_neg e, he]
      rw [← e2]
      exact q

/-! last_term -/
theorem last_is (l : Lead.Log) : Lead.termAt l l.length = Lead.lastTerm l := by
  unfold Lead.termAt Lead.lastTerm
  rw [List.getLast?_eq_getElem?]
  by_cases h : l.length = 0
  · rw [if_pos h]
    have : l = [] := List.length_eq_zero_iff.mp h
    subst this
    rfl
  · rw [if_neg h]
def spLt (T : Tx K mg) : Sp := fun vs H Q _ => ∃ (i n : Nat) (x : Lead.Node) (r : RA), vs = [.ref r.p] ∧ RepAt T.CR H i n x r ∧ Q (.int (Lead.lastTerm x.log)) H
theorem ents_len {H : Hp} {ts : List Addr} {es : List Lead.Entry} (h : Ents H ts es) : ts.length = es.length := Paired.length h
theorem ok_lt (T : Tx K mg) : FnOk P w K mg base CX0 2 T.a_r_last_term T.d_r_last_term ["self"] (spLt T) := by
  refine T.F_r_last_term.ok sc_r_last_term (fun vs H Q E h => ?_) (fun cdv A outer s H vs Q E hr h => ?_)
  · obtain ⟨i, n, x, r, rfl, _⟩ := h
    rfl
  · obtain ⟨i, n, x, r, rfl, R, q⟩ := h
    refine ⟨_, pss_one (ps_ret (pe_meth (pv 0) T.cl_r T.M_r_term_of_entry (ok_toe T) hr T.B_r_term_of_entry .nil pass0 (pa_cons (pe_callB call_len_seq (by rfl) T.b_len PySem.boot_len (pa_cons (pe_fld (pv 0) rfl) pa_nil)) pa_nil))), ?_⟩
    obtain ⟨dx, h1⟩ := R.ins
    obtain ⟨ts, h2, h3⟩ := R.lg
    refine ⟨_, rfl, r.p, dx, _, rfl, h1, look_no (rf_keys i n x r) (by decide +kernel), f_log T R rfl ⟨r.lg, _, rfl, .inl (SqL.of h2), ?_⟩⟩
    refine ⟨i, n, x, r, x.log.length, ?_, R, Nat.le_refl _, ?_⟩
    · rw [List.length_map, ents_len h3]
      rfl
    · rw [last_is]
      exact q

/-! has_newer_log -/
def spNewer (T : Tx K mg) : Sp := fun vs H Q _ => ∃ (i n : Nat) (x : Lead.Node) (r : RA) (a b : Nat), vs = [.ref r.p, .int a, .int b] ∧ RepAt T.CR H i n x r ∧ Q (.bl (Lead.newer x.log a b)) H
theorem ok_newer (T : Tx K mg) : FnOk P w K mg base CX0 3 T.a_r_has_newer_log T.d_r_has_newer_log ["self", "length", "term"] (spNewer T) := by
  refine T.F_r_has_newer_log.ok sc_r_has_newer_log (fun vs H Q E h => ?_) (fun cdv A outer s H vs Q E hr h => ?_)
  · obtain ⟨i, n, x, r, a, b, rfl, _⟩ := h
    rfl
  · obtain ⟨i, n, x, r, a, b, rfl, R, q⟩ := h
    refine ⟨_, pss_cons (ps_set (i := 3) sc_r_has_newer_log.nd rfl (Or.inl rfl) (pe_meth0 (pv 0) T.cl_r T.M_r_last_term (ok_lt T) hr T.B_r_last_term .nil pass0))
      (pss_one (ps_ret (pe_or (pe_cmpR op_gt (pv 3) (pv 2) (nomark _)) (pe_one (pe_and (pe_cmpR op_eq (pv 3) (pv 2) (nomark _)) (pe_one (pe_cmpR op_gt (pe_callB call_len_seq (by rfl) T.b_len PySem.boot_len (pa_cons (pe_fld (pv 0) rfl) pa_nil)) (pv 1) (nomark _)))))))), ?_⟩
    obtain ⟨dx, h1⟩ := R.ins
    obtain ⟨ts, h2, h3⟩ := R.lg
    refine ⟨_, rfl, r.p, dx, _, rfl, h1, look_no (rf_keys i n x r) (by decide +kernel), i, n, x, r, rfl, R, ?_⟩
    refine ⟨_, rfl, _, rfl, _, _, rfl, rfl, _, rfl, ite2 (fun h => ?_) (fun h => ?_)⟩
    · have e : Lead.newer x.log a b = true := by
        have := of_decide_eq_true h
        unfold Lead.newer
        rw [decide_eq_true (show b < Lead.lastTerm x.log by omega)]
        rfl
      rw [e] at q
      exact q
    · have e0 : ¬ b < Lead.lastTerm x.log := by
        intro z
        exact h (decide_eq_true (by omega))
      refine ⟨_, rfl, _, rfl, rfl, _, rfl, ite2 (fun h' => ?_) (fun h' => ?_)⟩
      · have e1 : Lead.lastTerm x.log = b := by
          have := V.int.inj (of_decide_eq_true h')
          omega
        refine f_log T R rfl ⟨r.lg, _, rfl, .inl (SqL.of h2), _, rfl, _, _, rfl, rfl, ?_⟩
        have e : Lead.newer x.log a b = decide ((a : Int) < ((ts.map V.ref).length : Nat)) := by
          unfold Lead.newer
          rw [decide_eq_false e0, e1, List.length_map, ents_len h3]
          simp
        rw [e] at q
        exact q
      · have e1 : ¬ Lead.lastTerm x.log = b := by
          intro z
          exact h' (decide_eq_true (by rw [z]))
        have e : Lead.newer x.log a b = false := by
          unfold Lead.newer
          rw [decide_eq_false e0, beq_eq_false_iff_ne.mpr e1]
          rfl
        rw [e] at q
        exact q

/-! follow, enter_term -/
def spFollow (T : Tx K mg) : Sp := fun vs H Q _ => ∃ (i n : Nat) (x : Lead.Node) (r : RA), vs = [.ref r.p] ∧ RepAt T.CR H i n x r ∧ ∀ H' r', Mv T.CR H H' i n x.follows r r' → Q .non H'
theorem ok_follow (T : Tx K mg) : FnOk P w K mg base CX0 1 T.a_r_follow T.d_r_follow ["self"] (spFollow T) := by
  refine T.F_r_follow.ok sc_r_follow (fun vs H Q E h => ?_) (fun cdv A outer s H vs Q E hr h => ?_)
  · obtain ⟨i, n, x, r, rfl, _⟩ := h
    rfl
  · obtain ⟨i, n, x, r, rfl, R, k⟩ := h
    refine ⟨_, pss_cons (ps_fld (pv 0) (pe_gi T.g_FOLLOWS) rfl) (pss_one (ps_fld (pv 0) (pe_lst pa_nil) rfl)), ?_⟩
    refine w_role T (Mv.refl R) 0 rfl fun H1 A1 => ?_
    refine ⟨Nat.zero_le _, fun l hl => ?_⟩
    obtain ⟨o1, o2⟩ := A1.out hl
    exact w_vo T (A1.nw hl) (vs := []) upd_same o1 o2 rfl fun H2 A2 => k H2 _ A2
def spEnter (T : Tx K mg) : Sp := fun vs H Q _ => ∃ (i n : Nat) (x : Lead.Node) (r : RA) (t : Nat), vs = [.ref r.p, .int t] ∧ RepAt T.CR H i n x r ∧ ∀ H' r', Mv T.CR H H' i n ⟨t, 0, x.log, 0, x.settled, [], x.next, x.same⟩ r r' → Q .non H'
theorem ok_enter (T : Tx K mg) : FnOk P w K mg base CX0 2 T.a_r_enter_term T.d_r_enter_term ["self", "term"] (spEnter T) := by
  refine T.F_r_enter_term.ok sc_r_enter_term (fun vs H Q E h => ?_) (fun cdv A outer s H vs Q E hr h => ?_)
  · obtain ⟨i, n, x, r, t, rfl, _⟩ := h
    rfl
  · obtain ⟨i, n, x, r, t, rfl, R, k⟩ := h
    refine ⟨_, pss_cons (ps_fld (pv 0) (pv 1) rfl) (pss_cons (ps_fld (pv 0) pe_int rfl) (pss_one (ps_expr (pe_meth0 (pv 0) T.cl_r T.M_r_follow (ok_follow T) hr T.B_r_follow .nil pass0)))), ?_⟩
    refine ⟨_, rfl, w_term T (Mv.refl R) t rfl fun H1 A1 => ?_⟩
    refine w_vote T A1 0 rfl fun H2 A2 => ?_
    obtain ⟨dx, h1⟩ := A2.rep.ins
    exact ⟨_, rfl, r.p, dx, _, rfl, h1, look_no (rf_keys i n _ r) (by decide +kernel), i, n, _, r, rfl, A2.rep, fun H3 r3 A3 => k H3 r3 (A2.trans A3)⟩

/-! lead -/
theorem rep1 {xs : List V} {v : V} {k n : Nat} (h : k = n) (hx : xs = (List.replicate k [v]).flatten) : xs = List.replicate n v := by
  subst h hx
  induction k with
  | zero => rfl
  | succ k ih => rw [List.replicate_succ, List.flatten_cons, ih, List.replicate_succ]; rfl
theorem ni_rep (n k : Nat) : ni (List.replicate n k) = List.replicate n (V.int k) := by
  unfold ni
  rw [List.map_replicate]
theorem map_const {l : List Nat} {n k : Nat} (h : l.length = n) : l.map (fun (_ : Nat) => k) = List.replicate n k := by
  subst h
  rw [List.map_const']
def spLead (T : Tx K mg) : Sp := fun vs H Q _ => ∃ (i n : Nat) (x : Lead.Node) (r : RA), vs = [.ref r.p] ∧ RepAt T.CR H i n x r ∧ n ≤ 5 ∧ x.next.length = n ∧ x.same.length = n ∧ ∀ H' r', Mv T.CR H H' i n x.leads r r' → Q .non H'
theorem ok_lead (T : Tx K mg) : FnOk P w K mg base CX0 1 T.a_r_lead T.d_r_lead ["self"] (spLead T) := by
  refine T.F_r_lead.ok sc_r_lead (fun vs H Q E h => ?_) (fun cdv A outer s H vs Q E hr h => ?_)
  · obtain ⟨i, n, x, r, rfl, _⟩ := h
    rfl
  · obtain ⟨i, n, x, r, rfl, R, hn5, hn, hs, k⟩ := h
    refine ⟨_, pss_cons (ps_fld (pv 0) (pe_gi T.g_LEADS) rfl)
      (pss_cons (ps_fld (pv 0) (pe_op op_rep (pe_lst (pa_cons (pe_op op_add (pe_callB call_len_seq (by rfl) T.b_len PySem.boot_len (pa_cons (pe_fld (pv 0) rfl) pa_nil)) pe_int) pa_nil)) (pe_fld (pv 0) rfl)) rfl)
      (pss_one (ps_fld (pv 0) (pe_op op_rep (pe_lst (pa_cons pe_int pa_nil)) (pe_fld (pv 0) rfl)) rfl))), ?_⟩
    refine w_role T (Mv.refl R) 2 rfl fun H1 A1 => ?_
    obtain ⟨ts, h2, h3⟩ := A1.rep.lg
    refine f_log T A1.rep rfl ⟨r.lg, _, rfl, .inl (SqL.of h2), _, _, rfl, rfl, (by show 1 ≤ sizeLine; decide), fun l hl => ?_⟩
    have A2 := A1.nw (o := .lst [.int (((ts.map V.ref).length : Nat) + 1)]) hl
    refine f_n T A2.rep rfl ⟨l, _, _, rfl, rfl, upd_same, (by omega), (by omega), ?_, fun l2 hl2 => ?_⟩
    · show 1 * (n : Int).toNat ≤ sizeLine
      have : (n : Int).toNat = n := Int.toNat_natCast n
      rw [this]
      exact Nat.le_trans (by omega) (show 5 ≤ sizeLine by decide)
    have e1 : (List.replicate (n : Int).toNat [V.int (((ts.map V.ref).length : Nat) + 1)]).flatten = ni (List.replicate n (x.log.length + 1)) := by
      rw [rep1 (k := (n : Int).toNat) (n := n) (v := V.int (((ts.map V.ref).length : Nat) + 1)) (Int.toNat_natCast n) rfl, ni_rep, List.length_map, ents_len h3]
      rfl
    rw [e1]
    have A3 := A2.nw (o := .lst (ni (List.replicate n (x.log.length + 1)))) hl2
    obtain ⟨o1, o2⟩ := A2.out hl2
    refine w_ne T A3 upd_same o1 o2 rfl fun H4 A4 => ?_
    refine ⟨(by show 1 ≤ sizeLine; decide), fun l3 hl3 => ?_⟩
    have A5 := A4.nw (o := .lst [.int 0]) hl3
    refine f_n T A5.rep rfl ⟨l3, _, _, rfl, rfl, upd_same, (by omega), (by omega), ?_, fun l4 hl4 => ?_⟩
    · show 1 * (n : Int).toNat ≤ sizeLine
      have : (n : Int).toNat = n := Int.toNat_natCast n
      rw [this]
      exact Nat.le_trans (by omega) (show 5 ≤ sizeLine by decide)
    have e2 : (List.replicate (n : Int).toNat [V.int 0]).flatten = ni (List.replicate n 0) := by
      rw [rep1 (k := (n : Int).toNat) (n := n) (v := V.int 0) (Int.toNat_natCast n) rfl, ni_rep]
      rfl
    rw [e2]
    have A6 := A5.nw (o := .lst (ni (List.replicate n 0))) hl4
    obtain ⟨o3, o4⟩ := A5.out hl4
    refine w_sa T A6 upd_same o3 o4 rfl fun H7 A7 => k H7 { { r with ne := l2 } with sa := l4 } ?_
    have e3 : x.leads = { x with role := 2, next := List.replicate n (x.log.length + 1), same := List.replicate n 0 } := by
      unfold Lead.Node.leads
      rw [map_const hn, map_const hs]
    rw [e3]
    exact A7

/-! others -/
def spOthers (T : Tx K mg) : Sp := fun vs H Q _ => ∃ (i n : Nat) (x : Lead.Node) (r : RA), vs = [.ref r.p] ∧ RepAt T.CR H i n x r ∧ n ≤ 5 ∧ ∀ H' l, Fr H H' [] → H l = none → H' l = some (.lst (ni (Lead.others n i))) → Q (.ref l) H'
theorem ok_others (T : Tx K mg) : FnOk P w K mg base CX0 1 T.a_r_others T.d_r_others ["self"] (spOthers T) := by
  refine T.F_r_others.ok sc_r_others (fun vs H Q E h => ?_) (fun cdv A outer s H vs Q E hr h => ?_)
  · obtain ⟨i, n, x, r, rfl, _⟩ := h
    rfl
  · obtain ⟨i, n, x, r, rfl, R, hn, k⟩ := h
    refine ⟨_, pss_one (ps_ret (pe_lc rfl sc_r_others.nd (pi_range1 rfl T.b_range (pa_cons (pe_fld (pv 0) rfl) pa_nil)) (blkOk_by (own := [("j", 1)]) (by show blkC ["self", "j"] (defScope st_r_others) _ [("j", 1)] = true; decide +kernel))
      (fun _ _ _ _ _ => pg_name (i := 1) sc_r_others.nd rfl (Or.inl rfl)) (fun _ _ _ _ _ => pts_one (pt_cmpR op_ne (pv 1) (pe_fldK (K := K) rfl (pv 0) rfl) (nomark _))) (fun _ _ _ _ _ => pv 1))), ?_⟩
    refine f_n T R rfl ⟨_, rfl, (by omega), (by omega), fun D hD => ?_⟩
    refine lc_range (n := n) (fun m H' => Fr H H' [] ∧ H' D = some (.lst (ni ((List.range m).filter fun j => j != i)))) ⟨Fr.refl.new hD, upd_same⟩ ?_ ?_
    · rintro m H' hm ⟨f, hl⟩
      refine ⟨rfl, _, rfl, f_number T (R.fr0 f) rfl ⟨rfl, _, rfl, ite2 (fun h => ?_) (fun h => ?_)⟩⟩
      · have e : m ≠ i := by
          intro e
          subst e
          simp at h
        refine ⟨_, rfl, _, hl, ?_, f.put (.inr hD) hl (fun _ q => by cases q), ?_⟩
        · rw [ni_length]
          have := List.length_filter_le (fun j => j != i) (List.range m)
          rw [List.length_range] at this
          exact Nat.lt_of_le_of_lt (Nat.le_trans this (by omega)) (show 5 < sizeLine by decide)
        · rw [upd_same, List.range_succ, List.filter_append]
          have e1 : ([m].filter fun j => j != i) = [m] := by simp [e]
          rw [e1]
          unfold ni
          rw [List.map_append]
          simp
      · have e : m = i := by
          apply Decidable.byContradiction
          intro e
          apply h
          have : ¬ V.int (0 + (m : Int)) = V.int i := by
            intro z
            have := V.int.inj z
            omega
          rw [decide_eq_false this]
          rfl
        refine ⟨f, ?_⟩
        rw [hl, List.range_succ, List.filter_append]
        have e1 : ([m].filter fun j => j != i) = [] := by simp [e]
        rw [e1, List.append_nil]
    · rintro H' ⟨f, hl⟩
      exact k H' D f hD hl

/-! how_many_have -/
def spHmh (T : Tx K mg) : Sp := fun vs H Q _ => ∃ (i n : Nat) (x : Lead.Node) (r : RA) (k : Nat), vs = [.ref r.p, .int k] ∧ RepAt T.CR H i n x r ∧ n ≤ 5 ∧ i < n ∧ x.same.length = n ∧ ∀ H', Fr H H' [] → Q (.int (Lead.have_ x i k)) H'
theorem ok_hmh (T : Tx K mg) : FnOk P w K mg base CX0 2 T.a_r_how_many_have T.d_r_how_many_have ["self", "k"] (spHmh T) := by
  refine T.F_r_how_many_have.ok sc_r_how_many_have (fun vs H Q E h => ?_) (fun cdv A outer s H vs Q E hr h => ?_)
  · obtain ⟨i, n, x, r, k, rfl, _⟩ := h
    rfl
  · obtain ⟨i, n, x, r, k, rfl, R, hn, hi, hs, kq⟩ := h
    refine ⟨_, pss_one (ps_ret (pe_op op_add pe_int (pe_callB call_len_seq (by rfl) T.b_len PySem.boot_len (pa_cons (pe_lc rfl sc_r_how_many_have.nd
      (pi_list (pe_meth0 (pv 0) T.cl_r T.M_r_others (ok_others T) hr T.B_r_others .nil pass0)) (blkOk_by (own := [("j", 2)]) (by show blkC ["self", "k", "j"] (defScope st_r_how_many_have) _ [("j", 2)] = true; decide +kernel))
      (fun _ _ _ _ _ => pg_name (i := 2) sc_r_how_many_have.nd rfl (Or.inl rfl)) (fun _ _ _ _ _ => pts_one (pt_cmpR op_ge (pe_ix (ix_listK (K := K) rfl) (pe_fldK (K := K) rfl (pv 0) rfl) (pv 2) (fun _ _ => rfl)) (pv 1) (nomark _))) (fun _ _ _ _ _ => pv 2)) pa_nil)))), ?_⟩
    obtain ⟨dx, h1⟩ := R.ins
    refine ⟨_, rfl, r.p, dx, _, rfl, h1, look_no (rf_keys i n x r) (by decide +kernel), i, n, x, r, rfl, R, hn, fun H1 l f1 hl0 hl => ?_⟩
    refine ⟨l, rfl, ⟨_, SqL.of hl⟩, fun D hD => ?_⟩
    have hDl : l ≠ D := ne_of_none hl hD
    refine lc_list (K := K) (xs := ni (Lead.others n i)) (fun m H' => Fr H1 H' [] ∧ H' D = some (.lst (ni (((Lead.others n i).take m).filter fun j => decide (k ≤ x.same.getD j 0))))) ⟨Fr.refl.new hD, upd_same⟩ (fun m H' _ p => SqL.of (p.1.kp _ _ hl (by simp))) ?_ ?_
    · rintro m y H' hy ⟨f, hD'⟩
      obtain ⟨j, hj, rfl⟩ : ∃ j, (Lead.others n i)[m]? = some j ∧ y = V.int j := by
        unfold ni at hy
        rw [List.getElem?_map] at hy
        cases e : (Lead.others n i)[m]? with
        | none => rw [e] at hy; cases hy
        | some j => rw [e] at hy; exact ⟨j, rfl, (Option.some.inj hy).symm⟩
      have hjn := (Ld.mem_others (List.mem_of_getElem? hj)).1
      obtain ⟨v, hv⟩ : ∃ v, x.same[j]? = some v := ⟨_, List.getElem?_eq_getElem (by omega)⟩
      have hg : x.same.getD j 0 = v := by rw [List.getD_eq_getElem?_getD, hv]; rfl
      have R' := (R.fr0 f1).fr0 f
      have et : (Lead.others n i).take (m + 1) = (Lead.others n i).take m ++ [j] := by
        rw [List.take_add_one, hj]
        rfl
      refine ⟨rfl, ?_⟩
      unfold tTest tOp
      refine f_same T R' rfl ⟨_, rfl, r.sa, _, _, _, rfl, rfl, SqL.of R'.sa, at_of (j := j) rfl (ni_get hv), _, rfl, _, _, rfl, rfl, _, rfl, ite2 (fun h => ?_) (fun h => ?_)⟩
      · have hle : k ≤ v := by
          have := of_decide_eq_true h
          omega
        refine ⟨_, rfl, _, hD', ?_, f.put (.inr hD) hD' (fun _ q => by cases q), ?_⟩
        · rw [ni_length]
          have a := List.length_filter_le (fun j => decide (k ≤ x.same.getD j 0)) ((Lead.others n i).take m)
          have b := List.length_take_le m (Lead.others n i)
          have c := Ld.others_length hi
          have d : (Lead.others n i).length ≤ 5 := by omega
          exact Nat.lt_of_le_of_lt (Nat.le_trans a (Nat.le_trans (by rw [List.length_take]; omega) d)) (show 5 < sizeLine by decide)
        · rw [upd_same, et, List.filter_append]
          have e1 : ([j].filter fun j => decide (k ≤ x.same.getD j 0)) = [j] := by
            rw [List.filter_cons, if_pos (by rw [hg]; exact decide_eq_true hle)]
            rfl
          rw [e1]
          unfold ni
          rw [List.map_append]
          rfl
      · have hle : ¬ k ≤ v := by
          intro z
          exact h (decide_eq_true (by omega))
        refine ⟨f, ?_⟩
        rw [hD', et, List.filter_append]
        have e1 : ([j].filter fun j => decide (k ≤ x.same.getD j 0)) = [] := by
          rw [List.filter_cons, if_neg (by rw [hg]; simpa using hle)]
          rfl
        rw [e1, List.append_nil]
    · rintro H' ⟨f, hD'⟩
      rw [ni_length, List.take_length] at hD'
      refine ⟨D, _, rfl, .inl (SqL.of hD'), _, _, rfl, rfl, ?_⟩
      have e : ((1 : Int) + ((ni ((Lead.others n i).filter fun j => decide (k ≤ x.same.getD j 0))).length : Nat)) = (Lead.have_ x i k : Nat) := by
        rw [ni_length, Ld.have_eq hs hi]
        omega
      show Q (V.int ((1 : Int) + ((ni ((Lead.others n i).filter fun j => decide (k ≤ x.same.getD j 0))).length : Nat))) H'
      rw [e]
      exact kq H' (f1.trans0 f)
end
end Pr
end

section
set_option Elab.async false
set_option linter.all false
set_option maxRecDepth 100000
set_option maxHeartbeats 2000000
/-! ### settle; what is said -/
namespace Pr
open PySem PySem.Spec L2
open PyProof.Rows hiding St
section
variable {P : Program} {w : World} {K : PySem.W.Frag} {mg : Str → Option Value} {base : Heap}
def spSettle (T : Tx K mg) : Sp := fun vs H Q _ => ∃ (i n : Nat) (x : Lead.Node) (r : RA), vs = [.ref r.p] ∧ RepAt T.CR H i n x r ∧ n ≤ 5 ∧ i < n ∧ x.same.length = n ∧ x.log.length ≤ 32 ∧ x.settled ≤ 32 ∧ ∀ H', Mv T.CR H H' i n (x.settles i) r r → Q .non H'
theorem ok_settle (T : Tx K mg) : FnOk P w K mg base CX0 3 T.a_r_settle T.d_r_settle ["self"] (spSettle T) := by
  refine T.F_r_settle.ok sc_r_settle (fun vs H Q E h => ?_) (fun cdv A outer s H vs Q E hr h => ?_)
  · obtain ⟨i, n, x, r, rfl, _⟩ := h
    rfl
  · obtain ⟨i, n, x, r, rfl, R, hn, hi, hs, hll, hst, kq⟩ := h
    have hr1 : Room 1 _ := hr.mono (by decide)
    refine ⟨_, pss_one (ps_for PassesOwn.never rfl (pi_range3 rfl T.b_range (pa_cons (pe_callB call_len_seq (by rfl) T.b_len PySem.boot_len (pa_cons (pe_fld (pv 0) rfl) pa_nil)) (pa_cons (pe_fld (pv 0) rfl) (pa_cons (pe_un un_neg pe_int) pa_nil))))
      (pg_name (i := 1) sc_r_settle.nd rfl (Or.inl rfl))
      (pss_one (ps_if (pw_and (pt_cmpR op_eq (pe_meth (pv 0) T.cl_r T.M_r_term_of_entry (ok_toe T) hr1 T.B_r_term_of_entry .nil pass0 (pa_cons (pv 1) pa_nil)) (pe_fld (pv 0) rfl) (nomark _))
        (pw_and1 (pt_val (pe_meth (pv 0) T.cl_r T.M_r_more_than_half (ok_mth T) hr1 T.B_r_more_than_half .nil pass0 (pa_cons (pe_meth (pv 0) T.cl_r T.M_r_how_many_have (ok_hmh T) hr T.B_r_how_many_have .nil pass0 (pa_cons (pv 1) pa_nil)) pa_nil))))).pt
        (pss_cons (ps_fld (pv 0) (pv 1) rfl) (pss_one ps_retN)) pss_nil))), ?_⟩
    obtain ⟨ts, h2, h3⟩ := R.lg
    have hlen : (ts.map V.ref).length = x.log.length := by rw [List.length_map, ents_len h3]
    refine f_log T R rfl ⟨r.lg, _, rfl, .inl (SqL.of h2), f_settled T R rfl ⟨_, rfl, _, _, _, _, rfl, RgC.neg (by omega) (by omega) (by omega) (by omega), ?_⟩⟩
    refine for_rangeC (fun t σ H' => ∃ v : Option V, σ = [some (.ref r.p), v] ∧ Fr H H' [] ∧ Ld.best x i x.log.length = Ld.best x i (x.log.length - t)) ⟨none, rfl, Fr.refl, rfl⟩ ?_ ?_
    · rintro t σ H' ht ⟨v, rfl, f, hb⟩
      have htn : t < x.log.length - x.settled := by
        rw [hlen] at ht
        omega
      have ek : (((ts.map V.ref).length : Nat) : Int) + (t : Nat) * (-1) = ((x.log.length - t : Nat) : Int) := by
        rw [hlen]
        omega
      rw [ek]
      have R' := R.fr0 f
      obtain ⟨dx, h1⟩ := R'.ins
      obtain ⟨m, hm⟩ : ∃ m, x.log.length - t = m + 1 := ⟨x.log.length - t - 1, by omega⟩
      have hm2 : x.log.length - (t + 1) = m := by omega
      refine ⟨_, rfl, r.p, dx, _, rfl, h1, look_no (rf_keys i n x r) (by decide +kernel), _, rfl, i, n, x, r, x.log.length - t, rfl, R', Nat.sub_le _ _, f_term T R' rfl ⟨rfl, _, rfl, ite2 (fun h => ?_) (fun h => ?_)⟩⟩
      · have e1 : Lead.termAt x.log (x.log.length - t) = x.term := by
          have := V.int.inj (of_decide_eq_true h)
          omega
        refine ⟨_, rfl, r.p, dx, _, rfl, h1, look_no (rf_keys i n x r) (by decide +kernel), _, rfl, r.p, dx, _, rfl, h1, look_no (rf_keys i n x r) (by decide +kernel), _, rfl, i, n, x, r, x.log.length - t, rfl, R', hn, hi, hs, fun H2 f2 => ?_⟩
        have R2 := R'.fr0 f2
        refine ⟨i, n, x, r, _, rfl, R2, _, rfl, ite2 (fun h' => ?_) (fun h' => ?_)⟩
        · have e2 : Lead.most x.same.length (Lead.have_ x i (x.log.length - t)) = true := by
            have := of_decide_eq_true h'
            unfold Lead.most
            exact decide_eq_true (by omega)
          refine ⟨_, rfl, w_settled T ((Mv.refl R).new (f.trans0 f2)) (x.log.length - t) rfl fun H3 A3 => ?_⟩
          refine kq H3 ?_
          rw [Ld.settles_best]
          have e3 : Ld.best x i x.log.length = x.log.length - t := by
            rw [hb, hm]
            rw [hm] at e1 e2
            exact Ld.best_hit (by omega) ⟨e2, e1⟩
          rw [e3]
          exact A3
        · have e2 : ¬ Lead.most x.same.length (Lead.have_ x i (x.log.length - t)) = true := by
            intro z
            have := of_decide_eq_true z
            exact h' (decide_eq_true (by omega))
          refine ⟨_, rfl, f.trans0 f2, ?_⟩
          rw [hb, hm2, hm]
          rw [hm] at e2
          exact Ld.best_miss fun c => e2 c.1
      · have e1 : ¬ Lead.termAt x.log (x.log.length - t) = x.term := by
          intro z
          exact h (decide_eq_true (by rw [z]))
        refine iteF ⟨_, rfl, f, ?_⟩
        rw [hb, hm2, hm]
        rw [hm] at e1
        exact Ld.best_miss fun c => e1 c.2
    · rintro σ H' ⟨v, rfl, f, hb⟩
      refine kq H' ?_
      rw [Ld.settles_best]
      have e3 : Ld.best x i x.log.length = x.settled := by
        rw [hb]
        refine Ld.best_under ?_
        rw [hlen]
        omega
      rw [e3]
      exact (Mv.refl R).new f

/-! Message(..): its promise; reply, ask_for_vote, send_entries -/
def spM (T : Tx K mg) : Sp := fun vs H Q _ => ∃ (p dx : Addr) (m : Lead.Message) (ev : V), vs = [.ref p, .int m.kind, .int m.from_, .int m.to_, .int m.term, .int m.a, .int m.b, .int m.c, ev] ∧ H p = some (.ins T.CM dx []) ∧
  ((ev = .non ∧ m.entries = []) ∨ ∃ l ts, ev = .ref l ∧ H l = some (.lst (ts.map V.ref)) ∧ Ents H ts m.entries) ∧ ∀ H', Fr H H' [p] → MsgAt T.CM H' p m → Q .non H'
def spReply (T : Tx K mg) : Sp := fun vs H Q _ => ∃ (i n : Nat) (x : Lead.Node) (r : RA) (ma : Addr) (m : Lead.Message) (kd a b : Nat), vs = [.ref r.p, .ref ma, .int kd, .int a, .int b] ∧ RepAt T.CR H i n x r ∧ MsgAt T.CM H ma m ∧
  ∀ H' p, Fr H H' [] → H p = none → MsgAt T.CM H' p ⟨0, kd, i, m.from_, x.term, a, b, 0, []⟩ → Q (.ref p) H'
/-- the promise that Message(..) keeps -/
abbrev OkM (P : Program) (w : World) (base : Heap) (T : Tx K mg) : Prop := FnOk P w K mg base CX0 1 T.a_m_init T.d_m_init ["self", "kind", "sender", "receiver", "term", "a", "b", "c", "entries"] (spM T)
/-- two values fill up -/
abbrev Fill2 (K : PySem.W.Frag) (fd : FuncData) : Prop := ∃ ds, Vals [.int 0, .non] ds ∧ Binds K fd ["self", "kind", "sender", "receiver", "term", "a", "b", "c", "entries"] ds
theorem ok_reply (T : Tx K mg) (OM : OkM P w base T) (F2 : Fill2 K T.d_m_init) : FnOk P w K mg base CX0 3 T.a_r_reply T.d_r_reply ["self", "message", "kind", "a", "b"] (spReply T) := by
  refine T.F_r_reply.ok sc_r_reply (fun vs H Q E h => ?_) (fun cdv A outer s H vs Q E hr h => ?_)
  · obtain ⟨i, n, x, r, ma, m, kd, a, b, rfl, _⟩ := h
    rfl
  · obtain ⟨i, n, x, r, ma, m, kd, a, b, rfl, R, M, k⟩ := h
    obtain ⟨ds, hd, hB⟩ := F2
    refine ⟨_, pss_one (ps_ret (pe_make T.K_m_init OM hr rfl T.mg_m hB hd pass0 (pa_cons (pv 2) (pa_cons (pe_fld (pv 0) rfl) (pa_cons (pe_fld (pv 1) rfl) (pa_cons (pe_fld (pv 0) rfl) (pa_cons (pv 3) (pa_cons (pv 4) pa_nil)))))))), ?_⟩
    refine ⟨_, rfl, f_number T R rfl (g_sender T M rfl (f_term T R rfl ⟨_, rfl, _, rfl, fun p dx np nd ne => ?_⟩))⟩
    exact ⟨p, dx, ⟨0, kd, i, m.from_, x.term, a, b, 0, []⟩, .non, rfl, upd_same, .inl ⟨rfl, rfl⟩, fun H' f hm => ⟨rfl, k H' p (fr_made np nd ne f) np hm⟩⟩
def spAsk (T : Tx K mg) : Sp := fun vs H Q _ => ∃ (i n : Nat) (x : Lead.Node) (r : RA) (j : Nat), vs = [.ref r.p, .int j] ∧ RepAt T.CR H i n x r ∧ ∀ H' p, Fr H H' [] → H p = none → MsgAt T.CM H' p (Lead.askVote x i j) → Q (.ref p) H'
theorem ok_ask (T : Tx K mg) (OM : OkM P w base T) (F2 : Fill2 K T.d_m_init) : FnOk P w K mg base CX0 3 T.a_r_ask_for_vote T.d_r_ask_for_vote ["self", "j"] (spAsk T) := by
  refine T.F_r_ask_for_vote.ok sc_r_ask_for_vote (fun vs H Q E h => ?_) (fun cdv A outer s H vs Q E hr h => ?_)
  · obtain ⟨i, n, x, r, j, rfl, _⟩ := h
    rfl
  · obtain ⟨i, n, x, r, j, rfl, R, k⟩ := h
    obtain ⟨ds, hd, hB⟩ := F2
    refine ⟨_, pss_one (ps_ret (pe_make T.K_m_init OM hr rfl T.mg_m hB hd pass0 (pa_cons (pe_gi T.g_VOTE_FOR_ME) (pa_cons (pe_fld (pv 0) rfl) (pa_cons (pv 1) (pa_cons (pe_fld (pv 0) rfl)
      (pa_cons (pe_callB call_len_seq (by rfl) T.b_len PySem.boot_len (pa_cons (pe_fld (pv 0) rfl) pa_nil)) (pa_cons (pe_meth0 (pv 0) T.cl_r T.M_r_last_term (ok_lt T) hr T.B_r_last_term .nil pass0) pa_nil)))))))), ?_⟩
    obtain ⟨dx, h1⟩ := R.ins
    obtain ⟨ts, h2, h3⟩ := R.lg
    unfold tRet tMake tCons tC
    refine f_number T R rfl ⟨_, rfl, f_term T R rfl (f_log T R rfl ⟨r.lg, _, rfl, .inl (SqL.of h2), _, rfl, r.p, dx, _, rfl, h1, look_no (rf_keys i n x r) (by decide +kernel), i, n, x, r, rfl, R, fun p dp np nd ne => ?_⟩)⟩
    refine ⟨p, dp, Lead.askVote x i j, .non, ?_, upd_same, .inl ⟨rfl, rfl⟩, fun H' f hm => ⟨rfl, k H' p (fr_made np nd ne f) np hm⟩⟩
    rw [List.length_map, ents_len h3]
    rfl

/-! propose -/
def spPropose (T : Tx K mg) : Sp := fun vs H Q _ => ∃ (i n : Nat) (x : Lead.Node) (r : RA) (v : Nat), vs = [.ref r.p, .int v] ∧ RepAt T.CR H i n x r ∧ x.log.length ≤ 32 ∧ ∀ H', Mv T.CR H H' i n (x.keeps (x.log ++ [⟨x.term, v⟩]) x.settled) r r → Q (.int (x.log.length + 1 : Nat)) H'
theorem ok_propose (T : Tx K mg) : FnOk P w K mg base CX0 1 T.a_r_propose T.d_r_propose ["self", "value"] (spPropose T) := by
  refine T.F_r_propose.ok sc_r_propose (fun vs H Q E h => ?_) (fun cdv A outer s H vs Q E hr h => ?_)
  · obtain ⟨i, n, x, r, v, rfl, _⟩ := h
    rfl
  · obtain ⟨i, n, x, r, v, rfl, R, hl, k⟩ := h
    refine ⟨_, pss_cons (ps_expr (pe_bm PySem.F.plainAttrs_list PySem.F.slot_list_append PySem.F.type_list_append mt_append (pe_fld (pv 0) rfl) (pa_cons (pe_tup (pa_cons (pe_fld (pv 0) rfl) (pa_cons (pv 1) pa_nil))) pa_nil)))
      (pss_one (ps_ret (pe_callB call_len_seq (by rfl) T.b_len PySem.boot_len (pa_cons (pe_fld (pv 0) rfl) pa_nil)))), ?_⟩
    obtain ⟨ts, h2, h3⟩ := R.lg
    refine ⟨_, rfl, r_log T R ⟨.inl ⟨rfl, _, SqL.of h2⟩, _, rfl, r_term T R ⟨_, rfl, (by show 2 ≤ sizeLine; decide), fun t ht => ?_⟩⟩⟩
    have A1 := (Mv.refl R).nw (o := .tup [.int x.term, .int v]) ht
    have h2' : (upd H t (.tup [.int x.term, .int v])) r.lg = some (.lst (ts.map V.ref)) := by
      rw [upd_ne (ne_of_none h2 ht)]
      exact h2
    refine ⟨r.lg, _, _, rfl, rfl, h2', ?_, ?_⟩
    · rw [List.length_map, ents_len h3]
      exact Nat.lt_of_le_of_lt hl (show 32 < sizeLine by decide)
    · have e : ts.map V.ref ++ [V.ref t] = (ts ++ [t]).map V.ref := by rw [List.map_append]; rfl
      rw [e]
      have h4 : Ents (upd H t (.tup [.int x.term, .int v])) (ts ++ [t]) (x.log ++ [⟨x.term, v⟩]) := Ents.append (h3.fr (Fr.refl.new ht (ws := []))) (.cons upd_same .nil)
      have A2 := A1.up_lg h4
      refine f_log T A2.rep rfl ⟨r.lg, _, rfl, .inl (SqL.of upd_same), ?_⟩
      have e2 : ((((ts ++ [t]).map V.ref).length : Nat) : Int) = (x.log.length + 1 : Nat) := by
        rw [List.length_map, List.length_append, ents_len h3]
        rfl
      rw [e2]
      exact k _ A2
end
end Pr
end

section
set_option Elab.async false
set_option linter.all false
set_option maxRecDepth 100000
set_option maxHeartbeats 2000000
/-! ### stand, beat; what is heard -/
namespace Pr
open PySem PySem.Spec L2
open PyProof.Rows hiding St
theorem bt_max : bootBuiltins "max" = some (.builtin "max") := by decide +kernel
theorem bt_min : bootBuiltins "min" = some (.builtin "min") := by decide +kernel
theorem bt_list : bootBuiltins "list" = some (.type "list") := by decide +kernel
theorem bt_tuple : bootBuiltins "tuple" = some (.type "tuple") := by decide +kernel
theorem said_fr {C : Addr} {H H' : Hp} {ws : List Addr} {as : List Addr} {ms : List Lead.Message} (h : Paired (MsgAt C H) as ms) (f : Fr H H' ws) (n : ∀ a m, MsgAt C H a m → a ∉ ws) : Paired (MsgAt C H') as ms := Paired.mapP h fun a m q => q.fr f (n a m q)
theorem msg_ne {C : Addr} {H : Hp} {a b : Addr} {m : Lead.Message} {xs : List V} (h : MsgAt C H a m) (hb : H b = some (.lst xs)) : a ≠ b := by
  obtain ⟨dx, e, ts, h1, _⟩ := h
  exact ne_of h1 hb (by intro z; cases z)
theorem psnoc {α β : Type} {F : α → β → Prop} : ∀ {l : List α} {m : List β} {a : α} {b : β}, Paired F l m → F a b → Paired F (l ++ [a]) (m ++ [b])
  | _, _, _, _, .nil, h => .cons h .nil
  | _, _, _, _, .cons r t, h => .cons r (psnoc t h)
/-- one more message is put into the list at D -/
theorem said_step {C : Addr} {H1 H' H4 : Hp} {D p : Addr} {as : List Addr} {ms : List Lead.Message} {m : Lead.Message} (f : Fr H1 H' []) (hD1 : H1 D = none) (hD : H' D = some (.lst (as.map V.ref))) (pm : Paired (MsgAt C H') as ms) (f4 : Fr H' H4 []) (hm : MsgAt C H4 p m) :
    H4 D = some (.lst (as.map V.ref)) ∧ Fr H1 (upd H4 D (.lst (as.map V.ref ++ [.ref p]))) [] ∧ (upd H4 D (.lst (as.map V.ref ++ [.ref p]))) D = some (.lst ((as ++ [p]).map V.ref)) ∧ Paired (MsgAt C (upd H4 D (.lst (as.map V.ref ++ [.ref p])))) (as ++ [p]) (ms ++ [m]) := by
  have h4 : H4 D = some (.lst (as.map V.ref)) := f4.kp _ _ hD (by simp)
  have g : Fr H4 (upd H4 D (.lst (as.map V.ref ++ [.ref p]))) [D] := Fr.refl.put (.inl (by simp)) h4 (fun _ q => by cases q)
  refine ⟨h4, (f.trans0 f4).put (.inr hD1) h4 (fun _ q => by cases q), by rw [upd_same, List.map_append]; rfl, ?_⟩
  have q1 : Paired (MsgAt C H4) as ms := said_fr pm f4 fun _ _ _ z => by cases z
  refine psnoc (said_fr q1 g fun a m q z => ?_) (hm.fr g fun z => ?_)
  · rw [List.mem_singleton] at z
    exact msg_ne q h4 z
  · rw [List.mem_singleton] at z
    exact msg_ne hm h4 z
theorem get_ni {l : List Nat} {m : Nat} {y : V} (hy : (ni l)[m]? = some y) : ∃ j, l[m]? = some j ∧ y = V.int j := by
  unfold ni at hy
  rw [List.getElem?_map] at hy
  cases e : l[m]? with
  | none => rw [e] at hy; cases hy
  | some j => rw [e] at hy; exact ⟨j, rfl, (Option.some.inj hy).symm⟩
theorem paired_len {α β : Type} {F : α → β → Prop} {l : List α} {m : List β} (h : Paired F l m) : l.length = m.length := Paired.length h
section
variable {P : Program} {w : World} {K : PySem.W.Frag} {mg : Str → Option Value} {base : Heap}
/-! stand -/
def spStand (T : Tx K mg) : Sp := fun vs H Q _ => ∃ (i n : Nat) (x : Lead.Node) (r : RA), vs = [.ref r.p] ∧ RepAt T.CR H i n x r ∧ n ≤ 5 ∧ i < n ∧
  ∀ H' r' l, Mv T.CR H H' i n (x.stands i) r r' → H l = none → l ∉ own r' → Said T.CM H' l ((Lead.others n i).map (Lead.askVote (x.stands i) i)) → Q (.ref l) H'
theorem ok_stand (T : Tx K mg) (OM : OkM P w base T) (F2 : Fill2 K T.d_m_init) : FnOk P w K mg base CX0 4 T.a_r_stand T.d_r_stand ["self"] (spStand T) := by
  refine T.F_r_stand.ok sc_r_stand (fun vs H Q E h => ?_) (fun cdv A outer s H vs Q E hr h => ?_)
  · obtain ⟨i, n, x, r, rfl, _⟩ := h
    rfl
  · obtain ⟨i, n, x, r, rfl, R, hn, hi, k⟩ := h
    have hr1 : Room 1 _ := hr.mono (by decide)
    refine ⟨_, pss_cons (ps_fld (pv 0) (pe_op op_add (pe_fld (pv 0) rfl) pe_int) rfl) (pss_cons (ps_fld (pv 0) (pe_gi T.g_STANDS) rfl) (pss_cons (ps_fld (pv 0) (pe_op op_add (pe_fld (pv 0) rfl) pe_int) rfl)
      (pss_cons (ps_fld (pv 0) (pe_lst (pa_cons (pe_fld (pv 0) rfl) pa_nil)) rfl)
      (pss_one (ps_ret (pe_lc rfl sc_r_stand.nd (pi_list (pe_meth0 (pv 0) T.cl_r T.M_r_others (ok_others T) hr1 T.B_r_others .nil pass0)) (blkOk_by (own := [("j", 1)]) (by show blkC ["self", "j"] (defScope st_r_stand) _ [("j", 1)] = true; decide +kernel))
        (fun _ _ _ _ _ => pg_name (i := 1) sc_r_stand.nd rfl (Or.inl rfl)) (fun _ _ _ _ _ => pts_nil)
        (fun _ _ _ _ _ => pe_meth (pv 0) T.cl_r T.M_r_ask_for_vote (ok_ask T OM F2) hr T.B_r_ask_for_vote .nil pass0 (pa_cons (pv 1) pa_nil)))))))), ?_⟩
    refine ⟨_, rfl, r_term T R ⟨_, _, rfl, rfl, w_term T (Mv.refl R) (x.term + 1) rfl fun H1 A1 => ?_⟩⟩
    refine w_role T A1 1 rfl fun H2 A2 => ?_
    refine ⟨_, rfl, r_number T A2.rep ⟨_, _, rfl, rfl, w_vote T A2 (i + 1) rfl fun H3 A3 => ?_⟩⟩
    refine ⟨_, rfl, r_number T A3.rep ⟨(by show 1 ≤ sizeLine; decide), fun lv hlv => ?_⟩⟩
    obtain ⟨o1, o2⟩ := A3.out hlv
    refine w_vo T (A3.nw (o := .lst (ni [i])) hlv) (vs := [i]) upd_same o1 o2 rfl fun H4 A4 => ?_
    obtain ⟨dx, h1⟩ := A4.rep.ins
    refine ⟨_, rfl, r.p, dx, _, rfl, h1, look_no (rf_keys i n _ _) (by decide +kernel), i, n, x.stands i, { r with vo := lv }, rfl, A4.rep, hn, fun H5 l f5 hl0 hl => ?_⟩
    refine ⟨l, rfl, ⟨_, SqL.of hl⟩, fun D hD => ?_⟩
    have hol : (Lead.others n i).length ≤ 5 := by rw [Ld.others_length hi]; omega
    refine lc_list (K := K) (xs := ni (Lead.others n i)) (fun m H' => Fr H5 H' [] ∧ ∃ as : List Addr, H' D = some (.lst (as.map V.ref)) ∧ Paired (MsgAt T.CM H') as (((Lead.others n i).take m).map (Lead.askVote (x.stands i) i)))
      ⟨Fr.refl.new hD, [], upd_same, .nil⟩ (fun m H' _ p => SqL.of (p.1.kp _ _ hl (by simp))) ?_ ?_
    · rintro m y H' hy ⟨f, as, hD', pm⟩
      obtain ⟨j, hj, rfl⟩ := get_ni hy
      have R' := (A4.rep.fr0 f5).fr0 f
      obtain ⟨dx', h1'⟩ := R'.ins
      refine ⟨rfl, ⟨_, rfl, r.p, dx', _, rfl, h1', look_no (rf_keys i n _ _) (by decide +kernel), _, rfl, i, n, x.stands i, { r with vo := lv }, j, rfl, R', fun H6 p f6 hp hm => ?_⟩⟩
      obtain ⟨q1, q2, q3, q4⟩ := said_step f hD hD' pm f6 hm
      refine ⟨_, q1, ?_, q2, as ++ [p], q3, ?_⟩
      · rw [List.length_map, paired_len pm, List.length_map, List.length_take]
        exact Nat.lt_of_le_of_lt (Nat.le_trans (Nat.min_le_right _ _) hol) (show 5 < sizeLine by decide)
      · rw [List.take_add_one, hj, List.map_append]
        exact q4
    · rintro H' ⟨f, as, hD', pm⟩
      rw [ni_length, List.take_length] at pm
      exact k H' _ D ((A4.new f5).new f) (A4.fr.free (f5.free hD)) ((A4.new f5).out hD).2 ⟨as, hD', pm⟩

/-! send_entries, beat -/
theorem cut4 {ts : List Addr} {a : Nat} (h : a ≤ ts.length) : cutV (ts.map V.ref) (some (a : Int)) (some ((a : Int) + 4)) = ((ts.drop a).take 4).map V.ref := by
  unfold cutV
  have e : ((a : Int) + 4) = ((a + 4 : Nat) : Int) := by omega
  rw [e, HT.sIx_nat, HT.sIx_nat, List.length_map, Nat.min_eq_left h, List.map_take, List.map_drop]
  by_cases h4 : a + 4 ≤ ts.length
  · rw [Nat.min_eq_left h4]
    congr 1
    omega
  · rw [Nat.min_eq_right (by omega)]
    rw [List.take_of_length_le (by rw [List.length_drop, List.length_map]; omega), List.take_of_length_le (by rw [List.length_drop, List.length_map]; omega)]
abbrev Fill0 (K : PySem.W.Frag) (fd : FuncData) : Prop := Binds K fd ["self", "kind", "sender", "receiver", "term", "a", "b", "c", "entries"] []
def spSend (T : Tx K mg) : Sp := fun vs H Q _ => ∃ (i n : Nat) (x : Lead.Node) (r : RA) (j v : Nat), vs = [.ref r.p, .int j] ∧ RepAt T.CR H i n x r ∧ x.next[j]? = some v ∧ 1 ≤ v ∧ v ≤ x.log.length + 1 ∧
  ∀ H' p, Fr H H' [] → H p = none → MsgAt T.CM H' p (Lead.giveEntries x i j) → Q (.ref p) H'
theorem ok_send (T : Tx K mg) (OM : OkM P w base T) : FnOk P w K mg base CX0 3 T.a_r_send_entries T.d_r_send_entries ["self", "j"] (spSend T) := by
  refine T.F_r_send_entries.ok sc_r_send_entries (fun vs H Q E h => ?_) (fun cdv A outer s H vs Q E hr h => ?_)
  · obtain ⟨i, n, x, r, j, v, rfl, _⟩ := h
    rfl
  · obtain ⟨i, n, x, r, j, v, rfl, R, hv, hv1, hv2, k⟩ := h
    have hr1 : Room 1 _ := hr.mono (by decide)
    refine ⟨_, pss_cons (ps_set (i := 2) sc_r_send_entries.nd rfl (Or.inl rfl) (pe_op op_sub (pe_ix ix_list (pe_fld (pv 0) rfl) (pv 1) (fun _ _ => rfl)) pe_int))
      (pss_cons (ps_set (i := 3) sc_r_send_entries.nd rfl (Or.inl rfl) (pe_slice sl_list (pe_fld (pv 0) rfl) (po_some (pv 2)) (po_some (pe_op op_add (pv 2) (pe_gi T.g_MOST_ENTRIES_SENT)))))
      (pss_one (ps_ret (pe_make T.K_m_init OM hr rfl T.mg_m T.B_m_init .nil pass0 (pa_cons (pe_gi T.g_HAVE_THESE) (pa_cons (pe_fld (pv 0) rfl) (pa_cons (pv 1) (pa_cons (pe_fld (pv 0) rfl) (pa_cons (pv 2)
        (pa_cons (pe_meth (pv 0) T.cl_r T.M_r_term_of_entry (ok_toe T) hr1 T.B_r_term_of_entry .nil pass0 (pa_cons (pv 2) pa_nil)) (pa_cons (pe_fld (pv 0) rfl) (pa_cons (pv 3) pa_nil)))))))))))), ?_⟩
    obtain ⟨ts, h2, h3⟩ := R.lg
    refine ⟨_, rfl, r_next_entry T R ⟨_, rfl, r.ne, _, _, _, rfl, rfl, SqL.of R.ne, at_of (j := j) rfl (ni_get hv), _, _, rfl, rfl, ?_⟩⟩
    have ea : ((v : Int) - 1) = ((v - 1 : Nat) : Int) := by omega
    dsimp only
    rw [ea]
    refine ⟨_, rfl, r_log T R ⟨_, rfl, _, rfl, _, rfl, _, _, rfl, rfl, _, rfl, r.lg, _, rfl, SqL.of h2, fun l hl => ?_⟩⟩
    rw [cut4 (show v - 1 ≤ ts.length by rw [ents_len h3]; omega)]
    have f1 : Fr H (upd H l (.lst (((ts.drop (v - 1)).take 4).map V.ref))) [] := Fr.refl.new hl
    have R1 := R.fr0 f1
    obtain ⟨dx, h1⟩ := R1.ins
    refine ⟨_, rfl, r_number T R1 ⟨_, rfl, ⟨_, rfl, r_term T R1 ⟨_, rfl, _, rfl, r.p, dx, _, rfl, h1, look_no (rf_keys i n x r) (by decide +kernel), _, rfl, i, n, x, r, v - 1, rfl, R1, (by omega), ⟨_, rfl, r_settled T R1 ⟨_, rfl, fun p dp np nd ne => ?_⟩⟩⟩⟩⟩⟩
    have eg : x.next.getD j 1 = v := by rw [List.getD_eq_getElem?_getD, hv]; rfl
    have em : Lead.giveEntries x i j = ⟨0, 2, i, j, x.term, v - 1, Lead.termAt x.log (v - 1), x.settled, (x.log.drop (v - 1)).take 4⟩ := by
      unfold Lead.giveEntries
      rw [eg]
      rfl
    have hlp : l ≠ p := ne_of_none (upd_same (H := H)) np
    have hld : l ≠ dp := ne_of_none (upd_same (H := H)) nd
    refine ⟨p, dp, ⟨0, 2, i, j, x.term, v - 1, Lead.termAt x.log (v - 1), x.settled, (x.log.drop (v - 1)).take 4⟩, .ref l, rfl, upd_same, .inr ⟨l, (ts.drop (v - 1)).take 4, rfl, ?_, ?_⟩, fun H' f hm => ⟨rfl, k H' p (f1.trans0 (fr_made np nd ne f)) (f1.free np) (by rw [em]; exact hm)⟩⟩
    · rw [upd_ne hlp, upd_ne hld, upd_same]
    · have f2 : Fr H (upd (upd (upd H l (.lst (((ts.drop (v - 1)).take 4).map V.ref))) dp (.own p)) p (.ins T.CM dp [])) [] := (f1.new nd).new (by rw [upd_ne (Ne.symm ne)]; exact np)
      exact ((h3.drop (v - 1)).take 4).fr f2
def spBeat (T : Tx K mg) : Sp := fun vs H Q _ => ∃ (i n : Nat) (x : Lead.Node) (r : RA), vs = [.ref r.p] ∧ RepAt T.CR H i n x r ∧ n ≤ 5 ∧ i < n ∧ x.next.length = n ∧ (∀ v ∈ x.next, 1 ≤ v ∧ v ≤ x.log.length + 1) ∧
  ∀ H' l, Fr H H' [] → H l = none → Said T.CM H' l ((Lead.others n i).map (Lead.giveEntries x i)) → Q (.ref l) H'
theorem ok_beat (T : Tx K mg) (OM : OkM P w base T) : FnOk P w K mg base CX0 4 T.a_r_beat T.d_r_beat ["self"] (spBeat T) := by
  refine T.F_r_beat.ok sc_r_beat (fun vs H Q E h => ?_) (fun cdv A outer s H vs Q E hr h => ?_)
  · obtain ⟨i, n, x, r, rfl, _⟩ := h
    rfl
  · obtain ⟨i, n, x, r, rfl, R, hn, hi, hnl, hnx, k⟩ := h
    have hr1 : Room 1 _ := hr.mono (by decide)
    refine ⟨_, pss_one (ps_ret (pe_lc rfl sc_r_beat.nd (pi_list (pe_meth0 (pv 0) T.cl_r T.M_r_others (ok_others T) hr1 T.B_r_others .nil pass0)) (blkOk_by (own := [("j", 1)]) (by show blkC ["self", "j"] (defScope st_r_beat) _ [("j", 1)] = true; decide +kernel))
        (fun _ _ _ _ _ => pg_name (i := 1) sc_r_beat.nd rfl (Or.inl rfl)) (fun _ _ _ _ _ => pts_nil)
        (fun _ _ _ _ _ => pe_meth (pv 0) T.cl_r T.M_r_send_entries (ok_send T OM) hr T.B_r_send_entries .nil pass0 (pa_cons (pv 1) pa_nil)))), ?_⟩
    obtain ⟨dx, h1⟩ := R.ins
    refine ⟨_, rfl, r.p, dx, _, rfl, h1, look_no (rf_keys i n _ _) (by decide +kernel), i, n, _, _, rfl, R, hn, fun H5 l f5 hl0 hl => ?_⟩
    refine ⟨l, rfl, ⟨_, SqL.of hl⟩, fun D hD => ?_⟩
    have hol : (Lead.others n i).length ≤ 5 := by rw [Ld.others_length hi]; omega
    refine lc_list (K := K) (xs := ni (Lead.others n i)) (fun m H' => Fr H5 H' [] ∧ ∃ as : List Addr, H' D = some (.lst (as.map V.ref)) ∧ Paired (MsgAt T.CM H') as (((Lead.others n i).take m).map (Lead.giveEntries x i)))
      ⟨Fr.refl.new hD, [], upd_same, .nil⟩ (fun m H' _ p => SqL.of (p.1.kp _ _ hl (by simp))) ?_ ?_
    · rintro m y H' hy ⟨f, as, hD', pm⟩
      obtain ⟨j, hj, rfl⟩ := get_ni hy
      have R' := (R.fr0 f5).fr0 f
      obtain ⟨dx', h1'⟩ := R'.ins
      have hjn := (Ld.mem_others (List.mem_of_getElem? hj)).1
      obtain ⟨v, hv⟩ : ∃ v, x.next[j]? = some v := ⟨_, List.getElem?_eq_getElem (by omega)⟩
      obtain ⟨hv1, hv2⟩ := hnx v (List.mem_of_getElem? hv)
      refine ⟨rfl, ⟨_, rfl, r.p, dx', _, rfl, h1', look_no (rf_keys i n _ _) (by decide +kernel), _, rfl, i, n, x, r, j, v, rfl, R', hv, hv1, hv2, fun H6 p f6 hp hm => ?_⟩⟩
      obtain ⟨q1, q2, q3, q4⟩ := said_step f hD hD' pm f6 hm
      refine ⟨_, q1, ?_, q2, as ++ [p], q3, ?_⟩
      · rw [List.length_map, paired_len pm, List.length_map, List.length_take]
        exact Nat.lt_of_le_of_lt (Nat.le_trans (Nat.min_le_right _ _) hol) (show 5 < sizeLine by decide)
      · rw [List.take_add_one, hj, List.map_append]
        exact q4
    · rintro H' ⟨f, as, hD', pm⟩
      rw [ni_length, List.take_length] at pm
      exact k H' D (f5.trans0 f) (f5.free hD) ⟨as, hD', pm⟩
end
end Pr
end

section
set_option Elab.async false
set_option linter.all false
set_option maxRecDepth 100000
set_option maxHeartbeats 2000000
/-! ### what a replica does on a message -/
namespace Pr
open PySem PySem.Spec L2
open PyProof.Rows hiding St
theorem onVote_of {x : Lead.Node} {m : Lead.Message} {b : Bool} (h : (x.term == m.term && ((x.vote == 0 || x.vote == m.from_ + 1) && !Lead.newer x.log m.a m.b)) = b) :
    Lead.onVote x m = (if b = true then x.votes_ (m.from_ + 1) else x, [⟨0, 1, m.to_, m.from_, x.term, if b = true then 1 else 0, 0, 0, []⟩]) := by
  subst h
  rfl
theorem in_ni (j : Nat) (l : List Nat) : inV (.int j) (ni l) = l.contains j := by
  unfold inV ni
  rw [List.any_map]
  induction l with
  | nil => rfl
  | cons a l ih =>
    rw [List.any_cons, ih, List.contains_cons]
    congr 1
    show ((a : Int) == (j : Int)) = (j == a)
    by_cases h : j = a
    · subst h
      simp
    · have h2 : ¬ ((a : Int) = (j : Int)) := by omega
      rw [beq_eq_false_iff_ne.mpr h, beq_eq_false_iff_ne.mpr h2]
theorem flat_ni (l : List Nat) : (ni l).all flatV = true := by
  unfold ni
  rw [List.all_map]
  exact List.all_eq_true.mpr fun _ _ => rfl
theorem ixN_nat {n j : Nat} (h : j < n) : ixN n (j : Int) = some j := by
  unfold ixN
  rw [if_pos (by omega), if_pos (by omega)]
  simp
section
variable {P : Program} {w : World} {K : PySem.W.Frag} {mg : Str → Option Value} {base : Heap}
abbrev Fill1 (K : PySem.W.Frag) (fd : FuncData) : Prop := ∃ ds, Vals [.int 0] ds ∧ Binds K fd ["self", "message", "kind", "a", "b"] ds
/-! kind 0 -/
def spHv (T : Tx K mg) : Sp := fun vs H Q _ => ∃ (i n : Nat) (x : Lead.Node) (r : RA) (ma : Addr) (m : Lead.Message), vs = [.ref r.p, .ref ma] ∧ RepAt T.CR H i n x r ∧ MsgAt T.CM H ma m ∧ m.to_ = i ∧
  ∀ H' r' p, Mv T.CR H H' i n (Lead.onVote x m).1 r r' → H p = none → Paired (MsgAt T.CM H') [p] (Lead.onVote x m).2 → Q (.ref p) H'
theorem ok_hv (T : Tx K mg) (OM : OkM P w base T) (F2 : Fill2 K T.d_m_init) (F1 : Fill1 K T.d_r_reply) : FnOk P w K mg base CX0 4 T.a_r_hear_vote_for_me T.d_r_hear_vote_for_me ["self", "message"] (spHv T) := by
  refine T.F_r_hear_vote_for_me.ok sc_r_hear_vote_for_me (fun vs H Q E h => ?_) (fun cdv A outer s H vs Q E hr h => ?_)
  · obtain ⟨i, n, x, r, ma, m, rfl, _⟩ := h
    rfl
  · obtain ⟨i, n, x, r, ma, m, rfl, R, M, hto, k⟩ := h
    obtain ⟨ds, hd, hB⟩ := F1
    refine ⟨_, pss_cons (ps_set (i := 2) sc_r_hear_vote_for_me.nd rfl (Or.inl rfl) (pe_op op_add (pe_fld (pv 1) rfl) pe_int))
      (pss_cons (ps_if (pw_or (pt_cmpR op_ne (pe_fld (pv 0) rfl) (pe_fld (pv 1) rfl) (nomark _)) (pw_or (pt_cmpR op_notIn_seq (pe_fld (pv 0) rfl) (pe_tup (pa_cons pe_int (pa_cons (pv 2) pa_nil))) (by with_unfolding_all rfl))
          (pw_or1 (pt_val (pe_meth (pv 0) T.cl_r T.M_r_has_newer_log (ok_newer T) hr T.B_r_has_newer_log .nil pass0 (pa_cons (pe_fld (pv 1) rfl) (pa_cons (pe_fld (pv 1) rfl) pa_nil))))))).pt
        (pss_one (ps_ret (pe_meth (pv 0) T.cl_r T.M_r_reply (ok_reply T OM F2) hr hB hd pass0 (pa_cons (pv 1) (pa_cons (pe_gi T.g_ABOUT_VOTE) (pa_cons pe_int pa_nil)))))) pss_nil)
      (pss_cons (ps_fld (pv 0) (pv 2) rfl) (pss_one (ps_ret (pe_meth (pv 0) T.cl_r T.M_r_reply (ok_reply T OM F2) hr hB hd pass0 (pa_cons (pv 1) (pa_cons (pe_gi T.g_ABOUT_VOTE) (pa_cons pe_int pa_nil)))))))), ?_⟩
    have no : ∀ H1 H2 p, (x.term == m.term && ((x.vote == 0 || x.vote == m.from_ + 1) && !Lead.newer x.log m.a m.b)) = false → Fr H H1 [] → Fr H1 H2 [] → H1 p = none → MsgAt T.CM H2 p ⟨0, 1, i, m.from_, x.term, 0, 0, 0, []⟩ → Q (.ref p) H2 := by
      intro H1 H2 p hb f1 f2 hp hm
      have e := onVote_of hb
      refine k H2 r p ?_ (f1.free hp) ?_
      · rw [e]
        exact (Mv.refl R).new (f1.trans0 f2)
      · rw [e, hto]
        exact .cons hm .nil
    obtain ⟨dx, h1⟩ := R.ins
    refine ⟨_, rfl, m_sender T M ⟨_, _, rfl, rfl, ⟨_, rfl, r_term T R (⟨_, rfl, m_term T M ⟨rfl, _, rfl, ite2 (fun h => ?_) (fun h => ?_)⟩⟩)⟩⟩⟩
    · have e : ¬ x.term = m.term := by
        intro e
        rw [e] at h
        simp at h
      refine iteT ⟨_, rfl, r.p, dx, _, rfl, h1, look_no (rf_keys i n x r) (by decide +kernel), _, rfl, i, n, x, r, ma, m, 1, 0, 0, rfl, R, M, fun H2 p f2 hp hm => no H H2 p ?_ Fr.refl f2 hp hm⟩
      rw [beq_eq_false_iff_ne.mpr e]
      rfl
    · have e : x.term = m.term := by
        apply Decidable.byContradiction
        intro e
        apply h
        have : ¬ V.int (x.term : Int) = V.int (m.term : Int) := by
          intro z
          have := V.int.inj z
          omega
        rw [decide_eq_false this]
        rfl
      refine ⟨_, rfl, r_vote T R ⟨_, rfl, (by show 2 ≤ sizeLine; decide), fun tp htp => ⟨tp, _, rfl, .inr (SqT.of upd_same), rfl, rfl, _, rfl, ?_⟩⟩⟩
      have f1 : Fr H (upd H tp (.tup [.int 0, .int ((m.from_ : Int) + 1)])) [] := Fr.refl.new htp
      have R1 := R.fr0 f1
      have M1 : MsgAt T.CM (upd H tp (.tup [.int 0, .int ((m.from_ : Int) + 1)])) ma m := M.fr f1 (by simp)
      obtain ⟨dx1, h11⟩ := R1.ins
      have ev : (if true = true then !inV (V.int x.vote) [.int 0, .int ((m.from_ : Int) + 1)] else inV (V.int x.vote) [.int 0, .int ((m.from_ : Int) + 1)]) = !(x.vote == 0 || x.vote == m.from_ + 1) := by
        have := in_ni x.vote [0, m.from_ + 1]
        rw [if_pos rfl]
        show (!(inV (V.int x.vote) (ni [0, m.from_ + 1]))) = _
        rw [this]
        rw [List.contains_cons, List.contains_cons, List.contains_nil, Bool.or_false]
      rw [ev]
      refine ite2 (fun h' => ?_) (fun h' => ?_)
      · have e2 : (x.vote == 0 || x.vote == m.from_ + 1) = false := by simpa using h'
        refine iteT ⟨_, rfl, r.p, dx1, _, rfl, h11, look_no (rf_keys i n x r) (by decide +kernel), _, rfl, i, n, x, r, ma, m, 1, 0, 0, rfl, R1, M1, fun H2 p f2 hp hm => no _ H2 p ?_ f1 f2 hp hm⟩
        rw [e2]
        simp
      · have e2 : (x.vote == 0 || x.vote == m.from_ + 1) = true := by
          cases q : (x.vote == 0 || x.vote == m.from_ + 1) with
          | true => rfl
          | false => rw [q] at h'; exact absurd rfl h'
        refine ⟨_, rfl, r.p, dx1, _, rfl, h11, look_no (rf_keys i n x r) (by decide +kernel), ⟨_, rfl, m_a T M1 (⟨_, rfl, m_b T M1 ⟨i, n, x, r, m.a, m.b, rfl, R1, _, rfl, ite2 (fun h'' => ?_) (fun h'' => ?_)⟩⟩)⟩⟩
        · refine ⟨_, rfl, r.p, dx1, _, rfl, h11, look_no (rf_keys i n x r) (by decide +kernel), _, rfl, i, n, x, r, ma, m, 1, 0, 0, rfl, R1, M1, fun H2 p f2 hp hm => no _ H2 p ?_ f1 f2 hp hm⟩
          rw [h'']
          simp
        · have e3 : Lead.newer x.log m.a m.b = false := by simpa using h''
          have yes := onVote_of (x := x) (m := m) (b := true) (by rw [e, e2, e3]; simp)
          refine ⟨_, rfl, w_vote T ((Mv.refl R).new f1) (m.from_ + 1) rfl fun H2 A2 => ?_⟩
          obtain ⟨dx2, h12⟩ := A2.rep.ins
          have M2 := M.fr A2.fr (M.out R)
          refine ⟨_, rfl, r.p, dx2, _, rfl, h12, look_no (rf_keys i n _ r) (by decide +kernel), _, rfl, i, n, _, r, ma, m, 1, 1, 0, rfl, A2.rep, M2, fun H3 p f3 hp hm => ?_⟩
          refine k H3 r p ?_ (A2.fr.free hp) ?_
          · rw [yes]
            exact A2.new f3
          · rw [yes, hto]
            exact .cons hm .nil

/-! kind 1 -/
def spHav (T : Tx K mg) : Sp := fun vs H Q _ => ∃ (i n : Nat) (x : Lead.Node) (r : RA) (ma : Addr) (m : Lead.Message), vs = [.ref r.p, .ref ma] ∧ RepAt T.CR H i n x r ∧ MsgAt T.CM H ma m ∧ n ≤ 5 ∧ Ld.NOk n x ∧
  ∀ H' r', Mv T.CR H H' i n (Lead.onVoted n x m).1 r r' → Q .non H'
theorem ok_hav (T : Tx K mg) : FnOk P w K mg base CX0 2 T.a_r_hear_about_vote T.d_r_hear_about_vote ["self", "message"] (spHav T) := by
  refine T.F_r_hear_about_vote.ok sc_r_hear_about_vote (fun vs H Q E h => ?_) (fun cdv A outer s H vs Q E hr h => ?_)
  · obtain ⟨i, n, x, r, ma, m, rfl, _⟩ := h
    rfl
  · obtain ⟨i, n, x, r, ma, m, rfl, R, M, hn, ok, k⟩ := h
    refine ⟨_, pss_cons (ps_if (pw_or (pt_cmpR op_ne (pe_fld (pv 0) rfl) (pe_gi T.g_STANDS) (nomark _)) (pw_or (pt_cmpR op_ne (pe_fld (pv 0) rfl) (pe_fld (pv 1) rfl) (nomark _)) (pw_or1 (pt_cmpR op_ne (pe_fld (pv 1) rfl) pe_int (nomark _))))).pt (pss_one ps_retN) pss_nil)
      (pss_cons (ps_if (pt_cmpR op_notIn_seq (pe_fld (pv 1) rfl) (pe_fld (pv 0) rfl) (by with_unfolding_all rfl))
        (pss_one (ps_expr (pe_bm PySem.F.plainAttrs_list PySem.F.slot_list_append PySem.F.type_list_append mt_append (pe_fld (pv 0) rfl) (pa_cons (pe_fld (pv 1) rfl) pa_nil)))) pss_nil)
      (pss_one (ps_if (pt_val (pe_meth (pv 0) T.cl_r T.M_r_more_than_half (ok_mth T) hr T.B_r_more_than_half .nil pass0 (pa_cons (pe_callB call_len_seq (by rfl) T.b_len PySem.boot_len (pa_cons (pe_fld (pv 0) rfl) pa_nil)) pa_nil)))
        (pss_one (ps_expr (pe_meth0 (pv 0) T.cl_r T.M_r_lead (ok_lead T) hr T.B_r_lead .nil pass0))) pss_nil))), ?_⟩
    have no : ¬ (x.role = 1 ∧ x.term = m.term ∧ m.a = 1) → Q .non H := by
      intro hc
      refine k H r ?_
      unfold Lead.onVoted
      rw [if_neg hc]
      exact Mv.refl R
    have neI : ∀ (a b : Nat), (!decide (V.int (a : Int) = V.int (b : Int))) = true → a ≠ b := by
      intro a b h e
      subst e
      simp at h
    have eqI : ∀ (a b : Nat), ¬ (!decide (V.int (a : Int) = V.int (b : Int))) = true → a = b := by
      intro a b h
      apply Decidable.byContradiction
      intro e
      apply h
      have : ¬ V.int (a : Int) = V.int (b : Int) := by
        intro z
        have := V.int.inj z
        omega
      rw [decide_eq_false this]
      rfl
    -- the last row
    have last : ∀ H1 (y : Lead.Node), y = x.voted m.from_ → x.role = 1 ∧ x.term = m.term ∧ m.a = 1 → Mv T.CR H H1 i n y r r →
        tIfS (tB (tMeth T.CR "more_than_half" (spMth T) [] E0 (tVar 0) (tCons (tCB (fun xs H Q => ∃ p ys, xs = [.ref p] ∧ (SqL K H p ys ∨ SqT K H p ys) ∧ Q (.int ys.length) H) (tCons (tFld K (tVar 0) "voters") tNil)) tNil))) (tDrop (tMeth T.CR "lead" (spLead T) [] E0 (tVar 0) tNil)) tNext
          { nx := fun _ H' => Q .non H', rt := Q } [some (.ref r.p), some (.ref ma)] H1 := by
      intro H1 y hy hc A1
      obtain ⟨dx1, h11⟩ := A1.rep.ins
      have ov : (Lead.onVoted n x m).1 = if Lead.most n y.votes.length = true then y.leads else y := by
        unfold Lead.onVoted
        rw [if_pos hc, hy]
      refine ⟨_, rfl, r.p, dx1, _, rfl, h11, look_no (rf_keys i n _ r) (by decide +kernel), ⟨_, rfl, r_voters T A1.rep ⟨r.vo, _, rfl, .inl (SqL.of A1.rep.vo), i, n, y, r, _, rfl, A1.rep, _, rfl, ite2 (fun h => ?_) (fun h => ?_)⟩⟩⟩
      · have hm : Lead.most n y.votes.length = true := by
          have := of_decide_eq_true h
          rw [ni_length] at this
          exact decide_eq_true (by omega)
        refine ⟨_, rfl, r.p, dx1, _, rfl, h11, look_no (rf_keys i n _ r) (by decide +kernel), i, n, y, r, rfl, A1.rep, hn, by rw [hy]; exact ok.nl, by rw [hy]; exact ok.sl, fun H2 r2 A2 => k H2 r2 ?_⟩
        rw [ov, if_pos hm]
        exact A1.trans A2
      · have hm : ¬ Lead.most n y.votes.length = true := by
          intro z
          have := of_decide_eq_true z
          exact h (decide_eq_true (by rw [ni_length]; omega))
        refine k H1 r ?_
        rw [ov, if_neg hm]
        exact A1
    refine ⟨_, rfl, r_role T R ⟨rfl, _, rfl, ite2 (fun h => ?_) (fun h => ?_)⟩⟩
    · exact iteT (no fun c => neI _ 1 h c.1)
    · have e1 : x.role = 1 := eqI _ 1 h
      refine ⟨_, rfl, r_term T R (⟨_, rfl, m_term T M ⟨rfl, _, rfl, ite2 (fun h => ?_) (fun h => ?_)⟩⟩)⟩
      · exact iteT (no fun c => neI _ _ h c.2.1)
      · have e2 : x.term = m.term := eqI _ _ h
        refine ⟨_, rfl, m_a T M ⟨rfl, _, rfl, ite2 (fun h => ?_) (fun h => ?_)⟩⟩
        · exact no fun c => neI _ 1 h c.2.2
        · have e3 : m.a = 1 := eqI _ 1 h
          refine ⟨_, rfl, m_sender T M (⟨_, rfl, r_voters T R ⟨r.vo, _, rfl, .inl (SqL.of R.vo), rfl, flat_ni _, _, rfl, ?_⟩⟩)⟩
          rw [if_pos rfl, in_ni]
          refine ite2 (fun h => ?_) (fun h => ?_)
          · have hc : x.votes.contains m.from_ = false := by simpa using h
            refine ⟨_, rfl, r_voters T R ⟨.inl ⟨rfl, _, SqL.of R.vo⟩, ⟨_, rfl, m_sender T M ⟨r.vo, _, _, rfl, rfl, R.vo, ?_, ?_⟩⟩⟩⟩
            · rw [ni_length]
              exact Nat.lt_of_le_of_lt ok.v5 (show 5 < sizeLine by decide)
            · have e4 : ni x.votes ++ [V.int m.from_] = ni (x.votes ++ [m.from_]) := by
                unfold ni
                rw [List.map_append]
                rfl
              rw [e4]
              refine last _ { x with votes := x.votes ++ [m.from_] } ?_ ⟨e1, e2, e3⟩ ((Mv.refl R).up_vo (x.votes ++ [m.from_]))
              unfold Lead.Node.voted
              rw [if_neg (by rw [hc]; exact Bool.false_ne_true)]
          · have hc : x.votes.contains m.from_ = true := by
              cases q : x.votes.contains m.from_ with
              | true => rfl
              | false => rw [q] at h; exact absurd rfl h
            refine last H x ?_ ⟨e1, e2, e3⟩ (Mv.refl R)
            unfold Lead.Node.voted
            rw [if_pos hc]
end
end Pr
end

section
set_option Elab.async false
set_option linter.all false
set_option maxRecDepth 100000
set_option maxHeartbeats 2000000
/-! ### kinds 2 and 3; hear -/
namespace Pr
open PySem PySem.Spec L2
open PyProof.Rows hiding St
/-- a statement, what holds behind it, the rest -/
theorem seq_mid {t u : TS} {D : Ends} {σ : St} {H : Hp} (M : St → Hp → Prop) (h1 : ∀ σ' H', M σ' H' → u D σ' H') (h2 : (∀ σ' H', M σ' H' → u D σ' H') → t { D with nx := u D } σ H) : tSeq t u D σ H := h2 h1
theorem neI {a b : Nat} (h : (!decide (V.int (a : Int) = V.int (b : Int))) = true) : a ≠ b := by
  intro e
  subst e
  simp at h
theorem eqI {a b : Nat} (h : ¬ (!decide (V.int (a : Int) = V.int (b : Int))) = true) : a = b := by
  apply Decidable.byContradiction
  intro e
  apply h
  have : ¬ V.int (a : Int) = V.int (b : Int) := by
    intro z
    have := V.int.inj z
    omega
  rw [decide_eq_false this]
  rfl
theorem eqT {a b : Nat} (h : decide (V.int (a : Int) = V.int (b : Int)) = true) : a = b := by
  have := V.int.inj (of_decide_eq_true h)
  omega
theorem eqF {a b : Nat} (h : ¬ decide (V.int (a : Int) = V.int (b : Int)) = true) : a ≠ b := by
  intro e
  subst e
  exact h (decide_eq_true rfl)
theorem max_nat (a b : Nat) : (if (b : Int) > (a : Int) then (b : Int) else (a : Int)) = ((max a b : Nat) : Int) := by
  split <;> omega
theorem min_nat (a b : Nat) : (if (b : Int) < (a : Int) then (b : Int) else (a : Int)) = ((min a b : Nat) : Int) := by
  split <;> omega
section
variable {P : Program} {w : World} {K : PySem.W.Frag} {mg : Str → Option Value} {base : Heap}
/-! kind 3 -/
def spHad (T : Tx K mg) : Sp := fun vs H Q _ => ∃ (i n : Nat) (x : Lead.Node) (r : RA) (ma : Addr) (m : Lead.Message), vs = [.ref r.p, .ref ma] ∧ RepAt T.CR H i n x r ∧ MsgAt T.CM H ma m ∧ m.to_ = i ∧ n ≤ 5 ∧ i < n ∧ Ld.NOk n x ∧ m.from_ < n ∧
  ∀ H' r', Mv T.CR H H' i n (Lead.onHad x m).1 r r' → Q .non H'
theorem ok_had (T : Tx K mg) : FnOk P w K mg base CX0 4 T.a_r_hear_about_entries T.d_r_hear_about_entries ["self", "message"] (spHad T) := by
  refine T.F_r_hear_about_entries.ok sc_r_hear_about_entries (fun vs H Q E h => ?_) (fun cdv A outer s H vs Q E hr h => ?_)
  · obtain ⟨i, n, x, r, ma, m, rfl, _⟩ := h
    rfl
  · obtain ⟨i, n, x, r, ma, m, rfl, R, M, hto, hn, hi, ok, hfr, k⟩ := h
    refine ⟨_, pss_cons (ps_if (pw_or (pt_cmpR op_ne (pe_fld (pv 0) rfl) (pe_gi T.g_LEADS) (nomark _)) (pw_or1 (pt_cmpR op_ne (pe_fld (pv 0) rfl) (pe_fld (pv 1) rfl) (nomark _)))).pt (pss_one ps_retN) pss_nil)
      (pss_cons (ps_set (i := 2) sc_r_hear_about_entries.nd rfl (Or.inl rfl) (pe_fld (pv 1) rfl))
      (pss_one (ps_if (pt_cmpR op_eq (pe_fld (pv 1) rfl) pe_int (nomark _))
        (pss_cons (ps_asg (pe_callB (call_max2 rfl) rfl T.b_max bt_max (pa_cons (pe_ix ix_list (pe_fld (pv 0) rfl) (pv 2) (fun _ _ => rfl)) (pa_cons (pe_fld (pv 1) rfl) pa_nil))) (pg_sub (pe_fld (pv 0) rfl) (pv 2) set_list))
        (pss_cons (ps_asg (pe_op op_add (pe_ix ix_list (pe_fld (pv 0) rfl) (pv 2) (fun _ _ => rfl)) pe_int) (pg_sub (pe_fld (pv 0) rfl) (pv 2) set_list))
        (pss_one (ps_expr (pe_meth0 (pv 0) T.cl_r T.M_r_settle (ok_settle T) hr T.B_r_settle .nil pass0)))))
        (pss_one (ps_asg (pe_callB (call_max2 rfl) rfl T.b_max bt_max (pa_cons pe_int (pa_cons (pe_op op_sub (pe_ix ix_list (pe_fld (pv 0) rfl) (pv 2) (fun _ _ => rfl)) pe_int) pa_nil))) (pg_sub (pe_fld (pv 0) rfl) (pv 2) set_list)))))), ?_⟩
    have no : ¬ (x.role = 2 ∧ x.term = m.term) → Q .non H := by
      intro hc
      refine k H r ?_
      unfold Lead.onHad
      rw [if_neg hc]
      exact Mv.refl R
    obtain ⟨sv, hsv⟩ : ∃ v, x.same[m.from_]? = some v := ⟨_, List.getElem?_eq_getElem (by rw [ok.sl]; exact hfr)⟩
    obtain ⟨nv, hnv⟩ : ∃ v, x.next[m.from_]? = some v := ⟨_, List.getElem?_eq_getElem (by rw [ok.nl]; exact hfr)⟩
    have es : x.same.getD m.from_ 0 = sv := by rw [List.getD_eq_getElem?_getD, hsv]; rfl
    have en : x.next.getD m.from_ 1 = nv := by rw [List.getD_eq_getElem?_getD, hnv]; rfl
    have hnv1 : 1 ≤ nv := ok.n1 nv (List.mem_of_getElem? hnv)
    refine ⟨_, rfl, r_role T R ⟨rfl, _, rfl, ite2 (fun h => ?_) (fun h => ?_)⟩⟩
    · exact iteT (no fun c => neI (b := 2) h c.1)
    · have e1 : x.role = 2 := eqI (b := 2) h
      refine ⟨_, rfl, r_term T R (⟨_, rfl, m_term T M ⟨rfl, _, rfl, ite2 (fun h => ?_) (fun h => ?_)⟩⟩)⟩
      · exact no fun c => neI h c.2
      · have e2 : x.term = m.term := eqI h
        refine ⟨_, rfl, m_sender T M (⟨_, rfl, m_a T M ⟨rfl, _, rfl, ite2 (fun h => ?_) (fun h => ?_)⟩⟩)⟩
        · have e3 : m.a = 1 := eqT (b := 1) h
          have oh : (Lead.onHad x m).1 = (x.knows m.from_ (max sv m.b + 1) (max sv m.b)).settles i := by
            unfold Lead.onHad
            rw [if_pos ⟨e1, e2⟩, if_pos e3, es, hto]
          refine ⟨_, rfl, r_same T R ⟨_, rfl, r.sa, _, _, _, rfl, rfl, SqL.of R.sa, at_of (j := m.from_) rfl (ni_get hsv), ⟨_, rfl, m_b T M ⟨_, _, rfl, ⟨_, rfl, r_same T R ⟨_, rfl, r.sa, _, _, m.from_, rfl, rfl, R.sa, ixN_nat (by rw [ni_length, ok.sl]; exact hfr), ?_⟩⟩⟩⟩⟩⟩
          rw [max_nat, ni_set]
          have A1 := (Mv.refl R).up_sa (x.same.set m.from_ (max sv m.b))
          have hl : m.from_ < x.same.length := by rw [ok.sl]; exact hfr
          refine ⟨_, rfl, r_same T A1.rep ⟨_, rfl, r.sa, _, _, _, rfl, rfl, SqL.of A1.rep.sa, at_of (j := m.from_) (v := V.int (max sv m.b : Nat)) rfl (ni_get (List.getElem?_set_self hl)), _, _, rfl, rfl, ⟨_, rfl, r_next_entry T A1.rep ⟨_, rfl, r.ne, _, _, m.from_, rfl, rfl, A1.rep.ne, ixN_nat (by rw [ni_length, ok.nl]; exact hfr), ?_⟩⟩⟩⟩
          have e4 : ((max sv m.b : Nat) : Int) + 1 = ((max sv m.b + 1 : Nat) : Int) := by omega
          dsimp only
          rw [e4, ni_set]
          have A2 := A1.up_ne (x.next.set m.from_ (max sv m.b + 1))
          obtain ⟨dx2, h12⟩ := A2.rep.ins
          refine ⟨_, rfl, r.p, dx2, _, rfl, h12, look_no (rf_keys i n _ r) (by decide +kernel), i, n, _, r, rfl, A2.rep, hn, hi, ?_, ok.ll, ok.st, fun H3 A3 => k H3 r ?_⟩
          · show (x.same.set m.from_ (max sv m.b)).length = n
            rw [List.length_set, ok.sl]
          · rw [oh]
            exact A2.trans A3
        · have e3 : m.a ≠ 1 := eqF (b := 1) h
          have oh : (Lead.onHad x m).1 = x.knows m.from_ (max 1 (nv - 1)) sv := by
            unfold Lead.onHad
            rw [if_pos ⟨e1, e2⟩, if_neg e3, es, en]
          refine ⟨_, rfl, r_next_entry T R ⟨_, rfl, r.ne, _, _, _, rfl, rfl, SqL.of R.ne, at_of (j := m.from_) rfl (ni_get hnv), _, _, rfl, rfl, _, _, rfl, ⟨_, rfl, r_next_entry T R ⟨_, rfl, r.ne, _, _, m.from_, rfl, rfl, R.ne, ixN_nat (by rw [ni_length, ok.nl]; exact hfr), ?_⟩⟩⟩⟩
          have e4 : (if ((nv : Int) - 1) > 1 then ((nv : Int) - 1) else 1) = ((max 1 (nv - 1) : Nat) : Int) := by
            split <;> omega
          dsimp only
          rw [e4, ni_set]
          refine k _ r ?_
          rw [oh]
          have A1 := (Mv.refl R).up_ne (x.next.set m.from_ (max 1 (nv - 1)))
          have e5 : x.same.set m.from_ sv = x.same := by
            apply List.ext_getElem?
            intro j
            by_cases ej : m.from_ = j
            · subst ej
              rw [List.getElem?_set_self (by rw [ok.sl]; exact hfr), hsv]
            · rw [List.getElem?_set_ne ej]
          have e6 : x.knows m.from_ (max 1 (nv - 1)) sv = { x with next := x.next.set m.from_ (max 1 (nv - 1)) } := by
            unfold Lead.Node.knows
            rw [e5]
          rw [e6]
          exact A1

/-! kind 2 -/
def spTake (T : Tx K mg) : Sp := fun vs H Q _ => ∃ (i n : Nat) (x : Lead.Node) (r : RA) (a : Nat) (et : Addr) (ts : List Addr) (es : Lead.Log), vs = [.ref r.p, .int a, .ref et] ∧ RepAt T.CR H i n x r ∧ H et = some (.tup (ts.map V.ref)) ∧ Ents H ts es ∧ a ≤ x.log.length ∧ x.log.length ≤ 32 ∧ es.length ≤ 4 ∧
  ∀ H' r', Mv T.CR H H' i n (x.keeps (Lead.put x.log a es) x.settled) r r' → Q .non H'
abbrev OkTake (P : Program) (w : World) (base : Heap) (T : Tx K mg) : Prop := FnOk P w K mg base CX0 1 T.a_r_take_entries T.d_r_take_entries ["self", "a", "entries"] (spTake T)
def spHht (T : Tx K mg) : Sp := fun vs H Q _ => ∃ (i n : Nat) (x : Lead.Node) (r : RA) (ma : Addr) (m : Lead.Message), vs = [.ref r.p, .ref ma] ∧ RepAt T.CR H i n x r ∧ MsgAt T.CM H ma m ∧ m.to_ = i ∧ Ld.NOk n x ∧ Ld.MOk n m ∧
  ∀ H' r' p, Mv T.CR H H' i n (Lead.onEntries x m).1 r r' → H p = none → Paired (MsgAt T.CM H') [p] (Lead.onEntries x m).2 → Q (.ref p) H'
theorem ok_hht (T : Tx K mg) (OM : OkM P w base T) (F2 : Fill2 K T.d_m_init) (F1 : Fill1 K T.d_r_reply) (OT : OkTake P w base T) : FnOk P w K mg base CX0 4 T.a_r_hear_have_these T.d_r_hear_have_these ["self", "message"] (spHht T) := by
  refine T.F_r_hear_have_these.ok sc_r_hear_have_these (fun vs H Q E h => ?_) (fun cdv A outer s H vs Q E hr h => ?_)
  · obtain ⟨i, n, x, r, ma, m, rfl, _⟩ := h
    rfl
  · obtain ⟨i, n, x, r, ma, m, rfl, R, M, hto, ok, mok, k⟩ := h
    obtain ⟨ds, hd, hB⟩ := F1
    have hr1 : Room 1 _ := hr.mono (by decide)
    refine ⟨_, pss_cons (ps_if (pt_cmpR op_lt (pe_fld (pv 1) rfl) (pe_fld (pv 0) rfl) (nomark _))
        (pss_one (ps_ret (pe_meth (pv 0) T.cl_r T.M_r_reply (ok_reply T OM F2) hr hB hd pass0 (pa_cons (pv 1) (pa_cons (pe_gi T.g_ABOUT_ENTRIES) (pa_cons pe_int pa_nil)))))) pss_nil)
      (pss_cons (ps_expr (pe_meth0 (pv 0) T.cl_r T.M_r_follow (ok_follow T) hr1 T.B_r_follow .nil pass0))
      (pss_cons (ps_if (pw_or (pt_cmpR op_lt (pe_callB call_len_seq (by rfl) T.b_len PySem.boot_len (pa_cons (pe_fld (pv 0) rfl) pa_nil)) (pe_fld (pv 1) rfl) (nomark _))
          (pw_or1 (pt_cmpR op_ne (pe_meth (pv 0) T.cl_r T.M_r_term_of_entry (ok_toe T) hr1 T.B_r_term_of_entry .nil pass0 (pa_cons (pe_fld (pv 1) rfl) pa_nil)) (pe_fld (pv 1) rfl) (nomark _)))).pt
        (pss_one (ps_ret (pe_meth (pv 0) T.cl_r T.M_r_reply (ok_reply T OM F2) hr hB hd pass0 (pa_cons (pv 1) (pa_cons (pe_gi T.g_ABOUT_ENTRIES) (pa_cons pe_int pa_nil)))))) pss_nil)
      (pss_cons (ps_expr (pe_meth (pv 0) T.cl_r T.M_r_take_entries OT hr1 T.B_r_take_entries .nil pass0 (pa_cons (pe_fld (pv 1) rfl) (pa_cons (pe_fld (pv 1) rfl) pa_nil))))
      (pss_cons (ps_set (i := 2) sc_r_hear_have_these.nd rfl (Or.inl rfl) (pe_op op_add (pe_fld (pv 1) rfl) (pe_callB call_len_seq (by rfl) T.b_len PySem.boot_len (pa_cons (pe_fld (pv 1) rfl) pa_nil))))
      (pss_cons (ps_fld (pv 0) (pe_callB (call_max2 rfl) rfl T.b_max bt_max (pa_cons (pe_fld (pv 0) rfl) (pa_cons (pe_callB (call_min2 rfl) rfl T.b_min bt_min (pa_cons (pe_fld (pv 1) rfl) (pa_cons (pv 2) pa_nil))) pa_nil))) rfl)
      (pss_one (ps_ret (pe_meth (pv 0) T.cl_r T.M_r_reply (ok_reply T OM F2) hr T.B_r_reply .nil pass0 (pa_cons (pv 1) (pa_cons (pe_gi T.g_ABOUT_ENTRIES) (pa_cons pe_int (pa_cons (pv 2) pa_nil)))))))))))), ?_⟩
    obtain ⟨dx, h1⟩ := R.ins
    refine ⟨_, rfl, m_term T M (⟨_, rfl, r_term T R ⟨_, _, rfl, rfl, _, rfl, ite2 (fun h => ?_) (fun h => ?_)⟩⟩)⟩
    · have e1 : m.term < x.term := by
        have := of_decide_eq_true h
        omega
      have oe : Lead.onEntries x m = (x, [⟨0, 3, m.to_, m.from_, x.term, 0, 0, 0, []⟩]) := by
        unfold Lead.onEntries
        rw [if_pos e1]
      refine ⟨_, rfl, r.p, dx, _, rfl, h1, look_no (rf_keys i n x r) (by decide +kernel), _, rfl, i, n, x, r, ma, m, 3, 0, 0, rfl, R, M, fun H2 p f2 hp hm => k H2 r p ?_ hp ?_⟩
      · rw [oe]
        exact (Mv.refl R).new f2
      · rw [oe, hto]
        exact .cons hm .nil
    · have e1 : ¬ m.term < x.term := by
        intro z
        exact h (decide_eq_true (by omega))
      refine ⟨_, rfl, r.p, dx, _, rfl, h1, look_no (rf_keys i n x r) (by decide +kernel), i, n, x, r, rfl, R, fun H1 r1 A1 => ?_⟩
      have M1 := M.fr A1.fr (M.out R)
      have pp := A1.p
      obtain ⟨dx1, h11⟩ := A1.rep.ins
      rw [pp] at h11
      obtain ⟨ts, h2, h3⟩ := A1.rep.lg
      have hlen : (ts.map V.ref).length = x.log.length := by
        rw [List.length_map, ents_len h3]
        rfl
      have no : (x.log.length < m.a ∨ Lead.termAt x.log m.a ≠ m.b) → ∀ H2 p, Fr H1 H2 [] → H1 p = none → MsgAt T.CM H2 p ⟨0, 3, i, m.from_, x.term, 0, 0, 0, []⟩ → Q (.ref p) H2 := by
        intro hc H2 p f2 hp hm
        have oe : Lead.onEntries x m = (x.follows, [⟨0, 3, m.to_, m.from_, x.term, 0, 0, 0, []⟩]) := by
          unfold Lead.onEntries
          rw [if_neg e1]
          show (if x.log.length < m.a ∨ Lead.termAt x.log m.a ≠ m.b then _ else _) = _
          rw [if_pos hc]
          rfl
        refine k H2 r1 p ?_ (A1.fr.free hp) ?_
        · rw [oe]
          exact A1.new f2
        · rw [oe, hto]
          exact .cons hm .nil
      have hσ : ∀ z, ([some (.ref r.p), some (.ref ma), z] : St)[0]? = some (some (.ref r1.p)) := fun z => by rw [pp]; rfl
      refine ⟨_, (hσ _), r_log T A1.rep ⟨r1.lg, _, rfl, .inl (SqL.of h2), ⟨_, rfl, m_a T M1 ⟨_, _, rfl, rfl, _, rfl, ite2 (fun h => ?_) (fun h => ?_)⟩⟩⟩⟩
      · have hc : x.log.length < m.a := by
          have := of_decide_eq_true h
          omega
        exact iteT ⟨_, rfl, r.p, dx1, _, rfl, h11, look_no (rf_keys i n _ r1) (by decide +kernel), _, rfl, i, n, _, r1, ma, m, 3, 0, 0, by rw [pp]; rfl, A1.rep, M1, fun H2 p f2 hp hm => no (.inl hc) H2 p f2 hp hm⟩
      · have hc : m.a ≤ x.log.length := by
          apply Decidable.byContradiction
          intro z
          exact h (decide_eq_true (by omega))
        refine ⟨_, rfl, r.p, dx1, _, rfl, h11, look_no (rf_keys i n _ r1) (by decide +kernel), ⟨_, rfl, m_a T M1 ⟨i, n, x.follows, r1, m.a, by rw [pp]; rfl, A1.rep, hc, ⟨_, rfl, m_b T M1 ⟨rfl, _, rfl, ite2 (fun h => ?_) (fun h => ?_)⟩⟩⟩⟩⟩
        · have hb : Lead.termAt x.log m.a ≠ m.b := neI h
          exact ⟨_, rfl, r.p, dx1, _, rfl, h11, look_no (rf_keys i n _ r1) (by decide +kernel), _, rfl, i, n, _, r1, ma, m, 3, 0, 0, by rw [pp]; rfl, A1.rep, M1, fun H2 p f2 hp hm => no (.inr hb) H2 p f2 hp hm⟩
        · have hb : Lead.termAt x.log m.a = m.b := eqI h
          have oe : Lead.onEntries x m = (x.follows.keeps (Lead.put x.log m.a m.entries) (max x.settled (min m.c (m.a + m.entries.length))), [⟨0, 3, m.to_, m.from_, x.term, 1, m.a + m.entries.length, 0, []⟩]) := by
            unfold Lead.onEntries
            rw [if_neg e1]
            show (if x.log.length < m.a ∨ Lead.termAt x.log m.a ≠ m.b then _ else _) = _
            rw [if_neg (by intro z; rcases z with z | z <;> omega)]
            rfl
          refine ⟨_, rfl, r.p, dx1, _, rfl, h11, look_no (rf_keys i n _ r1) (by decide +kernel), ⟨_, rfl, m_a T M1 (⟨_, rfl, m_entries T M1 fun et us g1 g2 => ?_⟩)⟩⟩
          refine ⟨i, n, x.follows, r1, m.a, et, us, m.entries, by rw [pp]; rfl, A1.rep, g1, g2, hc, ok.ll, mok.e4, fun H2 r2 A2 => ?_⟩
          have A12 := A1.trans A2
          have M2 := M1.fr A2.fr (M1.out A1.rep)
          have pp2 : r2.p = r.p := A12.p
          have hσ2 : ∀ z, ([some (.ref r.p), some (.ref ma), z] : St)[0]? = some (some (.ref r2.p)) := fun z => by rw [pp2]; rfl
          refine ⟨_, rfl, m_a T M2 (⟨_, rfl, m_entries T M2 fun et2 us2 g1' g2' => ⟨et2, _, rfl, .inr (SqT.of g1'), _, _, rfl, rfl, ?_⟩⟩)⟩
          have ek : (m.a : Int) + ((us2.map V.ref).length : Nat) = ((m.a + m.entries.length : Nat) : Int) := by
            rw [List.length_map, ents_len g2']
            omega
          dsimp only
          rw [ek]
          refine ⟨_, (hσ2 _), r_settled T A12.rep (⟨_, rfl, m_c T M2 ⟨_, rfl, _, _, rfl, _, _, rfl, ?_⟩⟩)⟩
          rw [min_nat, max_nat]
          refine w_settled T A12 _ (hσ2 _) fun H3 A3 => ?_
          obtain ⟨dx3, h13⟩ := A3.rep.ins
          rw [pp2] at h13
          have M3 := M.fr A3.fr (M.out R)
          refine ⟨_, rfl, r.p, dx3, _, rfl, h13, look_no (rf_keys i n _ r2) (by decide +kernel), _, rfl, _, rfl, i, n, _, r2, ma, m, 3, 1, m.a + m.entries.length, by rw [pp2]; rfl, A3.rep, M3, fun H4 p f4 hp hm => ?_⟩
          refine k H4 r2 p ?_ (A3.fr.free hp) ?_
          · rw [oe]
            exact A3.new f4
          · rw [oe, hto]
            exact .cons hm .nil

/-! hear -/
def spHear (T : Tx K mg) : Sp := fun vs H Q _ => ∃ (i n : Nat) (x : Lead.Node) (r : RA) (ma : Addr) (m : Lead.Message), vs = [.ref r.p, .ref ma] ∧ RepAt T.CR H i n x r ∧ MsgAt T.CM H ma m ∧ m.to_ = i ∧ n ≤ 5 ∧ i < n ∧ Ld.NOk n x ∧ Ld.MOk n m ∧
  ∀ H' r' l, Mv T.CR H H' i n (Lead.onMessage n x m).1 r r' → H l = none → l ∉ own r' → Said T.CM H' l (Lead.onMessage n x m).2 → Q (.ref l) H'
theorem ok_hear (T : Tx K mg) (OM : OkM P w base T) (F2 : Fill2 K T.d_m_init) (F1 : Fill1 K T.d_r_reply) (OT : OkTake P w base T) : FnOk P w K mg base CX0 5 T.a_r_hear T.d_r_hear ["self", "message"] (spHear T) := by
  refine T.F_r_hear.ok sc_r_hear (fun vs H Q E h => ?_) (fun cdv A outer s H vs Q E hr h => ?_)
  · obtain ⟨i, n, x, r, ma, m, rfl, _⟩ := h
    rfl
  · obtain ⟨i, n, x, r, ma, m, rfl, R, M, hto, hn, hi, ok, mok, k⟩ := h
    have hr2 : Room 2 _ := hr.mono (by decide)
    refine ⟨_, pss_cons (ps_if (pt_cmpR op_lt (pe_fld (pv 0) rfl) (pe_fld (pv 1) rfl) (nomark _)) (pss_one (ps_expr (pe_meth (pv 0) T.cl_r T.M_r_enter_term (ok_enter T) hr2 T.B_r_enter_term .nil pass0 (pa_cons (pe_fld (pv 1) rfl) pa_nil)))) pss_nil)
      (pss_cons (ps_if (pt_cmpR op_eq (pe_fld (pv 1) rfl) (pe_gi T.g_VOTE_FOR_ME) (nomark _)) (pss_one (ps_ret (pe_lst (pa_cons (pe_meth (pv 0) T.cl_r T.M_r_hear_vote_for_me (ok_hv T OM F2 F1) hr T.B_r_hear_vote_for_me .nil pass0 (pa_cons (pv 1) pa_nil)) pa_nil)))) pss_nil)
      (pss_cons (ps_if (pt_cmpR op_eq (pe_fld (pv 1) rfl) (pe_gi T.g_HAVE_THESE) (nomark _)) (pss_one (ps_ret (pe_lst (pa_cons (pe_meth (pv 0) T.cl_r T.M_r_hear_have_these (ok_hht T OM F2 F1 OT) hr T.B_r_hear_have_these .nil pass0 (pa_cons (pv 1) pa_nil)) pa_nil)))) pss_nil)
      (pss_cons (ps_if (pt_cmpR op_eq (pe_fld (pv 1) rfl) (pe_gi T.g_ABOUT_VOTE) (nomark _)) (pss_one (ps_expr (pe_meth (pv 0) T.cl_r T.M_r_hear_about_vote (ok_hav T) hr2 T.B_r_hear_about_vote .nil pass0 (pa_cons (pv 1) pa_nil))))
        (pss_one (ps_expr (pe_meth (pv 0) T.cl_r T.M_r_hear_about_entries (ok_had T) hr T.B_r_hear_about_entries .nil pass0 (pa_cons (pv 1) pa_nil)))))
      (pss_one (ps_ret (pe_lst pa_nil)))))), ?_⟩
    obtain ⟨dx, h1⟩ := R.ins
    refine seq_mid (fun σ' H' => σ' = [some (.ref r.p), some (.ref ma)] ∧ ∃ r1, Mv T.CR H H' i n (x.heard m.term) r r1) ?_ (fun go => ?_)
    · rintro σ' H1 ⟨rfl, r1, A1⟩
      have M1 := M.fr A1.fr (M.out R)
      have pp := A1.p
      obtain ⟨dx1, h11⟩ := A1.rep.ins
      rw [pp] at h11
      have ok1 := (ok.heard m.term).1
      have one : ∀ (H2 : Hp) (r2 : RA) (y : Lead.Node) (ms : List Lead.Message) (p l : Addr), Lead.onMessage n x m = (y, ms) → Mv T.CR H1 H2 i n y r1 r2 → Paired (MsgAt T.CM H2) [p] ms → H2 l = none → Q (.ref l) (upd H2 l (.lst [.ref p])) := by
        intro H2 r2 y ms p l om A2 pm hl
        have A3 := A1.trans A2
        refine k _ r2 l ?_ (A3.fr.free hl) (A3.out hl).2 ?_
        · rw [om]; exact A3.nw hl
        · rw [om]; exact ⟨[p], upd_same, said_fr pm (Fr.refl.new hl (ws := [])) (fun _ _ _ q => by cases q)⟩
      have none_ : ∀ (H2 : Hp) (r2 : RA) (y : Lead.Node) (l : Addr), Lead.onMessage n x m = (y, []) → Mv T.CR H1 H2 i n y r1 r2 → H2 l = none → Q (.ref l) (upd H2 l (.lst [])) := by
        intro H2 r2 y l om A2 hl
        have A3 := A1.trans A2
        refine k _ r2 l ?_ (A3.fr.free hl) (A3.out hl).2 ?_
        · rw [om]; exact A3.nw hl
        · rw [om]; exact ⟨[], upd_same, .nil⟩
      refine ⟨_, rfl, m_kind T M1 ⟨rfl, _, rfl, ite2 (fun h => ?_) (fun h => ?_)⟩⟩
      · have k0 : m.kind = 0 := eqT (b := 0) h
        have om : Lead.onMessage n x m = Lead.onVote (x.heard m.term) m := by
          unfold Lead.onMessage
          dsimp only
          rw [if_pos k0]
        exact ⟨_, rfl, r.p, dx1, _, rfl, h11, look_no (rf_keys i n _ r1) (by decide +kernel), _, rfl, i, n, x.heard m.term, r1, ma, m, by rw [pp]; rfl, A1.rep, M1, hto, fun H2 r2 p A2 hp pm => ⟨(by show 1 ≤ sizeLine; decide), fun l hl => one H2 r2 _ _ p l om A2 pm hl⟩⟩
      · have k0 : m.kind ≠ 0 := eqF (b := 0) h
        refine ⟨_, rfl, m_kind T M1 ⟨rfl, _, rfl, ite2 (fun h => ?_) (fun h => ?_)⟩⟩
        · have k2 : m.kind = 2 := eqT (b := 2) h
          have om : Lead.onMessage n x m = Lead.onEntries (x.heard m.term) m := by
            unfold Lead.onMessage
            dsimp only
            rw [if_neg k0, if_neg (by omega), if_pos k2]
          exact ⟨_, rfl, r.p, dx1, _, rfl, h11, look_no (rf_keys i n _ r1) (by decide +kernel), _, rfl, i, n, x.heard m.term, r1, ma, m, by rw [pp]; rfl, A1.rep, M1, hto, ok1, mok, fun H2 r2 p A2 hp pm => ⟨(by show 1 ≤ sizeLine; decide), fun l hl => one H2 r2 _ _ p l om A2 pm hl⟩⟩
        · have k2 : m.kind ≠ 2 := eqF (b := 2) h
          refine ⟨_, rfl, m_kind T M1 ⟨rfl, _, rfl, ite2 (fun h => ?_) (fun h => ?_)⟩⟩
          · have k1 : m.kind = 1 := eqT (b := 1) h
            have om : Lead.onMessage n x m = ((Lead.onVoted n (x.heard m.term) m).1, []) := by
              unfold Lead.onMessage
              dsimp only
              rw [if_neg k0, if_pos k1]
              unfold Lead.onVoted
              split <;> rfl
            exact ⟨_, rfl, r.p, dx1, _, rfl, h11, look_no (rf_keys i n _ r1) (by decide +kernel), _, rfl, i, n, x.heard m.term, r1, ma, m, by rw [pp]; rfl, A1.rep, M1, hn, ok1, fun H2 r2 A2 => ⟨Nat.zero_le _, fun l hl => none_ H2 r2 _ l om A2 hl⟩⟩
          · have k1 : m.kind ≠ 1 := eqF (b := 1) h
            have om : Lead.onMessage n x m = ((Lead.onHad (x.heard m.term) m).1, []) := by
              unfold Lead.onMessage
              dsimp only
              rw [if_neg k0, if_neg k1, if_neg k2]
              unfold Lead.onHad
              split
              · split <;> rfl
              · rfl
            exact ⟨_, rfl, r.p, dx1, _, rfl, h11, look_no (rf_keys i n _ r1) (by decide +kernel), _, rfl, i, n, x.heard m.term, r1, ma, m, by rw [pp]; rfl, A1.rep, M1, hto, hn, hi, ok1, mok.fr, fun H2 r2 A2 => ⟨Nat.zero_le _, fun l hl => none_ H2 r2 _ l om A2 hl⟩⟩
    · refine ⟨_, rfl, r_term T R ⟨_, rfl, m_term T M ⟨_, _, rfl, rfl, _, rfl, ite2 (fun h => ?_) (fun h => ?_)⟩⟩⟩
      · have lt : x.term < m.term := by
          have := of_decide_eq_true h
          omega
        have e : x.heard m.term = ⟨m.term, 0, x.log, 0, x.settled, [], x.next, x.same⟩ := by
          unfold Lead.Node.heard
          rw [if_pos lt]
        exact ⟨_, rfl, r.p, dx, _, rfl, h1, look_no (rf_keys i n x r) (by decide +kernel), _, rfl, m_term T M ⟨i, n, x, r, m.term, rfl, R, fun H1 r1 A1 => go _ _ ⟨rfl, r1, by rw [e]; exact A1⟩⟩⟩
      · have lt : ¬ x.term < m.term := by
          intro z
          exact h (decide_eq_true (by omega))
        have e : x.heard m.term = x := by
          unfold Lead.Node.heard
          rw [if_neg lt]
        exact go _ _ ⟨rfl, r, by rw [e]; exact Mv.refl R⟩
end
end Pr
end

section
set_option Elab.async false
set_option linter.all false
set_option maxRecDepth 100000
set_option maxHeartbeats 2000000
/-! ### new objects; entries taken; what is heard -/
namespace Pr
open PySem PySem.Spec L2
open PyProof.Rows hiding St
section
variable {P : Program} {w : World} {K : PySem.W.Frag} {mg : Str → Option Value} {base : Heap}
/-- self.f = y, a new attribute -/
theorem setS {s : Nat} {f : Str} {y : V} {D : Hp → Prop} {σ : St} {H : Hp} {a C dx : Addr} {fs : List (Str × V)} {ks : List Str} (hσ : σ[s]? = some (some (.ref a))) (h : H a = some (.ins C dx fs)) (cl : Cls K C) (na : NoAttr K C f) (hk : fs.map (·.1) = ks) (hn : ks.findIdx? (· == f) = none) (hl : ks.length < 1000)
    (k : ∀ H', H' a = some (.ins C dx (fs ++ [(f, y)])) → Fr H H' [a] → D H') : Wr K s f y D σ H := by
  refine ⟨_, hσ, a, C, dx, fs, rfl, h, cl, na, ?_, ?_⟩
  · rw [← hk, List.length_map] at hl
    exact hl
  · refine k _ ?_ (Fr.refl.put (.inl (by simp)) h (fun _ q => by cases q))
    rw [upd_same, put_new hk hn]
theorem fr_one {H H1 H2 : Hp} {a : Addr} (h : Fr H H1 [a]) (h' : Fr H1 H2 [a]) : Fr H H2 [a] := h.trans h' fun b hb => .inl hb
/-! Message(..) -/
theorem ok_m (T : Tx K mg) : OkM P w base T := by
  refine T.F_m_init.ok sc_m_init (fun vs H Q E h => ?_) (fun cdv A outer s H vs Q E hr h => ?_)
  · obtain ⟨p, dx, m, ev, rfl, _⟩ := h
    rfl
  · obtain ⟨p, dx, m, ev, rfl, hp, hev, k⟩ := h
    refine ⟨_, pss_cons (ps_fld (pv 0) (pv 1) rfl) (pss_cons (ps_fld (pv 0) (pv 2) rfl) (pss_cons (ps_fld (pv 0) (pv 3) rfl) (pss_cons (ps_fld (pv 0) (pv 4) rfl) (pss_cons (ps_fld (pv 0) (pv 5) rfl) (pss_cons (ps_fld (pv 0) (pv 6) rfl) (pss_cons (ps_fld (pv 0) (pv 7) rfl)
      (pss_one (ps_fld (pv 0) (pe_ifExp (pt_cmpR op_isN (pv 8) pe_non (nomark _)) (pe_tup pa_nil) (pe_callTy call_tuple_of rfl T.b_tuple bt_tuple (pa_cons (pv 8) pa_nil))) rfl)))))))), ?_⟩
    refine ⟨_, rfl, setS (ks := []) rfl hp T.cl_m T.na_m_kind rfl (by decide +kernel) (by decide) fun H1 h1 f1 => ?_⟩
    refine ⟨_, rfl, setS (ks := ["kind"]) rfl h1 T.cl_m T.na_m_sender rfl (by decide +kernel) (by decide) fun H2 h2 f2 => ?_⟩
    refine ⟨_, rfl, setS (ks := ["kind", "sender"]) rfl h2 T.cl_m T.na_m_receiver rfl (by decide +kernel) (by decide) fun H3 h3 f3 => ?_⟩
    refine ⟨_, rfl, setS (ks := ["kind", "sender", "receiver"]) rfl h3 T.cl_m T.na_m_term rfl (by decide +kernel) (by decide) fun H4 h4 f4 => ?_⟩
    refine ⟨_, rfl, setS (ks := ["kind", "sender", "receiver", "term"]) rfl h4 T.cl_m T.na_m_a rfl (by decide +kernel) (by decide) fun H5 h5 f5 => ?_⟩
    refine ⟨_, rfl, setS (ks := ["kind", "sender", "receiver", "term", "a"]) rfl h5 T.cl_m T.na_m_b rfl (by decide +kernel) (by decide) fun H6 h6 f6 => ?_⟩
    refine ⟨_, rfl, setS (ks := ["kind", "sender", "receiver", "term", "a", "b"]) rfl h6 T.cl_m T.na_m_c rfl (by decide +kernel) (by decide) fun H7 h7 f7 => ?_⟩
    have g7 : Fr H H7 [p] := fr_one (fr_one (fr_one (fr_one (fr_one (fr_one f1 f2) f3) f4) f5) f6) f7
    have last : ∀ (H8 : Hp) (t : Addr) (ts : List Addr), Fr H H8 [p] → H8 p = H7 p → H8 t = some (.tup (ts.map V.ref)) → Ents H8 ts m.entries → Wr K 0 "entries" (.ref t) (fun H' => Q .non H') [some (.ref p), some (.int m.kind), some (.int m.from_), some (.int m.to_), some (.int m.term), some (.int m.a), some (.int m.b), some (.int m.c), some ev] H8 := by
      intro H8 t ts g8 e8 ht he
      refine setS (ks := ["kind", "sender", "receiver", "term", "a", "b", "c"]) rfl (e8.trans h7) T.cl_m T.na_m_entries rfl (by decide +kernel) (by decide) fun H9 h9 f9 => ?_
      refine k H9 (fr_one g8 f9) ⟨dx, t, ts, h9, f9.tp _ _ ht, he.fr f9⟩
    refine ⟨_, rfl, rfl, _, rfl, ite2 (fun h => ?_) (fun h => ?_)⟩
    · have e : ev = .non := of_decide_eq_true h
      have hm : m.entries = [] := by
        rcases hev with ⟨_, q⟩ | ⟨l, ts, q, _⟩
        · exact q
        · rw [e] at q; cases q
      refine ⟨Nat.zero_le _, fun t ht => ?_⟩
      have hpt : p ≠ t := ne_of_none h7 ht
      exact last _ t [] (g7.new ht) (upd_ne hpt) upd_same (by rw [hm]; exact .nil)
    · rcases hev with ⟨q, _⟩ | ⟨l, ts, rfl, hl, he⟩
      · exact absurd (decide_eq_true q) h
      · have hlp : l ∉ [p] := by
          intro q
          rw [List.mem_singleton] at q
          rw [q, hp] at hl
          cases hl
        have hl7 := g7.kp _ _ hl hlp
        refine ⟨_, rfl, l, _, rfl, .inl ⟨SqL.of hl7, fun t ht => ?_⟩⟩
        have hpt : p ≠ t := ne_of_none h7 ht
        have f8 : Fr H7 (upd H7 t (.tup (ts.map V.ref))) [] := Fr.refl.new ht
        exact last _ t ts (g7.new ht) (upd_ne hpt) upd_same ((he.fr g7).fr f8)

/-! Replica(..), forget -/
theorem rep_int {H : Hp} {n : Nat} {v : Nat} (hn : n ≤ 5) : (List.replicate (n : Int).toNat [V.int v]).flatten = ni (List.replicate n v) := by
  rw [rep1 (k := (n : Int).toNat) (n := n) (v := V.int v) (Int.toNat_natCast n) rfl, ni_rep]
theorem small5 {n : Nat} (h : n ≤ 5) (k : Nat) (hk : k = 1) : k * (n : Int).toNat ≤ sizeLine := by
  subst hk
  have : (n : Int).toNat = n := Int.toNat_natCast n
  rw [this]
  exact Nat.le_trans (by omega) (show 5 ≤ sizeLine by decide)
def spFollowR (T : Tx K mg) : Sp := fun vs H Q _ => ∃ (p dx : Addr) (fs : List (Str × V)), vs = [.ref p] ∧ H p = some (.ins T.CR dx fs) ∧ fs.map (·.1) = (["number", "n", "term", "vote", "log"] : List Str) ∧
  ∀ H' l, H l = none → H' l = some (.lst []) → H' p = some (.ins T.CR dx (fs ++ ([("role", .int 0), ("voters", .ref l)] : List (Str × V)))) → Fr H H' [p] → Q .non H'
theorem ok_followR (T : Tx K mg) : FnOk P w K mg base CX0 1 T.a_r_follow T.d_r_follow ["self"] (spFollowR T) := by
  refine T.F_r_follow.ok sc_r_follow (fun vs H Q E h => ?_) (fun cdv A outer s H vs Q E hr h => ?_)
  · obtain ⟨p, dx, fs, rfl, _⟩ := h
    rfl
  · obtain ⟨p, dx, fs, rfl, hp, hk, k⟩ := h
    refine ⟨_, pss_cons (ps_fld (pv 0) (pe_gi T.g_FOLLOWS) rfl) (pss_one (ps_fld (pv 0) (pe_lst pa_nil) rfl)), ?_⟩
    refine setS rfl hp T.cl_r T.na_r_role hk (by decide +kernel) (by decide) fun H1 h1 f1 => ?_
    refine ⟨Nat.zero_le _, fun l hl => ?_⟩
    have hpl : p ≠ l := ne_of_none h1 hl
    have f2 : Fr H1 (upd H1 l (.lst [])) [] := Fr.refl.new hl
    refine setS (a := p) (fs := fs ++ ([("role", .int 0)] : List (Str × V))) (ks := ["number", "n", "term", "vote", "log", "role"]) rfl (by rw [upd_ne hpl]; exact h1) T.cl_r T.na_r_voters (by rw [List.map_append, hk]; rfl) (by decide +kernel) (by decide) fun H2 h2 f3 => ?_
    refine k H2 l (f1.free hl) ?_ ?_ (fr_one (f1.trans0 f2) f3)
    · exact f3.kp _ _ upd_same (by simp [Ne.symm hpl])
    · rw [h2, List.append_assoc]; rfl
def spForgetR (T : Tx K mg) : Sp := fun vs H Q _ => ∃ (p dx : Addr) (fs : List (Str × V)) (n : Nat), vs = [.ref p] ∧ H p = some (.ins T.CR dx fs) ∧ fs.map (·.1) = (["number", "n", "term", "vote", "log"] : List Str) ∧ fs[1]? = some (("n" : Str), V.int n) ∧ n ≤ 5 ∧
  ∀ H' lv ln ls, H lv = none → H ln = none → H ls = none → lv ≠ ln → lv ≠ ls → ln ≠ ls → H' lv = some (.lst (ni [])) → H' ln = some (.lst (ni (List.replicate n 1))) → H' ls = some (.lst (ni (List.replicate n 0))) →
    H' p = some (.ins T.CR dx (fs ++ ([("role", .int 0), ("voters", .ref lv), ("settled", .int 0), ("next_entry", .ref ln), ("same", .ref ls)] : List (Str × V)))) → Fr H H' [p] → Q .non H'
theorem fld_n (T : Tx K mg) {s : Nat} {σ : St} {H : Hp} {Q : VK} {p dx : Addr} {fs : List (Str × V)} {ks : List Str} {n : Nat} (hσ : σ[s]? = some (some (.ref p))) (h : H p = some (.ins T.CR dx fs)) (hk : fs.map (·.1) = ks) (hi : ks.findIdx? (· == ("n" : Str)) = some 1) (hn : fs[1]? = some (("n" : Str), V.int n)) (q : Q (.int n) H) : tFld K (tVar s) "n" σ H Q :=
  ⟨_, hσ, p, T.CR, dx, _, _, rfl, h, T.cl_r, T.na_r_n, look_at (i := 1) hk hi hn, q⟩
theorem ok_forgetR (T : Tx K mg) : FnOk P w K mg base CX0 2 T.a_r_forget T.d_r_forget ["self"] (spForgetR T) := by
  refine T.F_r_forget.ok sc_r_forget (fun vs H Q E h => ?_) (fun cdv A outer s H vs Q E hr h => ?_)
  · obtain ⟨p, dx, fs, n, rfl, _⟩ := h
    rfl
  · obtain ⟨p, dx, fs, n, rfl, hp, hk, hn1, hn5, k⟩ := h
    refine ⟨_, pss_cons (ps_expr (pe_meth0 (pv 0) T.cl_r T.M_r_follow (ok_followR T) hr T.B_r_follow .nil pass0))
      (pss_cons (ps_fld (pv 0) pe_int rfl)
      (pss_cons (ps_fld (pv 0) (pe_op op_rep (pe_lst (pa_cons pe_int pa_nil)) (pe_fld (pv 0) rfl)) rfl)
      (pss_one (ps_fld (pv 0) (pe_op op_rep (pe_lst (pa_cons pe_int pa_nil)) (pe_fld (pv 0) rfl)) rfl)))), ?_⟩
    refine ⟨_, rfl, p, dx, _, rfl, hp, look_no hk (by decide +kernel), p, dx, fs, rfl, hp, hk, fun H1 lv nlv hlv h1 f1 => ?_⟩
    have l5 : 5 ≤ fs.length := by rw [← List.length_map (f := (·.1)), hk]; decide
    have get1 : ∀ more : List (Str × V), (fs ++ more)[1]? = some (("n" : Str), V.int n) := fun more => by rw [List.getElem?_append_left (by omega)]; exact hn1
    refine setS (ks := ["number", "n", "term", "vote", "log", "role", "voters"]) rfl h1 T.cl_r T.na_r_settled (by rw [List.map_append, hk]; rfl) (by decide +kernel) (by decide) fun H2 h2 f2 => ?_
    have e2 : (fs ++ ([("role", V.int 0), ("voters", .ref lv)] : List (Str × V))) ++ ([("settled", V.int 0)] : List (Str × V)) = fs ++ ([("role", V.int 0), ("voters", .ref lv), ("settled", V.int 0)] : List (Str × V)) := by rw [List.append_assoc]; rfl
    rw [e2] at h2
    have f02 := fr_one f1 f2
    have hlv2 : H2 lv = some (.lst []) := f2.kp _ _ hlv (by simp [Ne.symm (ne_of_none hp nlv)])
    -- next_entry
    refine ⟨(by show 1 ≤ sizeLine; decide), fun l hl => ?_⟩
    have q2 : Fr H2 (upd H2 l (.lst [.int 1])) [] := Fr.refl.new hl
    have h2' : (upd H2 l (.lst [.int 1])) p = some (.ins T.CR dx (fs ++ ([("role", V.int 0), ("voters", .ref lv), ("settled", V.int 0)] : List (Str × V)))) := q2.kp _ _ h2 (by simp)
    refine fld_n T (ks := ["number", "n", "term", "vote", "log", "role", "voters", "settled"]) rfl h2' (by rw [List.map_append, hk]; rfl) (by decide +kernel) (get1 _) ⟨l, _, _, rfl, rfl, upd_same, (by omega), (by omega), small5 hn5 1 rfl, fun ln hln => ?_⟩
    have q3 : Fr (upd H2 l (.lst [.int 1])) (upd (upd H2 l (.lst [.int 1])) ln (.lst (List.replicate (n : Int).toNat [V.int 1]).flatten)) [] := Fr.refl.new hln
    have e3 : (List.replicate (n : Int).toNat [V.int 1]).flatten = ni (List.replicate n 1) := rep_int (H := H) (v := 1) hn5
    refine setS (ks := ["number", "n", "term", "vote", "log", "role", "voters", "settled"]) rfl (q3.kp _ _ h2' (by simp)) T.cl_r T.na_r_next_entry (by rw [List.map_append, hk]; rfl) (by decide +kernel) (by decide) fun H3 h3 f3 => ?_
    have e4 : (fs ++ ([("role", V.int 0), ("voters", .ref lv), ("settled", V.int 0)] : List (Str × V))) ++ ([("next_entry", V.ref ln)] : List (Str × V)) = fs ++ ([("role", V.int 0), ("voters", .ref lv), ("settled", V.int 0), ("next_entry", V.ref ln)] : List (Str × V)) := by rw [List.append_assoc]; rfl
    rw [e4] at h3
    have f23 : Fr H2 H3 [p] := (q2.trans0 q3).of0 (ws := [p]) |> fun z => fr_one z f3
    have f03 := fr_one f02 f23
    have nln : H2 ln = none := q2.free hln
    have nlnH : H ln = none := f02.free nln
    have lvln : lv ≠ ln := ne_of_none hlv2 nln
    have pln : p ≠ ln := ne_of_none h2 nln
    have hln3 : H3 ln = some (.lst (ni (List.replicate n 1))) := by
      rw [← e3]
      exact f3.kp _ _ upd_same (by simp [Ne.symm pln])
    have hlv3 : H3 lv = some (.lst []) := f23.kp _ _ hlv2 (by simp [Ne.symm (ne_of_none hp nlv)])
    -- same
    refine ⟨(by show 1 ≤ sizeLine; decide), fun l' hl' => ?_⟩
    have q4 : Fr H3 (upd H3 l' (.lst [.int 0])) [] := Fr.refl.new hl'
    have h3' : (upd H3 l' (.lst [.int 0])) p = some (.ins T.CR dx (fs ++ ([("role", V.int 0), ("voters", .ref lv), ("settled", V.int 0), ("next_entry", V.ref ln)] : List (Str × V)))) := q4.kp _ _ h3 (by simp)
    refine fld_n T (ks := ["number", "n", "term", "vote", "log", "role", "voters", "settled", "next_entry"]) rfl h3' (by rw [List.map_append, hk]; rfl) (by decide +kernel) (get1 _) ⟨l', _, _, rfl, rfl, upd_same, (by omega), (by omega), small5 hn5 1 rfl, fun ls hls => ?_⟩
    have q5 : Fr (upd H3 l' (.lst [.int 0])) (upd (upd H3 l' (.lst [.int 0])) ls (.lst (List.replicate (n : Int).toNat [V.int 0]).flatten)) [] := Fr.refl.new hls
    have e5 : (List.replicate (n : Int).toNat [V.int 0]).flatten = ni (List.replicate n 0) := rep_int (H := H) (v := 0) hn5
    refine setS (ks := ["number", "n", "term", "vote", "log", "role", "voters", "settled", "next_entry"]) rfl (q5.kp _ _ h3' (by simp)) T.cl_r T.na_r_same (by rw [List.map_append, hk]; rfl) (by decide +kernel) (by decide) fun H4 h4 f4 => ?_
    have f34 : Fr H3 H4 [p] := (q4.trans0 q5).of0 (ws := [p]) |> fun z => fr_one z f4
    have nls : H3 ls = none := q4.free hls
    have pls : p ≠ ls := ne_of_none h3 nls
    refine k H4 lv ln ls nlv nlnH (f03.free nls) lvln (ne_of_none hlv3 nls) (ne_of_none hln3 nls) ?_ ?_ ?_ ?_ (fr_one f03 f34)
    · exact f34.kp _ _ hlv3 (by simp [Ne.symm (ne_of_none hp nlv)])
    · exact f34.kp _ _ hln3 (by simp [Ne.symm pln])
    · rw [← e5]
      exact f4.kp _ _ upd_same (by simp [Ne.symm pls])
    · rw [h4, List.append_assoc]; rfl
def spR (T : Tx K mg) : Sp := fun vs H Q _ => ∃ (p dx : Addr) (i n : Nat), vs = [.ref p, .int i, .int n] ∧ H p = some (.ins T.CR dx []) ∧ n ≤ 5 ∧
  ∀ H' r, r.p = p → RepAt T.CR H' i n (Lead.fresh n) r → (∀ a ∈ own r, a = p ∨ H a = none) → Fr H H' [p] → Q .non H'
theorem ok_r (T : Tx K mg) : FnOk P w K mg base CX0 3 T.a_r_init T.d_r_init ["self", "number", "n"] (spR T) := by
  refine T.F_r_init.ok sc_r_init (fun vs H Q E h => ?_) (fun cdv A outer s H vs Q E hr h => ?_)
  · obtain ⟨p, dx, i, n, rfl, _⟩ := h
    rfl
  · obtain ⟨p, dx, i, n, rfl, hp, hn, k⟩ := h
    refine ⟨_, pss_cons (ps_fld (pv 0) (pv 1) rfl) (pss_cons (ps_fld (pv 0) (pv 2) rfl) (pss_cons (ps_fld (pv 0) pe_int rfl) (pss_cons (ps_fld (pv 0) pe_int rfl) (pss_cons (ps_fld (pv 0) (pe_lst pa_nil) rfl)
      (pss_one (ps_expr (pe_meth0 (pv 0) T.cl_r T.M_r_forget (ok_forgetR T) hr T.B_r_forget .nil pass0))))))), ?_⟩
    refine ⟨_, rfl, setS (ks := []) rfl hp T.cl_r T.na_r_number rfl (by decide +kernel) (by decide) fun H1 h1 f1 => ?_⟩
    refine ⟨_, rfl, setS (ks := ["number"]) rfl h1 T.cl_r T.na_r_n rfl (by decide +kernel) (by decide) fun H2 h2 f2 => ?_⟩
    refine setS (ks := ["number", "n"]) rfl h2 T.cl_r T.na_r_term rfl (by decide +kernel) (by decide) fun H3 h3 f3 => ?_
    refine setS (ks := ["number", "n", "term"]) rfl h3 T.cl_r T.na_r_vote rfl (by decide +kernel) (by decide) fun H4 h4 f4 => ?_
    refine ⟨Nat.zero_le _, fun l hl => ?_⟩
    have hpl : p ≠ l := ne_of_none h4 hl
    have q4 : Fr H4 (upd H4 l (.lst [])) [] := Fr.refl.new hl
    refine setS (ks := ["number", "n", "term", "vote"]) rfl (q4.kp _ _ h4 (by simp)) T.cl_r T.na_r_log rfl (by decide +kernel) (by decide) fun H5 h5 f5 => ?_
    have f04 := fr_one (fr_one (fr_one f1 f2) f3) f4
    have f05 : Fr H H5 [p] := fr_one (f04.trans0 q4) f5
    have hl5 : H5 l = some (.lst []) := f5.kp _ _ upd_same (by simp [Ne.symm hpl])
    refine ⟨_, rfl, p, dx, _, rfl, h5, look_no (ks := ["number", "n", "term", "vote", "log"]) rfl (by decide +kernel), p, dx, _, n, rfl, h5, rfl, rfl, hn, fun H6 lv ln ls n1 n2 n3 d1 d2 d3 g1 g2 g3 g4 f6 => ?_⟩
    have hl6 : H6 l = some (.lst []) := f6.kp _ _ hl5 (by simp [Ne.symm hpl])
    have nl : H l = none := f04.free hl
    have e1 := ne_of_none hl5 n1
    have e2 := ne_of_none hl5 n2
    have e3 := ne_of_none hl5 n3
    have p1 := ne_of_none h5 n1
    have p2 := ne_of_none h5 n2
    have p3 := ne_of_none h5 n3
    refine k H6 ⟨p, l, lv, ln, ls⟩ rfl ⟨⟨dx, g4⟩, ⟨[], hl6, .nil⟩, g1, g2, g3, own_nd ⟨hpl, p1, p2, p3, e1, e2, e3, d1, d2, d3⟩⟩ (fun a ha => ?_) (fr_one f05 f6)
    rcases mem_own.mp ha with q | q | q | q | q
    · exact .inl q
    · exact .inr (by rw [q]; exact nl)
    · exact .inr (by rw [q]; exact f05.free n1)
    · exact .inr (by rw [q]; exact f05.free n2)
    · exact .inr (by rw [q]; exact f05.free n3)
/-- forget, of a whole replica -/
def spForget (T : Tx K mg) : Sp := fun vs H Q _ => ∃ (i n : Nat) (x : Lead.Node) (r : RA), vs = [.ref r.p] ∧ RepAt T.CR H i n x r ∧ n ≤ 5 ∧ x.next.length = n ∧ x.same.length = n ∧ ∀ H' r', Mv T.CR H H' i n x.crashed r r' → Q .non H'
theorem ok_forget (T : Tx K mg) : FnOk P w K mg base CX0 2 T.a_r_forget T.d_r_forget ["self"] (spForget T) := by
  refine T.F_r_forget.ok sc_r_forget (fun vs H Q E h => ?_) (fun cdv A outer s H vs Q E hr h => ?_)
  · obtain ⟨i, n, x, r, rfl, _⟩ := h
    rfl
  · obtain ⟨i, n, x, r, rfl, R, hn5, hn, hs, k⟩ := h
    refine ⟨_, pss_cons (ps_expr (pe_meth0 (pv 0) T.cl_r T.M_r_follow (ok_follow T) hr T.B_r_follow .nil pass0))
      (pss_cons (ps_fld (pv 0) pe_int rfl)
      (pss_cons (ps_fld (pv 0) (pe_op op_rep (pe_lst (pa_cons pe_int pa_nil)) (pe_fld (pv 0) rfl)) rfl)
      (pss_one (ps_fld (pv 0) (pe_op op_rep (pe_lst (pa_cons pe_int pa_nil)) (pe_fld (pv 0) rfl)) rfl)))), ?_⟩
    obtain ⟨dx, h1⟩ := R.ins
    refine ⟨_, rfl, r.p, dx, _, rfl, h1, look_no (rf_keys i n x r) (by decide +kernel), i, n, x, r, rfl, R, fun H0 r0 A0 => ?_⟩
    have pp := A0.p
    have hσ : ([some (.ref r.p)] : St)[0]? = some (some (.ref r0.p)) := by rw [pp]; rfl
    refine w_settled T A0 0 hσ fun H1 A1 => ?_
    refine ⟨(by show 1 ≤ sizeLine; decide), fun l hl => ?_⟩
    have A2 := A1.nw (o := .lst [.int 1]) hl
    refine f_n T A2.rep hσ ⟨l, _, _, rfl, rfl, upd_same, (by omega), (by omega), small5 hn5 1 rfl, fun l2 hl2 => ?_⟩
    rw [show (List.replicate (n : Int).toNat [V.int 1]).flatten = ni (List.replicate n 1) from rep_int (H := H) (v := 1) hn5]
    have A3 := A2.nw (o := .lst (ni (List.replicate n 1))) hl2
    obtain ⟨o1, o2⟩ := A2.out hl2
    refine w_ne T A3 upd_same o1 o2 hσ fun H4 A4 => ?_
    refine ⟨(by show 1 ≤ sizeLine; decide), fun l3 hl3 => ?_⟩
    have A5 := A4.nw (o := .lst [.int 0]) hl3
    refine f_n T A5.rep hσ ⟨l3, _, _, rfl, rfl, upd_same, (by omega), (by omega), small5 hn5 1 rfl, fun l4 hl4 => ?_⟩
    rw [show (List.replicate (n : Int).toNat [V.int 0]).flatten = ni (List.replicate n 0) from rep_int (H := H) (v := 0) hn5]
    have A6 := A5.nw (o := .lst (ni (List.replicate n 0))) hl4
    obtain ⟨o3, o4⟩ := A5.out hl4
    refine w_sa T A6 upd_same o3 o4 hσ fun H7 A7 => k H7 { { r0 with ne := l2 } with sa := l4 } ?_
    have e3 : x.crashed = { x.follows with settled := 0, next := List.replicate n 1, same := List.replicate n 0 } := by
      unfold Lead.Node.crashed
      rw [map_const hn, map_const hs]
      rfl
    rw [e3]
    exact A7
/-! entries taken -/
theorem cut_to {ts : List Addr} {a : Nat} : cutV (ts.map V.ref) none (some (a : Int)) = (ts.take a).map V.ref := by
  unfold cutV
  rw [HT.sIx_none, HT.sIx_nat, List.length_map, List.drop_zero, Nat.sub_zero, List.map_take]
  by_cases h : a ≤ ts.length
  · rw [Nat.min_eq_left h]
  · rw [Nat.min_eq_right (by omega), List.take_of_length_le (by rw [List.length_map]; omega), List.take_of_length_le (by rw [List.length_map]; omega)]
theorem cut_from {ts : List Addr} {t : Nat} : cutV (ts.map V.ref) (some (t : Int)) none = (ts.drop t).map V.ref := by
  unfold cutV
  rw [HT.sIx_none, HT.sIx_nat, List.length_map, List.map_drop]
  by_cases h : t ≤ ts.length
  · rw [Nat.min_eq_left h, List.take_of_length_le (by rw [List.length_drop, List.length_map]; omega)]
  · rw [Nat.min_eq_right (by omega), List.take_of_length_le (by rw [List.length_drop, List.length_map]; omega), List.drop_eq_nil_of_le (by rw [List.length_map]; omega), List.drop_eq_nil_of_le (by rw [List.length_map]; omega)]
theorem ok_take (T : Tx K mg) : OkTake P w base T := by
  refine T.F_r_take_entries.ok sc_r_take_entries (fun vs H Q E h => ?_) (fun cdv A outer s H vs Q E hr h => ?_)
  · obtain ⟨i, n, x, r, a, et, ts, es, rfl, _⟩ := h
    rfl
  · obtain ⟨i, n, x, r, a, et, us, es, rfl, R, het, hes, ha, hll, he4, k⟩ := h
    refine ⟨_, pss_one (ps_for PassesOwn.never rfl (pi_enumT rfl T.b_enumerate (pa_cons (pv 2) pa_nil) (pk_cons (pv 1) pk_nil))
      (pg_tup rfl (pgs_cons (pg_name (i := 3) sc_r_take_entries.nd rfl (Or.inl rfl)) (pgs_cons (pg_name (i := 4) sc_r_take_entries.nd rfl (Or.inl rfl)) pgs_nil)))
      (pss_one (ps_if (pw_or (pt_cmpR op_eq (pv 3) (pe_callB call_len_seq (by rfl) T.b_len PySem.boot_len (pa_cons (pe_fld (pv 0) rfl) pa_nil)) (nomark _))
          (pw_or1 (pt_cmpR op_ne (pe_ix ix_tup (pe_ix ix_list (pe_fld (pv 0) rfl) (pv 3) (fun _ _ => rfl)) pe_int (fun _ _ => rfl)) (pe_ix ix_tup (pv 4) pe_int (fun _ _ => rfl)) (nomark _)))).pt
        (pss_cons (ps_fld (pv 0) (pe_op op_cat (pe_slice sl_list (pe_fld (pv 0) rfl) po_none (po_some (pv 3))) (pe_callTy call_list_of rfl T.b_list bt_list (pa_cons (pe_slice sl_tupA (pv 2) (po_some (pe_op op_sub (pv 3) (pv 1))) po_none) pa_nil))) rfl) (pss_one ps_retN)) pss_nil))), ?_⟩
    have ulen : us.length = es.length := ents_len hes
    refine ⟨_, rfl, _, rfl, et, _, a, rfl, rfl, (by omega), SqT.of het, for_enumT (K := K) (a := et) (st := a) (xs := us.map V.ref)
      (fun t σ H' => ∃ v3 v4 : Option V, σ = [some (.ref r.p), some (.int a), some (.ref et), v3, v4] ∧ Fr H H' [] ∧ a + t ≤ x.log.length ∧ Lead.put x.log a es = x.log.take (a + t) ++ Lead.joined (x.log.drop (a + t)) (es.drop t))
      ⟨none, none, rfl, Fr.refl, by omega, Ld.put_start _ _ _⟩ (fun t σ H' _ ⟨_, _, _, f, _⟩ => SqT.of (f.tp _ _ het)) ?_ ?_⟩
    · rintro t y σ H' Tt hy ⟨v3, v4, rfl, f, hat, hput⟩ hTt
      obtain ⟨u, hu, rfl⟩ : ∃ u, us[t]? = some u ∧ y = V.ref u := by
        rw [List.getElem?_map] at hy
        cases e : us[t]? with
        | none => rw [e] at hy; cases hy
        | some u => rw [e] at hy; exact ⟨u, rfl, (Option.some.inj hy).symm⟩
      obtain ⟨en, hen, hue⟩ := hes.get hu
      have f1 : Fr H (upd H' Tt (.tup [.int ((a + t : Nat) : Int), .ref u])) [] := f.new hTt
      have R1 := R.fr0 f1
      obtain ⟨ts, h2, h3⟩ := R1.lg
      have tlen : (ts.map V.ref).length = x.log.length := by rw [List.length_map, ents_len h3]
      have hue1 : EntAt (upd H' Tt (.tup [.int ((a + t : Nat) : Int), .ref u])) u en := f1.tp _ _ hue
      refine ⟨Tt, _, rfl, SqT.of upd_same, rfl, _, _, rfl, _, _, rfl, rfl, ?_⟩
      -- self.log is told anew
      have stop : (x.log.length = a + t ∨ ∃ y, x.log[a + t]? = some y ∧ y.term ≠ en.term) →
          ∀ D : Hp → Prop, (∀ H2 r2, Mv T.CR H H2 i n (x.keeps (Lead.put x.log a es) x.settled) r r2 → D H2) →
          tOp rCat (tSl (rSlL K) (tFld K (tVar 0) "log") tNoPart (tPart (tVar 3))) (tCB (fun xs H Q => ∃ p ys, xs = [.ref p] ∧ (SqL K H p ys ∨ SqT K H p ys) ∧ ∀ l, H l = none → Q (.ref l) (upd H l (.lst ys))) (tCons (tSl (rSlA K) (tVar 2) (tPart (tOp (rI0 fun i j => V.int (i - j)) (tVar 3) (tVar 1))) tNoPart) tNil))
            [some (.ref r.p), some (.int a), some (.ref et), some (.int ((a + t : Nat) : Int)), some (.ref u)] (upd H' Tt (.tup [.int ((a + t : Nat) : Int), .ref u])) (fun y H2 => Wr K 0 "log" y D [some (.ref r.p), some (.int a), some (.ref et), some (.int ((a + t : Nat) : Int)), some (.ref u)] H2) := by
        intro hstop D hD
        have en1 : Lead.put x.log a es = x.log.take (a + t) ++ es.drop t := by
          rw [hput]
          exact Ld.put_stop hen hstop
        refine ⟨_, rfl, r_log T R1 ⟨_, rfl, _, rfl, r.lg, _, rfl, SqL.of h2, fun l1 hl1 => ?_⟩⟩
        rw [cut_to]
        have f2 : Fr H (upd (upd H' Tt (.tup [.int ((a + t : Nat) : Int), .ref u])) l1 (.lst ((ts.take (a + t)).map V.ref))) [] := f1.new hl1
        have es1 : (((a + t : Nat) : Int) - (a : Int)) = (t : Int) := by omega
        -- what stands behind
        have fin : ∀ (H2 : Hp) (p : Addr), Fr (upd (upd H' Tt (.tup [.int ((a + t : Nat) : Int), .ref u])) l1 (.lst ((ts.take (a + t)).map V.ref))) H2 [] → SqT K H2 p ((us.drop t).map V.ref) → ∀ l, H2 l = none → rCat (.ref l1) (.ref l) (upd H2 l (.lst ((us.drop t).map V.ref))) (fun y H2 => Wr K 0 "log" y D [some (.ref r.p), some (.int a), some (.ref et), some (.int ((a + t : Nat) : Int)), some (.ref u)] H2) := by
          intro H2 p f3 _ l hl
          have hl1' : H2 l1 = some (.lst ((ts.take (a + t)).map V.ref)) := f3.kp _ _ upd_same (by simp)
          have d1 : l1 ≠ l := ne_of_none hl1' hl
          refine ⟨l1, l, _, _, rfl, rfl, (by rw [upd_ne d1]; exact hl1'), upd_same, ?_, fun l3 hl3 => ?_⟩
          · rw [List.length_map, List.length_map, List.length_take, List.length_drop]
            have : ts.length = x.log.length := ents_len h3
            exact Nat.le_trans (by omega) (show 36 ≤ sizeLine by decide)
          · have f4 : Fr H (upd H2 l (.lst ((us.drop t).map V.ref))) [] := (f2.trans0 f3).new hl
            have A4 : Mv T.CR H (upd H2 l (.lst ((us.drop t).map V.ref))) i n x r r := (Mv.refl R).new f4
            have f14 : Fr (upd H' Tt (.tup [.int ((a + t : Nat) : Int), .ref u])) (upd H2 l (.lst ((us.drop t).map V.ref))) [] := ((Fr.refl.new hl1).trans0 f3).new hl
            have e5 : (ts.take (a + t)).map V.ref ++ (us.drop t).map V.ref = (ts.take (a + t) ++ us.drop t).map V.ref := by rw [List.map_append]
            rw [e5]
            have hE : Ents (upd (upd H2 l (.lst ((us.drop t).map V.ref))) l3 (.lst ((ts.take (a + t) ++ us.drop t).map V.ref))) (ts.take (a + t) ++ us.drop t) (x.log.take (a + t) ++ es.drop t) :=
              (Ents.append ((h3.take (a + t)).fr f14) ((hes.drop t).fr f4)).fr (Fr.refl.new hl3 (ws := []))
            obtain ⟨o1, o2⟩ := A4.out hl3
            refine w_lg T (A4.nw hl3) upd_same hE o1 o2 rfl fun H5 A5 => hD H5 { r with lg := l3 } ?_
            rw [en1]
            exact A5
        refine ⟨_, rfl, _, rfl, _, rfl, _, _, rfl, rfl, _, rfl, et, us.map V.ref, rfl, SqT.of (f2.tp _ _ het), fun hw => ?_, fun hn p hp => ?_⟩
        · rw [es1, HT.sIx_nat, List.length_map] at hw
          have e0 : us.drop t = us := by
            have h0 := hw.1
            by_cases c : t = 0
            · subst c; exact List.drop_zero
            · have : us = [] := List.length_eq_zero_iff.mp (by omega)
              subst this
              exact List.drop_nil
          have q := SqT.of (K := K) (f2.tp _ _ het)
          refine ⟨et, us.map V.ref, rfl, .inr q, fun l hl => ?_⟩
          have z := fin _ et Fr.refl (by rw [e0]; exact q) l hl
          rw [e0] at z
          exact z
        · rw [es1, cut_from]
          exact ⟨p, (us.drop t).map V.ref, rfl, .inr (SqT.of upd_same), fun l hl => fin _ p (Fr.refl.new hp) (SqT.of upd_same) l hl⟩
      refine ⟨_, rfl, _, rfl, r_log T R1 ⟨r.lg, _, rfl, .inl (SqL.of h2), rfl, _, rfl, ite2 (fun h => ?_) (fun h => ?_)⟩⟩
      · have e : x.log.length = a + t := by
          have := eqT (a := a + t) h
          omega
        exact iteT (stop (.inl e) _ fun H2 r2 A2 => k H2 r2 A2)
      · have e : a + t ≠ x.log.length := by
          have := eqF (a := a + t) h
          omega
        obtain ⟨yy, hyy⟩ : ∃ yy, x.log[a + t]? = some yy := ⟨_, List.getElem?_eq_getElem (by omega)⟩
        obtain ⟨tv, htv, htE⟩ := h3.get' hyy
        refine ⟨_, rfl, r_log T R1 ⟨_, rfl, r.lg, _, _, V.ref tv, rfl, rfl, SqL.of h2, at_of (j := a + t) rfl (by rw [List.getElem?_map, htv]; rfl), tv, _, _, _, rfl, rfl, SqT.of htE, at_of (j := 0) rfl rfl, _, rfl, u, _, _, _, rfl, rfl, SqT.of hue1, at_of (j := 0) rfl rfl, rfl, _, rfl, ite2 (fun h => ?_) (fun h => ?_)⟩⟩
        · exact stop (.inr ⟨yy, hyy, neI h⟩) _ fun H2 r2 A2 => k H2 r2 A2
        · have ee : yy.term = en.term := eqI h
          exact ⟨_, _, rfl, f1, by omega, by rw [hput]; exact Ld.put_go hen hyy ee⟩
    · rintro σ H' ⟨v3, v4, rfl, f, hat, hput⟩
      have e : Lead.put x.log a es = x.log := by
        rw [hput, List.length_map, ulen]
        exact Ld.put_end
      refine k H' r ?_
      rw [e]
      exact (Mv.refl R).new f
end
end Pr
end

section
set_option Elab.async false
set_option linter.all false
set_option maxRecDepth 100000
set_option maxHeartbeats 2000000
/-! ### the state -/
namespace Pr
open PySem PySem.Spec L2
open PyProof.Rows hiding St
structure SA where
  st : Addr
  rl : Addr
  ud : Addr
  rs : List RA
  as : List Addr
def sf (rl ud : Addr) (k : Nat) : List (Str × V) := [("replicas", .ref rl), ("under_way", .ref ud), ("next_number", .int k)]
def skeys : List Str := ["replicas", "under_way", "next_number"]
theorem sf_keys (rl ud : Addr) (k : Nat) : (sf rl ud k).map (·.1) = skeys := rfl
def kv : List Lead.Message → List Addr → List (Key × V)
  | m :: ms, a :: as => (Sum.inl (m.id : Int), V.ref a) :: kv ms as
  | _, _ => []
theorem kv_length : ∀ {ms : List Lead.Message} {as : List Addr}, as.length = ms.length → (kv ms as).length = ms.length
  | [], _, _ => rfl
  | m :: ms, [], h => by simp at h
  | m :: ms, a :: as, h => by
    show (kv ms as).length + 1 = _
    rw [kv_length (by simpa using h)]
    rfl
theorem kv_append : ∀ {ms ns : List Lead.Message} {as bs : List Addr}, as.length = ms.length → kv (ms ++ ns) (as ++ bs) = kv ms as ++ kv ns bs
  | [], ns, as, bs, h => by
    have : as = [] := List.length_eq_zero_iff.mp h
    subst this
    rfl
  | m :: ms, ns, [], bs, h => by simp at h
  | m :: ms, ns, a :: as, bs, h => by
    show _ :: kv (ms ++ ns) (as ++ bs) = _ :: (kv ms as ++ kv ns bs)
    rw [kv_append (by simpa using h)]
theorem kv_new : ∀ {ms : List Lead.Message} {as : List Addr} {k : Nat}, (∀ m ∈ ms, m.id < k) → ((kv ms as).any fun p => decide (p.1 = (Sum.inl (k : Int) : Key))) = false
  | [], _, _, _ => rfl
  | m :: ms, [], _, _ => rfl
  | m :: ms, a :: as, k, h => by
    show (decide ((Sum.inl (m.id : Int) : Key) = Sum.inl (k : Int)) || (kv ms as).any _) = false
    rw [kv_new fun m' hm' => h m' (List.mem_cons_of_mem _ hm')]
    have : ¬ (Sum.inl (m.id : Int) : Key) = Sum.inl (k : Int) := by
      intro z
      have := Sum.inl.inj z
      have := h m List.mem_cons_self
      omega
    rw [decide_eq_false this]
    rfl
/-- what stands at a number -/
theorem kv_val {C : Addr} {H : Hp} : ∀ {ms : List Lead.Message} {as : List Addr} (k : Nat), Paired (MsgAt C H) as ms →
    (ms.find? (fun (x : Lead.Message) => x.id == k) = none ∧ valV (kv ms as) (Sum.inl (k : Int)) = none) ∨ ∃ m a, ms.find? (fun (x : Lead.Message) => x.id == k) = some m ∧ valV (kv ms as) (Sum.inl (k : Int)) = some (V.ref a) ∧ MsgAt C H a m
  | _, _, _, .nil => .inl ⟨rfl, rfl⟩
  | m :: ms, a :: as, k, .cons r t => by
    by_cases e : m.id = k
    · refine .inr ⟨m, a, ?_, ?_, r⟩
      · rw [List.find?_cons, beq_iff_eq.mpr e]
      · show valV ((Sum.inl (m.id : Int), V.ref a) :: kv ms as) _ = _
        rw [valV_pos (by rw [e])]
    · have e2 : ¬ (Sum.inl (m.id : Int) : Key) = Sum.inl (k : Int) := by
        intro z
        have := Sum.inl.inj z
        omega
      have q1 : (m :: ms).find? (fun (x : Lead.Message) => x.id == k) = ms.find? (fun (x : Lead.Message) => x.id == k) := by
        rw [List.find?_cons, beq_eq_false_iff_ne.mpr e]
      have q2 : valV (kv (m :: ms) (a :: as)) (Sum.inl (k : Int)) = valV (kv ms as) (Sum.inl (k : Int)) := valV_neg (p := (Sum.inl (m.id : Int), V.ref a)) e2
      rw [q1, q2]
      exact kv_val k t
/-- the addresses of those that stay -/
def less : List Lead.Message → List Addr → Nat → List Addr
  | m :: ms, a :: as, k => if (m.id != k) = true then a :: less ms as k else less ms as k
  | _, _, _ => []
theorem kv_drop : ∀ (ms : List Lead.Message) (as : List Addr) (k : Nat), dropK (kv ms as) (Sum.inl (k : Int)) = kv (ms.filter fun (x : Lead.Message) => x.id != k) (less ms as k)
  | [], as, k => by cases as <;> rfl
  | m :: ms, [], k => by
    show dropK ([] : List (Key × V)) _ = kv _ []
    cases (m :: ms).filter fun (x : Lead.Message) => x.id != k <;> rfl
  | m :: ms, a :: as, k => by
    have ih := kv_drop ms as k
    show dropK ((Sum.inl (m.id : Int), V.ref a) :: kv ms as) (Sum.inl (k : Int)) = _
    by_cases e : m.id = k
    · have h1 : (m.id != k) = false := by simp [e]
      rw [dropK_pos (by rw [e]), ih, List.filter_cons, h1]
      show _ = kv _ (if (m.id != k) = true then _ else _)
      rw [h1]
      rfl
    · have h1 : (m.id != k) = true := by simp [e]
      have e2 : ¬ (Sum.inl (m.id : Int) : Key) = Sum.inl (k : Int) := by
        intro z
        have := Sum.inl.inj z
        omega
      rw [dropK_neg e2, ih, List.filter_cons, h1]
      show _ = kv _ (if (m.id != k) = true then _ else _)
      rw [h1]
      rfl
theorem less_paired {F : Addr → Lead.Message → Prop} : ∀ {ms : List Lead.Message} {as : List Addr} (k : Nat), Paired F as ms → Paired F (less ms as k) (ms.filter fun (x : Lead.Message) => x.id != k)
  | _, _, _, .nil => .nil
  | m :: ms, a :: as, k, .cons r t => by
    have ih := less_paired k t
    show Paired F (if (m.id != k) = true then _ else _) _
    rw [List.filter_cons]
    split
    · exact .cons r ih
    · exact ih

def ownS (z : SA) : List Addr := z.st :: z.rl :: z.ud :: z.rs.flatMap own
theorem mem_ownS {z : SA} {a : Addr} : a ∈ ownS z ↔ a = z.st ∨ a = z.rl ∨ a = z.ud ∨ ∃ r ∈ z.rs, a ∈ own r := by
  simp only [ownS, List.mem_cons, List.mem_flatMap]
section
variable {K : PySem.W.Frag} {mg : Str → Option Value}
structure StAt (T : Tx K mg) (H : Hp) (s : Lead.State) (z : SA) : Prop where
  ins : ∃ dx, H z.st = some (.ins T.CS dx (sf z.rl z.ud s.next))
  rl : H z.rl = some (.lst (z.rs.map fun r => V.ref r.p))
  ud : H z.ud = some (.dK (kv s.net z.as))
  len : z.rs.length = s.nodes.length
  rep : ∀ (j : Nat) (r : RA), z.rs[j]? = some r → ∃ x, s.nodes[j]? = some x ∧ RepAt T.CR H j s.nodes.length x r
  sep : ∀ (j k : Nat) (r r' : RA), z.rs[j]? = some r → z.rs[k]? = some r' → j ≠ k → ∀ a ∈ own r, a ∉ own r'
  out : ∀ r ∈ z.rs, z.rl ∉ own r
  msg : Paired (MsgAt T.CM H) z.as s.net
structure SMv (T : Tx K mg) (H H' : Hp) (s' : Lead.State) (z z' : SA) : Prop where
  at_ : StAt T H' s' z'
  p : z'.st = z.st
  ow : ∀ a ∈ ownS z', a ∈ ownS z ∨ H a = none
  fr : Fr H H' (ownS z)
variable {T : Tx K mg} {H H0 H' H1 H2 : Hp} {s s' s1 s2 : Lead.State} {z z0 z' z1 z2 : SA}
theorem SMv.refl (h : StAt T H s z) : SMv T H H s z z := ⟨h, rfl, fun _ q => .inl q, Fr.refl⟩
theorem SMv.trans (a : SMv T H H1 s1 z z1) (b : SMv T H1 H2 s2 z1 z2) : SMv T H H2 s2 z z2 := by
  refine ⟨b.at_, b.p.trans a.p, fun c hc => ?_, a.fr.trans b.fr a.ow⟩
  rcases b.ow c hc with q | q
  · exact a.ow c q
  · exact .inr (a.fr.free q)
/-- the state's own objects are none of a replica's -/
theorem StAt.st_out (h : StAt T H s z) {r : RA} (hr : r ∈ z.rs) : z.st ∉ own r ∧ z.rl ∉ own r ∧ z.ud ∉ own r := by
  obtain ⟨j, hj⟩ := List.getElem?_of_mem hr
  obtain ⟨x, hx, R⟩ := h.rep j r hj
  obtain ⟨dx, h1⟩ := h.ins
  obtain ⟨⟨dx', q1⟩, ⟨ts', q2, _⟩, q3, q4, q5, _⟩ := R
  refine ⟨fun ha => ?_, h.out r hr, fun ha => ?_⟩
  · rcases mem_own.mp ha with e | e | e | e | e <;> rw [e] at h1
    · rw [q1] at h1
      have := congrArg List.length (HO.ins.inj (Option.some.inj h1)).2.2
      simp [rf, sf] at this
    · rw [q2] at h1; cases h1
    · rw [q3] at h1; cases h1
    · rw [q4] at h1; cases h1
    · rw [q5] at h1; cases h1
  · have h2 := h.ud
    rcases mem_own.mp ha with e | e | e | e | e <;> rw [e] at h2
    · rw [q1] at h2; cases h2
    · rw [q2] at h2; cases h2
    · rw [q3] at h2; cases h2
    · rw [q4] at h2; cases h2
    · rw [q5] at h2; cases h2
theorem StAt.ne (h : StAt T H s z) : z.st ≠ z.rl ∧ z.st ≠ z.ud ∧ z.rl ≠ z.ud := by
  obtain ⟨dx, h1⟩ := h.ins
  exact ⟨ne_of h1 h.rl (by intro q; cases q), ne_of h1 h.ud (by intro q; cases q), ne_of h.rl h.ud (by intro q; cases q)⟩
/-- no message is one of the state's own objects -/
theorem StAt.msg_out (h : StAt T H s z) {a : Addr} {m : Lead.Message} (M : MsgAt T.CM H a m) : a ∉ ownS z := by
  intro ha
  obtain ⟨dx, h1⟩ := h.ins
  rcases mem_ownS.mp ha with rfl | rfl | rfl | ⟨r, hr, ha⟩
  · obtain ⟨dx', e, ts, q, _⟩ := M
    rw [h1] at q
    have := congrArg List.length (HO.ins.inj (Option.some.inj q)).2.2
    simp [mf, sf] at this
  · exact msg_ne M h.rl rfl
  · obtain ⟨dx', e, ts, q, _⟩ := M
    rw [h.ud] at q
    cases q
  · obtain ⟨j, hj⟩ := List.getElem?_of_mem hr
    obtain ⟨x, hx, R⟩ := h.rep j r hj
    exact M.out R ha
/-- only new objects -/
theorem StAt.fr (h : StAt T H s z) {ws : List Addr} (f : Fr H H' ws) (hw : ∀ a ∈ ownS z, a ∉ ws) (hm : ∀ a m, MsgAt T.CM H a m → a ∉ ws) : StAt T H' s z := by
  obtain ⟨dx, h1⟩ := h.ins
  refine ⟨⟨dx, f.kp _ _ h1 (hw _ (mem_ownS.mpr (.inl rfl)))⟩, f.kp _ _ h.rl (hw _ (mem_ownS.mpr (.inr (.inl rfl)))), f.kp _ _ h.ud (hw _ (mem_ownS.mpr (.inr (.inr (.inl rfl))))), h.len, fun j r hj => ?_, h.sep, h.out, said_fr h.msg f hm⟩
  obtain ⟨x, hx, R⟩ := h.rep j r hj
  exact ⟨x, hx, R.fr f fun a ha => hw a (mem_ownS.mpr (.inr (.inr (.inr ⟨r, List.mem_of_getElem? hj, ha⟩))))⟩
theorem StAt.fr0 (h : StAt T H s z) (f : Fr H H' []) : StAt T H' s z := h.fr f (fun _ _ q => by cases q) fun _ _ _ q => by cases q
theorem SMv.new (a : SMv T H H1 s1 z z1) (f : Fr H1 H2 []) : SMv T H H2 s1 z z1 := ⟨a.at_.fr0 f, a.p, a.ow, a.fr.trans0 f⟩
theorem StAt.live (h : StAt T H s z) : ∀ a ∈ ownS z, ∃ o, H a = some o := by
  intro a ha
  obtain ⟨dx, h1⟩ := h.ins
  rcases mem_ownS.mp ha with rfl | rfl | rfl | ⟨r, hr, ha⟩
  · exact ⟨_, h1⟩
  · exact ⟨_, h.rl⟩
  · exact ⟨_, h.ud⟩
  · obtain ⟨j, hj⟩ := List.getElem?_of_mem hr
    obtain ⟨x, hx, R⟩ := h.rep j r hj
    exact R.live a ha
/-- one replica has moved -/
theorem StAt.move (h : StAt T H s z) {j : Nat} {r r' : RA} {x' : Lead.Node} (hj : z.rs[j]? = some r) (M : Mv T.CR H H' j s.nodes.length x' r r') : SMv T H H' ⟨s.nodes.set j x', s.net, s.next⟩ z { z with rs := z.rs.set j r' } := by
  have hr : r ∈ z.rs := List.mem_of_getElem? hj
  obtain ⟨hjl, hje⟩ := List.getElem?_eq_some_iff.mp hj
  obtain ⟨o1, o2, o3⟩ := h.st_out hr
  obtain ⟨dx, h1⟩ := h.ins
  have pm : (z.rs.set j r').map (fun r => V.ref r.p) = z.rs.map fun r => V.ref r.p := by
    apply List.ext_getElem?
    intro k
    rw [List.getElem?_map, List.getElem?_map]
    by_cases e : j = k
    · subst e
      rw [List.getElem?_set_self hjl, hj]
      show some (V.ref r'.p) = some (V.ref r.p)
      rw [M.p]
    · rw [List.getElem?_set_ne e]
  have hjn : j < s.nodes.length := by rw [← h.len]; exact hjl
  have newlive : ∀ k rk, z.rs[k]? = some rk → j ≠ k → ∀ a ∈ own rk, a ∉ own r' := by
    intro k rk hk e a ha hb
    rcases M.ow a hb with q | q
    · exact h.sep k j rk r hk hj (Ne.symm e) a ha q
    · obtain ⟨x, hx, R⟩ := h.rep k rk hk
      obtain ⟨o, ho⟩ := R.live a ha
      rw [q] at ho
      cases ho
  refine ⟨⟨⟨dx, M.fr.kp _ _ h1 o1⟩, ?_, M.fr.kp _ _ h.ud o3, ?_, fun k rk hk => ?_, fun k1 k2 ra rb hk1 hk2 e a ha hb => ?_, fun rk hk hb => ?_, said_fr h.msg M.fr fun a m q => ?_⟩, rfl, fun a ha => ?_, M.fr.mono fun a ha => .inl (mem_ownS.mpr (.inr (.inr (.inr ⟨r, hr, ha⟩))))⟩
  · show H' z.rl = some (.lst ((z.rs.set j r').map fun r => V.ref r.p))
    rw [pm]
    exact M.fr.kp _ _ h.rl o2
  · show (z.rs.set j r').length = (s.nodes.set j x').length
    rw [List.length_set, List.length_set]
    exact h.len
  · have hk : (z.rs.set j r')[k]? = some rk := hk
    show ∃ x, (s.nodes.set j x')[k]? = some x ∧ RepAt T.CR H' k (s.nodes.set j x').length x rk
    rw [List.length_set]
    by_cases e : j = k
    · subst e
      rw [List.getElem?_set_self hjl] at hk
      cases hk
      exact ⟨x', List.getElem?_set_self hjn, M.rep⟩
    · rw [List.getElem?_set_ne e] at hk
      obtain ⟨x, hx, R⟩ := h.rep k rk hk
      exact ⟨x, by rw [List.getElem?_set_ne e]; exact hx, R.fr M.fr fun a ha hb => h.sep k j rk r hk hj (Ne.symm e) a ha hb⟩
  · have hk1 : (z.rs.set j r')[k1]? = some ra := hk1
    have hk2 : (z.rs.set j r')[k2]? = some rb := hk2
    by_cases e1 : j = k1
    · subst e1
      rw [List.getElem?_set_self hjl] at hk1
      cases hk1
      rw [List.getElem?_set_ne e] at hk2
      exact newlive k2 rb hk2 e a hb ha
    · rw [List.getElem?_set_ne e1] at hk1
      by_cases e2 : j = k2
      · subst e2
        rw [List.getElem?_set_self hjl] at hk2
        cases hk2
        exact newlive k1 ra hk1 e1 a ha hb
      · rw [List.getElem?_set_ne e2] at hk2
        exact h.sep k1 k2 ra rb hk1 hk2 e a ha hb
  · have hb : z.rl ∈ own rk := hb
    rcases List.mem_or_eq_of_mem_set hk with q | q
    · exact h.out rk q hb
    · subst q
      rcases M.ow _ hb with q | q
      · exact o2 q
      · have := h.rl
        rw [q] at this
        cases this
  · intro hb
    exact h.msg_out q (mem_ownS.mpr (.inr (.inr (.inr ⟨r, hr, hb⟩))))
  · rcases mem_ownS.mp ha with q | q | q | ⟨rk, hrk, q⟩
    · exact .inl (mem_ownS.mpr (.inl q))
    · exact .inl (mem_ownS.mpr (.inr (.inl q)))
    · exact .inl (mem_ownS.mpr (.inr (.inr (.inl q))))
    · rcases List.mem_or_eq_of_mem_set hrk with e | e
      · exact .inl (mem_ownS.mpr (.inr (.inr (.inr ⟨rk, e, q⟩))))
      · subst e
        rcases M.ow a q with z' | z'
        · exact .inl (mem_ownS.mpr (.inr (.inr (.inr ⟨r, hr, z'⟩))))
        · exact .inr z'
end
end Pr
end

section
set_option Elab.async false
set_option linter.all false
set_option maxRecDepth 100000
set_option maxHeartbeats 2000000
/-! ### the state's methods -/
namespace Pr
open PySem PySem.Spec L2
open PyProof.Rows hiding St
theorem numbered_snoc : ∀ (l : List Lead.Message) (k : Nat) (m : Lead.Message), Lead.numbered k (l ++ [m]) = Lead.numbered k l ++ Lead.numbered (k + l.length) [m]
  | [], k, m => rfl
  | a :: l, k, m => by
    show _ :: Lead.numbered (k + 1) (l ++ [m]) = _ :: (Lead.numbered (k + 1) l ++ _)
    rw [numbered_snoc l (k + 1) m, show k + 1 + l.length = k + (a :: l).length by simp only [List.length_cons]; omega]
section
variable {P : Program} {w : World} {K : PySem.W.Frag} {mg : Str → Option Value} {base : Heap} {H H0 H' : Hp} {s : Lead.State} {z : SA} {σ : St} {Q : VK} {c : Nat}
theorem s_replicas {T : Tx K mg} {G : V → Prop} (S : StAt T H s z) (q : G (.ref z.rl)) : ∃ (b C dx : Addr) (fs : List (Str × V)) (v : V), V.ref z.st = V.ref b ∧ H b = some (.ins C dx fs) ∧ Cls K C ∧ NoAttr K C "replicas" ∧ fs.lookup ("replicas" : Str) = some v ∧ G v := by
  obtain ⟨dx, h1⟩ := S.ins
  exact ⟨z.st, T.CS, dx, _, _, rfl, h1, T.cl_s, T.na_s_replicas, look_at (i := 0) (sf_keys z.rl z.ud s.next) (by decide +kernel) rfl, q⟩
theorem s_under_way {T : Tx K mg} {G : V → Prop} (S : StAt T H s z) (q : G (.ref z.ud)) : ∃ (b C dx : Addr) (fs : List (Str × V)) (v : V), V.ref z.st = V.ref b ∧ H b = some (.ins C dx fs) ∧ Cls K C ∧ NoAttr K C "under_way" ∧ fs.lookup ("under_way" : Str) = some v ∧ G v := by
  obtain ⟨dx, h1⟩ := S.ins
  exact ⟨z.st, T.CS, dx, _, _, rfl, h1, T.cl_s, T.na_s_under_way, look_at (i := 1) (sf_keys z.rl z.ud s.next) (by decide +kernel) rfl, q⟩
theorem s_next_number {T : Tx K mg} {G : V → Prop} (S : StAt T H s z) (q : G (.int s.next)) : ∃ (b C dx : Addr) (fs : List (Str × V)) (v : V), V.ref z.st = V.ref b ∧ H b = some (.ins C dx fs) ∧ Cls K C ∧ NoAttr K C "next_number" ∧ fs.lookup ("next_number" : Str) = some v ∧ G v := by
  obtain ⟨dx, h1⟩ := S.ins
  exact ⟨z.st, T.CS, dx, _, _, rfl, h1, T.cl_s, T.na_s_next_number, look_at (i := 2) (sf_keys z.rl z.ud s.next) (by decide +kernel) rfl, q⟩
/-- a method of the state -/
theorem s_meth {T : Tx K mg} (S : StAt T H s z) {f : Str} (hf : skeys.findIdx? (· == f) = none) {B : Prop} (q : B) : ∃ (b dx : Addr) (fs : List (Str × V)), V.ref z.st = V.ref b ∧ H b = some (.ins T.CS dx fs) ∧ fs.lookup f = none ∧ B := by
  obtain ⟨dx, h1⟩ := S.ins
  exact ⟨z.st, dx, _, rfl, h1, look_no (sf_keys z.rl z.ud s.next) hf, q⟩
/-- the dict and the number are told anew -/
theorem StAt.tell {T : Tx K mg} (S : StAt T H s z) {dx : Addr} (h1 : H z.st = some (.ins T.CS dx (sf z.rl z.ud s.next))) {net' : List Lead.Message} {as' : List Addr} {k : Nat} (hm : Paired (MsgAt T.CM H) as' net') :
    SMv T H (upd (upd H z.ud (.dK (kv net' as'))) z.st (.ins T.CS dx (sf z.rl z.ud k))) ⟨s.nodes, net', k⟩ z { z with as := as' } := by
  obtain ⟨n1, n2, n3⟩ := S.ne
  have f1 : Fr H (upd H z.ud (.dK (kv net' as'))) [z.st, z.ud] := Fr.refl.put (.inl (by simp)) S.ud (fun _ q => by cases q)
  have f2 : Fr H (upd (upd H z.ud (.dK (kv net' as'))) z.st (.ins T.CS dx (sf z.rl z.ud k))) [z.st, z.ud] := f1.put (.inl (by simp)) (by rw [upd_ne n2]; exact h1) (fun _ q => by cases q)
  have om : ∀ a m, MsgAt T.CM H a m → a ∉ [z.st, z.ud] := by
    intro a m q ha
    apply S.msg_out q
    simp only [List.mem_cons, List.not_mem_nil, or_false] at ha
    rcases ha with ha | ha
    · exact mem_ownS.mpr (.inl ha)
    · exact mem_ownS.mpr (.inr (.inr (.inl ha)))
  refine ⟨⟨⟨dx, upd_same⟩, ?_, ?_, S.len, fun j r hj => ?_, S.sep, S.out, said_fr hm f2 om⟩, rfl, fun a ha => .inl ha, f2.mono fun a ha => .inl ?_⟩
  · exact f2.kp _ _ S.rl (by simp [Ne.symm n1, n3])
  · show (upd (upd H z.ud _) z.st _) z.ud = _
    rw [upd_ne (Ne.symm n2), upd_same]
  · obtain ⟨x, hx, R⟩ := S.rep j r hj
    obtain ⟨o1, o2, o3⟩ := S.st_out (List.mem_of_getElem? hj)
    refine ⟨x, hx, R.fr f2 fun a ha hb => ?_⟩
    simp only [List.mem_cons, List.not_mem_nil, or_false] at hb
    rcases hb with hb | hb
    · exact o1 (hb ▸ ha)
    · exact o3 (hb ▸ ha)
  · simp only [List.mem_cons, List.not_mem_nil, or_false] at ha
    rcases ha with ha | ha
    · exact mem_ownS.mpr (.inl ha)
    · exact mem_ownS.mpr (.inr (.inr (.inl ha)))
theorem put_kv {ms : List Lead.Message} {as : List Addr} {k : Nat} {a : Addr} {m : Lead.Message} (hl : as.length = ms.length) (h : ∀ m ∈ ms, m.id < k) : putK (kv ms as) (Sum.inl (k : Int)) (V.ref a) = kv (ms ++ Lead.numbered k [m]) (as ++ [a]) := by
  unfold putK
  rw [if_neg (by rw [kv_new h]; exact Bool.false_ne_true), kv_append hl]
  rfl

def spHasRep (T : Tx K mg) : Sp := fun vs H Q _ => ∃ (s : Lead.State) (z : SA) (i : Int), vs = [.ref z.st, .int i] ∧ StAt T H s z ∧ Q (.bl (decide (i < s.nodes.length))) H
theorem ok_has_rep (T : Tx K mg) : FnOk P w K mg base CX0 1 T.a_s_has_replica T.d_s_has_replica ["self", "i"] (spHasRep T) := by
  refine T.F_s_has_replica.ok sc_s_has_replica (fun vs H Q E h => ?_) (fun cdv A outer s' H vs Q E hr h => ?_)
  · obtain ⟨s, z, i, rfl, _⟩ := h
    rfl
  · obtain ⟨s, z, i, rfl, S, q⟩ := h
    refine ⟨_, pss_one (ps_ret (pe_cmpR op_lt (pv 1) (pe_callB call_len_seq (by rfl) T.b_len PySem.boot_len (pa_cons (pe_fld (pv 0) rfl) pa_nil)) (nomark _))), ?_⟩
    refine ⟨_, rfl, ⟨_, rfl, s_replicas S ⟨z.rl, _, rfl, .inl (SqL.of S.rl), _, _, rfl, rfl, ?_⟩⟩⟩
    rw [List.length_map, S.len]
    exact q
def spRoom (T : Tx K mg) : Sp := fun vs H Q _ => ∃ (s : Lead.State) (z : SA) (k : Int), vs = [.ref z.st, .int k] ∧ StAt T H s z ∧ Q (.bl (decide ((s.net.length : Int) + k ≤ 64))) H
theorem ok_room (T : Tx K mg) : FnOk P w K mg base CX0 1 T.a_s_has_room_for T.d_s_has_room_for ["self", "more"] (spRoom T) := by
  refine T.F_s_has_room_for.ok sc_s_has_room_for (fun vs H Q E h => ?_) (fun cdv A outer s' H vs Q E hr h => ?_)
  · obtain ⟨s, z, i, rfl, _⟩ := h
    rfl
  · obtain ⟨s, z, i, rfl, S, q⟩ := h
    refine ⟨_, pss_one (ps_ret (pe_cmpR op_le (pe_op op_add (pe_callB call_lenD (by rfl) T.b_len PySem.boot_len (pa_cons (pe_fld (pv 0) rfl) pa_nil)) (pv 1)) (pe_gi T.g_MOST_UNDER_WAY) (nomark _))), ?_⟩
    refine ⟨_, rfl, s_under_way S ⟨z.ud, _, rfl, S.ud, _, rfl, _, _, rfl, rfl, _, _, rfl, rfl, ?_⟩⟩
    rw [kv_length (paired_len S.msg)]
    exact q
def spOth (T : Tx K mg) : Sp := fun vs H Q _ => ∃ (s : Lead.State) (z : SA), vs = [.ref z.st] ∧ StAt T H s z ∧ Q (.int ((s.nodes.length : Int) - 1)) H
theorem ok_oth (T : Tx K mg) : FnOk P w K mg base CX0 1 T.a_s_how_many_others T.d_s_how_many_others ["self"] (spOth T) := by
  refine T.F_s_how_many_others.ok sc_s_how_many_others (fun vs H Q E h => ?_) (fun cdv A outer s' H vs Q E hr h => ?_)
  · obtain ⟨s, z, rfl, _⟩ := h
    rfl
  · obtain ⟨s, z, rfl, S, q⟩ := h
    refine ⟨_, pss_one (ps_ret (pe_op op_sub (pe_callB call_len_seq (by rfl) T.b_len PySem.boot_len (pa_cons (pe_fld (pv 0) rfl) pa_nil)) pe_int)), ?_⟩
    refine ⟨_, rfl, s_replicas S ⟨z.rl, _, rfl, .inl (SqL.of S.rl), _, _, rfl, rfl, ?_⟩⟩
    rw [List.length_map, S.len]
    exact q
def spSay (T : Tx K mg) : Sp := fun vs H Q _ => ∃ (s : Lead.State) (z : SA) (a : Addr) (m : Lead.Message), vs = [.ref z.st, .ref a] ∧ StAt T H s z ∧ MsgAt T.CM H a m ∧ (∀ m' ∈ s.net, m'.id < s.next) ∧ s.net.length ≤ 64 ∧
  ∀ H', SMv T H H' ⟨s.nodes, s.net ++ Lead.numbered s.next [m], s.next + 1⟩ z { z with as := z.as ++ [a] } → Q (.int s.next) H'
theorem ok_say (T : Tx K mg) : FnOk P w K mg base CX0 1 T.a_s_say T.d_s_say ["self", "message"] (spSay T) := by
  refine T.F_s_say.ok sc_s_say (fun vs H Q E h => ?_) (fun cdv A outer s' H vs Q E hr h => ?_)
  · obtain ⟨s, z, a, m, rfl, _⟩ := h
    rfl
  · obtain ⟨s, z, a, m, rfl, S, M, hlt, hnt, k⟩ := h
    have hu := hr.un
    refine ⟨_, pss_cons (ps_set (i := 2) sc_s_say.nd rfl (Or.inl rfl) (pe_fld (pv 0) rfl)) (pss_cons (ps_dput (hu_of hr) (pe_fld (pv 0) rfl) (pv 2) (pv 1) rfl) (pss_cons (ps_fld (pv 0) (pe_op op_add (pv 2) pe_int) rfl) (pss_one (ps_ret (pv 2))))), ?_⟩
    have hl : (kv s.net z.as).length < sizeLine := by
      rw [kv_length (paired_len S.msg)]
      exact Nat.lt_of_le_of_lt hnt (show 64 < sizeLine by decide)
    obtain ⟨dx, h1⟩ := S.ins
    obtain ⟨n1, n2, n3⟩ := S.ne
    refine ⟨_, rfl, s_next_number S ⟨_, rfl, ⟨_, rfl, s_under_way S ⟨_, rfl, z.ud, _, rfl, DPut.k (k := Sum.inl (s.next : Int)) S.ud hl, ?_⟩⟩⟩⟩
    refine ⟨_, rfl, _, _, rfl, rfl, _, rfl, z.st, T.CS, dx, _, rfl, by rw [upd_ne n2]; exact h1, T.cl_s, T.na_s_next_number, (by show 3 < 1000; decide), ?_⟩
    rw [put_at (sf_keys z.rl z.ud s.next) (i := 2) (by decide +kernel), put_kv (m := m) (paired_len S.msg) hlt]
    refine ⟨_, rfl, k _ ?_⟩
    have := S.tell h1 (net' := s.net ++ Lead.numbered s.next [m]) (as' := z.as ++ [a]) (k := s.next + 1) (psnoc (b := ⟨s.next, m.kind, m.from_, m.to_, m.term, m.a, m.b, m.c, m.entries⟩) S.msg M)
    exact this
def spSayAll (T : Tx K mg) : Sp := fun vs H Q _ => ∃ (s : Lead.State) (z : SA) (l : Addr) (ms : List Lead.Message), vs = [.ref z.st, .ref l] ∧ StAt T H s z ∧ Said T.CM H l ms ∧ l ∉ ownS z ∧ (∀ m' ∈ s.net, m'.id < s.next) ∧ s.net.length + ms.length ≤ 64 ∧
  ∀ H' z', SMv T H H' ⟨s.nodes, s.net ++ Lead.numbered s.next ms, s.next + ms.length⟩ z z' → z'.rs = z.rs → Q (.int ms.length) H'
theorem ok_say_all (T : Tx K mg) : FnOk P w K mg base CX0 2 T.a_s_say_all T.d_s_say_all ["self", "messages"] (spSayAll T) := by
  refine T.F_s_say_all.ok sc_s_say_all (fun vs H Q E h => ?_) (fun cdv A outer s' H vs Q E hr h => ?_)
  · obtain ⟨s, z, l, ms, rfl, _⟩ := h
    rfl
  · obtain ⟨s, z, l, ms, rfl, S, ⟨as, hl, pm⟩, hlo, hlt, hnt, k⟩ := h
    refine ⟨_, pss_cons (ps_for PassesOwn.never rfl (pi_list (pv 1)) (pg_name (i := 2) sc_s_say_all.nd rfl (Or.inl rfl)) (pss_one (ps_expr (pe_meth (pv 0) T.cl_s T.M_s_say (ok_say T) hr T.B_s_say .nil pass0 (pa_cons (pv 2) pa_nil)))))
      (pss_one (ps_ret (pe_callB call_len_seq (by rfl) T.b_len PySem.boot_len (pa_cons (pv 1) pa_nil)))), ?_⟩
    have lens : as.length = ms.length := paired_len pm
    refine ⟨_, rfl, l, rfl, ⟨_, SqL.of hl⟩, for_list (K := K) (a := l) (xs := as.map V.ref) (fun t σ H' => ∃ (v : Option V) (z' : SA), σ = [some (.ref z.st), some (.ref l), v] ∧ SMv T H H' ⟨s.nodes, s.net ++ Lead.numbered s.next (ms.take t), s.next + (ms.take t).length⟩ z z' ∧ z'.rs = z.rs)
      ⟨none, z, rfl, by rw [List.take_zero]; show SMv T H H ⟨s.nodes, s.net ++ [], s.next⟩ z z; rw [List.append_nil]; exact SMv.refl S, rfl⟩ (fun t σ H' _ ⟨_, _, _, m, _⟩ => SqL.of (m.fr.kp _ _ hl hlo)) ?_ ?_⟩
    · rintro t y σ H' hy ⟨v, z', rfl, m, hz⟩
      obtain ⟨a, ha, rfl⟩ : ∃ a, as[t]? = some a ∧ y = V.ref a := by
        rw [List.getElem?_map] at hy
        cases e : as[t]? with
        | none => rw [e] at hy; cases hy
        | some a => rw [e] at hy; exact ⟨a, rfl, (Option.some.inj hy).symm⟩
      obtain ⟨ht, _⟩ := List.getElem?_eq_some_iff.mp ha
      have htm : t < ms.length := by omega
      have hmt : ms[t]? = some ms[t] := List.getElem?_eq_getElem htm
      have M0 : MsgAt T.CM H a ms[t] := by
        have : ∀ {as : List Addr} {ms : List Lead.Message} {t : Nat} {a : Addr} {m : Lead.Message}, Paired (MsgAt T.CM H) as ms → as[t]? = some a → ms[t]? = some m → MsgAt T.CM H a m := by
          intro as ms t
          induction t generalizing as ms with
          | zero =>
            intro a m p h1 h2
            cases p with
            | nil => simp at h1
            | cons r _ => simp at h1 h2; subst h1 h2; exact r
          | succ t ih =>
            intro a m p h1 h2
            cases p with
            | nil => simp at h1
            | cons _ q => exact ih q (by simpa using h1) (by simpa using h2)
        exact this pm ha hmt
      have M1 := M0.fr m.fr (S.msg_out M0)
      have et : (ms.take t).length = t := by rw [List.length_take]; omega
      obtain ⟨dx', h1'⟩ := m.at_.ins
      rw [m.p] at h1'
      refine ⟨_, rfl, z.st, dx', _, rfl, h1', look_no (sf_keys z'.rl z'.ud _) (by decide +kernel), _, rfl, _, z', a, ms[t], by rw [m.p]; rfl, m.at_, M1, ?_, ?_, fun H2 m2 => ?_⟩
      · intro m' hm'
        rcases List.mem_append.mp hm' with q | q
        · have := hlt m' q
          show m'.id < s.next + _
          omega
        · obtain ⟨_, _, _, _, q⟩ := Ld.mem_numbered q
          exact q
      · show (s.net ++ Lead.numbered s.next (ms.take t)).length ≤ 64
        rw [List.length_append, Ld.numbered_length, et]
        omega
      · refine ⟨_, { z' with as := z'.as ++ [a] }, rfl, ?_, hz⟩
        have e1 : ms.take (t + 1) = ms.take t ++ [ms[t]] := by rw [List.take_add_one, hmt]; rfl
        have m3 := m.trans m2
        have e2 : (⟨s.nodes, (s.net ++ Lead.numbered s.next (ms.take t)) ++ Lead.numbered (s.next + (ms.take t).length) [ms[t]], s.next + (ms.take t).length + 1⟩ : Lead.State) = ⟨s.nodes, s.net ++ Lead.numbered s.next (ms.take (t + 1)), s.next + (ms.take (t + 1)).length⟩ := by
          rw [e1, numbered_snoc, List.append_assoc, List.length_append]
          rfl
        rw [← e2]
        exact m3
    · rintro σ H' ⟨v, z', rfl, m, hz⟩
      rw [List.length_map, lens, List.take_length] at m
      refine ⟨_, rfl, l, _, rfl, .inl (SqL.of (m.fr.kp _ _ hl hlo)), ?_⟩
      rw [List.length_map, lens]
      exact k H' z' m hz
end
end Pr
end

section
set_option Elab.async false
set_option linter.all false
set_option maxRecDepth 100000
set_option maxHeartbeats 2000000
/-! ### a new state; replicas begun -/
namespace Pr
open PySem PySem.Spec L2
open PyProof.Rows hiding St
section
variable {P : Program} {w : World} {K : PySem.W.Frag} {mg : Str → Option Value} {base : Heap}
def spS (T : Tx K mg) : Sp := fun vs H Q _ => ∃ (p dx : Addr), vs = [.ref p] ∧ H p = some (.ins T.CS dx []) ∧ ∀ H' z, z.st = p → StAt T H' Lead.start z → (∀ a ∈ ownS z, a = p ∨ H a = none) → Fr H H' [p] → Q .non H'
theorem ok_s (T : Tx K mg) : FnOk P w K mg base CX0 1 T.a_s_init T.d_s_init ["self"] (spS T) := by
  refine T.F_s_init.ok sc_s_init (fun vs H Q E h => ?_) (fun cdv A outer s H vs Q E hr h => ?_)
  · obtain ⟨p, dx, rfl, _⟩ := h
    rfl
  · obtain ⟨p, dx, rfl, hp, k⟩ := h
    refine ⟨_, pss_cons (ps_fld (pv 0) (pe_lst pa_nil) rfl) (pss_cons (ps_fld (pv 0) pe_dnewK rfl) (pss_one (ps_fld (pv 0) pe_int rfl))), ?_⟩
    refine ⟨Nat.zero_le _, fun l hl => ?_⟩
    have hpl : p ≠ l := ne_of_none hp hl
    have q0 : Fr H (upd H l (.lst [])) [] := Fr.refl.new hl
    refine setS (ks := []) rfl (q0.kp _ _ hp (by simp)) T.cl_s T.na_s_replicas rfl (by decide +kernel) (by decide) fun H1 h1 f1 => ?_
    have hl1 : H1 l = some (.lst []) := f1.kp _ _ upd_same (by simp [Ne.symm hpl])
    intro d hd
    have hpd : p ≠ d := ne_of_none h1 hd
    have q1 : Fr H1 (upd H1 d (.dK [])) [] := Fr.refl.new hd
    refine setS (ks := ["replicas"]) rfl (q1.kp _ _ h1 (by simp)) T.cl_s T.na_s_under_way rfl (by decide +kernel) (by decide) fun H2 h2 f2 => ?_
    have hl2 : H2 l = some (.lst []) := f2.kp _ _ (q1.kp _ _ hl1 (by simp)) (by simp [Ne.symm hpl])
    have hd2 : H2 d = some (.dK []) := f2.kp _ _ upd_same (by simp [Ne.symm hpd])
    refine setS (ks := ["replicas", "under_way"]) rfl h2 T.cl_s T.na_s_next_number rfl (by decide +kernel) (by decide) fun H3 h3 f3 => ?_
    have f01 : Fr H H1 [p] := fr_one (q0.of0 (ws := [p])) f1
    have f02 : Fr H H2 [p] := fr_one (f01.trans0 q1) f2
    refine k H3 ⟨p, l, d, [], []⟩ rfl ⟨⟨dx, h3⟩, f3.kp _ _ hl2 (by simp [Ne.symm hpl]), f3.kp _ _ hd2 (by simp [Ne.symm hpd]), rfl, ?_, ?_, ?_, .nil⟩ ?_ (fr_one f02 f3)
    · intro j r hj; simp at hj
    · intro j j' r r' hj; simp at hj
    · intro r hr; cases hr
    · intro a ha
      rcases mem_ownS.mp ha with q | q | q | ⟨r, hr, _⟩
      · exact .inl q
      · exact .inr (by rw [q]; exact hl)
      · exact .inr (by rw [q]; exact f01.free hd)
      · cases hr
/-- an attribute of the state is told anew -/
theorem st_wr {s : Nat} {f : Str} {y : V} {D : Hp → Prop} {σ : St} {H : Hp} {a C dx : Addr} {fs fs' : List (Str × V)} {ks : List Str} {j : Nat} (hσ : σ[s]? = some (some (.ref a))) (h : H a = some (.ins C dx fs)) (cl : Cls K C) (na : NoAttr K C f) (hk : fs.map (·.1) = ks) (hn : ks.findIdx? (· == f) = some j) (hl : ks.length < 1000) (he : fs.set j (f, y) = fs')
    (k : ∀ H', H' = upd H a (.ins C dx fs') → D H') : Wr K s f y D σ H := by
  refine ⟨_, hσ, a, C, dx, fs, rfl, h, cl, na, ?_, ?_⟩
  · rw [← hk, List.length_map] at hl
    exact hl
  · exact k _ (by rw [put_at hk hn, he])
def spStart (T : Tx K mg) : Sp := fun vs H Q _ => ∃ (s : Lead.State) (z : SA) (n : Nat), vs = [.ref z.st, .int n] ∧ StAt T H s z ∧ n ≤ 5 ∧ ∀ H' z', SMv T H H' ⟨List.replicate n (Lead.fresh n), [], 1⟩ z z' → Q .non H'
/-- replicas begun so far -/
structure Begun (C : Addr) (H H' : Hp) (n m : Nat) (D : Addr) (rs : List RA) : Prop where
  len : rs.length = m
  lst : H' D = some (.lst (rs.map fun r => V.ref r.p))
  rep : ∀ (j : Nat) (r : RA), rs[j]? = some r → RepAt C H' j n (Lead.fresh n) r
  sep : ∀ (j k : Nat) (r r' : RA), rs[j]? = some r → rs[k]? = some r' → j ≠ k → ∀ a ∈ own r, a ∉ own r'
  new : ∀ r ∈ rs, ∀ a ∈ own r, H a = none ∧ a ≠ D
theorem ok_start (T : Tx K mg) : FnOk P w K mg base CX0 5 T.a_s_start T.d_s_start ["self", "n"] (spStart T) := by
  refine T.F_s_start.ok sc_s_start (fun vs H Q E h => ?_) (fun cdv A outer s0 H vs Q E hr h => ?_)
  · obtain ⟨s, z, n, rfl, _⟩ := h
    rfl
  · obtain ⟨s, z, n, rfl, S, hn, k⟩ := h
    refine ⟨_, pss_cons (ps_fld (pv 0) (pe_lc rfl sc_s_start.nd (pi_range1 rfl T.b_range (pa_cons (pv 1) pa_nil)) (blkOk_by (own := [("i", 2)]) (by show blkC ["self", "n", "i"] (defScope st_s_start) _ [("i", 2)] = true; decide +kernel))
        (fun _ _ _ _ _ => pg_name (i := 2) sc_s_start.nd rfl (Or.inl rfl)) (fun _ _ _ _ _ => pts_nil)
        (fun _ _ _ _ _ => pe_make T.K_r_init (ok_r T) hr rfl T.mg_r T.B_r_init .nil pass0 (pa_cons (pv 2) (pa_cons (pv 1) pa_nil)))) rfl)
      (pss_cons (ps_fld (pv 0) pe_dnewK rfl) (pss_one (ps_fld (pv 0) pe_int rfl))), ?_⟩
    refine ⟨_, rfl, _, rfl, (by omega), (by omega), fun D hD => ?_⟩
    refine lc_range (n := n) (fun m H' => Fr H H' [] ∧ ∃ rs, Begun T.CR H H' n m D rs) ⟨Fr.refl.new hD, [], rfl, upd_same, (fun j r hj => by simp at hj), (fun j k r r' hj => by simp at hj), (fun r hr => by cases hr)⟩ ?_ ?_
    · rintro m H' hm ⟨f, rs, B⟩
      refine ⟨rfl, _, rfl, _, rfl, fun p dx hp hdx hne => ?_⟩
      have em : (0 : Int) + (m : Int) = (m : Int) := by omega
      refine ⟨p, dx, m, n, by rw [em]; rfl, upd_same, hn, fun H2 r hrp R ho f2 => ⟨rfl, ?_⟩⟩
      have f12 : Fr H' H2 [] := fr_made hp hdx hne f2
      have fresh' : ∀ a ∈ own r, H' a = none := by
        intro a ha
        rcases ho a ha with q | q
        · rw [q]; exact hp
        · by_cases c : a = p
          · rw [c]; exact hp
          · rw [upd_ne c] at q
            by_cases c2 : a = dx
            · rw [c2]; exact hdx
            · rw [upd_ne c2] at q; exact q
      have hD2 : H2 D = some (.lst (rs.map fun r => V.ref r.p)) := f12.kp _ _ B.lst (by simp)
      have fD : Fr H2 (upd H2 D (.lst ((rs.map fun r => V.ref r.p) ++ [.ref p]))) [D] := Fr.refl.put (.inl (by simp)) hD2 (fun _ q => by cases q)
      have rD : ∀ a ∈ own r, a ≠ D := fun a ha q => by
        have := fresh' a ha
        rw [q, B.lst] at this
        cases this
      have live : ∀ (j : Nat) (r' : RA), rs[j]? = some r' → ∀ a ∈ own r', a ∉ own r := fun j r' hj a ha hb => by
        obtain ⟨o, e⟩ := (B.rep j r' hj).live a ha
        rw [fresh' a hb] at e
        cases e
      have get : ∀ (j : Nat) (r' : RA), (rs ++ [r])[j]? = some r' → (rs[j]? = some r') ∨ (j = m ∧ r' = r) := by
        intro j r' hj
        by_cases c : j < rs.length
        · rw [List.getElem?_append_left c] at hj
          exact .inl hj
        · have hl := (List.getElem?_eq_some_iff.mp hj).1
          rw [List.length_append] at hl
          have e : j = rs.length := by simp at hl; omega
          subst e
          rw [List.getElem?_append_right (Nat.le_refl _), Nat.sub_self] at hj
          exact .inr ⟨B.len, (Option.some.inj hj).symm⟩
      refine ⟨_, hD2, ?_, ?_, rs ++ [r], ?_, ?_, ?_, ?_, ?_⟩
      · rw [List.length_map, B.len]
        exact Nat.lt_of_lt_of_le hm (Nat.le_trans hn (show 5 ≤ sizeLine by decide))
      · exact (f.trans0 f12).put (.inr hD) hD2 (fun _ q => by cases q)
      · rw [List.length_append, B.len]; rfl
      · rw [upd_same, List.map_append, ← hrp]; rfl
      · intro j r' hj
        rcases get j r' hj with q | ⟨rfl, rfl⟩
        · exact ((B.rep j r' q).fr0 f12).fr fD fun a ha => by
            have := (B.new r' (List.mem_of_getElem? q) a ha).2
            simp [this]
        · exact R.fr fD fun a ha => by simp [rD a ha]
      · intro j j' ra rb hj hj' e a ha hb
        rcases get j ra hj with q | ⟨q1, q2⟩
        · rcases get j' rb hj' with q' | ⟨q1', q2'⟩
          · exact B.sep j j' ra rb q q' e a ha hb
          · subst q2'
            exact live j ra q a ha hb
        · subst q2
          rcases get j' rb hj' with q' | ⟨q1', q2'⟩
          · exact live j' rb q' a hb ha
          · omega
      · intro r' hr' a ha
        rcases List.mem_append.mp hr' with q | q
        · exact B.new r' q a ha
        · rw [List.mem_singleton] at q
          subst q
          exact ⟨f.free (fresh' a ha), rD a ha⟩
    · rintro H1 ⟨f, rs, B⟩
      obtain ⟨dx, h1⟩ := (S.fr0 f).ins
      refine st_wr (j := 0) (fs' := sf D z.ud s.next) rfl h1 T.cl_s T.na_s_replicas (sf_keys z.rl z.ud s.next) (by decide +kernel) (by decide) rfl fun H2 e2 => ?_
      intro d hd
      have nDst : z.st ≠ D := ne_of h1 B.lst (by intro q; cases q)
      have h2 : H2 z.st = some (.ins T.CS dx (sf D z.ud s.next)) := by rw [e2]; exact upd_same
      have dst : z.st ≠ d := ne_of_none h2 hd
      refine st_wr (j := 1) (fs' := sf D d s.next) rfl (by rw [upd_ne dst]; exact h2) T.cl_s T.na_s_under_way (sf_keys D z.ud s.next) (by decide +kernel) (by decide) rfl fun H3 e3 => ?_
      refine st_wr (j := 2) (fs' := sf D d 1) rfl (by rw [e3]; exact upd_same) T.cl_s T.na_s_next_number (sf_keys D d s.next) (by decide +kernel) (by decide) rfl fun H4 e4 => ?_
      have g2 : Fr H1 H2 [z.st] := by rw [e2]; exact Fr.refl.put (.inl (by simp)) h1 (fun _ q => by cases q)
      have g2' : Fr H1 (upd H2 d (.dK [])) [z.st] := g2.new hd
      have g3 : Fr H1 H3 [z.st] := by rw [e3]; exact g2'.put (.inl (by simp)) (by rw [upd_ne dst]; exact h2) (fun _ q => by cases q)
      have g4 : Fr H1 H4 [z.st] := by rw [e4]; exact g3.put (.inl (by simp)) (by rw [e3]; exact upd_same) (fun _ q => by cases q)
      have hd1 : H1 d = none := g2.free hd
      have hdH : H d = none := f.free hd1
      have hd4 : H4 d = some (.dK []) := by rw [e4, upd_ne (Ne.symm dst), e3, upd_ne (Ne.symm dst), upd_same]
      have live : ∀ r ∈ rs, ∀ a ∈ own r, a ≠ z.st := fun r hr a ha q => by
        have := (B.new r hr a ha).1
        obtain ⟨dx0, h0⟩ := S.ins
        rw [q, h0] at this
        cases this
      refine k H4 ⟨z.st, D, d, rs, []⟩ ⟨⟨⟨dx, by rw [e4]; exact upd_same⟩, ?_, hd4, ?_, ?_, B.sep, ?_, .nil⟩, rfl, ?_, ?_⟩
      · exact g4.kp _ _ B.lst (by simp [Ne.symm nDst])
      · show rs.length = (List.replicate n (Lead.fresh n)).length
        rw [List.length_replicate]; exact B.len
      · intro j r hj
        have hjl := (List.getElem?_eq_some_iff.mp hj).1
        refine ⟨Lead.fresh n, ?_, ?_⟩
        · show (List.replicate n (Lead.fresh n))[j]? = some (Lead.fresh n)
          rw [List.getElem?_replicate, if_pos (by have := B.len; have : rs.length = n := this; show j < n; have h : j < rs.length := hjl; omega)]
        · show RepAt T.CR H4 j (List.replicate n (Lead.fresh n)).length (Lead.fresh n) r
          rw [List.length_replicate]
          exact (B.rep j r hj).fr g4 fun a ha => by
            have := live r (List.mem_of_getElem? hj) a ha
            simp [this]
      · intro r hr q
        exact (B.new r hr D q).2 rfl
      · intro a ha
        rcases mem_ownS.mp ha with q | q | q | ⟨r, hr, q⟩
        · exact .inl (mem_ownS.mpr (.inl q))
        · exact .inr (by rw [q]; exact hD)
        · exact .inr (by rw [q]; exact hdH)
        · exact .inr (B.new r hr a q).1
      · exact (f.of0 (ws := [z.st])).trans g4 (fun b hb => .inl hb) |>.mono fun b hb => .inl (by
          rw [List.mem_singleton] at hb
          exact mem_ownS.mpr (.inl hb))
end
end Pr
end

section
set_option Elab.async false
set_option linter.all false
set_option maxRecDepth 100000
set_option maxHeartbeats 2000000
/-! ### the calls that change the state -/
namespace Pr
open PySem PySem.Spec L2
open PyProof.Rows hiding St
section
variable {P : Program} {w : World} {K : PySem.W.Frag} {mg : Str → Option Value} {base : Heap}
/-- what else the module has -/
structure Ty (K : PySem.W.Frag) (mg : Str → Option Value) (T : Tx K mg) : Type where
  rc : Addr
  mg_rc : mg "REPLICA_COUNTS" = some (.ref rc)
  rcT : ∃ (o : Obj) (its : Array Value) (n : Nat), K.lookup rc = some o ∧ o.cls = .type "tuple" ∧ o.data = .seq its n ∧ its.size ≤ sizeLine ∧ Vals [.int 3, .int 5] its.toList
  d0 : Addr
  mg_d0 : mg "CALLS_OF_NO_NUMBER" = some (.ref d0)
  D0 : KDict K d0 [(11, T.a_c_net)]
  d1 : Addr
  mg_d1 : mg "CALLS_OF_ONE_NUMBER" = some (.ref d1)
  D1 : KDict K d1 [(0, T.a_c_begin), (1, T.a_c_stand), (3, T.a_c_beat), (4, T.a_c_deliver), (5, T.a_c_lose), (6, T.a_c_copy), (7, T.a_c_crash), (8, T.a_c_look), (9, T.a_c_log), (10, T.a_c_settled), (12, T.a_c_message)]
  d2 : Addr
  mg_d2 : mg "CALLS_OF_TWO_NUMBERS" = some (.ref d2)
  D2 : KDict K d2 [(2, T.a_c_propose)]
  F2 : Fill2 K T.d_m_init
  F1 : Fill1 K T.d_r_reply
/-- what a call gives back -/
def RetC (T : Tx K mg) (H : Hp) (z : SA) (s' : Lead.State) (ans : List Int) (Q : VK) : Prop := ∀ H' z' l, SMv T H H' s' z z' → H l = none → H' l = some (.lst (ans.map V.int)) → Q (.ref l) H'
theorem RetC.lst {T : Tx K mg} {H H1 : Hp} {z z1 : SA} {s' : Lead.State} {ans : List Int} {Q : VK} {l : Addr} {xs : List V} (R : RetC T H z s' ans Q) (m : SMv T H H1 s' z z1) (hl : H1 l = none) (e : xs = ans.map V.int) : Q (.ref l) (upd H1 l (.lst xs)) :=
  R _ z1 l (m.new (Fr.refl.new hl)) (m.fr.free hl) (by rw [upd_same, e])
theorem RetC.no {T : Tx K mg} {H H1 : Hp} {z : SA} {s : Lead.State} {c : Lead.Call} {v : Int} {Q : VK} {l : Addr} (R : RetC T H z (Lead.step s c).1 (LeadNeutral.shown (Lead.step s c).2) Q) (S : StAt T H s z) (f : Fr H H1 []) (e : Lead.step s c = (s, Lead.says v)) (hl : H1 l = none) : Q (.ref l) (upd H1 l (.lst [.int v])) := by
  rw [e] at R
  exact RetC.lst R ((SMv.refl S).new f) hl rfl
theorem RetC.yes {T : Tx K mg} {H H1 : Hp} {z z1 : SA} {s s' : Lead.State} {c : Lead.Call} {v : Int} {Q : VK} {l : Addr} (R : RetC T H z (Lead.step s c).1 (LeadNeutral.shown (Lead.step s c).2) Q) (m : SMv T H H1 s' z z1) (e : Lead.step s c = (s', Lead.says v)) (hl : H1 l = none) : Q (.ref l) (upd H1 l (.lst [.int v])) := by
  rw [e] at R
  exact RetC.lst R m hl rfl
def spC1 (T : Tx K mg) (mk : Nat → Lead.Call) : Sp := fun vs H Q _ => ∃ (s : Lead.State) (z : SA) (i : Nat), vs = [.ref z.st, .int i] ∧ StAt T H s z ∧ Ld.Fine s ∧ RetC T H z (Lead.step s (mk i)).1 (LeadNeutral.shown (Lead.step s (mk i)).2) Q
def spC2 (T : Tx K mg) (mk : Nat → Nat → Lead.Call) : Sp := fun vs H Q _ => ∃ (s : Lead.State) (z : SA) (i v : Nat), vs = [.ref z.st, .int i, .int v] ∧ StAt T H s z ∧ Ld.Fine s ∧ RetC T H z (Lead.step s (mk i v)).1 (LeadNeutral.shown (Lead.step s (mk i v)).2) Q
def spC0 (T : Tx K mg) (c : Lead.Call) : Sp := fun vs H Q _ => ∃ (s : Lead.State) (z : SA), vs = [.ref z.st] ∧ StAt T H s z ∧ Ld.Fine s ∧ RetC T H z (Lead.step s c).1 (LeadNeutral.shown (Lead.step s c).2) Q
theorem noT {a b : Nat} (h : (!decide ((a : Int) < (b : Int))) = true) : ¬ a < b := by
  intro q
  rw [decide_eq_true (by omega : (a : Int) < (b : Int))] at h
  cases h
theorem noF {a b : Nat} (h : ¬ (!decide ((a : Int) < (b : Int))) = true) : a < b := by
  apply Decidable.byContradiction
  intro q
  apply h
  rw [decide_eq_false (by omega : ¬ (a : Int) < (b : Int))]
  rfl
theorem roomT {s : Lead.State} (hn : 1 ≤ s.nodes.length) (h : (!decide ((s.net.length : Int) + ((s.nodes.length : Int) - 1) ≤ 64)) = true) : s.full (s.nodes.length - 1) = true := by
  show decide (64 < s.net.length + (s.nodes.length - 1)) = true
  apply decide_eq_true
  apply Decidable.byContradiction
  intro q
  rw [decide_eq_true (by omega : (s.net.length : Int) + ((s.nodes.length : Int) - 1) ≤ 64)] at h
  cases h
theorem roomF {s : Lead.State} (hn : 1 ≤ s.nodes.length) (h : ¬ (!decide ((s.net.length : Int) + ((s.nodes.length : Int) - 1) ≤ 64)) = true) : ¬ s.full (s.nodes.length - 1) = true ∧ s.net.length + (s.nodes.length - 1) ≤ 64 := by
  have q : (s.net.length : Int) + ((s.nodes.length : Int) - 1) ≤ 64 := by
    apply Decidable.byContradiction
    intro q
    apply h
    rw [decide_eq_false q]
    rfl
  refine ⟨fun z => ?_, by omega⟩
  have z : decide (64 < s.net.length + (s.nodes.length - 1)) = true := z
  have := of_decide_eq_true z
  omega
/-- the replica at a place -/
theorem StAt.at {T : Tx K mg} {H : Hp} {s : Lead.State} {z : SA} (S : StAt T H s z) {i : Nat} (h : i < s.nodes.length) : ∃ r x, z.rs[i]? = some r ∧ s.nodes[i]? = some x ∧ RepAt T.CR H i s.nodes.length x r ∧ (z.rs.map fun r => V.ref r.p)[i]? = some (V.ref r.p) := by
  have hr : z.rs[i]? = some (z.rs[i]'(by rw [S.len]; exact h)) := List.getElem?_eq_getElem (by rw [S.len]; exact h)
  obtain ⟨x, hx, R⟩ := S.rep i _ hr
  exact ⟨_, x, hr, hx, R, by rw [List.getElem?_map, hr]; rfl⟩
theorem Fine.nok {s : Lead.State} (F : Ld.Fine s) {i : Nat} {x : Lead.Node} (hx : s.nodes[i]? = some x) : Ld.NOk s.nodes.length x := F.ok.nd x (List.mem_of_getElem? hx)
theorem StAt.new_out {T : Tx K mg} {H : Hp} {s : Lead.State} {z : SA} (S : StAt T H s z) {j : Nat} {r' : RA} {l : Addr} (hl : H l = none) (hr : l ∉ own r') : l ∉ ownS { z with rs := z.rs.set j r' } := by
  intro ha
  rcases mem_ownS.mp ha with q | q | q | ⟨rk, hrk, q⟩
  · obtain ⟨o, e⟩ := S.live z.st (mem_ownS.mpr (.inl rfl))
    rw [← show l = z.st from q, hl] at e; cases e
  · obtain ⟨o, e⟩ := S.live z.rl (mem_ownS.mpr (.inr (.inl rfl)))
    rw [← show l = z.rl from q, hl] at e; cases e
  · obtain ⟨o, e⟩ := S.live z.ud (mem_ownS.mpr (.inr (.inr (.inl rfl))))
    rw [← show l = z.ud from q, hl] at e; cases e
  · rcases List.mem_or_eq_of_mem_set hrk with e | e
    · obtain ⟨o, e'⟩ := S.live l (mem_ownS.mpr (.inr (.inr (.inr ⟨rk, e, q⟩))))
      rw [hl] at e'; cases e'
    · subst e
      exact hr q
theorem StAt.out0 {T : Tx K mg} {H : Hp} {s : Lead.State} {z : SA} (S : StAt T H s z) {l : Addr} (hl : H l = none) : l ∉ ownS z := fun q => by
  obtain ⟨o, e⟩ := S.live l q
  rw [hl] at e
  cases e

/-! begin -/
theorem ok_c_begin (T : Tx K mg) (U : Ty K mg T) : FnOk P w K mg base CX0 6 T.a_c_begin T.d_c_begin ["state", "n"] (spC1 T .begin_) := by
  refine T.F_c_begin.ok sc_c_begin (fun vs H Q E h => ?_) (fun cdv A outer s0 H vs Q E hr h => ?_)
  · obtain ⟨s, z, n, rfl, _⟩ := h
    rfl
  · obtain ⟨s, z, n, rfl, S, F, k⟩ := h
    refine ⟨_, pss_cons (ps_if (pt_cmpR op_notIn_seq (pv 1) (pe_glob (v := .ref U.rc) rfl U.mg_rc rfl) (by with_unfolding_all rfl)) (pss_one (ps_ret (pe_lst (pa_cons (pe_gi T.g_BAD_NUMBER) pa_nil)))) pss_nil)
      (pss_cons (ps_expr (pe_meth (pv 0) T.cl_s T.M_s_start (ok_start T) hr T.B_s_start .nil pass0 (pa_cons (pv 1) pa_nil)))
      (pss_one (ps_ret (pe_lst (pa_cons (pv 1) pa_nil))))), ?_⟩
    refine ⟨_, rfl, U.rc, [.int 3, .int 5], rfl, .inr (.inr U.rcT), rfl, rfl, _, rfl, ?_⟩
    have ev : (if true = true then !inV (V.int n) [.int 3, .int 5] else inV (V.int n) [.int 3, .int 5]) = !(n == 3 || n == 5) := by
      have := in_ni n [3, 5]
      rw [if_pos rfl]
      show (!(inV (V.int n) (ni [3, 5]))) = _
      rw [this, List.contains_cons, List.contains_cons, List.contains_nil, Bool.or_false]
    rw [ev]
    refine ite2 (fun h => ?_) (fun h => ?_)
    · have e : n ≠ 3 ∧ n ≠ 5 := by simpa using h
      refine ⟨(by show 1 ≤ sizeLine; decide), fun l hl => k.no S Fr.refl ?_ hl⟩
      show (if n ≠ 3 ∧ n ≠ 5 then _ else _) = _
      rw [if_pos e]
    · have e : ¬ (n ≠ 3 ∧ n ≠ 5) := by
        intro q
        apply h
        simp [q.1, q.2]
      refine ⟨_, rfl, s_meth S (by decide +kernel) ⟨_, rfl, s, z, n, rfl, S, by omega, fun H1 z1 m1 => ?_⟩⟩
      refine ⟨_, rfl, (by show 1 ≤ sizeLine; decide), fun l hl => k.yes m1 ?_ hl⟩
      show (if n ≠ 3 ∧ n ≠ 5 then _ else _) = _
      rw [if_neg e]

/-! stand -/
theorem ok_c_stand (T : Tx K mg) (U : Ty K mg T) : FnOk P w K mg base CX0 6 T.a_c_stand T.d_c_stand ["state", "i"] (spC1 T .stand) := by
  refine T.F_c_stand.ok sc_c_stand (fun vs H Q E h => ?_) (fun cdv A outer s0 H vs Q E hr h => ?_)
  · obtain ⟨s, z, i, rfl, _⟩ := h
    rfl
  · obtain ⟨s, z, i, rfl, S, F, k⟩ := h
    have hr1 : Room 1 _ := hr.mono (by decide)
    have hr2 : Room 2 _ := hr.mono (by decide)
    have hr4 : Room 4 _ := hr.mono (by decide)
    refine ⟨_, pss_cons (ps_if (pt_not (pt_val (pe_meth (pv 0) T.cl_s T.M_s_has_replica (ok_has_rep T) hr1 T.B_s_has_replica .nil pass0 (pa_cons (pv 1) pa_nil)))) (pss_one (ps_ret (pe_lst (pa_cons (pe_gi T.g_NOT_THERE) pa_nil)))) pss_nil)
      (pss_cons (ps_set (i := 2) sc_c_stand.nd rfl (Or.inl rfl) (pe_ix ix_list (pe_fld (pv 0) rfl) (pv 1) (fun _ _ => rfl)))
      (pss_cons (ps_if (pt_cmpR op_eq (pe_fld (pv 2) rfl) (pe_gi T.g_LEADS) (nomark _)) (pss_one (ps_ret (pe_lst (pa_cons (pe_gi T.g_NOT_IN_THIS_ROLE) pa_nil)))) pss_nil)
      (pss_cons (ps_if (pw_or (pt_cmpR op_eq (pe_fld (pv 2) rfl) (pe_gi T.g_MOST_TERM) (nomark _)) (pw_or1 (pt_not (pt_val (pe_meth (pv 0) T.cl_s T.M_s_has_room_for (ok_room T) hr1 T.B_s_has_room_for .nil pass0 (pa_cons (pe_meth0 (pv 0) T.cl_s T.M_s_how_many_others (ok_oth T) hr1 T.B_s_how_many_others .nil pass0) pa_nil)))))).pt (pss_one (ps_ret (pe_lst (pa_cons (pe_gi T.g_NO_ROOM) pa_nil)))) pss_nil)
      (pss_cons (ps_expr (pe_meth (pv 0) T.cl_s T.M_s_say_all (ok_say_all T) hr2 T.B_s_say_all .nil pass0 (pa_cons (pe_meth0 (pv 2) T.cl_r T.M_r_stand (ok_stand T (ok_m T) U.F2) hr4 T.B_r_stand .nil pass0) pa_nil)))
      (pss_one (ps_ret (pe_lst (pa_cons (pe_fld (pv 2) rfl) pa_nil)))))))), ?_⟩
    refine ⟨_, rfl, s_meth S (by decide +kernel) ⟨_, rfl, s, z, i, rfl, S, _, rfl, ite2 (fun h => ?_) (fun h => ?_)⟩⟩
    · have hi := noT h
      have e : Lead.step s (.stand i) = (s, Lead.says (-4)) := by
        show (match s.nodes[i]? with | none => _ | some x => _) = _
        rw [List.getElem?_eq_none (by omega)]
      exact ⟨(by show 1 ≤ sizeLine; decide), fun l hl => k.no S Fr.refl e hl⟩
    · have hi := noF h
      obtain ⟨r, x, hr', hx, R, hm⟩ := S.at hi
      have no := Fine.nok F hx
      have n5 := F.ok.small
      have e0 : Lead.step s (.stand i) = (if x.role = 2 then (s, Lead.says (-3)) else if Lead.TERM ≤ x.term + 1 ∨ s.full (s.nodes.length - 1) = true then (s, Lead.says (-6)) else
          (s.after i (x.stands i) ((Lead.others s.nodes.length i).map (Lead.askVote (x.stands i) i)), Lead.says ((x.stands i).term : Nat))) := by
        show (match s.nodes[i]? with | none => _ | some x => _) = _
        rw [hx]
      refine ⟨_, rfl, s_replicas S ⟨_, rfl, z.rl, _, _, _, rfl, rfl, SqL.of S.rl, at_of (j := i) rfl hm, ?_⟩⟩
      refine ⟨_, rfl, r_role T R ⟨rfl, _, rfl, ite2 (fun h => ?_) (fun h => ?_)⟩⟩
      · have c : x.role = 2 := eqT (b := 2) h
        exact ⟨(by show 1 ≤ sizeLine; decide), fun l hl => k.no S Fr.refl (by rw [e0, if_pos c]) hl⟩
      · have c : x.role ≠ 2 := eqF (b := 2) h
        rw [if_neg c] at e0
        refine ⟨_, rfl, r_term T R ⟨rfl, _, rfl, ite2 (fun h => ?_) (fun h => ?_)⟩⟩
        · have c2 : x.term = 65535 := eqT (b := 65535) h
          refine iteT ⟨(by show 1 ≤ sizeLine; decide), fun l hl => k.no S Fr.refl (by rw [e0, if_pos (.inl (by show 65536 ≤ _; omega))]) hl⟩
        · have c2 : x.term ≠ 65535 := eqF (b := 65535) h
          refine ⟨_, rfl, s_meth S (by decide +kernel) ⟨_, rfl, s_meth S (by decide +kernel) ⟨s, z, rfl, S, s, z, _, rfl, S, _, rfl, ite2 (fun h => ?_) (fun h => ?_)⟩⟩⟩
          · have c3 := roomT (by omega) h
            exact ⟨(by show 1 ≤ sizeLine; decide), fun l hl => k.no S Fr.refl (by rw [e0, if_pos (.inr c3)]) hl⟩
          · obtain ⟨c3, c4⟩ := roomF (by omega) h
            have tm := F.tm.1 x (List.mem_of_getElem? hx)
            rw [if_neg (by rintro (q | q); (have q : 65536 ≤ x.term + 1 := q; omega); exact c3 q)] at e0
            refine ⟨_, rfl, s_meth S (by decide +kernel) ⟨_, rfl, r_meth T R (by decide +kernel) ⟨i, s.nodes.length, x, r, rfl, R, n5, hi, fun H1 r1 l1 A1 hl1 hn1 said => ?_⟩⟩⟩
            have S1 := S.move hr' A1
            refine ⟨_, { z with rs := z.rs.set i r1 }, l1, _, rfl, S1.at_, said, S.new_out hl1 hn1, F.ok.lt, ?_, fun H2 z2 m2 hz2 => ?_⟩
            · rw [List.length_map, Ld.others_length hi]
              exact c4
            · have m := S1.trans m2
              obtain ⟨x2, hx2, R2⟩ := m2.at_.rep i r1 (by rw [hz2]; exact List.getElem?_set_self (by rw [S.len]; exact hi))
              have ex : x2 = x.stands i := by
                have hx2 : (s.nodes.set i (x.stands i))[i]? = some x2 := hx2
                rw [List.getElem?_set_self hi] at hx2
                exact (Option.some.inj hx2).symm
              subst ex
              exact ⟨.ref r1.p, by rw [A1.p]; rfl, r_term T R2 ⟨(by show 1 ≤ sizeLine; decide), fun l hl => k.yes m (by rw [e0]; rfl) hl⟩⟩

/-! propose -/
theorem ok_c_propose (T : Tx K mg) (U : Ty K mg T) : FnOk P w K mg base CX0 6 T.a_c_propose T.d_c_propose ["state", "i", "v"] (spC2 T .propose) := by
  refine T.F_c_propose.ok sc_c_propose (fun vs H Q E h => ?_) (fun cdv A outer s0 H vs Q E hr h => ?_)
  · obtain ⟨s, z, i, v, rfl, _⟩ := h
    rfl
  · obtain ⟨s, z, i, v, rfl, S, F, k⟩ := h
    have hr1 : Room 1 _ := hr.mono (by decide)
    refine ⟨_, pss_cons (ps_if (pt_not (pt_val (pe_meth (pv 0) T.cl_s T.M_s_has_replica (ok_has_rep T) hr1 T.B_s_has_replica .nil pass0 (pa_cons (pv 1) pa_nil)))) (pss_one (ps_ret (pe_lst (pa_cons (pe_gi T.g_NOT_THERE) pa_nil)))) pss_nil)
      (pss_cons (ps_if (pt_cmpR op_gt (pv 2) (pe_gi T.g_MOST_VALUE) (nomark _)) (pss_one (ps_ret (pe_lst (pa_cons (pe_gi T.g_BAD_NUMBER) pa_nil)))) pss_nil)
      (pss_cons (ps_set (i := 3) sc_c_propose.nd rfl (Or.inl rfl) (pe_ix ix_list (pe_fld (pv 0) rfl) (pv 1) (fun _ _ => rfl)))
      (pss_cons (ps_if (pt_cmpR op_ne (pe_fld (pv 3) rfl) (pe_gi T.g_LEADS) (nomark _)) (pss_one (ps_ret (pe_lst (pa_cons (pe_gi T.g_NOT_IN_THIS_ROLE) pa_nil)))) pss_nil)
      (pss_cons (ps_if (pt_cmpR op_eq (pe_callB call_len_seq (by rfl) T.b_len PySem.boot_len (pa_cons (pe_fld (pv 3) rfl) pa_nil)) (pe_gi T.g_MOST_ENTRIES) (nomark _)) (pss_one (ps_ret (pe_lst (pa_cons (pe_gi T.g_NO_ROOM) pa_nil)))) pss_nil)
      (pss_one (ps_ret (pe_lst (pa_cons (pe_meth (pv 3) T.cl_r T.M_r_propose (ok_propose T) hr1 T.B_r_propose .nil pass0 (pa_cons (pv 2) pa_nil)) pa_nil)))))))), ?_⟩
    refine ⟨_, rfl, s_meth S (by decide +kernel) ⟨_, rfl, s, z, i, rfl, S, _, rfl, ite2 (fun h => ?_) (fun h => ?_)⟩⟩
    · have hi := noT h
      have e : Lead.step s (.propose i v) = (s, Lead.says (-4)) := by
        show (match s.nodes[i]? with | none => _ | some x => _) = _
        rw [List.getElem?_eq_none (by omega)]
      exact ⟨(by show 1 ≤ sizeLine; decide), fun l hl => k.no S Fr.refl e hl⟩
    · have hi := noF h
      obtain ⟨r, x, hr', hx, R, hm⟩ := S.at hi
      have no := Fine.nok F hx
      have e0 : Lead.step s (.propose i v) = (if Lead.VALUE ≤ v then (s, Lead.says (-1)) else if x.role ≠ 2 then (s, Lead.says (-3)) else if Lead.LOG ≤ x.log.length then (s, Lead.says (-6)) else (s.after i (x.keeps (x.log ++ [⟨x.term, v⟩]) x.settled) [], Lead.says ((x.log.length + 1 : Nat) : Int))) := by
        show (match s.nodes[i]? with | none => _ | some x => _) = _
        rw [hx]
      refine ⟨_, rfl, _, _, rfl, rfl, _, rfl, ite2 (fun h => ?_) (fun h => ?_)⟩
      · have c : Lead.VALUE ≤ v := by
          have := of_decide_eq_true h
          show 4294967296 ≤ v
          omega
        exact ⟨(by show 1 ≤ sizeLine; decide), fun l hl => k.no S Fr.refl (by rw [e0, if_pos c]) hl⟩
      · have c : ¬ Lead.VALUE ≤ v := by
          intro q
          have q : 4294967296 ≤ v := q
          exact h (decide_eq_true (by omega))
        rw [if_neg c] at e0
        refine ⟨_, rfl, s_replicas S ⟨_, rfl, z.rl, _, _, _, rfl, rfl, SqL.of S.rl, at_of (j := i) rfl hm, ?_⟩⟩
        refine ⟨_, rfl, r_role T R ⟨rfl, _, rfl, ite2 (fun h => ?_) (fun h => ?_)⟩⟩
        · have c : x.role ≠ 2 := neI (b := 2) h
          exact ⟨(by show 1 ≤ sizeLine; decide), fun l hl => k.no S Fr.refl (by rw [e0, if_pos c]) hl⟩
        · have c : x.role = 2 := eqI (b := 2) h
          rw [if_neg (fun q => q c)] at e0
          obtain ⟨ts, h2, h3⟩ := R.lg
          have tl : (ts.map V.ref).length = x.log.length := by rw [List.length_map, ents_len h3]
          refine ⟨_, rfl, r_log T R ⟨r.lg, _, rfl, .inl (SqL.of h2), rfl, _, rfl, ite2 (fun h => ?_) (fun h => ?_)⟩⟩
          · have c : Lead.LOG ≤ x.log.length := by
              have := eqT (b := 32) h
              show 32 ≤ x.log.length
              omega
            exact ⟨(by show 1 ≤ sizeLine; decide), fun l hl => k.no S Fr.refl (by rw [e0, if_pos c]) hl⟩
          · have c : ¬ Lead.LOG ≤ x.log.length := by
              intro q
              have q : 32 ≤ x.log.length := q
              have := eqF (b := 32) h
              have := no.ll
              omega
            rw [if_neg c] at e0
            refine ⟨_, rfl, r_meth T R (by decide +kernel) ⟨_, rfl, i, s.nodes.length, x, r, v, rfl, R, no.ll, fun H1 A1 => ⟨(by show 1 ≤ sizeLine; decide), fun l hl => ?_⟩⟩⟩
            have m := S.move hr' A1
            refine k.yes m ?_ hl
            rw [e0]
            show ((⟨s.nodes.set i _, s.net ++ [], s.next + 0⟩ : Lead.State), (_ : Lead.Answer)) = _
            rw [List.append_nil]
            rfl

/-! beat -/
theorem ok_c_beat (T : Tx K mg) (U : Ty K mg T) : FnOk P w K mg base CX0 6 T.a_c_beat T.d_c_beat ["state", "i"] (spC1 T .beat) := by
  refine T.F_c_beat.ok sc_c_beat (fun vs H Q E h => ?_) (fun cdv A outer s0 H vs Q E hr h => ?_)
  · obtain ⟨s, z, i, rfl, _⟩ := h
    rfl
  · obtain ⟨s, z, i, rfl, S, F, k⟩ := h
    have hr1 : Room 1 _ := hr.mono (by decide)
    have hr2 : Room 2 _ := hr.mono (by decide)
    have hr4 : Room 4 _ := hr.mono (by decide)
    refine ⟨_, pss_cons (ps_if (pt_not (pt_val (pe_meth (pv 0) T.cl_s T.M_s_has_replica (ok_has_rep T) hr1 T.B_s_has_replica .nil pass0 (pa_cons (pv 1) pa_nil)))) (pss_one (ps_ret (pe_lst (pa_cons (pe_gi T.g_NOT_THERE) pa_nil)))) pss_nil)
      (pss_cons (ps_set (i := 2) sc_c_beat.nd rfl (Or.inl rfl) (pe_ix ix_list (pe_fld (pv 0) rfl) (pv 1) (fun _ _ => rfl)))
      (pss_cons (ps_if (pt_cmpR op_ne (pe_fld (pv 2) rfl) (pe_gi T.g_LEADS) (nomark _)) (pss_one (ps_ret (pe_lst (pa_cons (pe_gi T.g_NOT_IN_THIS_ROLE) pa_nil)))) pss_nil)
      (pss_cons (ps_if (pt_not (pt_val (pe_meth (pv 0) T.cl_s T.M_s_has_room_for (ok_room T) hr1 T.B_s_has_room_for .nil pass0 (pa_cons (pe_meth0 (pv 0) T.cl_s T.M_s_how_many_others (ok_oth T) hr1 T.B_s_how_many_others .nil pass0) pa_nil)))) (pss_one (ps_ret (pe_lst (pa_cons (pe_gi T.g_NO_ROOM) pa_nil)))) pss_nil)
      (pss_one (ps_ret (pe_lst (pa_cons (pe_meth (pv 0) T.cl_s T.M_s_say_all (ok_say_all T) hr2 T.B_s_say_all .nil pass0 (pa_cons (pe_meth0 (pv 2) T.cl_r T.M_r_beat (ok_beat T (ok_m T)) hr4 T.B_r_beat .nil pass0) pa_nil)) pa_nil))))))), ?_⟩
    refine ⟨_, rfl, s_meth S (by decide +kernel) ⟨_, rfl, s, z, i, rfl, S, _, rfl, ite2 (fun h => ?_) (fun h => ?_)⟩⟩
    · have hi := noT h
      have e : Lead.step s (.beat i) = (s, Lead.says (-4)) := by
        show (match s.nodes[i]? with | none => _ | some x => _) = _
        rw [List.getElem?_eq_none (by omega)]
      exact ⟨(by show 1 ≤ sizeLine; decide), fun l hl => k.no S Fr.refl e hl⟩
    · have hi := noF h
      obtain ⟨r, x, hr', hx, R, hm⟩ := S.at hi
      have no := Fine.nok F hx
      have n5 := F.ok.small
      have e0 : Lead.step s (.beat i) = (if x.role ≠ 2 then (s, Lead.says (-3)) else if s.full (s.nodes.length - 1) = true then (s, Lead.says (-6)) else (s.after i x ((Lead.others s.nodes.length i).map (Lead.giveEntries x i)), Lead.says ((s.nodes.length - 1 : Nat) : Int))) := by
        show (match s.nodes[i]? with | none => _ | some x => _) = _
        rw [hx]
      refine ⟨_, rfl, s_replicas S ⟨_, rfl, z.rl, _, _, _, rfl, rfl, SqL.of S.rl, at_of (j := i) rfl hm, ?_⟩⟩
      refine ⟨_, rfl, r_role T R ⟨rfl, _, rfl, ite2 (fun h => ?_) (fun h => ?_)⟩⟩
      · have c : x.role ≠ 2 := neI (b := 2) h
        exact ⟨(by show 1 ≤ sizeLine; decide), fun l hl => k.no S Fr.refl (by rw [e0, if_pos c]) hl⟩
      · have c : x.role = 2 := eqI (b := 2) h
        rw [if_neg (fun q => q c)] at e0
        refine ⟨_, rfl, s_meth S (by decide +kernel) ⟨_, rfl, s_meth S (by decide +kernel) ⟨s, z, rfl, S, s, z, _, rfl, S, _, rfl, ite2 (fun h => ?_) (fun h => ?_)⟩⟩⟩
        · have c3 := roomT (by omega) h
          exact ⟨(by show 1 ≤ sizeLine; decide), fun l hl => k.no S Fr.refl (by rw [e0, if_pos c3]) hl⟩
        · obtain ⟨c3, c4⟩ := roomF (by omega) h
          rw [if_neg c3] at e0
          refine ⟨_, rfl, s_meth S (by decide +kernel) ⟨_, rfl, r_meth T R (by decide +kernel) ⟨i, s.nodes.length, x, r, rfl, R, n5, hi, no.nl, fun v hv => ⟨no.n1 v hv, no.ln c v hv⟩, fun H1 l1 f1 hl1 said => ?_⟩⟩⟩
          have S1 := S.fr0 f1
          refine ⟨s, z, l1, _, rfl, S1, said, S.out0 hl1, F.ok.lt, ?_, fun H2 z2 m2 hz2 => ⟨(by show 1 ≤ sizeLine; decide), fun l hl => ?_⟩⟩
          · rw [List.length_map, Ld.others_length hi]
            exact c4
          · have m := ((SMv.refl S).new f1).trans m2
            refine k.yes m ?_ hl
            rw [e0, List.length_map, Ld.others_length hi]
            show ((⟨s.nodes.set i x, _, s.next + ((Lead.others s.nodes.length i).map (Lead.giveEntries x i)).length⟩ : Lead.State), (_ : Lead.Answer)) = _
            rw [Ld.set_same hx, List.length_map, Ld.others_length hi]
end
end Pr
end

section
set_option Elab.async false
set_option linter.all false
set_option maxRecDepth 100000
set_option maxHeartbeats 2000000
/-! ### messages delivered, lost, doubled; a crash -/
namespace Pr
open PySem PySem.Spec L2
open PyProof.Rows hiding St
section
variable {P : Program} {w : World} {K : PySem.W.Frag} {mg : Str → Option Value} {base : Heap}
/-- the dict is told anew -/
theorem StAt.drop {T : Tx K mg} {H : Hp} {s : Lead.State} {z : SA} (S : StAt T H s z) {net' : List Lead.Message} {as' : List Addr} (hm : Paired (MsgAt T.CM H) as' net') :
    SMv T H (upd H z.ud (.dK (kv net' as'))) ⟨s.nodes, net', s.next⟩ z { z with as := as' } := by
  obtain ⟨n1, n2, n3⟩ := S.ne
  have f : Fr H (upd H z.ud (.dK (kv net' as'))) [z.ud] := Fr.refl.put (.inl (by simp)) S.ud (fun _ q => by cases q)
  have om : ∀ a m, MsgAt T.CM H a m → a ∉ [z.ud] := fun a m q ha => by
    rw [List.mem_singleton] at ha
    exact S.msg_out q (mem_ownS.mpr (.inr (.inr (.inl ha))))
  obtain ⟨dx, h1⟩ := S.ins
  refine ⟨⟨⟨dx, f.kp _ _ h1 (by simp [n2])⟩, f.kp _ _ S.rl (by simp [n3]), upd_same, S.len, fun j r hj => ?_, S.sep, S.out, said_fr hm f om⟩, rfl, fun a ha => .inl ha, f.mono fun a ha => .inl ?_⟩
  · obtain ⟨x, hx, R⟩ := S.rep j r hj
    obtain ⟨o1, o2, o3⟩ := S.st_out (List.mem_of_getElem? hj)
    refine ⟨x, hx, R.fr f fun a ha hb => ?_⟩
    rw [List.mem_singleton] at hb
    exact o3 (hb ▸ ha)
  · rw [List.mem_singleton] at ha
    exact mem_ownS.mpr (.inr (.inr (.inl ha)))
/-- m in state.under_way, or not -/
theorem StAt.msgs {T : Tx K mg} {H : Hp} {s : Lead.State} {z : SA} (S : StAt T H s z) (m : Nat) :
    (s.find m = none ∧ valV (kv s.net z.as) (Sum.inl (m : Int)) = none) ∨ ∃ x a, s.find m = some x ∧ valV (kv s.net z.as) (Sum.inl (m : Int)) = some (V.ref a) ∧ MsgAt T.CM H a x := by
  rcases kv_val m S.msg with q | ⟨x, a, q⟩
  · exact .inl q
  · exact .inr ⟨x, a, q⟩
theorem pop_m {X : Cx} {o e : Expr} {apos cpos : Pos} (h1 : attributeBase o "pop" X.env (eval o X.env) = eval o X.env) (h2 : ((backTo cpos (starEach [e] X.env)).all (fun x => !x.1) && (backToKw cpos (keywordEach [] X.env)).all (fun x => x.1.isSome) && decide (([e] : List Expr).length + ([] : List Keyword).length + (if ([] : List Keyword).isEmpty then 0 else 1) < 30)) = true) (h3 : (apos.endLine == cpos.line) = true) (h4 : backTo cpos (starEach [e] X.env) = [(false, eval e X.env)]) : M1 X o "pop" apos e cpos := ⟨h1, h2, h3, h4⟩
/-! lose -/
theorem ok_c_lose (T : Tx K mg) (U : Ty K mg T) : FnOk P w K mg base CX0 6 T.a_c_lose T.d_c_lose ["state", "m"] (spC1 T .lose) := by
  refine T.F_c_lose.ok sc_c_lose (fun vs H Q E h => ?_) (fun cdv A outer s0 H vs Q E hr h => ?_)
  · obtain ⟨s, z, m, rfl, _⟩ := h
    rfl
  · obtain ⟨s, z, m, rfl, S, F, k⟩ := h
    have hu := hu_of hr
    refine ⟨_, pss_cons (ps_if (pt_cmp (pc_dnotin hu (pv 1) (pe_fld (pv 0) rfl)) rfl) (pss_one (ps_ret (pe_lst (pa_cons (pe_gi T.g_NOT_THERE) pa_nil)))) pss_nil)
      (pss_cons (ps_expr (pe_dpop1 (pe_fld (pv 0) rfl) (pv 1) (pop_m rfl rfl rfl rfl)))
      (pss_one (ps_ret (pe_lst (pa_cons pe_int pa_nil))))), ?_⟩
    refine ⟨_, rfl, _, rfl, s_under_way S ⟨z.ud, _, rfl, DGet.k (k := Sum.inl (m : Int)) S.ud, _, rfl, ?_⟩⟩
    rcases S.msgs m with ⟨hf, hv⟩ | ⟨x, a, hf, hv, M⟩
    · rw [hv]
      have e : Lead.step s (.lose m) = (s, Lead.says (-4)) := by
        show (match s.find m with | none => _ | some x => _) = _
        rw [hf]
      exact iteT ⟨(by show 1 ≤ sizeLine; decide), fun l hl => k.no S Fr.refl e hl⟩
    · rw [hv]
      have e : Lead.step s (.lose m) = (s.without m, Lead.says 0) := by
        show (match s.find m with | none => _ | some x => _) = _
        rw [hf]
      refine iteF ⟨_, rfl, s_under_way S ⟨z.ud, rfl, .inl ⟨_, .inl S.ud⟩, _, rfl, _, Sum.inl (m : Int), _, S.ud, rfl, hv, ?_⟩⟩
      rw [kv_drop]
      have d := S.drop (less_paired m S.msg)
      exact ⟨(by show 1 ≤ sizeLine; decide), fun l hl => k.yes d e hl⟩
/-! copy -/
theorem ok_c_copy (T : Tx K mg) (U : Ty K mg T) : FnOk P w K mg base CX0 6 T.a_c_copy T.d_c_copy ["state", "m"] (spC1 T .copy) := by
  refine T.F_c_copy.ok sc_c_copy (fun vs H Q E h => ?_) (fun cdv A outer s0 H vs Q E hr h => ?_)
  · obtain ⟨s, z, m, rfl, _⟩ := h
    rfl
  · obtain ⟨s, z, m, rfl, S, F, k⟩ := h
    have hu := hu_of hr
    have hr1 : Room 1 _ := hr.mono (by decide)
    refine ⟨_, pss_cons (ps_if (pt_cmp (pc_dnotin hu (pv 1) (pe_fld (pv 0) rfl)) rfl) (pss_one (ps_ret (pe_lst (pa_cons (pe_gi T.g_NOT_THERE) pa_nil)))) pss_nil)
      (pss_cons (ps_if (pt_not (pt_val (pe_meth (pv 0) T.cl_s T.M_s_has_room_for (ok_room T) hr1 T.B_s_has_room_for .nil pass0 (pa_cons pe_int pa_nil)))) (pss_one (ps_ret (pe_lst (pa_cons (pe_gi T.g_NO_ROOM) pa_nil)))) pss_nil)
      (pss_one (ps_ret (pe_lst (pa_cons (pe_meth (pv 0) T.cl_s T.M_s_say (ok_say T) hr1 T.B_s_say .nil pass0 (pa_cons (pe_dget hu (pe_fld (pv 0) rfl) (pv 1) (fun _ _ => rfl)) pa_nil)) pa_nil))))), ?_⟩
    refine ⟨_, rfl, _, rfl, s_under_way S ⟨z.ud, _, rfl, DGet.k (k := Sum.inl (m : Int)) S.ud, _, rfl, ?_⟩⟩
    rcases S.msgs m with ⟨hf, hv⟩ | ⟨x, a, hf, hv, M⟩
    · rw [hv]
      have e : Lead.step s (.copy m) = (s, Lead.says (-4)) := by
        show (match s.find m with | none => _ | some x => _) = _
        rw [hf]
      exact iteT ⟨(by show 1 ≤ sizeLine; decide), fun l hl => k.no S Fr.refl e hl⟩
    · rw [hv]
      have e0 : Lead.step s (.copy m) = (if s.full 1 = true then (s, Lead.says (-6)) else (⟨s.nodes, s.net ++ Lead.numbered s.next [x], s.next + 1⟩, Lead.says (s.next : Nat))) := by
        show (match s.find m with | none => _ | some x => _) = _
        rw [hf]
      refine iteF ⟨_, rfl, s_meth S (by decide +kernel) ⟨s, z, 1, rfl, S, _, rfl, ite2 (fun h => ?_) (fun h => ?_)⟩⟩
      · have c : s.full 1 = true := by
          show decide (64 < s.net.length + 1) = true
          apply decide_eq_true
          apply Decidable.byContradiction
          intro q
          rw [decide_eq_true (by omega : (s.net.length : Int) + 1 ≤ 64)] at h
          cases h
        exact ⟨(by show 1 ≤ sizeLine; decide), fun l hl => k.no S Fr.refl (by rw [e0, if_pos c]) hl⟩
      · have q : (s.net.length : Int) + 1 ≤ 64 := by
          apply Decidable.byContradiction
          intro q
          apply h
          rw [decide_eq_false q]
          rfl
        have c : ¬ s.full 1 = true := by
          intro z
          have z : decide (64 < s.net.length + 1) = true := z
          have := of_decide_eq_true z
          omega
        rw [if_neg c] at e0
        refine ⟨_, rfl, s_meth S (by decide +kernel) ⟨_, rfl, s_under_way S ⟨_, rfl, z.ud, V.ref a, rfl, by rw [← hv]; exact DGet.k (k := Sum.inl (m : Int)) S.ud, s, z, a, x, rfl, S, M, F.ok.lt, by omega, fun H1 m1 => ⟨(by show 1 ≤ sizeLine; decide), fun l hl => k.yes m1 e0 hl⟩⟩⟩⟩
/-! crash -/
theorem ok_c_crash (T : Tx K mg) (U : Ty K mg T) : FnOk P w K mg base CX0 6 T.a_c_crash T.d_c_crash ["state", "i"] (spC1 T .crash) := by
  refine T.F_c_crash.ok sc_c_crash (fun vs H Q E h => ?_) (fun cdv A outer s0 H vs Q E hr h => ?_)
  · obtain ⟨s, z, i, rfl, _⟩ := h
    rfl
  · obtain ⟨s, z, i, rfl, S, F, k⟩ := h
    have hr1 : Room 1 _ := hr.mono (by decide)
    have hr2 : Room 2 _ := hr.mono (by decide)
    refine ⟨_, pss_cons (ps_if (pt_not (pt_val (pe_meth (pv 0) T.cl_s T.M_s_has_replica (ok_has_rep T) hr1 T.B_s_has_replica .nil pass0 (pa_cons (pv 1) pa_nil)))) (pss_one (ps_ret (pe_lst (pa_cons (pe_gi T.g_NOT_THERE) pa_nil)))) pss_nil)
      (pss_cons (ps_expr (pe_meth0 (pe_ix ix_list (pe_fld (pv 0) rfl) (pv 1) (fun _ _ => rfl)) T.cl_r T.M_r_forget (ok_forget T) hr2 T.B_r_forget .nil pass0))
      (pss_one (ps_ret (pe_lst (pa_cons pe_int pa_nil))))), ?_⟩
    refine ⟨_, rfl, s_meth S (by decide +kernel) ⟨_, rfl, s, z, i, rfl, S, _, rfl, ite2 (fun h => ?_) (fun h => ?_)⟩⟩
    · have hi := noT h
      have e : Lead.step s (.crash i) = (s, Lead.says (-4)) := by
        show (match s.nodes[i]? with | none => _ | some x => _) = _
        rw [List.getElem?_eq_none (by omega)]
      exact ⟨(by show 1 ≤ sizeLine; decide), fun l hl => k.no S Fr.refl e hl⟩
    · have hi := noF h
      obtain ⟨r, x, hr', hx, R, hm⟩ := S.at hi
      have no := Fine.nok F hx
      have e0 : Lead.step s (.crash i) = (s.after i x.crashed [], Lead.says 0) := by
        show (match s.nodes[i]? with | none => _ | some x => _) = _
        rw [hx]
      refine ⟨_, rfl, s_replicas S ⟨_, rfl, z.rl, _, _, _, rfl, rfl, SqL.of S.rl, at_of (j := i) rfl hm, r_meth T R (by decide +kernel) ⟨i, s.nodes.length, x, r, rfl, R, F.ok.small, no.nl, no.sl, fun H1 r1 A1 => ?_⟩⟩⟩
      have m := S.move hr' A1
      refine ⟨(by show 1 ≤ sizeLine; decide), fun l hl => k.yes m ?_ hl⟩
      rw [e0]
      show ((⟨s.nodes.set i _, s.net ++ [], s.next + 0⟩ : Lead.State), (_ : Lead.Answer)) = _
      rw [List.append_nil]
      rfl
/-! deliver -/
theorem ok_c_deliver (T : Tx K mg) (U : Ty K mg T) : FnOk P w K mg base CX0 6 T.a_c_deliver T.d_c_deliver ["state", "m"] (spC1 T .deliver) := by
  refine T.F_c_deliver.ok sc_c_deliver (fun vs H Q E h => ?_) (fun cdv A outer s0 H vs Q E hr h => ?_)
  · obtain ⟨s, z, m, rfl, _⟩ := h
    rfl
  · obtain ⟨s, z, m, rfl, S, F, k⟩ := h
    have hu := hu_of hr
    have hr2 : Room 2 _ := hr.mono (by decide)
    refine ⟨_, pss_cons (ps_if (pt_cmp (pc_dnotin hu (pv 1) (pe_fld (pv 0) rfl)) rfl) (pss_one (ps_ret (pe_lst (pa_cons (pe_gi T.g_NOT_THERE) pa_nil)))) pss_nil)
      (pss_cons (ps_set (i := 2) sc_c_deliver.nd rfl (Or.inl rfl) (pe_dpop1 (pe_fld (pv 0) rfl) (pv 1) (pop_m rfl rfl rfl rfl)))
      (pss_one (ps_ret (pe_lst (pa_cons (pe_meth (pv 0) T.cl_s T.M_s_say_all (ok_say_all T) hr2 T.B_s_say_all .nil pass0 (pa_cons
        (pe_meth (pe_ix ix_list (pe_fld (pv 0) rfl) (pe_fld (pv 2) rfl) (fun _ _ => rfl)) T.cl_r T.M_r_hear (ok_hear T (ok_m T) U.F2 U.F1 (ok_take T)) hr T.B_r_hear .nil pass0 (pa_cons (pv 2) pa_nil)) pa_nil)) pa_nil))))), ?_⟩
    refine ⟨_, rfl, _, rfl, s_under_way S ⟨z.ud, _, rfl, DGet.k (k := Sum.inl (m : Int)) S.ud, _, rfl, ?_⟩⟩
    rcases S.msgs m with ⟨hf, hv⟩ | ⟨x, a, hf, hv, M⟩
    · rw [hv]
      have e : Lead.step s (.deliver m) = (s, Lead.says (-4)) := by
        show (match s.find m with | none => _ | some x => _) = _
        rw [hf]
      exact iteT ⟨(by show 1 ≤ sizeLine; decide), fun l hl => k.no S Fr.refl e hl⟩
    · rw [hv]
      obtain ⟨hxn, hxi⟩ := F.ok.find hf
      have mok := F.ok.ms x hxn
      refine iteF ⟨_, rfl, s_under_way S ⟨z.ud, rfl, .inl ⟨_, .inl S.ud⟩, _, rfl, _, Sum.inl (m : Int), _, S.ud, rfl, hv, ?_⟩⟩
      rw [kv_drop]
      have d := S.drop (less_paired m S.msg)
      have S1 := d.at_
      have M1 := M.fr d.fr (S.msg_out M)
      obtain ⟨r, y, hr', hy, R, hm⟩ := S1.at (i := x.to_) mok.to
      have hy0 : s.nodes[x.to_]? = some y := hy
      have no := Fine.nok F hy0
      have e0 : Lead.step s (.deliver m) = ((s.without m).after x.to_ (Lead.onMessage s.nodes.length y x).1 (Lead.onMessage s.nodes.length y x).2, Lead.says ((Lead.onMessage s.nodes.length y x).2.length : Nat)) := by
        show (match s.find m with | none => _ | some x => _) = _
        rw [hf]
        show (match s.nodes[x.to_]? with | none => _ | some y => _) = _
        rw [hy0]
      have out := Ld.on_out (n := s.nodes.length) (x := y) (m := x) F.ok.small no mok (fun e e2 => (F.ok.tl x hxn).2 e e2 y hy0)
      have few := out.few
      have lt1 := Ld.without_lt hxn hxi
      have nt := F.ok.nt
      have okw := F.ok.without m
      refine ⟨_, rfl, s_meth (z := { z with as := less s.net z.as m }) S1 (by decide +kernel) ⟨_, rfl, s_replicas (z := { z with as := less s.net z.as m }) S1 ⟨_, rfl, m_receiver T M1 ⟨z.rl, _, _, _, rfl, rfl, SqL.of S1.rl, at_of (j := x.to_) rfl hm, r_meth T R (by decide +kernel) ⟨_, rfl, x.to_, s.nodes.length, y, r, a, x, rfl, R, M1, rfl, F.ok.small, mok.to, no, mok, fun H2 r2 l2 A2 hl2 hn2 said => ?_⟩⟩⟩⟩⟩
      have S2 := S1.move hr' A2
      refine ⟨⟨s.nodes.set x.to_ (Lead.onMessage s.nodes.length y x).1, s.net.filter fun (y : Lead.Message) => y.id != m, s.next⟩, { { z with as := less s.net z.as m } with rs := z.rs.set x.to_ r2 }, l2, _, rfl, S2.at_, said, S1.new_out hl2 hn2, okw.lt, ?_, fun H3 z3 m3 hz3 => ⟨(by show 1 ≤ sizeLine; decide), fun l hl => ?_⟩⟩
      · have lt1 : (s.net.filter fun (y : Lead.Message) => y.id != m).length + 1 ≤ s.net.length := lt1
        show (s.net.filter fun (y : Lead.Message) => y.id != m).length + _ ≤ 64
        omega
      · exact k.yes ((d.trans S2).trans m3) e0 hl
end
end Pr
end

section
set_option Elab.async false
set_option linter.all false
set_option maxRecDepth 100000
set_option maxHeartbeats 2000000
/-! ### the calls that tell -/
namespace Pr
open PySem PySem.Spec L2
open PyProof.Rows hiding St
def gr (l : List Nat) : List Int := (l.length : Int) :: l.map fun (n : Nat) => (n : Int)
theorem shown_gr (c : Int) (rows : List (List Nat)) : LeadNeutral.shown ⟨c, rows⟩ = c :: rows.flatMap gr := rfl
theorem gr_v (l : List Nat) : (gr l).map V.int = V.int (l.length : Nat) :: ni l := by
  unfold gr ni
  rw [List.map_cons, List.map_map]
  rfl
theorem small1000' {n : Nat} (h : n ≤ 3000) : n < sizeLine := Nat.lt_of_le_of_lt h (by decide)
theorem sqT_fr {K : PySem.W.Frag} {H H' : Hp} {a : Addr} {xs : List V} (f : Fr H H' []) (h : SqT K H a xs) : SqT K H' a xs := by
  rcases h with (h | ⟨o, h⟩) | h
  · exact .inl (.inl (f.tp _ _ h))
  · exact .inl (.inr ⟨o, f.kp _ _ h (by simp)⟩)
  · exact .inr h
theorem paired_at {α β : Type} {F : α → β → Prop} : ∀ {l : List α} {m : List β} {t : Nat} {a : α}, Paired F l m → l[t]? = some a → ∃ b, m[t]? = some b ∧ F a b
  | _, _, _, _, .nil, h => by simp at h
  | _, _, 0, _, .cons r _, h => by
    simp at h
    subst h
    exact ⟨_, rfl, r⟩
  | _, _, t + 1, _, .cons _ q, h => by
    obtain ⟨b, h1, h2⟩ := paired_at (t := t) q (by simpa using h)
    exact ⟨b, by simpa using h1, h2⟩
theorem get_ref {as : List Addr} {t : Nat} {y : V} (hy : (as.map V.ref)[t]? = some y) : ∃ a, as[t]? = some a ∧ y = V.ref a := by
  rw [List.getElem?_map] at hy
  cases e : as[t]? with
  | none => rw [e] at hy; cases hy
  | some a => rw [e] at hy; exact ⟨a, rfl, (Option.some.inj hy).symm⟩
section
variable {P : Program} {w : World} {K : PySem.W.Frag} {mg : Str → Option Value} {base : Heap}
def spWl (T : Tx K mg) : Sp := fun vs H Q _ => ∃ (c : Int) (L : Addr) (as : List Addr) (rows : List (List Nat)), vs = [.int c, .ref L] ∧ H L = some (.lst (as.map V.ref)) ∧ Paired (fun a (r : List Nat) => H a = some (.lst (ni r))) as rows ∧ (rows.flatMap gr).length ≤ 1000 ∧
  ∀ H' l, Fr H H' [] → H l = none → H' l = some (.lst ((LeadNeutral.shown ⟨c, rows⟩).map V.int)) → Q (.ref l) H'
theorem ok_wl (T : Tx K mg) : FnOk P w K mg base CX0 1 T.a_c_with_lists T.d_c_with_lists ["number", "lists"] (spWl T) := by
  refine T.F_c_with_lists.ok sc_c_with_lists (fun vs H Q E h => ?_) (fun cdv A outer s0 H vs Q E hr h => ?_)
  · obtain ⟨c, L, as, rows, rfl, _⟩ := h
    rfl
  · obtain ⟨c, L, as, rows, rfl, hL, pr, hsz, k⟩ := h
    refine ⟨_, pss_cons (ps_set (i := 2) sc_c_with_lists.nd rfl (Or.inl rfl) (pe_lst (pa_cons (pv 0) pa_nil)))
      (pss_cons (ps_for PassesOwn.never rfl (pi_list (pv 1)) (pg_name (i := 3) sc_c_with_lists.nd rfl (Or.inl rfl))
        (pss_cons (ps_expr (pe_bm PySem.F.plainAttrs_list PySem.F.slot_list_append PySem.F.type_list_append mt_append (pv 2) (pa_cons (pe_callB call_len_seq (by rfl) T.b_len PySem.boot_len (pa_cons (pv 3) pa_nil)) pa_nil)))
        (pss_one (ps_expr (pe_bm PySem.F.plainAttrs_list PySem.F.slot_list_extend PySem.F.type_list_extend mt_extend (pv 2) (pa_cons (pv 3) pa_nil))))))
      (pss_one (ps_ret (pv 2)))), ?_⟩
    refine ⟨_, rfl, (by show 1 ≤ sizeLine; decide), fun N hN => ?_⟩
    have lens : as.length = rows.length := paired_len pr
    have big : ∀ t, ((rows.take t).flatMap gr).length ≤ 1000 := by
      intro t
      have e : rows.flatMap gr = (rows.take t).flatMap gr ++ (rows.drop t).flatMap gr := by
        rw [← List.flatMap_append, List.take_append_drop]
      rw [e, List.length_append] at hsz
      omega
    refine ⟨_, rfl, L, rfl, ⟨_, SqL.of ((Fr.refl.new hN (ws := [])).kp _ _ hL (by simp))⟩, for_list (K := K) (a := L) (xs := as.map V.ref) (fun t σ H' => ∃ v3 : Option V, σ = [some (.int c), some (.ref L), some (.ref N), v3] ∧ Fr H H' [] ∧ H' N = some (.lst ((c :: (rows.take t).flatMap gr).map V.int)))
      ⟨none, rfl, Fr.refl.new hN, upd_same⟩ (fun t σ H' _ ⟨_, _, f, _⟩ => SqL.of (f.kp _ _ hL (by simp))) ?_ ?_⟩
    · rintro t y σ H' hy ⟨v3, rfl, f, hN'⟩
      obtain ⟨a, ha, rfl⟩ := get_ref hy
      obtain ⟨row, hrow, hraw⟩ := paired_at pr ha
      have hr' := f.kp _ _ hraw (by simp)
      have aN : a ≠ N := ne_of_none hraw hN
      have et : (rows.take (t + 1)).flatMap gr = (rows.take t).flatMap gr ++ gr row := by
        rw [List.take_add_one, hrow, List.flatMap_append]
        simp
      have b1 := big (t + 1)
      rw [et, List.length_append] at b1
      have b2 : (gr row).length = row.length + 1 := by unfold gr; simp
      have l1 : ((c :: (rows.take t).flatMap gr).map V.int).length = ((rows.take t).flatMap gr).length + 1 := by rw [List.length_map, List.length_cons]
      refine ⟨_, rfl, .inl ⟨rfl, _, SqL.of hN'⟩, _, rfl, a, _, rfl, .inl (SqL.of hr'), N, _, _, rfl, rfl, hN', small1000' (by rw [l1]; omega), ?_⟩
      refine ⟨_, rfl, .inl ⟨rfl, _, SqL.of upd_same⟩, _, rfl, N, a, _, _, rfl, rfl, upd_same, (by rw [upd_ne aN]; exact hr'), ?_, ?_⟩
      · rw [List.length_append, l1, ni_length]
        exact Nat.le_of_lt (small1000' (by show _ + 1 + 1 + _ ≤ 3000; omega))
      · refine ⟨_, rfl, ?_, ?_⟩
        · exact (f.put (.inr hN) hN' (fun _ q => by cases q)).put (.inr hN) upd_same (fun _ q => by cases q)
        · rw [upd_same, et, ← List.cons_append, List.map_append, gr_v, ni_length, List.append_assoc]
          rfl
    · rintro σ H' ⟨v3, rfl, f, hN'⟩
      rw [List.length_map, lens, List.take_length] at hN'
      exact ⟨_, rfl, k H' N f hN hN'⟩
/-! terms and values -/
def spTv (T : Tx K mg) : Sp := fun vs H Q _ => ∃ (e : Addr) (ts : List Addr) (es : Lead.Log), vs = [.ref e] ∧ (SqL K H e (ts.map V.ref) ∨ SqT K H e (ts.map V.ref)) ∧ Ents H ts es ∧ es.length ≤ 32 ∧ (∀ H', Fr H H' [] → SqL K H e (ts.map V.ref) → SqL K H' e (ts.map V.ref)) ∧ (∀ H', Fr H H' [] → SqT K H e (ts.map V.ref) → SqT K H' e (ts.map V.ref)) ∧
  ∀ H' l, Fr H H' [] → H l = none → H' l = some (.lst (ni (Lead.logList es))) → Q (.ref l) H'
theorem logList_snoc {es : Lead.Log} {t : Nat} {e : Lead.Entry} (h : es[t]? = some e) : Lead.logList (es.take (t + 1)) = Lead.logList (es.take t) ++ [e.term, e.value] := by
  unfold Lead.logList
  rw [List.take_add_one, h, List.flatMap_append]
  simp
theorem logList_len (es : Lead.Log) : (Lead.logList es).length = 2 * es.length := by
  unfold Lead.logList
  induction es with
  | nil => rfl
  | cons a l ih =>
    rw [List.flatMap_cons, List.length_append, ih, List.length_cons]
    simp
    omega
theorem ok_tv (T : Tx K mg) : FnOk P w K mg base CX0 1 T.a_c_terms_and_values T.d_c_terms_and_values ["entries"] (spTv T) := by
  refine T.F_c_terms_and_values.ok sc_c_terms_and_values (fun vs H Q E h => ?_) (fun cdv A outer s0 H vs Q E hr h => ?_)
  · obtain ⟨e, ts, es, rfl, _⟩ := h
    rfl
  · obtain ⟨e, ts, es, rfl, hq, hE, hl, k1, k2, k⟩ := h
    have lens : ts.length = es.length := ents_len hE
    have turn : ∀ (N : Addr) (t : Nat) (y : V) (H' : Hp), H N = none → (ts.map V.ref)[t]? = some y → Fr H H' [] → H' N = some (.lst (ni (Lead.logList (es.take t)))) →
        ∃ b zs, y = .ref b ∧ SqT K H' b zs ∧ (ni (Lead.logList (es.take t))).length + zs.length ≤ sizeLine ∧ Fr H (upd H' N (.lst (ni (Lead.logList (es.take t)) ++ zs))) [] ∧ (upd H' N (.lst (ni (Lead.logList (es.take t)) ++ zs))) N = some (.lst (ni (Lead.logList (es.take (t + 1))))) := by
      intro N t y H' hN hy f hN'
      obtain ⟨b, hb, rfl⟩ := get_ref hy
      obtain ⟨en, hen, hbe⟩ := hE.get hb
      refine ⟨b, _, rfl, SqT.of (f.tp _ _ hbe), ?_, f.put (.inr hN) hN' (fun _ q => by cases q), ?_⟩
      · rw [ni_length, logList_len, List.length_take]
        exact Nat.le_of_lt (small1000' (by show 2 * min t es.length + 2 ≤ 3000; omega))
      · rw [upd_same, logList_snoc hen]
        unfold ni
        rw [List.map_append]
        rfl
    rcases hq with hq | hq
    · refine ⟨_, pss_cons (ps_set (i := 1) sc_c_terms_and_values.nd rfl (Or.inl rfl) (pe_lst pa_nil))
        (pss_cons (ps_for PassesOwn.never rfl (pi_list (pv 0)) (pg_name (i := 2) sc_c_terms_and_values.nd rfl (Or.inl rfl))
          (pss_one (ps_expr (pe_bm PySem.F.plainAttrs_list PySem.F.slot_list_extend PySem.F.type_list_extend mt_extT (pv 1) (pa_cons (pv 2) pa_nil)))))
        (pss_one (ps_ret (pv 1)))), ?_⟩
      refine ⟨Nat.zero_le _, fun N hN => ?_⟩
      refine ⟨_, rfl, e, rfl, ⟨_, k1 _ (Fr.refl.new hN) hq⟩, for_list (K := K) (a := e) (xs := ts.map V.ref) (fun t σ H' => ∃ v2 : Option V, σ = [some (.ref e), some (.ref N), v2] ∧ Fr H H' [] ∧ H' N = some (.lst (ni (Lead.logList (es.take t)))))
        ⟨none, rfl, Fr.refl.new hN, upd_same⟩ (fun t σ H' _ ⟨_, _, f, _⟩ => k1 H' f hq) ?_ ?_⟩
      · rintro t y σ H' hy ⟨v2, rfl, f, hN'⟩
        obtain ⟨b, zs, rfl, q1, q2, q3, q4⟩ := turn N t y H' hN hy f hN'
        exact ⟨_, rfl, .inl ⟨rfl, _, SqL.of hN'⟩, _, rfl, N, b, _, zs, rfl, rfl, hN', q1, q2, _, rfl, q3, q4⟩
      · rintro σ H' ⟨v2, rfl, f, hN'⟩
        rw [List.length_map, lens, List.take_length] at hN'
        exact ⟨_, rfl, k H' N f hN hN'⟩
    · refine ⟨_, pss_cons (ps_set (i := 1) sc_c_terms_and_values.nd rfl (Or.inl rfl) (pe_lst pa_nil))
        (pss_cons (ps_for PassesOwn.never rfl (pi_tup (pv 0)) (pg_name (i := 2) sc_c_terms_and_values.nd rfl (Or.inl rfl))
          (pss_one (ps_expr (pe_bm PySem.F.plainAttrs_list PySem.F.slot_list_extend PySem.F.type_list_extend mt_extT (pv 1) (pa_cons (pv 2) pa_nil)))))
        (pss_one (ps_ret (pv 1)))), ?_⟩
      refine ⟨Nat.zero_le _, fun N hN => ?_⟩
      refine ⟨_, rfl, e, rfl, ⟨_, k2 _ (Fr.refl.new hN) hq⟩, for_tup (K := K) (a := e) (xs := ts.map V.ref) (fun t σ H' => ∃ v2 : Option V, σ = [some (.ref e), some (.ref N), v2] ∧ Fr H H' [] ∧ H' N = some (.lst (ni (Lead.logList (es.take t)))))
        ⟨none, rfl, Fr.refl.new hN, upd_same⟩ (fun t σ H' _ ⟨_, _, f, _⟩ => k2 H' f hq) ?_ ?_⟩
      · rintro t y σ H' hy ⟨v2, rfl, f, hN'⟩
        obtain ⟨b, zs, rfl, q1, q2, q3, q4⟩ := turn N t y H' hN hy f hN'
        exact ⟨_, rfl, .inl ⟨rfl, _, SqL.of hN'⟩, _, rfl, N, b, _, zs, rfl, rfl, hN', q1, q2, _, rfl, q3, q4⟩
      · rintro σ H' ⟨v2, rfl, f, hN'⟩
        rw [List.length_map, lens, List.take_length] at hN'
        exact ⟨_, rfl, k H' N f hN hN'⟩
/-! tell_entries, of a list -/
def spTe (T : Tx K mg) : Sp := fun vs H Q _ => ∃ (e : Addr) (ts : List Addr) (es : Lead.Log), vs = [.ref e] ∧ H e = some (.lst (ts.map V.ref)) ∧ Ents H ts es ∧ es.length ≤ 32 ∧
  ∀ H' l, Fr H H' [] → H l = none → H' l = some (.lst ((LeadNeutral.shown ⟨(es.length : Nat), [Lead.logList es]⟩).map V.int)) → Q (.ref l) H'
theorem ok_te (T : Tx K mg) : FnOk P w K mg base CX0 2 T.a_c_tell_entries T.d_c_tell_entries ["entries"] (spTe T) := by
  refine T.F_c_tell_entries.ok sc_c_tell_entries (fun vs H Q E h => ?_) (fun cdv A outer s0 H vs Q E hr h => ?_)
  · obtain ⟨e, ts, es, rfl, _⟩ := h
    rfl
  · obtain ⟨e, ts, es, rfl, he, hE, hl, k⟩ := h
    refine ⟨_, pss_one (ps_ret (pe_call (ok_wl T) hr rfl T.G_c_with_lists T.F_c_with_lists.kp T.B_c_with_lists .nil pass0 (pa_cons (pe_callB call_len_seq (by rfl) T.b_len PySem.boot_len (pa_cons (pv 0) pa_nil))
      (pa_cons (pe_lst (pa_cons (pe_call (ok_tv T) hr rfl T.G_c_terms_and_values T.F_c_terms_and_values.kp T.B_c_terms_and_values .nil pass0 (pa_cons (pv 0) pa_nil)) pa_nil)) pa_nil)))), ?_⟩
    refine ⟨_, rfl, e, _, rfl, .inl (SqL.of he), _, rfl, e, ts, es, rfl, .inl (SqL.of he), hE, hl, (fun H' f _ => SqL.of (f.kp _ _ he (by simp))), (fun H' f q => sqT_fr f q), fun H1 l1 f1 hl1 hl1' => ⟨(by show 1 ≤ sizeLine; decide), fun l2 hl2 => ?_⟩⟩
    have l12 : l1 ≠ l2 := ne_of_none hl1' hl2
    refine ⟨_, l2, [l1], [Lead.logList es], rfl, upd_same, .cons (by rw [upd_ne l12]; exact hl1') .nil, ?_, fun H2 l f2 hl hl' => k H2 l ((f1.new hl2).trans0 f2) ((f1.new hl2).free hl) ?_⟩
    · show (gr (Lead.logList es) ++ []).length ≤ 1000
      rw [List.append_nil]
      unfold gr
      rw [List.length_cons, List.length_map, logList_len]
      omega
    · rw [List.length_map, ents_len hE] at hl'
      exact hl'
end
end Pr
end

section
set_option Elab.async false
set_option linter.all false
set_option maxRecDepth 100000
set_option maxHeartbeats 2000000
namespace Pr
open PySem PySem.Spec L2
open PyProof.Rows hiding St
theorem sqL_fr {K : PySem.W.Frag} {H H' : Hp} {a : Addr} {xs : List V} (f : Fr H H' []) (h : SqL K H a xs) : SqL K H' a xs := by
  rcases h with (h | ⟨o, h⟩) | h
  · exact .inl (.inl (f.kp _ _ h (by simp)))
  · exact .inl (.inr ⟨o, f.kp _ _ h (by simp)⟩)
  · exact .inr h
section
variable {P : Program} {w : World} {K : PySem.W.Frag} {mg : Str → Option Value} {base : Heap}
theorem RetC.told {T : Tx K mg} {H H1 : Hp} {z : SA} {s : Lead.State} {c : Lead.Call} {a : Lead.Answer} {Q : VK} {l : Addr} (R : RetC T H z (Lead.step s c).1 (LeadNeutral.shown (Lead.step s c).2) Q) (S : StAt T H s z) (f : Fr H H1 []) (e : Lead.step s c = (s, a)) (hl : H l = none) (hl' : H1 l = some (.lst ((LeadNeutral.shown a).map V.int))) : Q (.ref l) H1 := by
  rw [e] at R
  exact R _ z l ((SMv.refl S).new f) hl hl'
/-! log -/
theorem ok_c_log (T : Tx K mg) (U : Ty K mg T) : FnOk P w K mg base CX0 6 T.a_c_log T.d_c_log ["state", "i"] (spC1 T .log) := by
  refine T.F_c_log.ok sc_c_log (fun vs H Q E h => ?_) (fun cdv A outer s0 H vs Q E hr h => ?_)
  · obtain ⟨s, z, i, rfl, _⟩ := h
    rfl
  · obtain ⟨s, z, i, rfl, S, F, k⟩ := h
    have hr1 : Room 1 _ := hr.mono (by decide)
    have hr2 : Room 2 _ := hr.mono (by decide)
    refine ⟨_, pss_cons (ps_if (pt_not (pt_val (pe_meth (pv 0) T.cl_s T.M_s_has_replica (ok_has_rep T) hr1 T.B_s_has_replica .nil pass0 (pa_cons (pv 1) pa_nil)))) (pss_one (ps_ret (pe_lst (pa_cons (pe_gi T.g_NOT_THERE) pa_nil)))) pss_nil)
      (pss_one (ps_ret (pe_call (ok_te T) hr2 rfl T.G_c_tell_entries T.F_c_tell_entries.kp T.B_c_tell_entries .nil pass0 (pa_cons (pe_fld (pe_ix ix_list (pe_fld (pv 0) rfl) (pv 1) (fun _ _ => rfl)) rfl) pa_nil)))), ?_⟩
    refine ⟨_, rfl, s_meth S (by decide +kernel) ⟨_, rfl, s, z, i, rfl, S, _, rfl, ite2 (fun h => ?_) (fun h => ?_)⟩⟩
    · have hi := noT h
      have e : Lead.step s (.log i) = (s, Lead.says (-4)) := by
        show (s, match s.nodes[i]? with | none => _ | some x => _) = _
        rw [List.getElem?_eq_none (by omega)]
      exact ⟨(by show 1 ≤ sizeLine; decide), fun l hl => k.no S Fr.refl e hl⟩
    · have hi := noF h
      obtain ⟨r, x, hr', hx, R, hm⟩ := S.at hi
      have no := Fine.nok F hx
      have e0 : Lead.step s (.log i) = (s, ⟨(x.log.length : Nat), [Lead.logList x.log]⟩) := by
        show (s, match s.nodes[i]? with | none => _ | some x => _) = _
        rw [hx]
      obtain ⟨ts, h2, h3⟩ := R.lg
      exact ⟨_, rfl, s_replicas S ⟨_, rfl, z.rl, _, _, _, rfl, rfl, SqL.of S.rl, at_of (j := i) rfl hm, r_log T R ⟨r.lg, ts, x.log, rfl, h2, h3, no.ll, fun H1 l f hl hl' => k.told S f e0 hl hl'⟩⟩⟩
/-! settled -/
theorem ok_c_settled (T : Tx K mg) (U : Ty K mg T) : FnOk P w K mg base CX0 6 T.a_c_settled T.d_c_settled ["state", "i"] (spC1 T .settled) := by
  refine T.F_c_settled.ok sc_c_settled (fun vs H Q E h => ?_) (fun cdv A outer s0 H vs Q E hr h => ?_)
  · obtain ⟨s, z, i, rfl, _⟩ := h
    rfl
  · obtain ⟨s, z, i, rfl, S, F, k⟩ := h
    have hr1 : Room 1 _ := hr.mono (by decide)
    have hr2 : Room 2 _ := hr.mono (by decide)
    refine ⟨_, pss_cons (ps_if (pt_not (pt_val (pe_meth (pv 0) T.cl_s T.M_s_has_replica (ok_has_rep T) hr1 T.B_s_has_replica .nil pass0 (pa_cons (pv 1) pa_nil)))) (pss_one (ps_ret (pe_lst (pa_cons (pe_gi T.g_NOT_THERE) pa_nil)))) pss_nil)
      (pss_cons (ps_set (i := 2) sc_c_settled.nd rfl (Or.inl rfl) (pe_ix ix_list (pe_fld (pv 0) rfl) (pv 1) (fun _ _ => rfl)))
      (pss_one (ps_ret (pe_call (ok_te T) hr2 rfl T.G_c_tell_entries T.F_c_tell_entries.kp T.B_c_tell_entries .nil pass0 (pa_cons (pe_slice sl_list (pe_fld (pv 2) rfl) po_none (po_some (pe_fld (pv 2) rfl))) pa_nil))))), ?_⟩
    refine ⟨_, rfl, s_meth S (by decide +kernel) ⟨_, rfl, s, z, i, rfl, S, _, rfl, ite2 (fun h => ?_) (fun h => ?_)⟩⟩
    · have hi := noT h
      have e : Lead.step s (.settled i) = (s, Lead.says (-4)) := by
        show (s, match s.nodes[i]? with | none => _ | some x => _) = _
        rw [List.getElem?_eq_none (by omega)]
      exact ⟨(by show 1 ≤ sizeLine; decide), fun l hl => k.no S Fr.refl e hl⟩
    · have hi := noF h
      obtain ⟨r, x, hr', hx, R, hm⟩ := S.at hi
      have no := Fine.nok F hx
      have sle := F.safe.le (List.mem_of_getElem? hx)
      have e0 : Lead.step s (.settled i) = (s, ⟨(x.settled : Nat), [Lead.logList (x.log.take x.settled)]⟩) := by
        show (s, match s.nodes[i]? with | none => _ | some x => _) = _
        rw [hx]
      obtain ⟨ts, h2, h3⟩ := R.lg
      refine ⟨_, rfl, s_replicas S ⟨_, rfl, z.rl, _, _, _, rfl, rfl, SqL.of S.rl, at_of (j := i) rfl hm, ?_⟩⟩
      refine ⟨_, rfl, r_log T R ⟨_, rfl, r_settled T R ⟨_, rfl, r.lg, _, rfl, SqL.of h2, fun l1 hl1 => ?_⟩⟩⟩
      rw [cut_to]
      have f1 : Fr H (upd H l1 (.lst ((ts.take x.settled).map V.ref))) [] := Fr.refl.new hl1
      have len : (x.log.take x.settled).length = x.settled := by rw [List.length_take]; omega
      refine ⟨l1, ts.take x.settled, x.log.take x.settled, rfl, upd_same, (h3.take x.settled).fr f1, by have := no.ll; omega, fun H2 l f2 hl hl' => k.told S (f1.trans0 f2) e0 (f1.free hl) ?_⟩
      rw [len] at hl'
      exact hl'
/-! look -/
theorem ok_c_look (T : Tx K mg) (U : Ty K mg T) : FnOk P w K mg base CX0 6 T.a_c_look T.d_c_look ["state", "i"] (spC1 T .look) := by
  refine T.F_c_look.ok sc_c_look (fun vs H Q E h => ?_) (fun cdv A outer s0 H vs Q E hr h => ?_)
  · obtain ⟨s, z, i, rfl, _⟩ := h
    rfl
  · obtain ⟨s, z, i, rfl, S, F, k⟩ := h
    have hr1 : Room 1 _ := hr.mono (by decide)
    refine ⟨_, pss_cons (ps_if (pt_not (pt_val (pe_meth (pv 0) T.cl_s T.M_s_has_replica (ok_has_rep T) hr1 T.B_s_has_replica .nil pass0 (pa_cons (pv 1) pa_nil)))) (pss_one (ps_ret (pe_lst (pa_cons (pe_gi T.g_NOT_THERE) pa_nil)))) pss_nil)
      (pss_cons (ps_set (i := 2) sc_c_look.nd rfl (Or.inl rfl) (pe_ix ix_list (pe_fld (pv 0) rfl) (pv 1) (fun _ _ => rfl)))
      (pss_cons (ps_set (i := 3) sc_c_look.nd rfl (Or.inl rfl) (pe_lst (pa_cons (pe_fld (pv 2) rfl) (pa_cons (pe_fld (pv 2) rfl) (pa_cons (pe_callB call_len_seq (by rfl) T.b_len PySem.boot_len (pa_cons (pe_fld (pv 2) rfl) pa_nil)) (pa_cons (pe_fld (pv 2) rfl) pa_nil))))))
      (pss_cons (ps_set (i := 4) sc_c_look.nd rfl (Or.inl rfl) (pe_lst (pa_cons (pv 3) (pa_cons (pe_fld (pv 2) rfl) (pa_cons (pe_fld (pv 2) rfl) (pa_cons (pe_fld (pv 2) rfl) pa_nil))))))
      (pss_one (ps_ret (pe_call (ok_wl T) hr1 rfl T.G_c_with_lists T.F_c_with_lists.kp T.B_c_with_lists .nil pass0 (pa_cons (pe_fld (pv 2) rfl) (pa_cons (pv 4) pa_nil)))))))), ?_⟩
    refine ⟨_, rfl, s_meth S (by decide +kernel) ⟨_, rfl, s, z, i, rfl, S, _, rfl, ite2 (fun h => ?_) (fun h => ?_)⟩⟩
    · have hi := noT h
      have e : Lead.step s (.look i) = (s, Lead.says (-4)) := by
        show (s, match s.nodes[i]? with | none => _ | some x => _) = _
        rw [List.getElem?_eq_none (by omega)]
      exact ⟨(by show 1 ≤ sizeLine; decide), fun l hl => k.no S Fr.refl e hl⟩
    · have hi := noF h
      obtain ⟨r, x, hr', hx, R, hm⟩ := S.at hi
      have no := Fine.nok F hx
      have n5 := F.ok.small
      have e0 : Lead.step s (.look i) = (s, ⟨(x.role : Nat), [[x.term, x.vote, x.log.length, x.settled], x.votes, x.next, x.same]⟩) := by
        show (s, match s.nodes[i]? with | none => _ | some x => _) = _
        rw [hx]
      obtain ⟨ts, h2, h3⟩ := R.lg
      refine ⟨_, rfl, s_replicas S ⟨_, rfl, z.rl, _, _, _, rfl, rfl, SqL.of S.rl, at_of (j := i) rfl hm, ?_⟩⟩
      refine ⟨_, rfl, r_term T R ⟨_, rfl, r_vote T R ⟨_, rfl, r_log T R ⟨r.lg, _, rfl, .inl (SqL.of h2), _, rfl, r_settled T R ⟨(by show 4 ≤ sizeLine; decide), fun l1 hl1 => ?_⟩⟩⟩⟩⟩
      have e1 : ([V.int x.term, V.int x.vote, V.int ((ts.map V.ref).length : Nat), V.int x.settled] : List V) = ni [x.term, x.vote, x.log.length, x.settled] := by
        rw [List.length_map, ents_len h3]
        rfl
      rw [e1]
      have f1 : Fr H (upd H l1 (.lst (ni [x.term, x.vote, x.log.length, x.settled]))) [] := Fr.refl.new hl1
      have R1 := R.fr0 f1
      refine ⟨_, rfl, _, rfl, r_voters T R1 ⟨_, rfl, r_next_entry T R1 ⟨_, rfl, r_same T R1 ⟨(by show 4 ≤ sizeLine; decide), fun l2 hl2 => ?_⟩⟩⟩⟩
      have f2 : Fr (upd H l1 (.lst (ni [x.term, x.vote, x.log.length, x.settled]))) (upd (upd H l1 (.lst (ni [x.term, x.vote, x.log.length, x.settled]))) l2 (.lst [.ref l1, .ref r.vo, .ref r.ne, .ref r.sa])) [] := Fr.refl.new hl2
      have R2 := R1.fr0 f2
      refine ⟨_, rfl, r_role T R2 ⟨_, rfl, (x.role : Nat), l2, [l1, r.vo, r.ne, r.sa], [[x.term, x.vote, x.log.length, x.settled], x.votes, x.next, x.same], rfl, upd_same, .cons (f2.kp _ _ upd_same (by simp)) (.cons R2.vo (.cons R2.ne (.cons R2.sa .nil))), ?_, fun H3 l f3 hl hl' => k.told S ((f1.trans0 f2).trans0 f3) e0 (f1.free (f2.free hl)) hl'⟩⟩
      have a1 := no.v5
      have a2 := no.nl
      have a3 := no.sl
      simp only [List.flatMap_cons, List.flatMap_nil, gr, List.length_append, List.length_cons, List.length_map, List.length_nil]
      omega
/-! net -/
theorem kv_keys : ∀ {ms : List Lead.Message} {as : List Addr}, as.length = ms.length → ((kv ms as).map fun q => kV q.1) = ni (ms.map fun (m : Lead.Message) => m.id)
  | [], _, _ => rfl
  | m :: ms, [], h => by simp at h
  | m :: ms, a :: as, h => by
    show V.int (m.id : Int) :: ((kv ms as).map fun q => kV q.1) = V.int (m.id : Int) :: ni (ms.map fun (m : Lead.Message) => m.id)
    rw [kv_keys (by simpa using h)]
theorem ok_c_net (T : Tx K mg) (U : Ty K mg T) : FnOk P w K mg base CX0 6 T.a_c_net T.d_c_net ["state"] (spC0 T .net) := by
  refine T.F_c_net.ok sc_c_net (fun vs H Q E h => ?_) (fun cdv A outer s0 H vs Q E hr h => ?_)
  · obtain ⟨s, z, rfl, _⟩ := h
    rfl
  · obtain ⟨s, z, rfl, S, F, k⟩ := h
    have hr1 : Room 1 _ := hr.mono (by decide)
    refine ⟨_, pss_one (ps_ret (pe_call (ok_wl T) hr1 rfl T.G_c_with_lists T.F_c_with_lists.kp T.B_c_with_lists .nil pass0 (pa_cons (pe_callB call_lenD (by rfl) T.b_len PySem.boot_len (pa_cons (pe_fld (pv 0) rfl) pa_nil))
      (pa_cons (pe_lst (pa_cons (pe_callTy (call_list_dict rfl) rfl T.b_list bt_list (pa_cons (pe_fld (pv 0) rfl) pa_nil)) pa_nil)) pa_nil)))), ?_⟩
    have e0 : Lead.step s .net = (s, ⟨(s.net.length : Nat), [s.net.map fun (m : Lead.Message) => m.id]⟩) := rfl
    refine ⟨_, rfl, s_under_way S ⟨z.ud, _, rfl, S.ud, _, rfl, s_under_way S ⟨z.ud, _, rfl, S.ud, fun l1 hl1 => ⟨(by show 1 ≤ sizeLine; decide), fun l2 hl2 => ?_⟩⟩⟩⟩
    rw [kv_keys (paired_len S.msg)] at hl2 ⊢
    have f1 : Fr H (upd H l1 (.lst (ni (s.net.map fun (m : Lead.Message) => m.id)))) [] := Fr.refl.new hl1
    have f2 : Fr (upd H l1 (.lst (ni (s.net.map fun (m : Lead.Message) => m.id)))) (upd (upd H l1 (.lst (ni (s.net.map fun (m : Lead.Message) => m.id)))) l2 (.lst [.ref l1])) [] := Fr.refl.new hl2
    refine ⟨_, l2, [l1], [s.net.map fun (m : Lead.Message) => m.id], rfl, upd_same, .cons (f2.kp _ _ upd_same (by simp)) .nil, ?_, fun H3 l f3 hl hl' => k.told S ((f1.trans0 f2).trans0 f3) e0 (f1.free (f2.free hl)) ?_⟩
    · have := F.ok.nt
      simp only [List.flatMap_cons, List.flatMap_nil, gr, List.length_append, List.length_cons, List.length_map, List.length_nil]
      omega
    · rw [kv_length (paired_len S.msg)] at hl'
      exact hl'
/-! message -/
theorem ok_c_message (T : Tx K mg) (U : Ty K mg T) : FnOk P w K mg base CX0 6 T.a_c_message T.d_c_message ["state", "m"] (spC1 T .message) := by
  refine T.F_c_message.ok sc_c_message (fun vs H Q E h => ?_) (fun cdv A outer s0 H vs Q E hr h => ?_)
  · obtain ⟨s, z, m, rfl, _⟩ := h
    rfl
  · obtain ⟨s, z, m, rfl, S, F, k⟩ := h
    have hu := hu_of hr
    have hr1 : Room 1 _ := hr.mono (by decide)
    refine ⟨_, pss_cons (ps_if (pt_cmp (pc_dnotin hu (pv 1) (pe_fld (pv 0) rfl)) rfl) (pss_one (ps_ret (pe_lst (pa_cons (pe_gi T.g_NOT_THERE) pa_nil)))) pss_nil)
      (pss_cons (ps_set (i := 2) sc_c_message.nd rfl (Or.inl rfl) (pe_dget hu (pe_fld (pv 0) rfl) (pv 1) (fun _ _ => rfl)))
      (pss_cons (ps_set (i := 3) sc_c_message.nd rfl (Or.inl rfl) (pe_lst (pa_cons (pv 1) (pa_cons (pe_fld (pv 2) rfl) (pa_cons (pe_fld (pv 2) rfl) (pa_cons (pe_fld (pv 2) rfl) (pa_cons (pe_fld (pv 2) rfl) (pa_cons (pe_fld (pv 2) rfl) (pa_cons (pe_fld (pv 2) rfl) (pa_cons (pe_fld (pv 2) rfl) pa_nil))))))))))
      (pss_one (ps_ret (pe_call (ok_wl T) hr1 rfl T.G_c_with_lists T.F_c_with_lists.kp T.B_c_with_lists .nil pass0 (pa_cons (pe_fld (pv 2) rfl)
        (pa_cons (pe_lst (pa_cons (pv 3) (pa_cons (pe_call (ok_tv T) hr1 rfl T.G_c_terms_and_values T.F_c_terms_and_values.kp T.B_c_terms_and_values .nil pass0 (pa_cons (pe_fld (pv 2) rfl) pa_nil)) pa_nil))) pa_nil))))))), ?_⟩
    refine ⟨_, rfl, _, rfl, s_under_way S ⟨z.ud, _, rfl, DGet.k (k := Sum.inl (m : Int)) S.ud, _, rfl, ?_⟩⟩
    rcases S.msgs m with ⟨hf, hv⟩ | ⟨x, a, hf, hv, M⟩
    · rw [hv]
      have e : Lead.step s (.message m) = (s, Lead.says (-4)) := by
        show (s, match s.find m with | none => _ | some x => _) = _
        rw [hf]
      exact iteT ⟨(by show 1 ≤ sizeLine; decide), fun l hl => k.no S Fr.refl e hl⟩
    · rw [hv]
      obtain ⟨hxn, hxi⟩ := F.ok.find hf
      have mok := F.ok.ms x hxn
      have e0 : Lead.step s (.message m) = (s, ⟨(x.kind : Nat), [Lead.messageList x, Lead.logList x.entries]⟩) := by
        show (s, match s.find m with | none => _ | some x => _) = _
        rw [hf]
      refine iteF ⟨_, rfl, s_under_way S ⟨_, rfl, z.ud, V.ref a, rfl, by rw [← hv]; exact DGet.k (k := Sum.inl (m : Int)) S.ud, ?_⟩⟩
      refine ⟨_, rfl, _, rfl, m_kind T M ⟨_, rfl, m_sender T M ⟨_, rfl, m_receiver T M ⟨_, rfl, m_term T M ⟨_, rfl, m_a T M ⟨_, rfl, m_b T M ⟨_, rfl, m_c T M ⟨(by show 8 ≤ sizeLine; decide), fun l1 hl1 => ?_⟩⟩⟩⟩⟩⟩⟩⟩
      have e1 : ([V.int m, V.int x.kind, V.int x.from_, V.int x.to_, V.int x.term, V.int x.a, V.int x.b, V.int x.c] : List V) = ni (Lead.messageList x) := by
        rw [← hxi]
        rfl
      rw [e1]
      have f1 : Fr H (upd H l1 (.lst (ni (Lead.messageList x)))) [] := Fr.refl.new hl1
      have M1 : MsgAt T.CM (upd H l1 (.lst (ni (Lead.messageList x)))) a x := M.fr f1 (by simp)
      refine ⟨_, rfl, m_kind T M1 ⟨_, rfl, _, rfl, m_entries T M1 fun e ts he hE => ⟨e, ts, x.entries, rfl, .inr (SqT.of he), hE, by have := mok.e4; omega, (fun H' f q => sqL_fr f q), (fun H' f q => sqT_fr f q), fun H2 l2 f2 hl2 hl2' => ⟨(by show 2 ≤ sizeLine; decide), fun l3 hl3 => ?_⟩⟩⟩⟩
      have g1 : H2 l1 = some (.lst (ni (Lead.messageList x))) := f2.kp _ _ upd_same (by simp)
      have f3 : Fr H2 (upd H2 l3 (.lst [.ref l1, .ref l2])) [] := Fr.refl.new hl3
      refine ⟨_, l3, [l1, l2], [Lead.messageList x, Lead.logList x.entries], rfl, upd_same, .cons (f3.kp _ _ g1 (by simp)) (.cons (f3.kp _ _ hl2' (by simp)) .nil), ?_, fun H4 l f4 hl hl' => k.told S (((f1.trans0 f2).trans0 f3).trans0 f4) e0 (f1.free (f2.free (f3.free hl))) hl'⟩
      have := mok.e4
      have h8 : (Lead.messageList x).length = 8 := rfl
      simp only [List.flatMap_cons, List.flatMap_nil, gr, List.length_append, List.length_cons, List.length_map, List.length_nil, logList_len, h8]
      omega
end
end Pr
end

section
set_option Elab.async false
set_option linter.all false
set_option maxRecDepth 100000
set_option maxHeartbeats 2000000
/-! ### one call of a line -/
namespace Pr
open PySem PySem.Spec L2
open PyProof.Rows hiding St
def callNo : Lead.Call → Int
  | .begin_ _ => 0
  | .stand _ => 1
  | .propose _ _ => 2
  | .beat _ => 3
  | .deliver _ => 4
  | .lose _ => 5
  | .copy _ => 6
  | .crash _ => 7
  | .look _ => 8
  | .log _ => 9
  | .settled _ => 10
  | .net => 11
  | .message _ => 12
def callArgs : Lead.Call → List Int
  | .begin_ n => [n]
  | .stand i => [i]
  | .propose i v => [i, v]
  | .beat i => [i]
  | .deliver m => [m]
  | .lose m => [m]
  | .copy m => [m]
  | .crash i => [i]
  | .look i => [i]
  | .log i => [i]
  | .settled i => [i]
  | .net => []
  | .message m => [m]
theorem flat_is (c : Lead.Call) : Ld.flat c = callNo c :: callArgs c := by cases c <;> rfl
section
variable {P : Program} {w : World} {K : PySem.W.Frag} {mg : Str → Option Value} {base : Heap}
def spHmn (T : Tx K mg) : Sp := fun vs H Q _ => ∃ c : Lead.Call, vs = [.int (callNo c)] ∧ Q (.int ((callArgs c).length : Nat)) H
theorem ok_hmn (T : Tx K mg) (U : Ty K mg T) : FnOk P w K mg base CX0 1 T.a_c_how_many_numbers T.d_c_how_many_numbers ["call"] (spHmn T) := by
  refine T.F_c_how_many_numbers.ok sc_c_how_many_numbers (fun vs H Q E h => ?_) (fun cdv A outer s0 H vs Q E hr h => ?_)
  · obtain ⟨c, rfl, _⟩ := h
    rfl
  · obtain ⟨c, rfl, q⟩ := h
    refine ⟨_, pss_cons (ps_if (pt_kin U.D0 (pv 0) rfl U.mg_d0) (pss_one (ps_ret pe_int)) pss_nil)
      (pss_one (ps_ret (pe_ifExp (pt_kin U.D2 (pv 0) rfl U.mg_d2) pe_int pe_int))), ?_⟩
    refine ⟨_, rfl, callNo c, rfl, ?_⟩
    cases c with
    | net => exact iteT q
    | propose i v =>
      refine iteF ⟨_, rfl, 2, rfl, ?_⟩
      exact iteT q
    | begin_ n => exact iteF ⟨_, rfl, 0, rfl, iteF q⟩
    | stand n => exact iteF ⟨_, rfl, 1, rfl, iteF q⟩
    | beat n => exact iteF ⟨_, rfl, 3, rfl, iteF q⟩
    | deliver n => exact iteF ⟨_, rfl, 4, rfl, iteF q⟩
    | lose n => exact iteF ⟨_, rfl, 5, rfl, iteF q⟩
    | copy n => exact iteF ⟨_, rfl, 6, rfl, iteF q⟩
    | crash n => exact iteF ⟨_, rfl, 7, rfl, iteF q⟩
    | look n => exact iteF ⟨_, rfl, 8, rfl, iteF q⟩
    | log n => exact iteF ⟨_, rfl, 9, rfl, iteF q⟩
    | settled n => exact iteF ⟨_, rfl, 10, rfl, iteF q⟩
    | message n => exact iteF ⟨_, rfl, 12, rfl, iteF q⟩
def mk1 (k : Int) : Option (Nat → Lead.Call) :=
  if k = 0 then some .begin_ else if k = 1 then some .stand else if k = 3 then some .beat else if k = 4 then some .deliver else if k = 5 then some .lose else if k = 6 then some .copy else if k = 7 then some .crash else if k = 8 then some .look else if k = 9 then some .log else if k = 10 then some .settled else if k = 12 then some .message else none
def spf1 (T : Tx K mg) : Int → Sp := fun k => match mk1 k with
  | some f => spC1 T f
  | none => fun _ _ _ _ => False
theorem kok0 (T : Tx K mg) (U : Ty K mg T) (X : Cx) (h1 : X.prog = P) (h2 : X.w = w) (h3 : X.K = K) (h4 : X.mg = mg) (h5 : X.base = base) : KOk X 6 [(11, T.a_c_net)] (fun _ => spC0 T .net) := by
  subst h1 h2 h3 h4 h5
  intro k f h
  unfold atKD at h
  split at h
  · cases h
    exact ⟨T.F_c_net.kp, _, _, ok_c_net T U, T.B_c_net⟩
  · cases h
theorem kok2 (T : Tx K mg) (U : Ty K mg T) (X : Cx) (h1 : X.prog = P) (h2 : X.w = w) (h3 : X.K = K) (h4 : X.mg = mg) (h5 : X.base = base) : KOk X 6 [(2, T.a_c_propose)] (fun _ => spC2 T .propose) := by
  subst h1 h2 h3 h4 h5
  intro k f h
  unfold atKD at h
  split at h
  · cases h
    exact ⟨T.F_c_propose.kp, _, _, ok_c_propose T U, T.B_c_propose⟩
  · cases h
theorem kok1 (T : Tx K mg) (U : Ty K mg T) (X : Cx) (h1 : X.prog = P) (h2 : X.w = w) (h3 : X.K = K) (h4 : X.mg = mg) (h5 : X.base = base) :
    KOk X 6 [(0, T.a_c_begin), (1, T.a_c_stand), (3, T.a_c_beat), (4, T.a_c_deliver), (5, T.a_c_lose), (6, T.a_c_copy), (7, T.a_c_crash), (8, T.a_c_look), (9, T.a_c_log), (10, T.a_c_settled), (12, T.a_c_message)] (spf1 T) := by
  subst h1 h2 h3 h4 h5
  intro k f h
  simp only [atKD] at h
  split at h
  · rename_i e
    cases h; subst e
    exact ⟨T.F_c_begin.kp, _, _, ok_c_begin T U, T.B_c_begin⟩
  split at h
  · rename_i e
    cases h; subst e
    exact ⟨T.F_c_stand.kp, _, _, ok_c_stand T U, T.B_c_stand⟩
  split at h
  · rename_i e
    cases h; subst e
    exact ⟨T.F_c_beat.kp, _, _, ok_c_beat T U, T.B_c_beat⟩
  split at h
  · rename_i e
    cases h; subst e
    exact ⟨T.F_c_deliver.kp, _, _, ok_c_deliver T U, T.B_c_deliver⟩
  split at h
  · rename_i e
    cases h; subst e
    exact ⟨T.F_c_lose.kp, _, _, ok_c_lose T U, T.B_c_lose⟩
  split at h
  · rename_i e
    cases h; subst e
    exact ⟨T.F_c_copy.kp, _, _, ok_c_copy T U, T.B_c_copy⟩
  split at h
  · rename_i e
    cases h; subst e
    exact ⟨T.F_c_crash.kp, _, _, ok_c_crash T U, T.B_c_crash⟩
  split at h
  · rename_i e
    cases h; subst e
    exact ⟨T.F_c_look.kp, _, _, ok_c_look T U, T.B_c_look⟩
  split at h
  · rename_i e
    cases h; subst e
    exact ⟨T.F_c_log.kp, _, _, ok_c_log T U, T.B_c_log⟩
  split at h
  · rename_i e
    cases h; subst e
    exact ⟨T.F_c_settled.kp, _, _, ok_c_settled T U, T.B_c_settled⟩
  split at h
  · rename_i e
    cases h; subst e
    exact ⟨T.F_c_message.kp, _, _, ok_c_message T U, T.B_c_message⟩
  · cases h
def spAn (T : Tx K mg) : Sp := fun vs H Q _ => ∃ (s : Lead.State) (z : SA) (c : Lead.Call) (N : Addr), vs = [.ref z.st, .int (callNo c), .ref N] ∧ H N = some (.lst ((callArgs c).map V.int)) ∧ StAt T H s z ∧ Ld.Fine s ∧ RetC T H z (Lead.step s c).1 (LeadNeutral.shown (Lead.step s c).2) Q
theorem ok_an (T : Tx K mg) (U : Ty K mg T) : FnOk P w K mg base CX0 7 T.a_c_answer T.d_c_answer ["state", "call", "numbers"] (spAn T) := by
  refine T.F_c_answer.ok sc_c_answer (fun vs H Q E h => ?_) (fun cdv A outer s0 H vs Q E hr h => ?_)
  · obtain ⟨s, z, c, N, rfl, _⟩ := h
    rfl
  · obtain ⟨s, z, c, N, rfl, hN, S, F, k⟩ := h
    refine ⟨_, pss_cons (ps_if (pt_kin U.D0 (pv 1) rfl U.mg_d0) (pss_one (ps_ret (pe_kcall U.D0 (kok0 (P := P) (w := w) (base := base) T U _ rfl rfl rfl rfl rfl) hr (pv 1) (fun _ _ => rfl) rfl U.mg_d0 (pa_cons (pv 0) pa_nil)))) pss_nil)
      (pss_cons (ps_if (pt_kin U.D2 (pv 1) rfl U.mg_d2) (pss_one (ps_ret (pe_kcall U.D2 (kok2 (P := P) (w := w) (base := base) T U _ rfl rfl rfl rfl rfl) hr (pv 1) (fun _ _ => rfl) rfl U.mg_d2 (pa_cons (pv 0) (pa_cons (pe_ix ix_list (pv 2) pe_int (fun _ _ => rfl)) (pa_cons (pe_ix ix_list (pv 2) pe_int (fun _ _ => rfl)) pa_nil)))))) pss_nil)
      (pss_one (ps_ret (pe_kcall U.D1 (kok1 (P := P) (w := w) (base := base) T U _ rfl rfl rfl rfl rfl) hr (pv 1) (fun _ _ => rfl) rfl U.mg_d1 (pa_cons (pv 0) (pa_cons (pe_ix ix_list (pv 2) pe_int (fun _ _ => rfl)) pa_nil)))))), ?_⟩
    refine ⟨_, rfl, callNo c, rfl, ?_⟩
    cases c with
    | net => exact iteT ⟨_, rfl, 11, _, rfl, rfl, _, rfl, s, z, rfl, S, F, k⟩
    | propose i v =>
      refine iteF ⟨_, rfl, 2, rfl, ?_⟩
      exact iteT ⟨_, rfl, 2, _, rfl, rfl, _, rfl, _, rfl, N, _, _, _, rfl, rfl, SqL.of hN, at_of (j := 0) rfl rfl, _, rfl, N, _, _, _, rfl, rfl, SqL.of hN, at_of (j := 1) rfl rfl, s, z, i, v, rfl, S, F, k⟩
    | begin_ n => exact iteF ⟨_, rfl, 0, rfl, iteF ⟨_, rfl, 0, _, rfl, rfl, _, rfl, _, rfl, N, _, _, _, rfl, rfl, SqL.of hN, at_of (j := 0) rfl rfl, s, z, n, rfl, S, F, k⟩⟩
    | stand n => exact iteF ⟨_, rfl, 1, rfl, iteF ⟨_, rfl, 1, _, rfl, rfl, _, rfl, _, rfl, N, _, _, _, rfl, rfl, SqL.of hN, at_of (j := 0) rfl rfl, s, z, n, rfl, S, F, k⟩⟩
    | beat n => exact iteF ⟨_, rfl, 3, rfl, iteF ⟨_, rfl, 3, _, rfl, rfl, _, rfl, _, rfl, N, _, _, _, rfl, rfl, SqL.of hN, at_of (j := 0) rfl rfl, s, z, n, rfl, S, F, k⟩⟩
    | deliver n => exact iteF ⟨_, rfl, 4, rfl, iteF ⟨_, rfl, 4, _, rfl, rfl, _, rfl, _, rfl, N, _, _, _, rfl, rfl, SqL.of hN, at_of (j := 0) rfl rfl, s, z, n, rfl, S, F, k⟩⟩
    | lose n => exact iteF ⟨_, rfl, 5, rfl, iteF ⟨_, rfl, 5, _, rfl, rfl, _, rfl, _, rfl, N, _, _, _, rfl, rfl, SqL.of hN, at_of (j := 0) rfl rfl, s, z, n, rfl, S, F, k⟩⟩
    | copy n => exact iteF ⟨_, rfl, 6, rfl, iteF ⟨_, rfl, 6, _, rfl, rfl, _, rfl, _, rfl, N, _, _, _, rfl, rfl, SqL.of hN, at_of (j := 0) rfl rfl, s, z, n, rfl, S, F, k⟩⟩
    | crash n => exact iteF ⟨_, rfl, 7, rfl, iteF ⟨_, rfl, 7, _, rfl, rfl, _, rfl, _, rfl, N, _, _, _, rfl, rfl, SqL.of hN, at_of (j := 0) rfl rfl, s, z, n, rfl, S, F, k⟩⟩
    | look n => exact iteF ⟨_, rfl, 8, rfl, iteF ⟨_, rfl, 8, _, rfl, rfl, _, rfl, _, rfl, N, _, _, _, rfl, rfl, SqL.of hN, at_of (j := 0) rfl rfl, s, z, n, rfl, S, F, k⟩⟩
    | log n => exact iteF ⟨_, rfl, 9, rfl, iteF ⟨_, rfl, 9, _, rfl, rfl, _, rfl, _, rfl, N, _, _, _, rfl, rfl, SqL.of hN, at_of (j := 0) rfl rfl, s, z, n, rfl, S, F, k⟩⟩
    | settled n => exact iteF ⟨_, rfl, 10, rfl, iteF ⟨_, rfl, 10, _, rfl, rfl, _, rfl, _, rfl, N, _, _, _, rfl, rfl, SqL.of hN, at_of (j := 0) rfl rfl, s, z, n, rfl, S, F, k⟩⟩
    | message n => exact iteF ⟨_, rfl, 12, rfl, iteF ⟨_, rfl, 12, _, rfl, rfl, _, rfl, _, rfl, N, _, _, _, rfl, rfl, SqL.of hN, at_of (j := 0) rfl rfl, s, z, n, rfl, S, F, k⟩⟩
end
end Pr
end

section
set_option Elab.async false
set_option linter.all false
set_option maxRecDepth 100000
set_option maxHeartbeats 2000000
/-! ### a line of calls -/
namespace Pr
open PySem PySem.Spec L2
open PyProof.Rows hiding St
theorem ans_len {s : Lead.State} (F : Ld.Fine s) (c : Lead.Call) : (LeadNeutral.shown (Lead.step s c).2).length ≤ 1000 := by
  have one : ∀ v : Int, (LeadNeutral.shown (Lead.says v)).length ≤ 1000 := fun v => by show 1 ≤ 1000; omega
  cases c with
  | begin_ n => unfold Lead.step; dsimp only; split <;> exact one _
  | stand i => unfold Lead.step; dsimp only; repeat' split
               all_goals exact one _
  | propose i v => unfold Lead.step; dsimp only; repeat' split
                   all_goals exact one _
  | beat i => unfold Lead.step; dsimp only; repeat' split
              all_goals exact one _
  | deliver m => unfold Lead.step; dsimp only; repeat' split
                 all_goals exact one _
  | lose m => unfold Lead.step; dsimp only; repeat' split
              all_goals exact one _
  | copy m => unfold Lead.step; dsimp only; repeat' split
              all_goals exact one _
  | crash i => unfold Lead.step; dsimp only; repeat' split
               all_goals exact one _
  | look i =>
    unfold Lead.step
    dsimp only
    split
    · exact one _
    · rename_i x hx
      have no := Fine.nok F hx
      have n5 := F.ok.small
      have a1 := no.v5
      have a2 := no.nl
      have a3 := no.sl
      rw [shown_gr]
      simp only [List.flatMap_cons, List.flatMap_nil, gr, List.length_append, List.length_cons, List.length_map, List.length_nil]
      omega
  | log i =>
    unfold Lead.step
    dsimp only
    split
    · exact one _
    · rename_i x hx
      have no := (Fine.nok F hx).ll
      rw [shown_gr]
      simp only [List.flatMap_cons, List.flatMap_nil, gr, List.length_append, List.length_cons, List.length_map, List.length_nil, logList_len]
      omega
  | settled i =>
    unfold Lead.step
    dsimp only
    split
    · exact one _
    · rename_i x hx
      have no := (Fine.nok F hx).ll
      rw [shown_gr]
      simp only [List.flatMap_cons, List.flatMap_nil, gr, List.length_append, List.length_cons, List.length_map, List.length_nil, logList_len, List.length_take]
      omega
  | net =>
    have := F.ok.nt
    show (LeadNeutral.shown ⟨(s.net.length : Nat), [s.net.map fun (m : Lead.Message) => m.id]⟩).length ≤ 1000
    rw [shown_gr]
    simp only [List.flatMap_cons, List.flatMap_nil, gr, List.length_append, List.length_cons, List.length_map, List.length_nil]
    omega
  | message m =>
    unfold Lead.step
    dsimp only
    split
    · exact one _
    · rename_i x hx
      have e4 := (F.ok.ms x (F.ok.find hx).1).e4
      have h8 : (Lead.messageList x).length = 8 := rfl
      rw [shown_gr]
      simp only [List.flatMap_cons, List.flatMap_nil, gr, List.length_append, List.length_cons, List.length_map, List.length_nil, logList_len, h8]
      omega
theorem big {n : Nat} (h : n ≤ 1000000) : n < sizeLine := Nat.lt_of_le_of_lt h (by decide)
theorem at_app {A B : List Int} {p : Int} : ((A ++ p :: B).map V.int)[A.length]? = some (V.int p) := by
  rw [List.getElem?_map, List.getElem?_append_right (Nat.le_refl _), Nat.sub_self]
  rfl
theorem cut_app {A B C : List Int} {p : Int} : cutV ((A ++ (p :: B) ++ C).map V.int) (some ((A.length : Int) + 1)) (some ((A.length : Int) + 1 + (B.length : Int))) = B.map V.int := by
  unfold cutV
  have e1 : ((A.length : Int) + 1) = ((A.length + 1 : Nat) : Int) := by omega
  have e2 : ((A.length : Int) + 1 + (B.length : Int)) = ((A.length + 1 + B.length : Nat) : Int) := by omega
  rw [e2, e1, HT.sIx_nat, HT.sIx_nat]
  have len : ((A ++ (p :: B) ++ C).map V.int).length = A.length + (B.length + 1) + C.length := by
    rw [List.length_map, List.length_append, List.length_append, List.length_cons]
  rw [len, Nat.min_eq_left (by omega), Nat.min_eq_left (by omega), ← List.map_drop, ← List.map_take]
  congr 1
  rw [show A.length + 1 + B.length - (A.length + 1) = B.length by omega]
  have : A ++ (p :: B) ++ C = (A ++ [p]) ++ (B ++ C) := by simp
  rw [this, List.drop_left' (by simp), List.take_left' rfl]
section
variable {P : Program} {w : World} {K : PySem.W.Frag} {mg : Str → Option Value} {base : Heap}
def spAns (K : PySem.W.Frag) : Sp := fun vs H Q _ => ∃ (a : Addr) (ns : List Int), vs = [.ref a] ∧ SqL K H a (ns.map V.int) ∧ ns.length ≤ 16000 ∧ PyWrlead.answers_asked ns = true ∧ ∀ (H' : Hp) (p : Addr), H' p = some (.lst ((PyWrlead.answers ns).map V.int)) → Q (.ref p) H'
/-- what is still to do -/
def mu (n : Nat) (σ : St) : Nat := match σ[3]? with
  | some (some (V.int p)) => n - p.toNat
  | _ => 0
/-- how far the line is done -/
structure Far (T : Tx K mg) (H H' : Hp) (ks : List Lead.Call) (st N : Addr) (place : Nat) (rest : List Lead.Call) (s : Lead.State) (z : SA) (told : List Int) : Prop where
  ex : ∃ done, ks = done ++ rest ∧ place = (done.flatMap Ld.flat).length ∧ told.length ≤ 1001 * done.length
  fr : Fr H H' []
  at_ : StAt T H' s z
  st : z.st = st
  fine : Ld.Fine s
  new : ∀ a ∈ ownS z, H a = none
  nl : H N = none
  out : N ∉ ownS z
  lst : H' N = some (.lst (told.map V.int))
  all : Ld.out Lead.start ks = told ++ Ld.out s rest
theorem ok_ans (T : Tx K mg) (U : Ty K mg T) : FnOk P w K mg base CX0 8 T.a_c_answers T.d_c_answers ["calls"] (spAns K) := by
  refine T.F_c_answers.ok sc_c_answers (fun vs H Q E h => ?_) (fun cdv A outer s0 H vs Q E hr h => ?_)
  · obtain ⟨a, ns, rfl, _⟩ := h
    rfl
  · obtain ⟨a, ns, rfl, hS, hlen, hask, k⟩ := h
    obtain ⟨ks, hns, hks, _, hans⟩ := Ld.asked_calls hask
    have hr1 : Room 1 _ := hr.mono (by decide)
    have hr2 : Room 2 _ := hr.mono (by decide)
    refine ⟨_, pss_cons (ps_set (i := 1) sc_c_answers.nd rfl (Or.inl rfl) (pe_make0 T.K_s_init (ok_s T) hr2 rfl T.mg_s T.B_s_init .nil pass0))
      (pss_cons (ps_set (i := 2) sc_c_answers.nd rfl (Or.inl rfl) (pe_lst pa_nil))
      (pss_cons (ps_set (i := 3) sc_c_answers.nd rfl (Or.inl rfl) pe_int)
      (pss_cons (ps_while PassesOwn.never (pt_cmpR op_lt (pv 3) (pe_callB call_len_seq (by rfl) T.b_len PySem.boot_len (pa_cons (pv 0) pa_nil)) (nomark _))
        (pss_cons (ps_set (i := 4) sc_c_answers.nd rfl (Or.inl rfl) (pe_op op_add (pe_op op_add (pv 3) pe_int) (pe_call (ok_hmn T U) hr1 rfl T.G_c_how_many_numbers T.F_c_how_many_numbers.kp T.B_c_how_many_numbers .nil pass0 (pa_cons (pe_ix ix_list (pv 0) (pv 3) (fun _ _ => rfl)) pa_nil))))
        (pss_cons (ps_set (i := 5) sc_c_answers.nd rfl (Or.inl rfl) (pe_call (ok_an T U) hr rfl T.G_c_answer T.F_c_answer.kp T.B_c_answer .nil pass0 (pa_cons (pv 1) (pa_cons (pe_ix ix_list (pv 0) (pv 3) (fun _ _ => rfl)) (pa_cons (pe_slice sl_list (pv 0) (po_some (pe_op op_add (pv 3) pe_int)) (po_some (pv 4))) pa_nil)))))
        (pss_cons (ps_expr (pe_bm PySem.F.plainAttrs_list PySem.F.slot_list_append PySem.F.type_list_append mt_append (pv 2) (pa_cons (pe_callB call_len_seq (by rfl) T.b_len PySem.boot_len (pa_cons (pv 5) pa_nil)) pa_nil)))
        (pss_cons (ps_expr (pe_bm PySem.F.plainAttrs_list PySem.F.slot_list_extend PySem.F.type_list_extend mt_extend (pv 2) (pa_cons (pv 5) pa_nil)))
        (pss_one (ps_set (i := 3) sc_c_answers.nd rfl (Or.inl rfl) (pv 4))))))))
      (pss_one (ps_ret (pv 2)))))), ?_⟩
    intro st dx nst ndx ne
    refine ⟨st, dx, rfl, upd_same, fun H1 z1 hz1 S1 own1 f1 => ⟨rfl, ?_⟩⟩
    have g1 : Fr H H1 [] := fr_made nst ndx ne f1
    have new1 : ∀ b ∈ ownS z1, H b = none := by
      intro b hb
      rcases own1 b hb with q | q
      · rw [q]; exact nst
      · by_cases c : b = st
        · rw [c]; exact nst
        · rw [upd_ne c] at q
          by_cases c2 : b = dx
          · rw [c2]; exact ndx
          · rw [upd_ne c2] at q; exact q
    refine ⟨Nat.zero_le _, fun N hN => ?_⟩
    have hN0 : H N = none := g1.free hN
    have outN : N ∉ ownS z1 := S1.out0 hN
    have S2 : StAt T (upd H1 N (.lst [])) Lead.start z1 := S1.fr0 (Fr.refl.new hN)
    refine while_by (fun σ H' => ∃ (v4 v5 : Option V) (place : Nat) (rest : List Lead.Call) (s : Lead.State) (z : SA) (told : List Int), σ = [some (.ref a), some (.ref st), some (.ref N), some (.int place), v4, v5] ∧ Far T H H' ks st N place rest s z told)
      (fun σ _ => mu ns.length σ)
      ⟨none, none, 0, ks, Lead.start, z1, [], rfl, ⟨[], rfl, rfl, Nat.le_refl _⟩, g1.new hN, S2, hz1, Ld.Fine.start, new1, hN0, outN, upd_same, rfl⟩ ?_ ?_
    · rintro σ H' ⟨v4, v5, place, rest, s, z, told, rfl, B⟩
      obtain ⟨done, hk, hp, htl⟩ := B.ex
      have hS' := sqL_fr B.fr hS
      refine ⟨_, rfl, _, rfl, a, _, rfl, .inl hS', _, _, rfl, rfl, _, rfl, ite2 (fun h => ?_) (fun h => ?_)⟩
      · have lt : place < ns.length := by
          have := of_decide_eq_true h
          rw [List.length_map] at this
          omega
        cases rest with
        | nil =>
          rw [List.append_nil] at hk
          rw [hns, hk] at lt
          omega
        | cons c rest =>
          have nsE : ns = done.flatMap Ld.flat ++ (callNo c :: callArgs c) ++ rest.flatMap Ld.flat := by
            rw [hns, hk, List.flatMap_append, List.flatMap_cons, flat_is, List.append_assoc]
          have nsE2 : ns = done.flatMap Ld.flat ++ callNo c :: (callArgs c ++ rest.flatMap Ld.flat) := by
            rw [nsE]; simp
          have at1 : (ns.map V.int)[place]? = some (V.int (callNo c)) := by rw [hp, nsE2]; exact at_app
          refine ⟨_, rfl, _, _, rfl, rfl, _, rfl, _, rfl, a, _, _, _, rfl, rfl, hS', at_of (j := place) rfl at1, c, rfl, _, _, rfl, rfl, ?_⟩
          refine ⟨.ref z.st, by rw [B.st]; rfl, _, rfl, _, rfl, a, _, _, _, rfl, rfl, hS', at_of (j := place) rfl at1, _, rfl, _, rfl, _, _, rfl, rfl, _, rfl, _, rfl, _, rfl, a, _, rfl, hS', fun M hM => ?_⟩
          have ecut : cutV (ns.map V.int) (some ((place : Int) + 1)) (some ((place : Int) + 1 + ((callArgs c).length : Nat))) = (callArgs c).map V.int := by
            rw [hp, nsE]
            exact cut_app
          dsimp only at hM ⊢
          rw [ecut]
          have f2 : Fr H' (upd H' M (.lst ((callArgs c).map V.int))) [] := Fr.refl.new hM
          refine ⟨s, z, c, M, rfl, upd_same, B.at_.fr0 f2, B.fine, fun H3 z3 l m3 hl hl3 => ?_⟩
          have len1 := ans_len B.fine c
          have hN2 : (upd H' M (.lst ((callArgs c).map V.int))) N = some (.lst (told.map V.int)) := f2.kp _ _ B.lst (by simp)
          have hN3 : H3 N = some (.lst (told.map V.int)) := m3.fr.kp _ _ hN2 B.out
          have lN : l ≠ N := Ne.symm (ne_of_none hN2 hl)
          have dl : done.length + 1 ≤ 200 := by
            have := congrArg List.length hk
            rw [List.length_append, List.length_cons] at this
            omega
          refine ⟨_, rfl, .inl ⟨rfl, _, SqL.of hN3⟩, _, rfl, l, _, rfl, .inl (SqL.of hl3), N, _, _, rfl, rfl, hN3, big (by rw [List.length_map]; omega), ?_⟩
          refine ⟨_, rfl, .inl ⟨rfl, _, SqL.of upd_same⟩, _, rfl, N, l, _, _, rfl, rfl, upd_same, (by rw [upd_ne lN]; exact hl3), ?_, ?_⟩
          · rw [List.length_append, List.length_map, List.length_map]
            exact Nat.le_of_lt (big (by show told.length + 1 + _ ≤ 1000000; omega))
          · have eb : ((place : Int) + 1 + ((callArgs c).length : Nat)) = ((place + 1 + (callArgs c).length : Nat) : Int) := by omega
            have outN3 : N ∉ ownS z3 := fun q => by
              rcases m3.ow N q with q | q
              · exact B.out q
              · rw [hN2] at q; cases q
            have g3 : Fr H H3 [] := (B.fr.trans0 f2).trans m3.fr fun b hb => .inr (B.new b hb)
            have g4 : Fr H3 (upd (upd H3 N (.lst (told.map V.int ++ [V.int (((LeadNeutral.shown (Lead.step s c).2).map V.int).length : Nat)]))) N (.lst ((told.map V.int ++ [V.int (((LeadNeutral.shown (Lead.step s c).2).map V.int).length : Nat)]) ++ (LeadNeutral.shown (Lead.step s c).2).map V.int))) [N] :=
              (Fr.refl.put (.inl (by simp)) hN3 (fun _ q => by cases q)).put (.inl (by simp)) upd_same (fun _ q => by cases q)
            refine ⟨_, rfl, ⟨some (.int ((place : Int) + 1 + ((callArgs c).length : Nat))), some (.ref l), place + 1 + (callArgs c).length, rest, (Lead.step s c).1, z3, told ++ ((LeadNeutral.shown (Lead.step s c).2).length : Int) :: LeadNeutral.shown (Lead.step s c).2, ?_, ?_⟩, ?_⟩
            · rw [← eb]
              rfl
            · refine ⟨⟨done ++ [c], by rw [hk]; simp, ?_, ?_⟩, ?_, ?_, m3.p.trans B.st, B.fine.step c, ?_, B.nl, outN3, ?_, ?_⟩
              · rw [List.flatMap_append, List.length_append, ← hp, List.flatMap_cons, List.flatMap_nil, List.append_nil, flat_is, List.length_cons]
                omega
              · rw [List.length_append, List.length_append, List.length_cons, List.length_cons, List.length_nil]
                omega
              · exact g3.trans g4 fun b hb => .inr (by rw [List.mem_singleton] at hb; rw [hb]; exact B.nl)
              · refine m3.at_.fr g4 (fun b hb q => ?_) (fun b m q z => ?_)
                · rw [List.mem_singleton] at q
                  exact outN3 (q ▸ hb)
                · rw [List.mem_singleton] at z
                  exact msg_ne q hN3 z
              · intro b hb
                rcases m3.ow b hb with q | q
                · exact B.new b q
                · exact (B.fr.trans0 f2).free q
              · rw [upd_same, List.map_append, List.map_cons, List.length_map, List.append_assoc]
                rfl
              · rw [B.all, List.append_assoc]
                rfl
            · show ns.length - ((place : Int) + 1 + ((callArgs c).length : Nat)).toNat < ns.length - ((place : Int)).toNat
              omega
      · have e : rest = [] := by
          cases rest with
          | nil => rfl
          | cons c rest =>
            exfalso
            apply h
            apply decide_eq_true
            rw [List.length_map, hns, hk, List.flatMap_append, List.flatMap_cons, flat_is, List.length_append, List.length_append, List.length_cons, hp]
            omega
        subst e
        refine ⟨_, rfl, k H' N ?_⟩
        rw [B.lst, hans, B.all]
        show some (HO.lst (told.map V.int)) = some (HO.lst ((told ++ []).map V.int))
        rw [List.append_nil]
    · rintro σ H' Q1 Q2 hq ⟨v, e1, v0, e2, p, ys, e3, e4, i, j, e5, e6, b, e7, q⟩
      exact ⟨v, e1, v0, e2, p, ys, e3, e4, i, j, e5, e6, b, e7, hq _ _ q⟩
end
end Pr
end

section
set_option Elab.async false
set_option linter.all false
set_option maxRecDepth 100000
set_option maxHeartbeats 4000000
/-! ### what the top has written -/
namespace Pr
open PySem PySem.Spec L2
open PyProof.Rows hiding St
theorem FunD.bindsD {K : PySem.W.Frag} {x qual : Str} {st : Stmt} {t : Addr} {f : Addr} {fd : FuncData} {ps : List Str} {ds : List Value} {o : Obj} {items : Array Value} {n : Nat} (F : FunD K x qual st (.ref t) f fd) (ho : K.lookup t = some o) (hs : o.data = .seq items n) (m : Nat) (hm : ps.length = m + ds.length)
    (h : ∀ (kV doc pm : Value) (an : Option Addr) (cdv ct : Value) (us : List Value), us.length = m → ∃ k : Option (Array Value) → Sem (List (Str × Value)), bindArgs (PySem.W.fnOf x qual (defArgs st) (defBody st) (defScope st) (.ref t) kV doc pm an cdv ct) ⟨us, []⟩ = seqItems? (.ref t) >>= k ∧ k (some items) = pure (ps.zip (us ++ ds))) : Binds K fd ps ds := by
  obtain ⟨oc, od, kV, doc, pm, an, cdv, ct, osl, rfl, lk, hcd⟩ := F.ex
  intro s us X hl
  obtain ⟨k, e1, e2⟩ := h kV doc pm an cdv ct us (by rw [List.length_append] at hl; omega)
  exact PySem.W.binds_K X rfl ho hs e1 e2
theorem keys_list {P : Program} {w : World} {es : Array DictEntry} (h : (es.toList.all fun e => match e.key with | .int k _ => e.hash == hashInt k | _ => false) = true) : PySem.KeysOf (PySem.intKind P w) es := by
  intro e he
  have q := List.all_eq_true.mp h e (by simpa using he)
  cases hk : e.key with
  | int k t =>
    rw [hk] at q
    exact ⟨k, by show Value.isInt k (Value.int k t) = true; simp [Value.isInt], eq_of_beq q⟩
  | _ => rw [hk] at q; cases q
theorem all_mk {P : Program} {w : World} {K : PySem.W.Frag} {h : Heap} {mg : Str → Option Value} {fa : Addr} (X : K.In h) (G : h.Ns mainGlobals mg) (hfa : mg "answers" = some (.ref fa)) {CM CR CS f_m_init t_m_init f_r_init f_r_forget f_r_others f_r_more_than_half f_r_term_of_entry f_r_last_term f_r_has_newer_log f_r_stand f_r_ask_for_vote f_r_propose f_r_beat f_r_send_entries f_r_hear f_r_enter_term f_r_follow f_r_reply t_r_reply f_r_hear_vote_for_me f_r_hear_about_vote f_r_lead f_r_hear_have_these f_r_take_entries f_r_hear_about_entries f_r_settle f_r_how_many_have f_c_begin f_c_stand f_c_propose f_c_beat f_c_deliver f_c_lose f_c_copy f_c_crash f_c_look f_c_log f_c_settled f_c_net f_c_message f_c_with_lists f_c_tell_entries f_c_terms_and_values f_c_how_many_numbers f_c_answer f_s_init f_s_start f_s_has_replica f_s_has_room_for f_s_how_many_others f_s_say f_s_say_all f_c_answers rc d0 d1 d2 : Addr} {oc_m_init kV_m_init dc_m_init pm_m_init cd_m_init ct_m_init to_m_init oc_r_init kV_r_init dc_r_init pm_r_init cd_r_init ct_r_init oc_r_forget kV_r_forget dc_r_forget pm_r_forget cd_r_forget ct_r_forget oc_r_others kV_r_others dc_r_others pm_r_others cd_r_others ct_r_others oc_r_more_than_half kV_r_more_than_half dc_r_more_than_half pm_r_more_than_half cd_r_more_than_half ct_r_more_than_half oc_r_term_of_entry kV_r_term_of_entry dc_r_term_of_entry pm_r_term_of_entry cd_r_term_of_entry ct_r_term_of_entry oc_r_last_term kV_r_last_term dc_r_last_term pm_r_last_term cd_r_last_term ct_r_last_term oc_r_has_newer_log kV_r_has_newer_log dc_r_has_newer_log pm_r_has_newer_log cd_r_has_newer_log ct_r_has_newer_log oc_r_stand kV_r_stand dc_r_stand pm_r_stand cd_r_stand ct_r_stand oc_r_ask_for_vote kV_r_ask_for_vote dc_r_ask_for_vote pm_r_ask_for_vote cd_r_ask_for_vote ct_r_ask_for_vote oc_r_propose kV_r_propose dc_r_propose pm_r_propose cd_r_propose ct_r_propose oc_r_beat kV_r_beat dc_r_beat pm_r_beat cd_r_beat ct_r_beat oc_r_send_entries kV_r_send_entries dc_r_send_entries pm_r_send_entries cd_r_send_entries ct_r_send_entries oc_r_hear kV_r_hear dc_r_hear pm_r_hear cd_r_hear ct_r_hear oc_r_enter_term kV_r_enter_term dc_r_enter_term pm_r_enter_term cd_r_enter_term ct_r_enter_term oc_r_follow kV_r_follow dc_r_follow pm_r_follow cd_r_follow ct_r_follow oc_r_reply kV_r_reply dc_r_reply pm_r_reply cd_r_reply ct_r_reply to_r_reply oc_r_hear_vote_for_me kV_r_hear_vote_for_me dc_r_hear_vote_for_me pm_r_hear_vote_for_me cd_r_hear_vote_for_me ct_r_hear_vote_for_me oc_r_hear_about_vote kV_r_hear_about_vote dc_r_hear_about_vote pm_r_hear_about_vote cd_r_hear_about_vote ct_r_hear_about_vote oc_r_lead kV_r_lead dc_r_lead pm_r_lead cd_r_lead ct_r_lead oc_r_hear_have_these kV_r_hear_have_these dc_r_hear_have_these pm_r_hear_have_these cd_r_hear_have_these ct_r_hear_have_these oc_r_take_entries kV_r_take_entries dc_r_take_entries pm_r_take_entries cd_r_take_entries ct_r_take_entries oc_r_hear_about_entries kV_r_hear_about_entries dc_r_hear_about_entries pm_r_hear_about_entries cd_r_hear_about_entries ct_r_hear_about_entries oc_r_settle kV_r_settle dc_r_settle pm_r_settle cd_r_settle ct_r_settle oc_r_how_many_have kV_r_how_many_have dc_r_how_many_have pm_r_how_many_have cd_r_how_many_have ct_r_how_many_have oc_c_begin kV_c_begin dc_c_begin pm_c_begin cd_c_begin ct_c_begin oc_c_stand kV_c_stand dc_c_stand pm_c_stand cd_c_stand ct_c_stand oc_c_propose kV_c_propose dc_c_propose pm_c_propose cd_c_propose ct_c_propose oc_c_beat kV_c_beat dc_c_beat pm_c_beat cd_c_beat ct_c_beat oc_c_deliver kV_c_deliver dc_c_deliver pm_c_deliver cd_c_deliver ct_c_deliver oc_c_lose kV_c_lose dc_c_lose pm_c_lose cd_c_lose ct_c_lose oc_c_copy kV_c_copy dc_c_copy pm_c_copy cd_c_copy ct_c_copy oc_c_crash kV_c_crash dc_c_crash pm_c_crash cd_c_crash ct_c_crash oc_c_look kV_c_look dc_c_look pm_c_look cd_c_look ct_c_look oc_c_log kV_c_log dc_c_log pm_c_log cd_c_log ct_c_log oc_c_settled kV_c_settled dc_c_settled pm_c_settled cd_c_settled ct_c_settled oc_c_net kV_c_net dc_c_net pm_c_net cd_c_net ct_c_net oc_c_message kV_c_message dc_c_message pm_c_message cd_c_message ct_c_message oc_c_with_lists kV_c_with_lists dc_c_with_lists pm_c_with_lists cd_c_with_lists ct_c_with_lists oc_c_tell_entries kV_c_tell_entries dc_c_tell_entries pm_c_tell_entries cd_c_tell_entries ct_c_tell_entries oc_c_terms_and_values kV_c_terms_and_values dc_c_terms_and_values pm_c_terms_and_values cd_c_terms_and_values ct_c_terms_and_values oc_c_how_many_numbers kV_c_how_many_numbers dc_c_how_many_numbers pm_c_how_many_numbers cd_c_how_many_numbers ct_c_how_many_numbers oc_c_answer kV_c_answer dc_c_answer pm_c_answer cd_c_answer ct_c_answer oc_s_init kV_s_init dc_s_init pm_s_init cd_s_init ct_s_init oc_s_start kV_s_start dc_s_start pm_s_start cd_s_start ct_s_start oc_s_has_replica kV_s_has_replica dc_s_has_replica pm_s_has_replica cd_s_has_replica ct_s_has_replica oc_s_has_room_for kV_s_has_room_for dc_s_has_room_for pm_s_has_room_for cd_s_has_room_for ct_s_has_room_for oc_s_how_many_others kV_s_how_many_others dc_s_how_many_others pm_s_how_many_others cd_s_how_many_others ct_s_how_many_others oc_s_say kV_s_say dc_s_say pm_s_say cd_s_say ct_s_say oc_s_say_all kV_s_say_all dc_s_say_all pm_s_say_all cd_s_say_all ct_s_say_all oc_c_answers kV_c_answers dc_c_answers pm_c_answers cd_c_answers ct_c_answers : Value} {od_m_init an_m_init td_m_init od_r_init an_r_init od_r_forget an_r_forget od_r_others an_r_others od_r_more_than_half an_r_more_than_half od_r_term_of_entry an_r_term_of_entry od_r_last_term an_r_last_term od_r_has_newer_log an_r_has_newer_log od_r_stand an_r_stand od_r_ask_for_vote an_r_ask_for_vote od_r_propose an_r_propose od_r_beat an_r_beat od_r_send_entries an_r_send_entries od_r_hear an_r_hear od_r_enter_term an_r_enter_term od_r_follow an_r_follow od_r_reply an_r_reply td_r_reply od_r_hear_vote_for_me an_r_hear_vote_for_me od_r_hear_about_vote an_r_hear_about_vote od_r_lead an_r_lead od_r_hear_have_these an_r_hear_have_these od_r_take_entries an_r_take_entries od_r_hear_about_entries an_r_hear_about_entries od_r_settle an_r_settle od_r_how_many_have an_r_how_many_have od_c_begin an_c_begin od_c_stand an_c_stand od_c_propose an_c_propose od_c_beat an_c_beat od_c_deliver an_c_deliver od_c_lose an_c_lose od_c_copy an_c_copy od_c_crash an_c_crash od_c_look an_c_look od_c_log an_c_log od_c_settled an_c_settled od_c_net an_c_net od_c_message an_c_message od_c_with_lists an_c_with_lists od_c_tell_entries an_c_tell_entries od_c_terms_and_values an_c_terms_and_values od_c_how_many_numbers an_c_how_many_numbers od_c_answer an_c_answer od_s_init an_s_init od_s_start an_s_start od_s_has_replica an_s_has_replica od_s_has_room_for an_s_has_room_for od_s_how_many_others an_s_how_many_others od_s_say an_s_say od_s_say_all an_s_say_all od_c_answers an_c_answers rcd : Option Addr} {sl_m_init ts_m_init sl_r_init sl_r_forget sl_r_others sl_r_more_than_half sl_r_term_of_entry sl_r_last_term sl_r_has_newer_log sl_r_stand sl_r_ask_for_vote sl_r_propose sl_r_beat sl_r_send_entries sl_r_hear sl_r_enter_term sl_r_follow sl_r_reply ts_r_reply sl_r_hear_vote_for_me sl_r_hear_about_vote sl_r_lead sl_r_hear_have_these sl_r_take_entries sl_r_hear_about_entries sl_r_settle sl_r_how_many_have sl_c_begin sl_c_stand sl_c_propose sl_c_beat sl_c_deliver sl_c_lose sl_c_copy sl_c_crash sl_c_look sl_c_log sl_c_settled sl_c_net sl_c_message sl_c_with_lists sl_c_tell_entries sl_c_terms_and_values sl_c_how_many_numbers sl_c_answer sl_s_init sl_s_start sl_s_has_replica sl_s_has_room_for sl_s_how_many_others sl_s_say sl_s_say_all sl_c_answers rcs : Array (Option Value)} {tk0_m_init tk1_m_init tk2_m_init tk0_r_reply tk_VOTE_FOR_ME tk_ABOUT_VOTE tk_HAVE_THESE tk_ABOUT_ENTRIES tk_FOLLOWS tk_STANDS tk_LEADS tk_MOST_ENTRIES_SENT tk_BAD_NUMBER tk_NOT_IN_THIS_ROLE tk_NOT_THERE tk_NO_ROOM tk_MOST_VALUE tk_MOST_TERM tk_MOST_ENTRIES tk_MOST_UNDER_WAY tk3 tk5 : Tok} {rcn tn_m_init tn_r_reply : Nat} {es_d0 es_d1 es_d2 : Array DictEntry} {ep_d0 ep_d1 ep_d2 : Nat}
    (n_m : PySem.W.nsIn K mainGlobals "Message" = some (some (.ref CM)))
    (pg_m : PySem.W.plainGet K CM Str.empty = true)
    (hd_m : PySem.W.hasDictIn K CM = true)
    (po_m : PySem.W.plainOver K CM = true)
    (sa_m : PySem.W.findIn K (.ref CM) "__setattr__" = some (some (.builtin "object.__setattr__")))
    (mk_m : PySem.W.makesIn K CM = true)
    (kc_m : PySem.W.keepIn K (.ref CM) = true)
    (na_m_kind : PySem.W.findIn K (.ref CM) "kind" = some none)
    (na_m_sender : PySem.W.findIn K (.ref CM) "sender" = some none)
    (na_m_receiver : PySem.W.findIn K (.ref CM) "receiver" = some none)
    (na_m_term : PySem.W.findIn K (.ref CM) "term" = some none)
    (na_m_a : PySem.W.findIn K (.ref CM) "a" = some none)
    (na_m_b : PySem.W.findIn K (.ref CM) "b" = some none)
    (na_m_c : PySem.W.findIn K (.ref CM) "c" = some none)
    (na_m_entries : PySem.W.findIn K (.ref CM) "entries" = some none)
    (n_r : PySem.W.nsIn K mainGlobals "Replica" = some (some (.ref CR)))
    (pg_r : PySem.W.plainGet K CR Str.empty = true)
    (hd_r : PySem.W.hasDictIn K CR = true)
    (po_r : PySem.W.plainOver K CR = true)
    (sa_r : PySem.W.findIn K (.ref CR) "__setattr__" = some (some (.builtin "object.__setattr__")))
    (mk_r : PySem.W.makesIn K CR = true)
    (kc_r : PySem.W.keepIn K (.ref CR) = true)
    (na_r_number : PySem.W.findIn K (.ref CR) "number" = some none)
    (na_r_n : PySem.W.findIn K (.ref CR) "n" = some none)
    (na_r_term : PySem.W.findIn K (.ref CR) "term" = some none)
    (na_r_vote : PySem.W.findIn K (.ref CR) "vote" = some none)
    (na_r_log : PySem.W.findIn K (.ref CR) "log" = some none)
    (na_r_settled : PySem.W.findIn K (.ref CR) "settled" = some none)
    (na_r_next_entry : PySem.W.findIn K (.ref CR) "next_entry" = some none)
    (na_r_same : PySem.W.findIn K (.ref CR) "same" = some none)
    (na_r_role : PySem.W.findIn K (.ref CR) "role" = some none)
    (na_r_voters : PySem.W.findIn K (.ref CR) "voters" = some none)
    (n_s : PySem.W.nsIn K mainGlobals "State" = some (some (.ref CS)))
    (pg_s : PySem.W.plainGet K CS Str.empty = true)
    (hd_s : PySem.W.hasDictIn K CS = true)
    (po_s : PySem.W.plainOver K CS = true)
    (sa_s : PySem.W.findIn K (.ref CS) "__setattr__" = some (some (.builtin "object.__setattr__")))
    (mk_s : PySem.W.makesIn K CS = true)
    (kc_s : PySem.W.keepIn K (.ref CS) = true)
    (na_s_replicas : PySem.W.findIn K (.ref CS) "replicas" = some none)
    (na_s_under_way : PySem.W.findIn K (.ref CS) "under_way" = some none)
    (na_s_next_number : PySem.W.findIn K (.ref CS) "next_number" = some none)
    (a_m_init : PySem.W.findIn K (.ref CM) "__init__" = some (some (.ref f_m_init)))
    (i_m_init : PySem.W.isFn K (.ref f_m_init) = true)
    (l_m_init : K.lookup f_m_init = some ⟨oc_m_init, od_m_init, .func (PySem.W.fnOf "__init__" "Message.__init__" (defArgs st_m_init) (defBody st_m_init) (defScope st_m_init) (.ref t_m_init) kV_m_init dc_m_init pm_m_init an_m_init cd_m_init ct_m_init), sl_m_init⟩)
    (c_m_init : PySem.W.codeIn K cd_m_init "Message.__init__" = true)
    (k_m_init : PySem.W.keepIn K (.ref f_m_init) = true)
    (t_l_m_init : K.lookup t_m_init = some ⟨to_m_init, td_m_init, .seq #[.int 0 tk0_m_init, .int 0 tk1_m_init, .int 0 tk2_m_init, .none] tn_m_init, ts_m_init⟩)
    (a_r_init : PySem.W.findIn K (.ref CR) "__init__" = some (some (.ref f_r_init)))
    (i_r_init : PySem.W.isFn K (.ref f_r_init) = true)
    (l_r_init : K.lookup f_r_init = some ⟨oc_r_init, od_r_init, .func (PySem.W.fnOf "__init__" "Replica.__init__" (defArgs st_r_init) (defBody st_r_init) (defScope st_r_init) .none kV_r_init dc_r_init pm_r_init an_r_init cd_r_init ct_r_init), sl_r_init⟩)
    (c_r_init : PySem.W.codeIn K cd_r_init "Replica.__init__" = true)
    (k_r_init : PySem.W.keepIn K (.ref f_r_init) = true)
    (a_r_forget : PySem.W.findIn K (.ref CR) "forget" = some (some (.ref f_r_forget)))
    (i_r_forget : PySem.W.isFn K (.ref f_r_forget) = true)
    (l_r_forget : K.lookup f_r_forget = some ⟨oc_r_forget, od_r_forget, .func (PySem.W.fnOf "forget" "Replica.forget" (defArgs st_r_forget) (defBody st_r_forget) (defScope st_r_forget) .none kV_r_forget dc_r_forget pm_r_forget an_r_forget cd_r_forget ct_r_forget), sl_r_forget⟩)
    (c_r_forget : PySem.W.codeIn K cd_r_forget "Replica.forget" = true)
    (k_r_forget : PySem.W.keepIn K (.ref f_r_forget) = true)
    (a_r_others : PySem.W.findIn K (.ref CR) "others" = some (some (.ref f_r_others)))
    (i_r_others : PySem.W.isFn K (.ref f_r_others) = true)
    (l_r_others : K.lookup f_r_others = some ⟨oc_r_others, od_r_others, .func (PySem.W.fnOf "others" "Replica.others" (defArgs st_r_others) (defBody st_r_others) (defScope st_r_others) .none kV_r_others dc_r_others pm_r_others an_r_others cd_r_others ct_r_others), sl_r_others⟩)
    (c_r_others : PySem.W.codeIn K cd_r_others "Replica.others" = true)
    (k_r_others : PySem.W.keepIn K (.ref f_r_others) = true)
    (a_r_more_than_half : PySem.W.findIn K (.ref CR) "more_than_half" = some (some (.ref f_r_more_than_half)))
    (i_r_more_than_half : PySem.W.isFn K (.ref f_r_more_than_half) = true)
    (l_r_more_than_half : K.lookup f_r_more_than_half = some ⟨oc_r_more_than_half, od_r_more_than_half, .func (PySem.W.fnOf "more_than_half" "Replica.more_than_half" (defArgs st_r_more_than_half) (defBody st_r_more_than_half) (defScope st_r_more_than_half) .none kV_r_more_than_half dc_r_more_than_half pm_r_more_than_half an_r_more_than_half cd_r_more_than_half ct_r_more_than_half), sl_r_more_than_half⟩)
    (c_r_more_than_half : PySem.W.codeIn K cd_r_more_than_half "Replica.more_than_half" = true)
    (k_r_more_than_half : PySem.W.keepIn K (.ref f_r_more_than_half) = true)
    (a_r_term_of_entry : PySem.W.findIn K (.ref CR) "term_of_entry" = some (some (.ref f_r_term_of_entry)))
    (i_r_term_of_entry : PySem.W.isFn K (.ref f_r_term_of_entry) = true)
    (l_r_term_of_entry : K.lookup f_r_term_of_entry = some ⟨oc_r_term_of_entry, od_r_term_of_entry, .func (PySem.W.fnOf "term_of_entry" "Replica.term_of_entry" (defArgs st_r_term_of_entry) (defBody st_r_term_of_entry) (defScope st_r_term_of_entry) .none kV_r_term_of_entry dc_r_term_of_entry pm_r_term_of_entry an_r_term_of_entry cd_r_term_of_entry ct_r_term_of_entry), sl_r_term_of_entry⟩)
    (c_r_term_of_entry : PySem.W.codeIn K cd_r_term_of_entry "Replica.term_of_entry" = true)
    (k_r_term_of_entry : PySem.W.keepIn K (.ref f_r_term_of_entry) = true)
    (a_r_last_term : PySem.W.findIn K (.ref CR) "last_term" = some (some (.ref f_r_last_term)))
    (i_r_last_term : PySem.W.isFn K (.ref f_r_last_term) = true)
    (l_r_last_term : K.lookup f_r_last_term = some ⟨oc_r_last_term, od_r_last_term, .func (PySem.W.fnOf "last_term" "Replica.last_term" (defArgs st_r_last_term) (defBody st_r_last_term) (defScope st_r_last_term) .none kV_r_last_term dc_r_last_term pm_r_last_term an_r_last_term cd_r_last_term ct_r_last_term), sl_r_last_term⟩)
    (c_r_last_term : PySem.W.codeIn K cd_r_last_term "Replica.last_term" = true)
    (k_r_last_term : PySem.W.keepIn K (.ref f_r_last_term) = true)
    (a_r_has_newer_log : PySem.W.findIn K (.ref CR) "has_newer_log" = some (some (.ref f_r_has_newer_log)))
    (i_r_has_newer_log : PySem.W.isFn K (.ref f_r_has_newer_log) = true)
    (l_r_has_newer_log : K.lookup f_r_has_newer_log = some ⟨oc_r_has_newer_log, od_r_has_newer_log, .func (PySem.W.fnOf "has_newer_log" "Replica.has_newer_log" (defArgs st_r_has_newer_log) (defBody st_r_has_newer_log) (defScope st_r_has_newer_log) .none kV_r_has_newer_log dc_r_has_newer_log pm_r_has_newer_log an_r_has_newer_log cd_r_has_newer_log ct_r_has_newer_log), sl_r_has_newer_log⟩)
    (c_r_has_newer_log : PySem.W.codeIn K cd_r_has_newer_log "Replica.has_newer_log" = true)
    (k_r_has_newer_log : PySem.W.keepIn K (.ref f_r_has_newer_log) = true)
    (a_r_stand : PySem.W.findIn K (.ref CR) "stand" = some (some (.ref f_r_stand)))
    (i_r_stand : PySem.W.isFn K (.ref f_r_stand) = true)
    (l_r_stand : K.lookup f_r_stand = some ⟨oc_r_stand, od_r_stand, .func (PySem.W.fnOf "stand" "Replica.stand" (defArgs st_r_stand) (defBody st_r_stand) (defScope st_r_stand) .none kV_r_stand dc_r_stand pm_r_stand an_r_stand cd_r_stand ct_r_stand), sl_r_stand⟩)
    (c_r_stand : PySem.W.codeIn K cd_r_stand "Replica.stand" = true)
    (k_r_stand : PySem.W.keepIn K (.ref f_r_stand) = true)
    (a_r_ask_for_vote : PySem.W.findIn K (.ref CR) "ask_for_vote" = some (some (.ref f_r_ask_for_vote)))
    (i_r_ask_for_vote : PySem.W.isFn K (.ref f_r_ask_for_vote) = true)
    (l_r_ask_for_vote : K.lookup f_r_ask_for_vote = some ⟨oc_r_ask_for_vote, od_r_ask_for_vote, .func (PySem.W.fnOf "ask_for_vote" "Replica.ask_for_vote" (defArgs st_r_ask_for_vote) (defBody st_r_ask_for_vote) (defScope st_r_ask_for_vote) .none kV_r_ask_for_vote dc_r_ask_for_vote pm_r_ask_for_vote an_r_ask_for_vote cd_r_ask_for_vote ct_r_ask_for_vote), sl_r_ask_for_vote⟩)
    (c_r_ask_for_vote : PySem.W.codeIn K cd_r_ask_for_vote "Replica.ask_for_vote" = true)
    (k_r_ask_for_vote : PySem.W.keepIn K (.ref f_r_ask_for_vote) = true)
    (a_r_propose : PySem.W.findIn K (.ref CR) "propose" = some (some (.ref f_r_propose)))
    (i_r_propose : PySem.W.isFn K (.ref f_r_propose) = true)
    (l_r_propose : K.lookup f_r_propose = some ⟨oc_r_propose, od_r_propose, .func (PySem.W.fnOf "propose" "Replica.propose" (defArgs st_r_propose) (defBody st_r_propose) (defScope st_r_propose) .none kV_r_propose dc_r_propose pm_r_propose an_r_propose cd_r_propose ct_r_propose), sl_r_propose⟩)
    (c_r_propose : PySem.W.codeIn K cd_r_propose "Replica.propose" = true)
    (k_r_propose : PySem.W.keepIn K (.ref f_r_propose) = true)
    (a_r_beat : PySem.W.findIn K (.ref CR) "beat" = some (some (.ref f_r_beat)))
    (i_r_beat : PySem.W.isFn K (.ref f_r_beat) = true)
    (l_r_beat : K.lookup f_r_beat = some ⟨oc_r_beat, od_r_beat, .func (PySem.W.fnOf "beat" "Replica.beat" (defArgs st_r_beat) (defBody st_r_beat) (defScope st_r_beat) .none kV_r_beat dc_r_beat pm_r_beat an_r_beat cd_r_beat ct_r_beat), sl_r_beat⟩)
    (c_r_beat : PySem.W.codeIn K cd_r_beat "Replica.beat" = true)
    (k_r_beat : PySem.W.keepIn K (.ref f_r_beat) = true)
    (a_r_send_entries : PySem.W.findIn K (.ref CR) "send_entries" = some (some (.ref f_r_send_entries)))
    (i_r_send_entries : PySem.W.isFn K (.ref f_r_send_entries) = true)
    (l_r_send_entries : K.lookup f_r_send_entries = some ⟨oc_r_send_entries, od_r_send_entries, .func (PySem.W.fnOf "send_entries" "Replica.send_entries" (defArgs st_r_send_entries) (defBody st_r_send_entries) (defScope st_r_send_entries) .none kV_r_send_entries dc_r_send_entries pm_r_send_entries an_r_send_entries cd_r_send_entries ct_r_send_entries), sl_r_send_entries⟩)
    (c_r_send_entries : PySem.W.codeIn K cd_r_send_entries "Replica.send_entries" = true)
    (k_r_send_entries : PySem.W.keepIn K (.ref f_r_send_entries) = true)
    (a_r_hear : PySem.W.findIn K (.ref CR) "hear" = some (some (.ref f_r_hear)))
    (i_r_hear : PySem.W.isFn K (.ref f_r_hear) = true)
    (l_r_hear : K.lookup f_r_hear = some ⟨oc_r_hear, od_r_hear, .func (PySem.W.fnOf "hear" "Replica.hear" (defArgs st_r_hear) (defBody st_r_hear) (defScope st_r_hear) .none kV_r_hear dc_r_hear pm_r_hear an_r_hear cd_r_hear ct_r_hear), sl_r_hear⟩)
    (c_r_hear : PySem.W.codeIn K cd_r_hear "Replica.hear" = true)
    (k_r_hear : PySem.W.keepIn K (.ref f_r_hear) = true)
    (a_r_enter_term : PySem.W.findIn K (.ref CR) "enter_term" = some (some (.ref f_r_enter_term)))
    (i_r_enter_term : PySem.W.isFn K (.ref f_r_enter_term) = true)
    (l_r_enter_term : K.lookup f_r_enter_term = some ⟨oc_r_enter_term, od_r_enter_term, .func (PySem.W.fnOf "enter_term" "Replica.enter_term" (defArgs st_r_enter_term) (defBody st_r_enter_term) (defScope st_r_enter_term) .none kV_r_enter_term dc_r_enter_term pm_r_enter_term an_r_enter_term cd_r_enter_term ct_r_enter_term), sl_r_enter_term⟩)
    (c_r_enter_term : PySem.W.codeIn K cd_r_enter_term "Replica.enter_term" = true)
    (k_r_enter_term : PySem.W.keepIn K (.ref f_r_enter_term) = true)
    (a_r_follow : PySem.W.findIn K (.ref CR) "follow" = some (some (.ref f_r_follow)))
    (i_r_follow : PySem.W.isFn K (.ref f_r_follow) = true)
    (l_r_follow : K.lookup f_r_follow = some ⟨oc_r_follow, od_r_follow, .func (PySem.W.fnOf "follow" "Replica.follow" (defArgs st_r_follow) (defBody st_r_follow) (defScope st_r_follow) .none kV_r_follow dc_r_follow pm_r_follow an_r_follow cd_r_follow ct_r_follow), sl_r_follow⟩)
    (c_r_follow : PySem.W.codeIn K cd_r_follow "Replica.follow" = true)
    (k_r_follow : PySem.W.keepIn K (.ref f_r_follow) = true)
    (a_r_reply : PySem.W.findIn K (.ref CR) "reply" = some (some (.ref f_r_reply)))
    (i_r_reply : PySem.W.isFn K (.ref f_r_reply) = true)
    (l_r_reply : K.lookup f_r_reply = some ⟨oc_r_reply, od_r_reply, .func (PySem.W.fnOf "reply" "Replica.reply" (defArgs st_r_reply) (defBody st_r_reply) (defScope st_r_reply) (.ref t_r_reply) kV_r_reply dc_r_reply pm_r_reply an_r_reply cd_r_reply ct_r_reply), sl_r_reply⟩)
    (c_r_reply : PySem.W.codeIn K cd_r_reply "Replica.reply" = true)
    (k_r_reply : PySem.W.keepIn K (.ref f_r_reply) = true)
    (t_l_r_reply : K.lookup t_r_reply = some ⟨to_r_reply, td_r_reply, .seq #[.int 0 tk0_r_reply] tn_r_reply, ts_r_reply⟩)
    (a_r_hear_vote_for_me : PySem.W.findIn K (.ref CR) "hear_vote_for_me" = some (some (.ref f_r_hear_vote_for_me)))
    (i_r_hear_vote_for_me : PySem.W.isFn K (.ref f_r_hear_vote_for_me) = true)
    (l_r_hear_vote_for_me : K.lookup f_r_hear_vote_for_me = some ⟨oc_r_hear_vote_for_me, od_r_hear_vote_for_me, .func (PySem.W.fnOf "hear_vote_for_me" "Replica.hear_vote_for_me" (defArgs st_r_hear_vote_for_me) (defBody st_r_hear_vote_for_me) (defScope st_r_hear_vote_for_me) .none kV_r_hear_vote_for_me dc_r_hear_vote_for_me pm_r_hear_vote_for_me an_r_hear_vote_for_me cd_r_hear_vote_for_me ct_r_hear_vote_for_me), sl_r_hear_vote_for_me⟩)
    (c_r_hear_vote_for_me : PySem.W.codeIn K cd_r_hear_vote_for_me "Replica.hear_vote_for_me" = true)
    (k_r_hear_vote_for_me : PySem.W.keepIn K (.ref f_r_hear_vote_for_me) = true)
    (a_r_hear_about_vote : PySem.W.findIn K (.ref CR) "hear_about_vote" = some (some (.ref f_r_hear_about_vote)))
    (i_r_hear_about_vote : PySem.W.isFn K (.ref f_r_hear_about_vote) = true)
    (l_r_hear_about_vote : K.lookup f_r_hear_about_vote = some ⟨oc_r_hear_about_vote, od_r_hear_about_vote, .func (PySem.W.fnOf "hear_about_vote" "Replica.hear_about_vote" (defArgs st_r_hear_about_vote) (defBody st_r_hear_about_vote) (defScope st_r_hear_about_vote) .none kV_r_hear_about_vote dc_r_hear_about_vote pm_r_hear_about_vote an_r_hear_about_vote cd_r_hear_about_vote ct_r_hear_about_vote), sl_r_hear_about_vote⟩)
    (c_r_hear_about_vote : PySem.W.codeIn K cd_r_hear_about_vote "Replica.hear_about_vote" = true)
    (k_r_hear_about_vote : PySem.W.keepIn K (.ref f_r_hear_about_vote) = true)
    (a_r_lead : PySem.W.findIn K (.ref CR) "lead" = some (some (.ref f_r_lead)))
    (i_r_lead : PySem.W.isFn K (.ref f_r_lead) = true)
    (l_r_lead : K.lookup f_r_lead = some ⟨oc_r_lead, od_r_lead, .func (PySem.W.fnOf "lead" "Replica.lead" (defArgs st_r_lead) (defBody st_r_lead) (defScope st_r_lead) .none kV_r_lead dc_r_lead pm_r_lead an_r_lead cd_r_lead ct_r_lead), sl_r_lead⟩)
    (c_r_lead : PySem.W.codeIn K cd_r_lead "Replica.lead" = true)
    (k_r_lead : PySem.W.keepIn K (.ref f_r_lead) = true)
    (a_r_hear_have_these : PySem.W.findIn K (.ref CR) "hear_have_these" = some (some (.ref f_r_hear_have_these)))
    (i_r_hear_have_these : PySem.W.isFn K (.ref f_r_hear_have_these) = true)
    (l_r_hear_have_these : K.lookup f_r_hear_have_these = some ⟨oc_r_hear_have_these, od_r_hear_have_these, .func (PySem.W.fnOf "hear_have_these" "Replica.hear_have_these" (defArgs st_r_hear_have_these) (defBody st_r_hear_have_these) (defScope st_r_hear_have_these) .none kV_r_hear_have_these dc_r_hear_have_these pm_r_hear_have_these an_r_hear_have_these cd_r_hear_have_these ct_r_hear_have_these), sl_r_hear_have_these⟩)
    (c_r_hear_have_these : PySem.W.codeIn K cd_r_hear_have_these "Replica.hear_have_these" = true)
    (k_r_hear_have_these : PySem.W.keepIn K (.ref f_r_hear_have_these) = true)
    (a_r_take_entries : PySem.W.findIn K (.ref CR) "take_entries" = some (some (.ref f_r_take_entries)))
    (i_r_take_entries : PySem.W.isFn K (.ref f_r_take_entries) = true)
    (l_r_take_entries : K.lookup f_r_take_entries = some ⟨oc_r_take_entries, od_r_take_entries, .func (PySem.W.fnOf "take_entries" "Replica.take_entries" (defArgs st_r_take_entries) (defBody st_r_take_entries) (defScope st_r_take_entries) .none kV_r_take_entries dc_r_take_entries pm_r_take_entries an_r_take_entries cd_r_take_entries ct_r_take_entries), sl_r_take_entries⟩)
    (c_r_take_entries : PySem.W.codeIn K cd_r_take_entries "Replica.take_entries" = true)
    (k_r_take_entries : PySem.W.keepIn K (.ref f_r_take_entries) = true)
    (a_r_hear_about_entries : PySem.W.findIn K (.ref CR) "hear_about_entries" = some (some (.ref f_r_hear_about_entries)))
    (i_r_hear_about_entries : PySem.W.isFn K (.ref f_r_hear_about_entries) = true)
    (l_r_hear_about_entries : K.lookup f_r_hear_about_entries = some ⟨oc_r_hear_about_entries, od_r_hear_about_entries, .func (PySem.W.fnOf "hear_about_entries" "Replica.hear_about_entries" (defArgs st_r_hear_about_entries) (defBody st_r_hear_about_entries) (defScope st_r_hear_about_entries) .none kV_r_hear_about_entries dc_r_hear_about_entries pm_r_hear_about_entries an_r_hear_about_entries cd_r_hear_about_entries ct_r_hear_about_entries), sl_r_hear_about_entries⟩)
    (c_r_hear_about_entries : PySem.W.codeIn K cd_r_hear_about_entries "Replica.hear_about_entries" = true)
    (k_r_hear_about_entries : PySem.W.keepIn K (.ref f_r_hear_about_entries) = true)
    (a_r_settle : PySem.W.findIn K (.ref CR) "settle" = some (some (.ref f_r_settle)))
    (i_r_settle : PySem.W.isFn K (.ref f_r_settle) = true)
    (l_r_settle : K.lookup f_r_settle = some ⟨oc_r_settle, od_r_settle, .func (PySem.W.fnOf "settle" "Replica.settle" (defArgs st_r_settle) (defBody st_r_settle) (defScope st_r_settle) .none kV_r_settle dc_r_settle pm_r_settle an_r_settle cd_r_settle ct_r_settle), sl_r_settle⟩)
    (c_r_settle : PySem.W.codeIn K cd_r_settle "Replica.settle" = true)
    (k_r_settle : PySem.W.keepIn K (.ref f_r_settle) = true)
    (a_r_how_many_have : PySem.W.findIn K (.ref CR) "how_many_have" = some (some (.ref f_r_how_many_have)))
    (i_r_how_many_have : PySem.W.isFn K (.ref f_r_how_many_have) = true)
    (l_r_how_many_have : K.lookup f_r_how_many_have = some ⟨oc_r_how_many_have, od_r_how_many_have, .func (PySem.W.fnOf "how_many_have" "Replica.how_many_have" (defArgs st_r_how_many_have) (defBody st_r_how_many_have) (defScope st_r_how_many_have) .none kV_r_how_many_have dc_r_how_many_have pm_r_how_many_have an_r_how_many_have cd_r_how_many_have ct_r_how_many_have), sl_r_how_many_have⟩)
    (c_r_how_many_have : PySem.W.codeIn K cd_r_how_many_have "Replica.how_many_have" = true)
    (k_r_how_many_have : PySem.W.keepIn K (.ref f_r_how_many_have) = true)
    (a_c_begin : PySem.W.nsIn K mainGlobals "begin" = some (some (.ref f_c_begin)))
    (l_c_begin : K.lookup f_c_begin = some ⟨oc_c_begin, od_c_begin, .func (PySem.W.fnOf "begin" "begin" (defArgs st_c_begin) (defBody st_c_begin) (defScope st_c_begin) .none kV_c_begin dc_c_begin pm_c_begin an_c_begin cd_c_begin ct_c_begin), sl_c_begin⟩)
    (c_c_begin : PySem.W.codeIn K cd_c_begin "begin" = true)
    (k_c_begin : PySem.W.keepIn K (.ref f_c_begin) = true)
    (a_c_stand : PySem.W.nsIn K mainGlobals "stand" = some (some (.ref f_c_stand)))
    (l_c_stand : K.lookup f_c_stand = some ⟨oc_c_stand, od_c_stand, .func (PySem.W.fnOf "stand" "stand" (defArgs st_c_stand) (defBody st_c_stand) (defScope st_c_stand) .none kV_c_stand dc_c_stand pm_c_stand an_c_stand cd_c_stand ct_c_stand), sl_c_stand⟩)
    (c_c_stand : PySem.W.codeIn K cd_c_stand "stand" = true)
    (k_c_stand : PySem.W.keepIn K (.ref f_c_stand) = true)
    (a_c_propose : PySem.W.nsIn K mainGlobals "propose" = some (some (.ref f_c_propose)))
    (l_c_propose : K.lookup f_c_propose = some ⟨oc_c_propose, od_c_propose, .func (PySem.W.fnOf "propose" "propose" (defArgs st_c_propose) (defBody st_c_propose) (defScope st_c_propose) .none kV_c_propose dc_c_propose pm_c_propose an_c_propose cd_c_propose ct_c_propose), sl_c_propose⟩)
    (c_c_propose : PySem.W.codeIn K cd_c_propose "propose" = true)
    (k_c_propose : PySem.W.keepIn K (.ref f_c_propose) = true)
    (a_c_beat : PySem.W.nsIn K mainGlobals "beat" = some (some (.ref f_c_beat)))
    (l_c_beat : K.lookup f_c_beat = some ⟨oc_c_beat, od_c_beat, .func (PySem.W.fnOf "beat" "beat" (defArgs st_c_beat) (defBody st_c_beat) (defScope st_c_beat) .none kV_c_beat dc_c_beat pm_c_beat an_c_beat cd_c_beat ct_c_beat), sl_c_beat⟩)
    (c_c_beat : PySem.W.codeIn K cd_c_beat "beat" = true)
    (k_c_beat : PySem.W.keepIn K (.ref f_c_beat) = true)
    (a_c_deliver : PySem.W.nsIn K mainGlobals "deliver" = some (some (.ref f_c_deliver)))
    (l_c_deliver : K.lookup f_c_deliver = some ⟨oc_c_deliver, od_c_deliver, .func (PySem.W.fnOf "deliver" "deliver" (defArgs st_c_deliver) (defBody st_c_deliver) (defScope st_c_deliver) .none kV_c_deliver dc_c_deliver pm_c_deliver an_c_deliver cd_c_deliver ct_c_deliver), sl_c_deliver⟩)
    (c_c_deliver : PySem.W.codeIn K cd_c_deliver "deliver" = true)
    (k_c_deliver : PySem.W.keepIn K (.ref f_c_deliver) = true)
    (a_c_lose : PySem.W.nsIn K mainGlobals "lose" = some (some (.ref f_c_lose)))
    (l_c_lose : K.lookup f_c_lose = some ⟨oc_c_lose, od_c_lose, .func (PySem.W.fnOf "lose" "lose" (defArgs st_c_lose) (defBody st_c_lose) (defScope st_c_lose) .none kV_c_lose dc_c_lose pm_c_lose an_c_lose cd_c_lose ct_c_lose), sl_c_lose⟩)
    (c_c_lose : PySem.W.codeIn K cd_c_lose "lose" = true)
    (k_c_lose : PySem.W.keepIn K (.ref f_c_lose) = true)
    (a_c_copy : PySem.W.nsIn K mainGlobals "copy" = some (some (.ref f_c_copy)))
    (l_c_copy : K.lookup f_c_copy = some ⟨oc_c_copy, od_c_copy, .func (PySem.W.fnOf "copy" "copy" (defArgs st_c_copy) (defBody st_c_copy) (defScope st_c_copy) .none kV_c_copy dc_c_copy pm_c_copy an_c_copy cd_c_copy ct_c_copy), sl_c_copy⟩)
    (c_c_copy : PySem.W.codeIn K cd_c_copy "copy" = true)
    (k_c_copy : PySem.W.keepIn K (.ref f_c_copy) = true)
    (a_c_crash : PySem.W.nsIn K mainGlobals "crash" = some (some (.ref f_c_crash)))
    (l_c_crash : K.lookup f_c_crash = some ⟨oc_c_crash, od_c_crash, .func (PySem.W.fnOf "crash" "crash" (defArgs st_c_crash) (defBody st_c_crash) (defScope st_c_crash) .none kV_c_crash dc_c_crash pm_c_crash an_c_crash cd_c_crash ct_c_crash), sl_c_crash⟩)
    (c_c_crash : PySem.W.codeIn K cd_c_crash "crash" = true)
    (k_c_crash : PySem.W.keepIn K (.ref f_c_crash) = true)
    (a_c_look : PySem.W.nsIn K mainGlobals "look" = some (some (.ref f_c_look)))
    (l_c_look : K.lookup f_c_look = some ⟨oc_c_look, od_c_look, .func (PySem.W.fnOf "look" "look" (defArgs st_c_look) (defBody st_c_look) (defScope st_c_look) .none kV_c_look dc_c_look pm_c_look an_c_look cd_c_look ct_c_look), sl_c_look⟩)
    (c_c_look : PySem.W.codeIn K cd_c_look "look" = true)
    (k_c_look : PySem.W.keepIn K (.ref f_c_look) = true)
    (a_c_log : PySem.W.nsIn K mainGlobals "log" = some (some (.ref f_c_log)))
    (l_c_log : K.lookup f_c_log = some ⟨oc_c_log, od_c_log, .func (PySem.W.fnOf "log" "log" (defArgs st_c_log) (defBody st_c_log) (defScope st_c_log) .none kV_c_log dc_c_log pm_c_log an_c_log cd_c_log ct_c_log), sl_c_log⟩)
    (c_c_log : PySem.W.codeIn K cd_c_log "log" = true)
    (k_c_log : PySem.W.keepIn K (.ref f_c_log) = true)
    (a_c_settled : PySem.W.nsIn K mainGlobals "settled" = some (some (.ref f_c_settled)))
    (l_c_settled : K.lookup f_c_settled = some ⟨oc_c_settled, od_c_settled, .func (PySem.W.fnOf "settled" "settled" (defArgs st_c_settled) (defBody st_c_settled) (defScope st_c_settled) .none kV_c_settled dc_c_settled pm_c_settled an_c_settled cd_c_settled ct_c_settled), sl_c_settled⟩)
    (c_c_settled : PySem.W.codeIn K cd_c_settled "settled" = true)
    (k_c_settled : PySem.W.keepIn K (.ref f_c_settled) = true)
    (a_c_net : PySem.W.nsIn K mainGlobals "net" = some (some (.ref f_c_net)))
    (l_c_net : K.lookup f_c_net = some ⟨oc_c_net, od_c_net, .func (PySem.W.fnOf "net" "net" (defArgs st_c_net) (defBody st_c_net) (defScope st_c_net) .none kV_c_net dc_c_net pm_c_net an_c_net cd_c_net ct_c_net), sl_c_net⟩)
    (c_c_net : PySem.W.codeIn K cd_c_net "net" = true)
    (k_c_net : PySem.W.keepIn K (.ref f_c_net) = true)
    (a_c_message : PySem.W.nsIn K mainGlobals "message" = some (some (.ref f_c_message)))
    (l_c_message : K.lookup f_c_message = some ⟨oc_c_message, od_c_message, .func (PySem.W.fnOf "message" "message" (defArgs st_c_message) (defBody st_c_message) (defScope st_c_message) .none kV_c_message dc_c_message pm_c_message an_c_message cd_c_message ct_c_message), sl_c_message⟩)
    (c_c_message : PySem.W.codeIn K cd_c_message "message" = true)
    (k_c_message : PySem.W.keepIn K (.ref f_c_message) = true)
    (a_c_with_lists : PySem.W.nsIn K mainGlobals "with_lists" = some (some (.ref f_c_with_lists)))
    (l_c_with_lists : K.lookup f_c_with_lists = some ⟨oc_c_with_lists, od_c_with_lists, .func (PySem.W.fnOf "with_lists" "with_lists" (defArgs st_c_with_lists) (defBody st_c_with_lists) (defScope st_c_with_lists) .none kV_c_with_lists dc_c_with_lists pm_c_with_lists an_c_with_lists cd_c_with_lists ct_c_with_lists), sl_c_with_lists⟩)
    (c_c_with_lists : PySem.W.codeIn K cd_c_with_lists "with_lists" = true)
    (k_c_with_lists : PySem.W.keepIn K (.ref f_c_with_lists) = true)
    (a_c_tell_entries : PySem.W.nsIn K mainGlobals "tell_entries" = some (some (.ref f_c_tell_entries)))
    (l_c_tell_entries : K.lookup f_c_tell_entries = some ⟨oc_c_tell_entries, od_c_tell_entries, .func (PySem.W.fnOf "tell_entries" "tell_entries" (defArgs st_c_tell_entries) (defBody st_c_tell_entries) (defScope st_c_tell_entries) .none kV_c_tell_entries dc_c_tell_entries pm_c_tell_entries an_c_tell_entries cd_c_tell_entries ct_c_tell_entries), sl_c_tell_entries⟩)
    (c_c_tell_entries : PySem.W.codeIn K cd_c_tell_entries "tell_entries" = true)
    (k_c_tell_entries : PySem.W.keepIn K (.ref f_c_tell_entries) = true)
    (a_c_terms_and_values : PySem.W.nsIn K mainGlobals "terms_and_values" = some (some (.ref f_c_terms_and_values)))
    (l_c_terms_and_values : K.lookup f_c_terms_and_values = some ⟨oc_c_terms_and_values, od_c_terms_and_values, .func (PySem.W.fnOf "terms_and_values" "terms_and_values" (defArgs st_c_terms_and_values) (defBody st_c_terms_and_values) (defScope st_c_terms_and_values) .none kV_c_terms_and_values dc_c_terms_and_values pm_c_terms_and_values an_c_terms_and_values cd_c_terms_and_values ct_c_terms_and_values), sl_c_terms_and_values⟩)
    (c_c_terms_and_values : PySem.W.codeIn K cd_c_terms_and_values "terms_and_values" = true)
    (k_c_terms_and_values : PySem.W.keepIn K (.ref f_c_terms_and_values) = true)
    (a_c_how_many_numbers : PySem.W.nsIn K mainGlobals "how_many_numbers" = some (some (.ref f_c_how_many_numbers)))
    (l_c_how_many_numbers : K.lookup f_c_how_many_numbers = some ⟨oc_c_how_many_numbers, od_c_how_many_numbers, .func (PySem.W.fnOf "how_many_numbers" "how_many_numbers" (defArgs st_c_how_many_numbers) (defBody st_c_how_many_numbers) (defScope st_c_how_many_numbers) .none kV_c_how_many_numbers dc_c_how_many_numbers pm_c_how_many_numbers an_c_how_many_numbers cd_c_how_many_numbers ct_c_how_many_numbers), sl_c_how_many_numbers⟩)
    (c_c_how_many_numbers : PySem.W.codeIn K cd_c_how_many_numbers "how_many_numbers" = true)
    (k_c_how_many_numbers : PySem.W.keepIn K (.ref f_c_how_many_numbers) = true)
    (a_c_answer : PySem.W.nsIn K mainGlobals "answer" = some (some (.ref f_c_answer)))
    (l_c_answer : K.lookup f_c_answer = some ⟨oc_c_answer, od_c_answer, .func (PySem.W.fnOf "answer" "answer" (defArgs st_c_answer) (defBody st_c_answer) (defScope st_c_answer) .none kV_c_answer dc_c_answer pm_c_answer an_c_answer cd_c_answer ct_c_answer), sl_c_answer⟩)
    (c_c_answer : PySem.W.codeIn K cd_c_answer "answer" = true)
    (k_c_answer : PySem.W.keepIn K (.ref f_c_answer) = true)
    (a_s_init : PySem.W.findIn K (.ref CS) "__init__" = some (some (.ref f_s_init)))
    (i_s_init : PySem.W.isFn K (.ref f_s_init) = true)
    (l_s_init : K.lookup f_s_init = some ⟨oc_s_init, od_s_init, .func (PySem.W.fnOf "__init__" "State.__init__" (defArgs st_s_init) (defBody st_s_init) (defScope st_s_init) .none kV_s_init dc_s_init pm_s_init an_s_init cd_s_init ct_s_init), sl_s_init⟩)
    (c_s_init : PySem.W.codeIn K cd_s_init "State.__init__" = true)
    (k_s_init : PySem.W.keepIn K (.ref f_s_init) = true)
    (a_s_start : PySem.W.findIn K (.ref CS) "start" = some (some (.ref f_s_start)))
    (i_s_start : PySem.W.isFn K (.ref f_s_start) = true)
    (l_s_start : K.lookup f_s_start = some ⟨oc_s_start, od_s_start, .func (PySem.W.fnOf "start" "State.start" (defArgs st_s_start) (defBody st_s_start) (defScope st_s_start) .none kV_s_start dc_s_start pm_s_start an_s_start cd_s_start ct_s_start), sl_s_start⟩)
    (c_s_start : PySem.W.codeIn K cd_s_start "State.start" = true)
    (k_s_start : PySem.W.keepIn K (.ref f_s_start) = true)
    (a_s_has_replica : PySem.W.findIn K (.ref CS) "has_replica" = some (some (.ref f_s_has_replica)))
    (i_s_has_replica : PySem.W.isFn K (.ref f_s_has_replica) = true)
    (l_s_has_replica : K.lookup f_s_has_replica = some ⟨oc_s_has_replica, od_s_has_replica, .func (PySem.W.fnOf "has_replica" "State.has_replica" (defArgs st_s_has_replica) (defBody st_s_has_replica) (defScope st_s_has_replica) .none kV_s_has_replica dc_s_has_replica pm_s_has_replica an_s_has_replica cd_s_has_replica ct_s_has_replica), sl_s_has_replica⟩)
    (c_s_has_replica : PySem.W.codeIn K cd_s_has_replica "State.has_replica" = true)
    (k_s_has_replica : PySem.W.keepIn K (.ref f_s_has_replica) = true)
    (a_s_has_room_for : PySem.W.findIn K (.ref CS) "has_room_for" = some (some (.ref f_s_has_room_for)))
    (i_s_has_room_for : PySem.W.isFn K (.ref f_s_has_room_for) = true)
    (l_s_has_room_for : K.lookup f_s_has_room_for = some ⟨oc_s_has_room_for, od_s_has_room_for, .func (PySem.W.fnOf "has_room_for" "State.has_room_for" (defArgs st_s_has_room_for) (defBody st_s_has_room_for) (defScope st_s_has_room_for) .none kV_s_has_room_for dc_s_has_room_for pm_s_has_room_for an_s_has_room_for cd_s_has_room_for ct_s_has_room_for), sl_s_has_room_for⟩)
    (c_s_has_room_for : PySem.W.codeIn K cd_s_has_room_for "State.has_room_for" = true)
    (k_s_has_room_for : PySem.W.keepIn K (.ref f_s_has_room_for) = true)
    (a_s_how_many_others : PySem.W.findIn K (.ref CS) "how_many_others" = some (some (.ref f_s_how_many_others)))
    (i_s_how_many_others : PySem.W.isFn K (.ref f_s_how_many_others) = true)
    (l_s_how_many_others : K.lookup f_s_how_many_others = some ⟨oc_s_how_many_others, od_s_how_many_others, .func (PySem.W.fnOf "how_many_others" "State.how_many_others" (defArgs st_s_how_many_others) (defBody st_s_how_many_others) (defScope st_s_how_many_others) .none kV_s_how_many_others dc_s_how_many_others pm_s_how_many_others an_s_how_many_others cd_s_how_many_others ct_s_how_many_others), sl_s_how_many_others⟩)
    (c_s_how_many_others : PySem.W.codeIn K cd_s_how_many_others "State.how_many_others" = true)
    (k_s_how_many_others : PySem.W.keepIn K (.ref f_s_how_many_others) = true)
    (a_s_say : PySem.W.findIn K (.ref CS) "say" = some (some (.ref f_s_say)))
    (i_s_say : PySem.W.isFn K (.ref f_s_say) = true)
    (l_s_say : K.lookup f_s_say = some ⟨oc_s_say, od_s_say, .func (PySem.W.fnOf "say" "State.say" (defArgs st_s_say) (defBody st_s_say) (defScope st_s_say) .none kV_s_say dc_s_say pm_s_say an_s_say cd_s_say ct_s_say), sl_s_say⟩)
    (c_s_say : PySem.W.codeIn K cd_s_say "State.say" = true)
    (k_s_say : PySem.W.keepIn K (.ref f_s_say) = true)
    (a_s_say_all : PySem.W.findIn K (.ref CS) "say_all" = some (some (.ref f_s_say_all)))
    (i_s_say_all : PySem.W.isFn K (.ref f_s_say_all) = true)
    (l_s_say_all : K.lookup f_s_say_all = some ⟨oc_s_say_all, od_s_say_all, .func (PySem.W.fnOf "say_all" "State.say_all" (defArgs st_s_say_all) (defBody st_s_say_all) (defScope st_s_say_all) .none kV_s_say_all dc_s_say_all pm_s_say_all an_s_say_all cd_s_say_all ct_s_say_all), sl_s_say_all⟩)
    (c_s_say_all : PySem.W.codeIn K cd_s_say_all "State.say_all" = true)
    (k_s_say_all : PySem.W.keepIn K (.ref f_s_say_all) = true)
    (a_c_answers : PySem.W.nsIn K mainGlobals "answers" = some (some (.ref f_c_answers)))
    (l_c_answers : K.lookup f_c_answers = some ⟨oc_c_answers, od_c_answers, .func (PySem.W.fnOf "answers" "answers" (defArgs st_c_answers) (defBody st_c_answers) (defScope st_c_answers) .none kV_c_answers dc_c_answers pm_c_answers an_c_answers cd_c_answers ct_c_answers), sl_c_answers⟩)
    (c_c_answers : PySem.W.codeIn K cd_c_answers "answers" = true)
    (k_c_answers : PySem.W.keepIn K (.ref f_c_answers) = true)
    (g_VOTE_FOR_ME : PySem.W.nsIn K mainGlobals "VOTE_FOR_ME" = some (some (.int 0 tk_VOTE_FOR_ME)))
    (g_ABOUT_VOTE : PySem.W.nsIn K mainGlobals "ABOUT_VOTE" = some (some (.int 1 tk_ABOUT_VOTE)))
    (g_HAVE_THESE : PySem.W.nsIn K mainGlobals "HAVE_THESE" = some (some (.int 2 tk_HAVE_THESE)))
    (g_ABOUT_ENTRIES : PySem.W.nsIn K mainGlobals "ABOUT_ENTRIES" = some (some (.int 3 tk_ABOUT_ENTRIES)))
    (g_FOLLOWS : PySem.W.nsIn K mainGlobals "FOLLOWS" = some (some (.int 0 tk_FOLLOWS)))
    (g_STANDS : PySem.W.nsIn K mainGlobals "STANDS" = some (some (.int 1 tk_STANDS)))
    (g_LEADS : PySem.W.nsIn K mainGlobals "LEADS" = some (some (.int 2 tk_LEADS)))
    (g_MOST_ENTRIES_SENT : PySem.W.nsIn K mainGlobals "MOST_ENTRIES_SENT" = some (some (.int 4 tk_MOST_ENTRIES_SENT)))
    (g_BAD_NUMBER : PySem.W.nsIn K mainGlobals "BAD_NUMBER" = some (some (.int (-1) tk_BAD_NUMBER)))
    (g_NOT_IN_THIS_ROLE : PySem.W.nsIn K mainGlobals "NOT_IN_THIS_ROLE" = some (some (.int (-3) tk_NOT_IN_THIS_ROLE)))
    (g_NOT_THERE : PySem.W.nsIn K mainGlobals "NOT_THERE" = some (some (.int (-4) tk_NOT_THERE)))
    (g_NO_ROOM : PySem.W.nsIn K mainGlobals "NO_ROOM" = some (some (.int (-6) tk_NO_ROOM)))
    (g_MOST_VALUE : PySem.W.nsIn K mainGlobals "MOST_VALUE" = some (some (.int 4294967295 tk_MOST_VALUE)))
    (g_MOST_TERM : PySem.W.nsIn K mainGlobals "MOST_TERM" = some (some (.int 65535 tk_MOST_TERM)))
    (g_MOST_ENTRIES : PySem.W.nsIn K mainGlobals "MOST_ENTRIES" = some (some (.int 32 tk_MOST_ENTRIES)))
    (g_MOST_UNDER_WAY : PySem.W.nsIn K mainGlobals "MOST_UNDER_WAY" = some (some (.int 64 tk_MOST_UNDER_WAY)))
    (b_len : PySem.W.nsIn K mainGlobals "len" = some none)
    (b_max : PySem.W.nsIn K mainGlobals "max" = some none)
    (b_enumerate : PySem.W.nsIn K mainGlobals "enumerate" = some none)
    (b_range : PySem.W.nsIn K mainGlobals "range" = some none)
    (b_tuple : PySem.W.nsIn K mainGlobals "tuple" = some none)
    (b_min : PySem.W.nsIn K mainGlobals "min" = some none)
    (b_list : PySem.W.nsIn K mainGlobals "list" = some none)
    (a_rc : PySem.W.nsIn K mainGlobals "REPLICA_COUNTS" = some (some (.ref rc)))
    (l_rc : K.lookup rc = some ⟨.type "tuple", rcd, .seq #[.int 3 tk3, .int 5 tk5] rcn, rcs⟩)
    (a_d0 : PySem.W.nsIn K mainGlobals "CALLS_OF_NO_NUMBER" = some (some (.ref d0)))
    (l_d0 : K.lookup d0 = some ⟨.type "dict", none, .dict es_d0 ep_d0, #[]⟩)
    (s_d0 : (d0 == sysModules) = false)
    (p_d0 : ∀ (P : Program) (w : World), Pairs (PySem.intKind P w) es_d0.toList (([(11, f_c_net)] : List (Int × Addr)).map fun z => (z.1, Value.ref z.2)))
    (q_d0 : ∀ (P : Program) (w : World), PySem.KeysOf (PySem.intKind P w) es_d0)
    (a_d1 : PySem.W.nsIn K mainGlobals "CALLS_OF_ONE_NUMBER" = some (some (.ref d1)))
    (l_d1 : K.lookup d1 = some ⟨.type "dict", none, .dict es_d1 ep_d1, #[]⟩)
    (s_d1 : (d1 == sysModules) = false)
    (p_d1 : ∀ (P : Program) (w : World), Pairs (PySem.intKind P w) es_d1.toList (([(0, f_c_begin), (1, f_c_stand), (3, f_c_beat), (4, f_c_deliver), (5, f_c_lose), (6, f_c_copy), (7, f_c_crash), (8, f_c_look), (9, f_c_log), (10, f_c_settled), (12, f_c_message)] : List (Int × Addr)).map fun z => (z.1, Value.ref z.2)))
    (q_d1 : ∀ (P : Program) (w : World), PySem.KeysOf (PySem.intKind P w) es_d1)
    (a_d2 : PySem.W.nsIn K mainGlobals "CALLS_OF_TWO_NUMBERS" = some (some (.ref d2)))
    (l_d2 : K.lookup d2 = some ⟨.type "dict", none, .dict es_d2 ep_d2, #[]⟩)
    (s_d2 : (d2 == sysModules) = false)
    (p_d2 : ∀ (P : Program) (w : World), Pairs (PySem.intKind P w) es_d2.toList (([(2, f_c_propose)] : List (Int × Addr)).map fun z => (z.1, Value.ref z.2)))
    (q_d2 : ∀ (P : Program) (w : World), PySem.KeysOf (PySem.intKind P w) es_d2) :
    ∃ fd : FuncData, (∀ (s : Shared) (us : List Value), us.length = (["calls"] : List Str).length → BindsTo s fd ⟨us, []⟩ ((["calls"] : List Str).zip us)) ∧ ∀ base : Heap, K.In base → base.Ns mainGlobals mg → FnOk P w K mg base CX0 8 fa fd ["calls"] (spAns K) := by
  have e := hfa.symm.trans (PySem.W.mg_of X G a_c_answers)
  cases e
  let T : Tx K mg := {
    CM := CM,
    cl_m := ⟨pg_m, hd_m, po_m, sa_m⟩,
    mg_m := PySem.W.mg_of X G n_m,
    na_m_kind := na_m_kind,
    na_m_sender := na_m_sender,
    na_m_receiver := na_m_receiver,
    na_m_term := na_m_term,
    na_m_a := na_m_a,
    na_m_b := na_m_b,
    na_m_c := na_m_c,
    na_m_entries := na_m_entries,
    CR := CR,
    cl_r := ⟨pg_r, hd_r, po_r, sa_r⟩,
    mg_r := PySem.W.mg_of X G n_r,
    na_r_number := na_r_number,
    na_r_n := na_r_n,
    na_r_term := na_r_term,
    na_r_vote := na_r_vote,
    na_r_log := na_r_log,
    na_r_settled := na_r_settled,
    na_r_next_entry := na_r_next_entry,
    na_r_same := na_r_same,
    na_r_role := na_r_role,
    na_r_voters := na_r_voters,
    CS := CS,
    cl_s := ⟨pg_s, hd_s, po_s, sa_s⟩,
    mg_s := PySem.W.mg_of X G n_s,
    na_s_replicas := na_s_replicas,
    na_s_under_way := na_s_under_way,
    na_s_next_number := na_s_next_number,
    a_m_init := f_m_init,
    d_m_init := _,
    v_m_init := _,
    F_m_init := fund_mk (st := st_m_init) l_m_init c_m_init k_m_init,
    B_m_init := (fund_mk (st := st_m_init) l_m_init c_m_init k_m_init).bindsD t_l_m_init rfl 9 rfl fun _ _ _ _ _ _ us hl => match us, hl with | [_, _, _, _, _, _, _, _, _], _ => ⟨_, rfl, rfl⟩,
    K_m_init := ⟨mk_m, a_m_init, i_m_init, kc_m⟩,
    a_r_init := f_r_init,
    d_r_init := _,
    F_r_init := fund_mk (st := st_r_init) l_r_init c_r_init k_r_init,
    B_r_init := (fund_mk (st := st_r_init) l_r_init c_r_init k_r_init).binds fun _ _ _ _ _ _ us hl => match us, hl with | [_, _, _], _ => rfl,
    K_r_init := ⟨mk_r, a_r_init, i_r_init, kc_r⟩,
    a_r_forget := f_r_forget,
    d_r_forget := _,
    F_r_forget := fund_mk (st := st_r_forget) l_r_forget c_r_forget k_r_forget,
    B_r_forget := (fund_mk (st := st_r_forget) l_r_forget c_r_forget k_r_forget).binds fun _ _ _ _ _ _ us hl => match us, hl with | [_], _ => rfl,
    M_r_forget := ⟨a_r_forget, i_r_forget, k_r_forget⟩,
    a_r_others := f_r_others,
    d_r_others := _,
    F_r_others := fund_mk (st := st_r_others) l_r_others c_r_others k_r_others,
    B_r_others := (fund_mk (st := st_r_others) l_r_others c_r_others k_r_others).binds fun _ _ _ _ _ _ us hl => match us, hl with | [_], _ => rfl,
    M_r_others := ⟨a_r_others, i_r_others, k_r_others⟩,
    a_r_more_than_half := f_r_more_than_half,
    d_r_more_than_half := _,
    F_r_more_than_half := fund_mk (st := st_r_more_than_half) l_r_more_than_half c_r_more_than_half k_r_more_than_half,
    B_r_more_than_half := (fund_mk (st := st_r_more_than_half) l_r_more_than_half c_r_more_than_half k_r_more_than_half).binds fun _ _ _ _ _ _ us hl => match us, hl with | [_, _], _ => rfl,
    M_r_more_than_half := ⟨a_r_more_than_half, i_r_more_than_half, k_r_more_than_half⟩,
    a_r_term_of_entry := f_r_term_of_entry,
    d_r_term_of_entry := _,
    F_r_term_of_entry := fund_mk (st := st_r_term_of_entry) l_r_term_of_entry c_r_term_of_entry k_r_term_of_entry,
    B_r_term_of_entry := (fund_mk (st := st_r_term_of_entry) l_r_term_of_entry c_r_term_of_entry k_r_term_of_entry).binds fun _ _ _ _ _ _ us hl => match us, hl with | [_, _], _ => rfl,
    M_r_term_of_entry := ⟨a_r_term_of_entry, i_r_term_of_entry, k_r_term_of_entry⟩,
    a_r_last_term := f_r_last_term,
    d_r_last_term := _,
    F_r_last_term := fund_mk (st := st_r_last_term) l_r_last_term c_r_last_term k_r_last_term,
    B_r_last_term := (fund_mk (st := st_r_last_term) l_r_last_term c_r_last_term k_r_last_term).binds fun _ _ _ _ _ _ us hl => match us, hl with | [_], _ => rfl,
    M_r_last_term := ⟨a_r_last_term, i_r_last_term, k_r_last_term⟩,
    a_r_has_newer_log := f_r_has_newer_log,
    d_r_has_newer_log := _,
    F_r_has_newer_log := fund_mk (st := st_r_has_newer_log) l_r_has_newer_log c_r_has_newer_log k_r_has_newer_log,
    B_r_has_newer_log := (fund_mk (st := st_r_has_newer_log) l_r_has_newer_log c_r_has_newer_log k_r_has_newer_log).binds fun _ _ _ _ _ _ us hl => match us, hl with | [_, _, _], _ => rfl,
    M_r_has_newer_log := ⟨a_r_has_newer_log, i_r_has_newer_log, k_r_has_newer_log⟩,
    a_r_stand := f_r_stand,
    d_r_stand := _,
    F_r_stand := fund_mk (st := st_r_stand) l_r_stand c_r_stand k_r_stand,
    B_r_stand := (fund_mk (st := st_r_stand) l_r_stand c_r_stand k_r_stand).binds fun _ _ _ _ _ _ us hl => match us, hl with | [_], _ => rfl,
    M_r_stand := ⟨a_r_stand, i_r_stand, k_r_stand⟩,
    a_r_ask_for_vote := f_r_ask_for_vote,
    d_r_ask_for_vote := _,
    F_r_ask_for_vote := fund_mk (st := st_r_ask_for_vote) l_r_ask_for_vote c_r_ask_for_vote k_r_ask_for_vote,
    B_r_ask_for_vote := (fund_mk (st := st_r_ask_for_vote) l_r_ask_for_vote c_r_ask_for_vote k_r_ask_for_vote).binds fun _ _ _ _ _ _ us hl => match us, hl with | [_, _], _ => rfl,
    M_r_ask_for_vote := ⟨a_r_ask_for_vote, i_r_ask_for_vote, k_r_ask_for_vote⟩,
    a_r_propose := f_r_propose,
    d_r_propose := _,
    F_r_propose := fund_mk (st := st_r_propose) l_r_propose c_r_propose k_r_propose,
    B_r_propose := (fund_mk (st := st_r_propose) l_r_propose c_r_propose k_r_propose).binds fun _ _ _ _ _ _ us hl => match us, hl with | [_, _], _ => rfl,
    M_r_propose := ⟨a_r_propose, i_r_propose, k_r_propose⟩,
    a_r_beat := f_r_beat,
    d_r_beat := _,
    F_r_beat := fund_mk (st := st_r_beat) l_r_beat c_r_beat k_r_beat,
    B_r_beat := (fund_mk (st := st_r_beat) l_r_beat c_r_beat k_r_beat).binds fun _ _ _ _ _ _ us hl => match us, hl with | [_], _ => rfl,
    M_r_beat := ⟨a_r_beat, i_r_beat, k_r_beat⟩,
    a_r_send_entries := f_r_send_entries,
    d_r_send_entries := _,
    F_r_send_entries := fund_mk (st := st_r_send_entries) l_r_send_entries c_r_send_entries k_r_send_entries,
    B_r_send_entries := (fund_mk (st := st_r_send_entries) l_r_send_entries c_r_send_entries k_r_send_entries).binds fun _ _ _ _ _ _ us hl => match us, hl with | [_, _], _ => rfl,
    M_r_send_entries := ⟨a_r_send_entries, i_r_send_entries, k_r_send_entries⟩,
    a_r_hear := f_r_hear,
    d_r_hear := _,
    F_r_hear := fund_mk (st := st_r_hear) l_r_hear c_r_hear k_r_hear,
    B_r_hear := (fund_mk (st := st_r_hear) l_r_hear c_r_hear k_r_hear).binds fun _ _ _ _ _ _ us hl => match us, hl with | [_, _], _ => rfl,
    M_r_hear := ⟨a_r_hear, i_r_hear, k_r_hear⟩,
    a_r_enter_term := f_r_enter_term,
    d_r_enter_term := _,
    F_r_enter_term := fund_mk (st := st_r_enter_term) l_r_enter_term c_r_enter_term k_r_enter_term,
    B_r_enter_term := (fund_mk (st := st_r_enter_term) l_r_enter_term c_r_enter_term k_r_enter_term).binds fun _ _ _ _ _ _ us hl => match us, hl with | [_, _], _ => rfl,
    M_r_enter_term := ⟨a_r_enter_term, i_r_enter_term, k_r_enter_term⟩,
    a_r_follow := f_r_follow,
    d_r_follow := _,
    F_r_follow := fund_mk (st := st_r_follow) l_r_follow c_r_follow k_r_follow,
    B_r_follow := (fund_mk (st := st_r_follow) l_r_follow c_r_follow k_r_follow).binds fun _ _ _ _ _ _ us hl => match us, hl with | [_], _ => rfl,
    M_r_follow := ⟨a_r_follow, i_r_follow, k_r_follow⟩,
    a_r_reply := f_r_reply,
    d_r_reply := _,
    v_r_reply := _,
    F_r_reply := fund_mk (st := st_r_reply) l_r_reply c_r_reply k_r_reply,
    B_r_reply := (fund_mk (st := st_r_reply) l_r_reply c_r_reply k_r_reply).bindsD t_l_r_reply rfl 5 rfl fun _ _ _ _ _ _ us hl => match us, hl with | [_, _, _, _, _], _ => ⟨_, rfl, rfl⟩,
    M_r_reply := ⟨a_r_reply, i_r_reply, k_r_reply⟩,
    a_r_hear_vote_for_me := f_r_hear_vote_for_me,
    d_r_hear_vote_for_me := _,
    F_r_hear_vote_for_me := fund_mk (st := st_r_hear_vote_for_me) l_r_hear_vote_for_me c_r_hear_vote_for_me k_r_hear_vote_for_me,
    B_r_hear_vote_for_me := (fund_mk (st := st_r_hear_vote_for_me) l_r_hear_vote_for_me c_r_hear_vote_for_me k_r_hear_vote_for_me).binds fun _ _ _ _ _ _ us hl => match us, hl with | [_, _], _ => rfl,
    M_r_hear_vote_for_me := ⟨a_r_hear_vote_for_me, i_r_hear_vote_for_me, k_r_hear_vote_for_me⟩,
    a_r_hear_about_vote := f_r_hear_about_vote,
    d_r_hear_about_vote := _,
    F_r_hear_about_vote := fund_mk (st := st_r_hear_about_vote) l_r_hear_about_vote c_r_hear_about_vote k_r_hear_about_vote,
    B_r_hear_about_vote := (fund_mk (st := st_r_hear_about_vote) l_r_hear_about_vote c_r_hear_about_vote k_r_hear_about_vote).binds fun _ _ _ _ _ _ us hl => match us, hl with | [_, _], _ => rfl,
    M_r_hear_about_vote := ⟨a_r_hear_about_vote, i_r_hear_about_vote, k_r_hear_about_vote⟩,
    a_r_lead := f_r_lead,
    d_r_lead := _,
    F_r_lead := fund_mk (st := st_r_lead) l_r_lead c_r_lead k_r_lead,
    B_r_lead := (fund_mk (st := st_r_lead) l_r_lead c_r_lead k_r_lead).binds fun _ _ _ _ _ _ us hl => match us, hl with | [_], _ => rfl,
    M_r_lead := ⟨a_r_lead, i_r_lead, k_r_lead⟩,
    a_r_hear_have_these := f_r_hear_have_these,
    d_r_hear_have_these := _,
    F_r_hear_have_these := fund_mk (st := st_r_hear_have_these) l_r_hear_have_these c_r_hear_have_these k_r_hear_have_these,
    B_r_hear_have_these := (fund_mk (st := st_r_hear_have_these) l_r_hear_have_these c_r_hear_have_these k_r_hear_have_these).binds fun _ _ _ _ _ _ us hl => match us, hl with | [_, _], _ => rfl,
    M_r_hear_have_these := ⟨a_r_hear_have_these, i_r_hear_have_these, k_r_hear_have_these⟩,
    a_r_take_entries := f_r_take_entries,
    d_r_take_entries := _,
    F_r_take_entries := fund_mk (st := st_r_take_entries) l_r_take_entries c_r_take_entries k_r_take_entries,
    B_r_take_entries := (fund_mk (st := st_r_take_entries) l_r_take_entries c_r_take_entries k_r_take_entries).binds fun _ _ _ _ _ _ us hl => match us, hl with | [_, _, _], _ => rfl,
    M_r_take_entries := ⟨a_r_take_entries, i_r_take_entries, k_r_take_entries⟩,
    a_r_hear_about_entries := f_r_hear_about_entries,
    d_r_hear_about_entries := _,
    F_r_hear_about_entries := fund_mk (st := st_r_hear_about_entries) l_r_hear_about_entries c_r_hear_about_entries k_r_hear_about_entries,
    B_r_hear_about_entries := (fund_mk (st := st_r_hear_about_entries) l_r_hear_about_entries c_r_hear_about_entries k_r_hear_about_entries).binds fun _ _ _ _ _ _ us hl => match us, hl with | [_, _], _ => rfl,
    M_r_hear_about_entries := ⟨a_r_hear_about_entries, i_r_hear_about_entries, k_r_hear_about_entries⟩,
    a_r_settle := f_r_settle,
    d_r_settle := _,
    F_r_settle := fund_mk (st := st_r_settle) l_r_settle c_r_settle k_r_settle,
    B_r_settle := (fund_mk (st := st_r_settle) l_r_settle c_r_settle k_r_settle).binds fun _ _ _ _ _ _ us hl => match us, hl with | [_], _ => rfl,
    M_r_settle := ⟨a_r_settle, i_r_settle, k_r_settle⟩,
    a_r_how_many_have := f_r_how_many_have,
    d_r_how_many_have := _,
    F_r_how_many_have := fund_mk (st := st_r_how_many_have) l_r_how_many_have c_r_how_many_have k_r_how_many_have,
    B_r_how_many_have := (fund_mk (st := st_r_how_many_have) l_r_how_many_have c_r_how_many_have k_r_how_many_have).binds fun _ _ _ _ _ _ us hl => match us, hl with | [_, _], _ => rfl,
    M_r_how_many_have := ⟨a_r_how_many_have, i_r_how_many_have, k_r_how_many_have⟩,
    a_c_begin := f_c_begin,
    d_c_begin := _,
    F_c_begin := fund_mk (st := st_c_begin) l_c_begin c_c_begin k_c_begin,
    B_c_begin := (fund_mk (st := st_c_begin) l_c_begin c_c_begin k_c_begin).binds fun _ _ _ _ _ _ us hl => match us, hl with | [_, _], _ => rfl,
    G_c_begin := PySem.W.mg_of X G a_c_begin,
    a_c_stand := f_c_stand,
    d_c_stand := _,
    F_c_stand := fund_mk (st := st_c_stand) l_c_stand c_c_stand k_c_stand,
    B_c_stand := (fund_mk (st := st_c_stand) l_c_stand c_c_stand k_c_stand).binds fun _ _ _ _ _ _ us hl => match us, hl with | [_, _], _ => rfl,
    G_c_stand := PySem.W.mg_of X G a_c_stand,
    a_c_propose := f_c_propose,
    d_c_propose := _,
    F_c_propose := fund_mk (st := st_c_propose) l_c_propose c_c_propose k_c_propose,
    B_c_propose := (fund_mk (st := st_c_propose) l_c_propose c_c_propose k_c_propose).binds fun _ _ _ _ _ _ us hl => match us, hl with | [_, _, _], _ => rfl,
    G_c_propose := PySem.W.mg_of X G a_c_propose,
    a_c_beat := f_c_beat,
    d_c_beat := _,
    F_c_beat := fund_mk (st := st_c_beat) l_c_beat c_c_beat k_c_beat,
    B_c_beat := (fund_mk (st := st_c_beat) l_c_beat c_c_beat k_c_beat).binds fun _ _ _ _ _ _ us hl => match us, hl with | [_, _], _ => rfl,
    G_c_beat := PySem.W.mg_of X G a_c_beat,
    a_c_deliver := f_c_deliver,
    d_c_deliver := _,
    F_c_deliver := fund_mk (st := st_c_deliver) l_c_deliver c_c_deliver k_c_deliver,
    B_c_deliver := (fund_mk (st := st_c_deliver) l_c_deliver c_c_deliver k_c_deliver).binds fun _ _ _ _ _ _ us hl => match us, hl with | [_, _], _ => rfl,
    G_c_deliver := PySem.W.mg_of X G a_c_deliver,
    a_c_lose := f_c_lose,
    d_c_lose := _,
    F_c_lose := fund_mk (st := st_c_lose) l_c_lose c_c_lose k_c_lose,
    B_c_lose := (fund_mk (st := st_c_lose) l_c_lose c_c_lose k_c_lose).binds fun _ _ _ _ _ _ us hl => match us, hl with | [_, _], _ => rfl,
    G_c_lose := PySem.W.mg_of X G a_c_lose,
    a_c_copy := f_c_copy,
    d_c_copy := _,
    F_c_copy := fund_mk (st := st_c_copy) l_c_copy c_c_copy k_c_copy,
    B_c_copy := (fund_mk (st := st_c_copy) l_c_copy c_c_copy k_c_copy).binds fun _ _ _ _ _ _ us hl => match us, hl with | [_, _], _ => rfl,
    G_c_copy := PySem.W.mg_of X G a_c_copy,
    a_c_crash := f_c_crash,
    d_c_crash := _,
    F_c_crash := fund_mk (st := st_c_crash) l_c_crash c_c_crash k_c_crash,
    B_c_crash := (fund_mk (st := st_c_crash) l_c_crash c_c_crash k_c_crash).binds fun _ _ _ _ _ _ us hl => match us, hl with | [_, _], _ => rfl,
    G_c_crash := PySem.W.mg_of X G a_c_crash,
    a_c_look := f_c_look,
    d_c_look := _,
    F_c_look := fund_mk (st := st_c_look) l_c_look c_c_look k_c_look,
    B_c_look := (fund_mk (st := st_c_look) l_c_look c_c_look k_c_look).binds fun _ _ _ _ _ _ us hl => match us, hl with | [_, _], _ => rfl,
    G_c_look := PySem.W.mg_of X G a_c_look,
    a_c_log := f_c_log,
    d_c_log := _,
    F_c_log := fund_mk (st := st_c_log) l_c_log c_c_log k_c_log,
    B_c_log := (fund_mk (st := st_c_log) l_c_log c_c_log k_c_log).binds fun _ _ _ _ _ _ us hl => match us, hl with | [_, _], _ => rfl,
    G_c_log := PySem.W.mg_of X G a_c_log,
    a_c_settled := f_c_settled,
    d_c_settled := _,
    F_c_settled := fund_mk (st := st_c_settled) l_c_settled c_c_settled k_c_settled,
    B_c_settled := (fund_mk (st := st_c_settled) l_c_settled c_c_settled k_c_settled).binds fun _ _ _ _ _ _ us hl => match us, hl with | [_, _], _ => rfl,
    G_c_settled := PySem.W.mg_of X G a_c_settled,
    a_c_net := f_c_net,
    d_c_net := _,
    F_c_net := fund_mk (st := st_c_net) l_c_net c_c_net k_c_net,
    B_c_net := (fund_mk (st := st_c_net) l_c_net c_c_net k_c_net).binds fun _ _ _ _ _ _ us hl => match us, hl with | [_], _ => rfl,
    G_c_net := PySem.W.mg_of X G a_c_net,
    a_c_message := f_c_message,
    d_c_message := _,
    F_c_message := fund_mk (st := st_c_message) l_c_message c_c_message k_c_message,
    B_c_message := (fund_mk (st := st_c_message) l_c_message c_c_message k_c_message).binds fun _ _ _ _ _ _ us hl => match us, hl with | [_, _], _ => rfl,
    G_c_message := PySem.W.mg_of X G a_c_message,
    a_c_with_lists := f_c_with_lists,
    d_c_with_lists := _,
    F_c_with_lists := fund_mk (st := st_c_with_lists) l_c_with_lists c_c_with_lists k_c_with_lists,
    B_c_with_lists := (fund_mk (st := st_c_with_lists) l_c_with_lists c_c_with_lists k_c_with_lists).binds fun _ _ _ _ _ _ us hl => match us, hl with | [_, _], _ => rfl,
    G_c_with_lists := PySem.W.mg_of X G a_c_with_lists,
    a_c_tell_entries := f_c_tell_entries,
    d_c_tell_entries := _,
    F_c_tell_entries := fund_mk (st := st_c_tell_entries) l_c_tell_entries c_c_tell_entries k_c_tell_entries,
    B_c_tell_entries := (fund_mk (st := st_c_tell_entries) l_c_tell_entries c_c_tell_entries k_c_tell_entries).binds fun _ _ _ _ _ _ us hl => match us, hl with | [_], _ => rfl,
    G_c_tell_entries := PySem.W.mg_of X G a_c_tell_entries,
    a_c_terms_and_values := f_c_terms_and_values,
    d_c_terms_and_values := _,
    F_c_terms_and_values := fund_mk (st := st_c_terms_and_values) l_c_terms_and_values c_c_terms_and_values k_c_terms_and_values,
    B_c_terms_and_values := (fund_mk (st := st_c_terms_and_values) l_c_terms_and_values c_c_terms_and_values k_c_terms_and_values).binds fun _ _ _ _ _ _ us hl => match us, hl with | [_], _ => rfl,
    G_c_terms_and_values := PySem.W.mg_of X G a_c_terms_and_values,
    a_c_how_many_numbers := f_c_how_many_numbers,
    d_c_how_many_numbers := _,
    F_c_how_many_numbers := fund_mk (st := st_c_how_many_numbers) l_c_how_many_numbers c_c_how_many_numbers k_c_how_many_numbers,
    B_c_how_many_numbers := (fund_mk (st := st_c_how_many_numbers) l_c_how_many_numbers c_c_how_many_numbers k_c_how_many_numbers).binds fun _ _ _ _ _ _ us hl => match us, hl with | [_], _ => rfl,
    G_c_how_many_numbers := PySem.W.mg_of X G a_c_how_many_numbers,
    a_c_answer := f_c_answer,
    d_c_answer := _,
    F_c_answer := fund_mk (st := st_c_answer) l_c_answer c_c_answer k_c_answer,
    B_c_answer := (fund_mk (st := st_c_answer) l_c_answer c_c_answer k_c_answer).binds fun _ _ _ _ _ _ us hl => match us, hl with | [_, _, _], _ => rfl,
    G_c_answer := PySem.W.mg_of X G a_c_answer,
    a_s_init := f_s_init,
    d_s_init := _,
    F_s_init := fund_mk (st := st_s_init) l_s_init c_s_init k_s_init,
    B_s_init := (fund_mk (st := st_s_init) l_s_init c_s_init k_s_init).binds fun _ _ _ _ _ _ us hl => match us, hl with | [_], _ => rfl,
    K_s_init := ⟨mk_s, a_s_init, i_s_init, kc_s⟩,
    a_s_start := f_s_start,
    d_s_start := _,
    F_s_start := fund_mk (st := st_s_start) l_s_start c_s_start k_s_start,
    B_s_start := (fund_mk (st := st_s_start) l_s_start c_s_start k_s_start).binds fun _ _ _ _ _ _ us hl => match us, hl with | [_, _], _ => rfl,
    M_s_start := ⟨a_s_start, i_s_start, k_s_start⟩,
    a_s_has_replica := f_s_has_replica,
    d_s_has_replica := _,
    F_s_has_replica := fund_mk (st := st_s_has_replica) l_s_has_replica c_s_has_replica k_s_has_replica,
    B_s_has_replica := (fund_mk (st := st_s_has_replica) l_s_has_replica c_s_has_replica k_s_has_replica).binds fun _ _ _ _ _ _ us hl => match us, hl with | [_, _], _ => rfl,
    M_s_has_replica := ⟨a_s_has_replica, i_s_has_replica, k_s_has_replica⟩,
    a_s_has_room_for := f_s_has_room_for,
    d_s_has_room_for := _,
    F_s_has_room_for := fund_mk (st := st_s_has_room_for) l_s_has_room_for c_s_has_room_for k_s_has_room_for,
    B_s_has_room_for := (fund_mk (st := st_s_has_room_for) l_s_has_room_for c_s_has_room_for k_s_has_room_for).binds fun _ _ _ _ _ _ us hl => match us, hl with | [_, _], _ => rfl,
    M_s_has_room_for := ⟨a_s_has_room_for, i_s_has_room_for, k_s_has_room_for⟩,
    a_s_how_many_others := f_s_how_many_others,
    d_s_how_many_others := _,
    F_s_how_many_others := fund_mk (st := st_s_how_many_others) l_s_how_many_others c_s_how_many_others k_s_how_many_others,
    B_s_how_many_others := (fund_mk (st := st_s_how_many_others) l_s_how_many_others c_s_how_many_others k_s_how_many_others).binds fun _ _ _ _ _ _ us hl => match us, hl with | [_], _ => rfl,
    M_s_how_many_others := ⟨a_s_how_many_others, i_s_how_many_others, k_s_how_many_others⟩,
    a_s_say := f_s_say,
    d_s_say := _,
    F_s_say := fund_mk (st := st_s_say) l_s_say c_s_say k_s_say,
    B_s_say := (fund_mk (st := st_s_say) l_s_say c_s_say k_s_say).binds fun _ _ _ _ _ _ us hl => match us, hl with | [_, _], _ => rfl,
    M_s_say := ⟨a_s_say, i_s_say, k_s_say⟩,
    a_s_say_all := f_s_say_all,
    d_s_say_all := _,
    F_s_say_all := fund_mk (st := st_s_say_all) l_s_say_all c_s_say_all k_s_say_all,
    B_s_say_all := (fund_mk (st := st_s_say_all) l_s_say_all c_s_say_all k_s_say_all).binds fun _ _ _ _ _ _ us hl => match us, hl with | [_, _], _ => rfl,
    M_s_say_all := ⟨a_s_say_all, i_s_say_all, k_s_say_all⟩,
    a_c_answers := fa,
    d_c_answers := _,
    F_c_answers := fund_mk (st := st_c_answers) l_c_answers c_c_answers k_c_answers,
    B_c_answers := (fund_mk (st := st_c_answers) l_c_answers c_c_answers k_c_answers).binds fun _ _ _ _ _ _ us hl => match us, hl with | [_], _ => rfl,
    G_c_answers := PySem.W.mg_of X G a_c_answers,
    g_VOTE_FOR_ME := ⟨_, PySem.W.mg_of X G g_VOTE_FOR_ME⟩,
    g_ABOUT_VOTE := ⟨_, PySem.W.mg_of X G g_ABOUT_VOTE⟩,
    g_HAVE_THESE := ⟨_, PySem.W.mg_of X G g_HAVE_THESE⟩,
    g_ABOUT_ENTRIES := ⟨_, PySem.W.mg_of X G g_ABOUT_ENTRIES⟩,
    g_FOLLOWS := ⟨_, PySem.W.mg_of X G g_FOLLOWS⟩,
    g_STANDS := ⟨_, PySem.W.mg_of X G g_STANDS⟩,
    g_LEADS := ⟨_, PySem.W.mg_of X G g_LEADS⟩,
    g_MOST_ENTRIES_SENT := ⟨_, PySem.W.mg_of X G g_MOST_ENTRIES_SENT⟩,
    g_BAD_NUMBER := ⟨_, PySem.W.mg_of X G g_BAD_NUMBER⟩,
    g_NOT_IN_THIS_ROLE := ⟨_, PySem.W.mg_of X G g_NOT_IN_THIS_ROLE⟩,
    g_NOT_THERE := ⟨_, PySem.W.mg_of X G g_NOT_THERE⟩,
    g_NO_ROOM := ⟨_, PySem.W.mg_of X G g_NO_ROOM⟩,
    g_MOST_VALUE := ⟨_, PySem.W.mg_of X G g_MOST_VALUE⟩,
    g_MOST_TERM := ⟨_, PySem.W.mg_of X G g_MOST_TERM⟩,
    g_MOST_ENTRIES := ⟨_, PySem.W.mg_of X G g_MOST_ENTRIES⟩,
    g_MOST_UNDER_WAY := ⟨_, PySem.W.mg_of X G g_MOST_UNDER_WAY⟩,
    b_len := PySem.W.mg_none_of X G b_len,
    b_max := PySem.W.mg_none_of X G b_max,
    b_enumerate := PySem.W.mg_none_of X G b_enumerate,
    b_range := PySem.W.mg_none_of X G b_range,
    b_tuple := PySem.W.mg_none_of X G b_tuple,
    b_min := PySem.W.mg_none_of X G b_min,
    b_list := PySem.W.mg_none_of X G b_list }
  let U : Ty K mg T := {
    rc := rc,
    mg_rc := PySem.W.mg_of X G a_rc,
    rcT := ⟨_, _, _, l_rc, rfl, rfl, (by show 2 ≤ sizeLine; decide), .cons ⟨_, rfl⟩ (.cons ⟨_, rfl⟩ .nil)⟩,
    d0 := d0, mg_d0 := PySem.W.mg_of X G a_d0, D0 := ⟨s_d0, _, l_d0, fun P w => ⟨_, _, ⟨rfl, rfl, rfl⟩, rfl, q_d0 P w, p_d0 P w, by show ([11] : List Int).Nodup; decide⟩⟩,
    d1 := d1, mg_d1 := PySem.W.mg_of X G a_d1, D1 := ⟨s_d1, _, l_d1, fun P w => ⟨_, _, ⟨rfl, rfl, rfl⟩, rfl, q_d1 P w, p_d1 P w, by show ([0, 1, 3, 4, 5, 6, 7, 8, 9, 10, 12] : List Int).Nodup; decide⟩⟩,
    d2 := d2, mg_d2 := PySem.W.mg_of X G a_d2, D2 := ⟨s_d2, _, l_d2, fun P w => ⟨_, _, ⟨rfl, rfl, rfl⟩, rfl, q_d2 P w, p_d2 P w, by show ([2] : List Int).Nodup; decide⟩⟩,
    F2 := ⟨[.int 0 tk2_m_init, .none], .cons ⟨_, rfl⟩ (.cons rfl .nil), (fund_mk (st := st_m_init) l_m_init c_m_init k_m_init).bindsD t_l_m_init rfl 7 rfl fun _ _ _ _ _ _ us hl => match us, hl with | [_, _, _, _, _, _, _], _ => ⟨_, rfl, rfl⟩⟩,
    F1 := ⟨[.int 0 tk0_r_reply], .cons ⟨_, rfl⟩ .nil, (fund_mk (st := st_r_reply) l_r_reply c_r_reply k_r_reply).bindsD t_l_r_reply rfl 4 rfl fun _ _ _ _ _ _ us hl => match us, hl with | [_, _, _, _], _ => ⟨_, rfl, rfl⟩⟩ }
  exact ⟨_, fun s us hu => match us, hu with | [_], _ => .of_eq rfl, fun base _ _ => ok_ans T U⟩
end Pr
end

set_option Elab.async false
open PySem PySem.W PyProof.Rows
/-! The names of these ten are those under which the head's tactic would lay a second form of each written heap, with a proof
of a size that grows with the square of the heap's: laid here, they keep it from that, and the head is checked on the heaps as written. -/
def PySem.W.Fast.tw1840104830718972045 : Nat := 0
def PySem.W.Fast.tw15992721871475604900 : Nat := 0
def PySem.W.Fast.tw10383751280488768844 : Nat := 0
def PySem.W.Fast.tw6927387832839757181 : Nat := 0
def PySem.W.Fast.tw12047425662371644815 : Nat := 0
def PySem.W.Fast.tw6531010283764898166 : Nat := 0
def PySem.W.Fast.tw6025988079692473890 : Nat := 0
def PySem.W.Fast.tw11393581160060951930 : Nat := 0
def PySem.W.Fast.tw18250323266319524311 : Nat := 0
def PySem.W.Fast.tw12338864721194766185 : Nat := 0
set_option maxRecDepth 100000 in
set_option maxHeartbeats 0 in
theorem PySem.Challenge.cw_oneleader_s01_answers_holds : PySem.Challenge.rw_oneleader_s01_answers.Holds := by
  w_on; k_headS; (case hw => exact ⟨[.list []], by decide +kernel, by decide +kernel⟩)
  k_fillS
  refine L2.walk_specK (r := PySem.Challenge.rw_oneleader_s01_answers) (k := 8) (CX := L2.CX0) (ps := ["calls"]) (sp := Pr.spAns) (by decide +kernel) rfl rfl ⟨rfl, by decide, by decide⟩ (fun w h Y => PySem.W.kIn_of Y) ?F ?S (fun _ _ _ _ z => z)
  case F =>
    intro w mg fa h Y KX G hmg
    refine' Pr.all_mk KX G hmg ?n_m ?pg_m ?hd_m ?po_m ?sa_m ?mk_m ?kc_m ?na_m_kind ?na_m_sender ?na_m_receiver ?na_m_term ?na_m_a ?na_m_b ?na_m_c ?na_m_entries ?n_r ?pg_r ?hd_r ?po_r ?sa_r ?mk_r ?kc_r ?na_r_number ?na_r_n ?na_r_term ?na_r_vote ?na_r_log ?na_r_settled ?na_r_next_entry ?na_r_same ?na_r_role ?na_r_voters ?n_s ?pg_s ?hd_s ?po_s ?sa_s ?mk_s ?kc_s ?na_s_replicas ?na_s_under_way ?na_s_next_number ?a_m_init ?i_m_init ?l_m_init ?c_m_init ?k_m_init ?t_l_m_init ?a_r_init ?i_r_init ?l_r_init ?c_r_init ?k_r_init ?a_r_forget ?i_r_forget ?l_r_forget ?c_r_forget ?k_r_forget ?a_r_others ?i_r_others ?l_r_others ?c_r_others ?k_r_others ?a_r_more_than_half ?i_r_more_than_half ?l_r_more_than_half ?c_r_more_than_half ?k_r_more_than_half ?a_r_term_of_entry ?i_r_term_of_entry ?l_r_term_of_entry ?c_r_term_of_entry ?k_r_term_of_entry ?a_r_last_term ?i_r_last_term ?l_r_last_term ?c_r_last_term ?k_r_last_term ?a_r_has_newer_log ?i_r_has_newer_log ?l_r_has_newer_log ?c_r_has_newer_log ?k_r_has_newer_log ?a_r_stand ?i_r_stand ?l_r_stand ?c_r_stand ?k_r_stand ?a_r_ask_for_vote ?i_r_ask_for_vote ?l_r_ask_for_vote ?c_r_ask_for_vote ?k_r_ask_for_vote ?a_r_propose ?i_r_propose ?l_r_propose ?c_r_propose ?k_r_propose ?a_r_beat ?i_r_beat ?l_r_beat ?c_r_beat ?k_r_beat ?a_r_send_entries ?i_r_send_entries ?l_r_send_entries ?c_r_send_entries ?k_r_send_entries ?a_r_hear ?i_r_hear ?l_r_hear ?c_r_hear ?k_r_hear ?a_r_enter_term ?i_r_enter_term ?l_r_enter_term ?c_r_enter_term ?k_r_enter_term ?a_r_follow ?i_r_follow ?l_r_follow ?c_r_follow ?k_r_follow ?a_r_reply ?i_r_reply ?l_r_reply ?c_r_reply ?k_r_reply ?t_l_r_reply ?a_r_hear_vote_for_me ?i_r_hear_vote_for_me ?l_r_hear_vote_for_me ?c_r_hear_vote_for_me ?k_r_hear_vote_for_me ?a_r_hear_about_vote ?i_r_hear_about_vote ?l_r_hear_about_vote ?c_r_hear_about_vote ?k_r_hear_about_vote ?a_r_lead ?i_r_lead ?l_r_lead ?c_r_lead ?k_r_lead ?a_r_hear_have_these ?i_r_hear_have_these ?l_r_hear_have_these ?c_r_hear_have_these ?k_r_hear_have_these ?a_r_take_entries ?i_r_take_entries ?l_r_take_entries ?c_r_take_entries ?k_r_take_entries ?a_r_hear_about_entries ?i_r_hear_about_entries ?l_r_hear_about_entries ?c_r_hear_about_entries ?k_r_hear_about_entries ?a_r_settle ?i_r_settle ?l_r_settle ?c_r_settle ?k_r_settle ?a_r_how_many_have ?i_r_how_many_have ?l_r_how_many_have ?c_r_how_many_have ?k_r_how_many_have ?a_c_begin ?l_c_begin ?c_c_begin ?k_c_begin ?a_c_stand ?l_c_stand ?c_c_stand ?k_c_stand ?a_c_propose ?l_c_propose ?c_c_propose ?k_c_propose ?a_c_beat ?l_c_beat ?c_c_beat ?k_c_beat ?a_c_deliver ?l_c_deliver ?c_c_deliver ?k_c_deliver ?a_c_lose ?l_c_lose ?c_c_lose ?k_c_lose ?a_c_copy ?l_c_copy ?c_c_copy ?k_c_copy ?a_c_crash ?l_c_crash ?c_c_crash ?k_c_crash ?a_c_look ?l_c_look ?c_c_look ?k_c_look ?a_c_log ?l_c_log ?c_c_log ?k_c_log ?a_c_settled ?l_c_settled ?c_c_settled ?k_c_settled ?a_c_net ?l_c_net ?c_c_net ?k_c_net ?a_c_message ?l_c_message ?c_c_message ?k_c_message ?a_c_with_lists ?l_c_with_lists ?c_c_with_lists ?k_c_with_lists ?a_c_tell_entries ?l_c_tell_entries ?c_c_tell_entries ?k_c_tell_entries ?a_c_terms_and_values ?l_c_terms_and_values ?c_c_terms_and_values ?k_c_terms_and_values ?a_c_how_many_numbers ?l_c_how_many_numbers ?c_c_how_many_numbers ?k_c_how_many_numbers ?a_c_answer ?l_c_answer ?c_c_answer ?k_c_answer ?a_s_init ?i_s_init ?l_s_init ?c_s_init ?k_s_init ?a_s_start ?i_s_start ?l_s_start ?c_s_start ?k_s_start ?a_s_has_replica ?i_s_has_replica ?l_s_has_replica ?c_s_has_replica ?k_s_has_replica ?a_s_has_room_for ?i_s_has_room_for ?l_s_has_room_for ?c_s_has_room_for ?k_s_has_room_for ?a_s_how_many_others ?i_s_how_many_others ?l_s_how_many_others ?c_s_how_many_others ?k_s_how_many_others ?a_s_say ?i_s_say ?l_s_say ?c_s_say ?k_s_say ?a_s_say_all ?i_s_say_all ?l_s_say_all ?c_s_say_all ?k_s_say_all ?a_c_answers ?l_c_answers ?c_c_answers ?k_c_answers ?g_VOTE_FOR_ME ?g_ABOUT_VOTE ?g_HAVE_THESE ?g_ABOUT_ENTRIES ?g_FOLLOWS ?g_STANDS ?g_LEADS ?g_MOST_ENTRIES_SENT ?g_BAD_NUMBER ?g_NOT_IN_THIS_ROLE ?g_NOT_THERE ?g_NO_ROOM ?g_MOST_VALUE ?g_MOST_TERM ?g_MOST_ENTRIES ?g_MOST_UNDER_WAY ?b_len ?b_max ?b_enumerate ?b_range ?b_tuple ?b_min ?b_list ?a_rc ?l_rc ?a_d0 ?l_d0 ?s_d0 ?p_d0 ?q_d0 ?a_d1 ?l_d1 ?s_d1 ?p_d1 ?q_d1 ?a_d2 ?l_d2 ?s_d2 ?p_d2 ?q_d2
    (case n_m => k_is)
    (case pg_m => k_is)
    (case hd_m => k_is)
    (case po_m => k_is)
    (case sa_m => k_is)
    (case mk_m => k_is)
    (case kc_m => k_is)
    (case na_m_kind => k_is)
    (case na_m_sender => k_is)
    (case na_m_receiver => k_is)
    (case na_m_term => k_is)
    (case na_m_a => k_is)
    (case na_m_b => k_is)
    (case na_m_c => k_is)
    (case na_m_entries => k_is)
    (case n_r => k_is)
    (case pg_r => k_is)
    (case hd_r => k_is)
    (case po_r => k_is)
    (case sa_r => k_is)
    (case mk_r => k_is)
    (case kc_r => k_is)
    (case na_r_number => k_is)
    (case na_r_n => k_is)
    (case na_r_term => k_is)
    (case na_r_vote => k_is)
    (case na_r_log => k_is)
    (case na_r_settled => k_is)
    (case na_r_next_entry => k_is)
    (case na_r_same => k_is)
    (case na_r_role => k_is)
    (case na_r_voters => k_is)
    (case n_s => k_is)
    (case pg_s => k_is)
    (case hd_s => k_is)
    (case po_s => k_is)
    (case sa_s => k_is)
    (case mk_s => k_is)
    (case kc_s => k_is)
    (case na_s_replicas => k_is)
    (case na_s_under_way => k_is)
    (case na_s_next_number => k_is)
    (case a_m_init => k_is)
    (case i_m_init => k_is)
    (case l_m_init => k_is)
    (case c_m_init => k_is)
    (case k_m_init => k_is)
    (case t_l_m_init => k_is)
    (case a_r_init => k_is)
    (case i_r_init => k_is)
    (case l_r_init => k_is)
    (case c_r_init => k_is)
    (case k_r_init => k_is)
    (case a_r_forget => k_is)
    (case i_r_forget => k_is)
    (case l_r_forget => k_is)
    (case c_r_forget => k_is)
    (case k_r_forget => k_is)
    (case a_r_others => k_is)
    (case i_r_others => k_is)
    (case l_r_others => k_is)
    (case c_r_others => k_is)
    (case k_r_others => k_is)
    (case a_r_more_than_half => k_is)
    (case i_r_more_than_half => k_is)
    (case l_r_more_than_half => k_is)
    (case c_r_more_than_half => k_is)
    (case k_r_more_than_half => k_is)
    (case a_r_term_of_entry => k_is)
    (case i_r_term_of_entry => k_is)
    (case l_r_term_of_entry => k_is)
    (case c_r_term_of_entry => k_is)
    (case k_r_term_of_entry => k_is)
    (case a_r_last_term => k_is)
    (case i_r_last_term => k_is)
    (case l_r_last_term => k_is)
    (case c_r_last_term => k_is)
    (case k_r_last_term => k_is)
    (case a_r_has_newer_log => k_is)
    (case i_r_has_newer_log => k_is)
    (case l_r_has_newer_log => k_is)
    (case c_r_has_newer_log => k_is)
    (case k_r_has_newer_log => k_is)
    (case a_r_stand => k_is)
    (case i_r_stand => k_is)
    (case l_r_stand => k_is)
    (case c_r_stand => k_is)
    (case k_r_stand => k_is)
    (case a_r_ask_for_vote => k_is)
    (case i_r_ask_for_vote => k_is)
    (case l_r_ask_for_vote => k_is)
    (case c_r_ask_for_vote => k_is)
    (case k_r_ask_for_vote => k_is)
    (case a_r_propose => k_is)
    (case i_r_propose => k_is)
    (case l_r_propose => k_is)
    (case c_r_propose => k_is)
    (case k_r_propose => k_is)
    (case a_r_beat => k_is)
    (case i_r_beat => k_is)
    (case l_r_beat => k_is)
    (case c_r_beat => k_is)
    (case k_r_beat => k_is)
    (case a_r_send_entries => k_is)
    (case i_r_send_entries => k_is)
    (case l_r_send_entries => k_is)
    (case c_r_send_entries => k_is)
    (case k_r_send_entries => k_is)
    (case a_r_hear => k_is)
    (case i_r_hear => k_is)
    (case l_r_hear => k_is)
    (case c_r_hear => k_is)
    (case k_r_hear => k_is)
    (case a_r_enter_term => k_is)
    (case i_r_enter_term => k_is)
    (case l_r_enter_term => k_is)
    (case c_r_enter_term => k_is)
    (case k_r_enter_term => k_is)
    (case a_r_follow => k_is)
    (case i_r_follow => k_is)
    (case l_r_follow => k_is)
    (case c_r_follow => k_is)
    (case k_r_follow => k_is)
    (case a_r_reply => k_is)
    (case i_r_reply => k_is)
    (case l_r_reply => k_is)
    (case c_r_reply => k_is)
    (case k_r_reply => k_is)
    (case t_l_r_reply => k_is)
    (case a_r_hear_vote_for_me => k_is)
    (case i_r_hear_vote_for_me => k_is)
    (case l_r_hear_vote_for_me => k_is)
    (case c_r_hear_vote_for_me => k_is)
    (case k_r_hear_vote_for_me => k_is)
    (case a_r_hear_about_vote => k_is)
    (case i_r_hear_about_vote => k_is)
    (case l_r_hear_about_vote => k_is)
    (case c_r_hear_about_vote => k_is)
    (case k_r_hear_about_vote => k_is)
    (case a_r_lead => k_is)
    (case i_r_lead => k_is)
    (case l_r_lead => k_is)
    (case c_r_lead => k_is)
    (case k_r_lead => k_is)
    (case a_r_hear_have_these => k_is)
    (case i_r_hear_have_these => k_is)
    (case l_r_hear_have_these => k_is)
    (case c_r_hear_have_these => k_is)
    (case k_r_hear_have_these => k_is)
    (case a_r_take_entries => k_is)
    (case i_r_take_entries => k_is)
    (case l_r_take_entries => k_is)
    (case c_r_take_entries => k_is)
    (case k_r_take_entries => k_is)
    (case a_r_hear_about_entries => k_is)
    (case i_r_hear_about_entries => k_is)
    (case l_r_hear_about_entries => k_is)
    (case c_r_hear_about_entries => k_is)
    (case k_r_hear_about_entries => k_is)
    (case a_r_settle => k_is)
    (case i_r_settle => k_is)
    (case l_r_settle => k_is)
    (case c_r_settle => k_is)
    (case k_r_settle => k_is)
    (case a_r_how_many_have => k_is)
    (case i_r_how_many_have => k_is)
    (case l_r_how_many_have => k_is)
    (case c_r_how_many_have => k_is)
    (case k_r_how_many_have => k_is)
    (case a_c_begin => k_is)
    (case l_c_begin => k_is)
    (case c_c_begin => k_is)
    (case k_c_begin => k_is)
    (case a_c_stand => k_is)
    (case l_c_stand => k_is)
    (case c_c_stand => k_is)
    (case k_c_stand => k_is)
    (case a_c_propose => k_is)
    (case l_c_propose => k_is)
    (case c_c_propose => k_is)
    (case k_c_propose => k_is)
    (case a_c_beat => k_is)
    (case l_c_beat => k_is)
    (case c_c_beat => k_is)
    (case k_c_beat => k_is)
    (case a_c_deliver => k_is)
    (case l_c_deliver => k_is)
    (case c_c_deliver => k_is)
    (case k_c_deliver => k_is)
    (case a_c_lose => k_is)
    (case l_c_lose => k_is)
    (case c_c_lose => k_is)
    (case k_c_lose => k_is)
    (case a_c_copy => k_is)
    (case l_c_copy => k_is)
    (case c_c_copy => k_is)
    (case k_c_copy => k_is)
    (case a_c_crash => k_is)
    (case l_c_crash => k_is)
    (case c_c_crash => k_is)
    (case k_c_crash => k_is)
    (case a_c_look => k_is)
    (case l_c_look => k_is)
    (case c_c_look => k_is)
    (case k_c_look => k_is)
    (case a_c_log => k_is)
    (case l_c_log => k_is)
    (case c_c_log => k_is)
    (case k_c_log => k_is)
    (case a_c_settled => k_is)
    (case l_c_settled => k_is)
    (case c_c_settled => k_is)
    (case k_c_settled => k_is)
    (case a_c_net => k_is)
    (case l_c_net => k_is)
    (case c_c_net => k_is)
    (case k_c_net => k_is)
    (case a_c_message => k_is)
    (case l_c_message => k_is)
    (case c_c_message => k_is)
    (case k_c_message => k_is)
    (case a_c_with_lists => k_is)
    (case l_c_with_lists => k_is)
    (case c_c_with_lists => k_is)
    (case k_c_with_lists => k_is)
    (case a_c_tell_entries => k_is)
    (case l_c_tell_entries => k_is)
    (case c_c_tell_entries => k_is)
    (case k_c_tell_entries => k_is)
    (case a_c_terms_and_values => k_is)
    (case l_c_terms_and_values => k_is)
    (case c_c_terms_and_values => k_is)
    (case k_c_terms_and_values => k_is)
    (case a_c_how_many_numbers => k_is)
    (case l_c_how_many_numbers => k_is)
    (case c_c_how_many_numbers => k_is)
    (case k_c_how_many_numbers => k_is)
    (case a_c_answer => k_is)
    (case l_c_answer => k_is)
    (case c_c_answer => k_is)
    (case k_c_answer => k_is)
    (case a_s_init => k_is)
    (case i_s_init => k_is)
    (case l_s_init => k_is)
    (case c_s_init => k_is)
    (case k_s_init => k_is)
    (case a_s_start => k_is)
    (case i_s_start => k_is)
    (case l_s_start => k_is)
    (case c_s_start => k_is)
    (case k_s_start => k_is)
    (case a_s_has_replica => k_is)
    (case i_s_has_replica => k_is)
    (case l_s_has_replica => k_is)
    (case c_s_has_replica => k_is)
    (case k_s_has_replica => k_is)
    (case a_s_has_room_for => k_is)
    (case i_s_has_room_for => k_is)
    (case l_s_has_room_for => k_is)
    (case c_s_has_room_for => k_is)
    (case k_s_has_room_for => k_is)
    (case a_s_how_many_others => k_is)
    (case i_s_how_many_others => k_is)
    (case l_s_how_many_others => k_is)
    (case c_s_how_many_others => k_is)
    (case k_s_how_many_others => k_is)
    (case a_s_say => k_is)
    (case i_s_say => k_is)
    (case l_s_say => k_is)
    (case c_s_say => k_is)
    (case k_s_say => k_is)
    (case a_s_say_all => k_is)
    (case i_s_say_all => k_is)
    (case l_s_say_all => k_is)
    (case c_s_say_all => k_is)
    (case k_s_say_all => k_is)
    (case a_c_answers => k_is)
    (case l_c_answers => k_is)
    (case c_c_answers => k_is)
    (case k_c_answers => k_is)
    (case g_VOTE_FOR_ME => k_is)
    (case g_ABOUT_VOTE => k_is)
    (case g_HAVE_THESE => k_is)
    (case g_ABOUT_ENTRIES => k_is)
    (case g_FOLLOWS => k_is)
    (case g_STANDS => k_is)
    (case g_LEADS => k_is)
    (case g_MOST_ENTRIES_SENT => k_is)
    (case g_BAD_NUMBER => k_is)
    (case g_NOT_IN_THIS_ROLE => k_is)
    (case g_NOT_THERE => k_is)
    (case g_NO_ROOM => k_is)
    (case g_MOST_VALUE => k_is)
    (case g_MOST_TERM => k_is)
    (case g_MOST_ENTRIES => k_is)
    (case g_MOST_UNDER_WAY => k_is)
    (case b_len => k_is)
    (case b_max => k_is)
    (case b_enumerate => k_is)
    (case b_range => k_is)
    (case b_tuple => k_is)
    (case b_min => k_is)
    (case b_list => k_is)
    (case a_rc => k_is)
    (case l_rc => k_is)
    (case a_d0 => k_is)
    (case l_d0 => k_is)
    (case s_d0 => exact rfl)
    (case p_d0 => exact fun P w => (.cons rfl rfl .nil))
    (case q_d0 => exact fun P w => Pr.keys_list (by decide +kernel))
    (case a_d1 => k_is)
    (case l_d1 => k_is)
    (case s_d1 => exact rfl)
    (case p_d1 => exact fun P w => (.cons rfl rfl (.cons rfl rfl (.cons rfl rfl (.cons rfl rfl (.cons rfl rfl (.cons rfl rfl (.cons rfl rfl (.cons rfl rfl (.cons rfl rfl (.cons rfl rfl (.cons rfl rfl .nil))))))))))))
    (case q_d1 => exact fun P w => Pr.keys_list (by decide +kernel))
    (case a_d2 => k_is)
    (case l_d2 => k_is)
    (case s_d2 => exact rfl)
    (case p_d2 => exact fun P w => (.cons rfl rfl .nil))
    (case q_d2 => exact fun P w => Pr.keys_list (by decide +kernel))
  case S =>
    intro K H xs a hO hwi hask hx
    cases hx with
    | cons h1 h2 =>
      cases h2
      cases h1 with
      | lst hs ha =>
        have e := L2.ints_dw a.1 _ ha
        subst e
        have q : ((Codec.inLen 0 16000 a.1 && a.1.all (Codec.inInt 0 9223372036854775807)) && true) = true := hwi
        rw [Bool.and_eq_true, Bool.and_eq_true] at q
        exact ⟨_, a.1, rfl, hs, (Codec.inNat_iff.mp q.1.1).2, hask, fun H' p hp => .lst (L2.SqL.of hp) (L2.dw_ints _)⟩
#print axioms PySem.Challenge.cw_oneleader_s01_answers_holds
