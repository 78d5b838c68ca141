import PyProof.Rows.All
import Wide.All
import OpenK.AllK
import Wide.FinOn
import PyProof.EqAt
import PyProof.EqKinds
import PyProof.TupleCall
import KE.BitLaws
import Open.SpecLaws
import KE.OsHead
import KE.OsGo
import PySem.Challenge.RW_ferryrows_s10_count
set_option Elab.async false
set_option linter.all false
set_option maxRecDepth 100000
section
set_option maxHeartbeats 4000001
-- CHANGE: your row's module here, as the last of these rows
/-! THE HAND LAYER, for ints, bools, texts, own classes, lists, tuples, dicts, comprehensions, walks over dicts, enumerate, zip, reversed, texts, calls, loops. Paste it whole ahead of your own text; what your proof does not reach may be deleted. -/
namespace L2
open PySem PySem.Spec PyProof.Rows

/-- a key: an int or a str -/
abbrev Key := Sum Int Str
def keyIs : Key → Value → Bool
  | .inl k, v => Value.isInt k v
  | .inr x, v => Value.isStrOf x v
def keyH (w : World) : Key → Int
  | .inl k => hashInt k
  | .inr x => hashStr w x
theorem keyIs_shape : ∀ {k : Key} {v : Value}, keyIs k v = true → (∃ i t, k = Sum.inl i ∧ v = Value.int i t) ∨ (∃ x t, k = Sum.inr x ∧ v = Value.str x t)
  | .inl i, v, h => by
    obtain ⟨t, e⟩ := Value.isInt_shape (k := i) (v := v) h
    exact .inl ⟨i, t, rfl, e⟩
  | .inr x, v, h => by
    obtain ⟨t, e⟩ := Value.isStrOf_shape (x := x) (v := v) h
    exact .inr ⟨x, t, rfl, e⟩
theorem keyIs_int (i : Int) (t : Tok) : keyIs (.inl i) (.int i t) = true := by simp [keyIs, Value.isInt]
theorem keyIs_str (x : Str) (t : Tok) : keyIs (.inr x) (.str x t) = true := by simp [keyIs, Value.isStrOf]
theorem key_ll (a b : Int) : decide ((Sum.inl a : Key) = Sum.inl b) = (a == b) := by
  by_cases e : a = b
  · subst e; simp
  · have h : ¬ (Sum.inl a : Key) = Sum.inl b := fun q => e (Sum.inl.inj q)
    rw [decide_eq_false h]
    exact (beq_eq_false_iff_ne.mpr e).symm
theorem key_rr (a b : Str) : decide ((Sum.inr a : Key) = Sum.inr b) = decide (a = b) := by
  by_cases e : a = b
  · subst e; simp
  · have h : ¬ (Sum.inr a : Key) = Sum.inr b := fun q => e (Sum.inr.inj q)
    rw [decide_eq_false h, decide_eq_false e]
theorem key_lr (a : Int) (b : Str) : decide ((Sum.inl a : Key) = Sum.inr b) = false := decide_eq_false (fun q => nomatch q)
theorem key_rl (a : Str) (b : Int) : decide ((Sum.inr a : Key) = Sum.inl b) = false := decide_eq_false (fun q => nomatch q)

def mixKind (prog : Program) (w : World) : PySem.KeyKind prog w Key where
  is := keyIs
  hash := keyH w
  inj := fun v a b ha hb => by
    rcases keyIs_shape ha with ⟨i, t, rfl, rfl⟩ | ⟨x, t, rfl, rfl⟩
    · rcases keyIs_shape hb with ⟨j, u, rfl, e⟩ | ⟨y, u, rfl, e⟩
      · injection e with e1 _; rw [e1]
      · exact nomatch e
    · rcases keyIs_shape hb with ⟨j, u, rfl, e⟩ | ⟨y, u, rfl, e⟩
      · exact nomatch e
      · injection e with e1 _; rw [e1]
  byValue := fun k v h => by
    rcases keyIs_shape h with ⟨i, t, rfl, rfl⟩ | ⟨x, t, rfl, rfl⟩ <;> rfl
  pyHash := fun hv h => by
    rcases keyIs_shape hv with ⟨i, t, rfl, rfl⟩ | ⟨x, t, rfl, rfl⟩
    · exact wpAny_pyHash_int h
    · exact wpAny_pyHash_str h
  eqBool := fun hu hv h => by
    rcases keyIs_shape hu with ⟨i, t, rfl, rfl⟩ | ⟨x, t, rfl, rfl⟩
    · rcases keyIs_shape hv with ⟨j, u, rfl, rfl⟩ | ⟨y, u, rfl, rfl⟩
      · rw [key_ll] at h; exact wpAny_eqBool_int h
      · rw [key_lr] at h; exact SeqAt.EqAt.int_str i t y u _ _ _ _ h
    · rcases keyIs_shape hv with ⟨j, u, rfl, rfl⟩ | ⟨y, u, rfl, rfl⟩
      · rw [key_rl] at h; exact SeqAt.EqAt.str_int x t j u _ _ _ _ h
      · rw [key_rr] at h; exact wpAny_eqBool_str h
  «strs» := fun k x t v h => by
    rcases keyIs_shape h with ⟨i, u, rfl, e⟩ | ⟨y, u, rfl, e⟩
    · exact nomatch e
    · injection e with e1 _
      subst e1
      cases v <;> rfl

theorem mixKind_int (prog : Program) (w : World) (i : Int) (t : Tok) : (mixKind prog w).is (.inl i) (.int i t) = true := keyIs_int i t
theorem mixKind_str (prog : Program) (w : World) (x : Str) (t : Tok) : (mixKind prog w).is (.inr x) (.str x t) = true := keyIs_str x t
end L2

namespace L2
open PySem PySem.Spec PyProof.Rows

/-- a value, without the heap -/
inductive V where
  | non | bl (b : Bool) | int (i : Int) | str (x : Str) | byt (b : Array UInt8) | flt (b : UInt64) | ref (a : Addr) | ty (n : String)
  deriving DecidableEq

def RelV : V → Value → Prop
  | .non, u => u = Value.none
  | .bl b, u => u = Value.bool b
  | .int i, u => ∃ t, u = Value.int i t
  | .str x, u => ∃ t, u = Value.str x t
  | .byt b, u => ∃ t, u = Value.bytes b t
  | .flt b, u => ∃ t, u = Value.float b t
  | .ref a, u => u = Value.ref a
  | .ty n, u => u = Value.type n

abbrev Vals : List V → List Value → Prop := Paired RelV
theorem Vals.length {xs : List V} {us : List Value} (r : Vals xs us) : xs.length = us.length := Paired.length r
theorem Vals.get : ∀ {xs : List V} {us : List Value} {i : Nat} {x : V}, Vals xs us → xs[i]? = some x → ∃ u, us[i]? = some u ∧ RelV x u
  | _, _, _, _, .nil, e => by simp at e
  | _, _, 0, _, .cons r _, e => by simp at e; subst e; exact ⟨_, rfl, r⟩
  | _, _, i + 1, x, .cons _ t, e => by
    obtain ⟨u, h1, h2⟩ := Vals.get (i := i) (x := x) t (by simpa using e)
    exact ⟨u, by simpa using h1, h2⟩
theorem Vals.append : ∀ {xs ys : List V} {us ws : List Value}, Vals xs us → Vals ys ws → Vals (xs ++ ys) (us ++ ws)
  | _, _, _, _, .nil, s => s
  | _, _, _, _, .cons r t, s => .cons r (Vals.append t s)
theorem Vals.take : ∀ {xs : List V} {us : List Value} (n : Nat), Vals xs us → Vals (xs.take n) (us.take n)
  | _, _, 0, _ => .nil
  | _, _, _ + 1, .nil => .nil
  | _, _, n + 1, .cons r t => .cons r (Vals.take n t)
theorem Vals.drop : ∀ {xs : List V} {us : List Value} (n : Nat), Vals xs us → Vals (xs.drop n) (us.drop n)
  | _, _, 0, r => r
  | _, _, _ + 1, .nil => .nil
  | _, _, n + 1, .cons _ t => Vals.drop n t
def RelO : Option V → Option Value → Prop
  | some v, some u => RelV v u
  | none, none => True
  | _, _ => False
def KV {κ : Type} : List (κ × V) → List (κ × Value) → Prop := Paired fun (p : κ × V) (q : κ × Value) => p.1 = q.1 ∧ RelV p.2 q.2

/-- a key of a dict (00_mix): an int or a text -/
def kV : Key → V
  | .inl i => .int i
  | .inr x => .str x

/-- what stands at a tracked address -/
inductive HO where
  /-- a list -/
  | lst (xs : List V)
  /-- a tuple (never changes) -/
  | tup (xs : List V)
  /-- a dict whose keys are ints and texts; one whose keys are tuples of ints and texts (the empty one is both) -/
  | dK (kvs : List (Key × V)) | dT (kvs : List (List Key × V))
  /-- a set of ints: its members, its size -/
  | set (S : Int → Bool) (n : Nat)
  /-- an instance of the class at C, its dict at dx, its attributes -/
  | ins (C dx : Addr) (fs : List (Str × V))
  /-- the dict of the instance at x -/
  | own (x : Addr)
  /-- the dict of an exception -/
  | xd (fs : List (Str × V))
  /-- a bound method, f of x -/
  | met (f x : Addr)
  /-- a range object lo, lo + 1, .. below hi -/
  | rng (lo hi : Int)
  /-- a thing that is known to the object (the script; a dict while a loop walks it): read, never written while it is so -/
  | frz (o : Obj) (u : HO)
  /-- a code object's table -/
  | tbl (ps : Array Value)
  /-- any other thing, by what is true of its one object (a def of one's own: SetO a S n := HO.ext fun h => ..) -/
  | ext (φ : Heap → Prop)

abbrev Hp := Addr → Option HO
def upd (H : Hp) (a : Addr) (o : HO) : Hp := fun b => if b = a then some o else H b
theorem upd_same {H : Hp} {a : Addr} {o : HO} : upd H a o a = some o := by unfold upd; rw [if_pos rfl]
theorem upd_ne {H : Hp} {a b : Addr} {o : HO} (h : b ≠ a) : upd H a o b = H b := by unfold upd; rw [if_neg h]
theorem upd_upd {H : Hp} {a : Addr} {o u : HO} : upd (upd H a o) a u = upd H a u := by
  funext b; unfold upd; split <;> rfl
/-- two objects of different content stand apart -/
theorem ne_of {H : Hp} {a b : Addr} {o u : HO} (h : H a = some o) (h' : H b = some u) (d : o ≠ u) : a ≠ b := by
  intro e; subst e; rw [h] at h'; exact d (Option.some.inj h')
theorem ne_of_none {H : Hp} {a b : Addr} {o : HO} (h : H a = some o) (h' : H b = none) : a ≠ b := by
  intro e; subst e; rw [h] at h'; cases h'

section
variable (P : Program) (w : World)
def ObjOk (H : Hp) (h : Heap) (a : Addr) : HO → Prop
  | .lst xs => xs.length ≤ sizeLine ∧ ∃ (its : List Value) (n : Nat), Vals xs its ∧ h.get? a = some { cls := .type "list", data := .seq its.toArray n }
  | .tup xs => xs.length ≤ sizeLine ∧ ∃ its : List Value, Vals xs its ∧ IsTup h a its.toArray
  | .dK kvs => kvs.length ≤ sizeLine ∧ (a == sysModules) = false ∧ ∃ vs, KV kvs vs ∧ h.DictOf (mixKind P w) a vs
  | .dT kvs => kvs.length ≤ sizeLine ∧ (a == sysModules) = false ∧ ∃ xs : List (List Key × Addr × Value),
      Paired (fun (p : List Key × V) (q : List Key × Addr × Value) => p.1 = q.1 ∧ H q.2.1 = some (.tup (p.1.map kV)) ∧ RelV p.2 q.2.2) kvs xs ∧
      ∃ o es ep, h.get? a = some o ∧ o.ExactDict ∧ o.data = .dict es ep ∧ es.toList = xs.map (entryOfKey (tupleKind (mixKind P w))) ∧ (xs.map (·.1)).Nodup
  | .set S n => h.SetOf (intKind P w) a S n
  | .ins C dx fs => H dx = some (.own a) ∧ fs.length ≤ 1000 ∧ dx ≠ a ∧ h.get? a = some (PySem.W.instObj C dx) ∧
      ∃ mA, h.Ns1 dx mA ∧ (∀ f, RelO (fs.lookup f) (mA f)) ∧ PySem.Within mA (fs.map (·.1))
  | .own _ => ∃ o, h.get? a = some o
  | .xd fs => ∃ mA, h.Ns1 a mA ∧ ∀ f, RelO (fs.lookup f) (mA f)
  | .rng lo hi => ∃ t u v, h.get? a = some { cls := .type "range", data := .fields #[.int lo t, .int hi u, .int 1 v] }
  | .frz o u => h.get? a = some o ∧ ObjOk H h a u
  | .tbl ps => h.get? a = some { cls := .none, data := .fields ps }
  | .met f x => h.get? a = some (PySem.W.methodObj (.ref f) (.ref x))
  | .ext φ => φ h ∧ (∃ o, h.get? a = some o) ∧ ∀ h1 h2 : Heap, φ h1 → (∀ o, h1.get? a = some o → h2.get? a = some o) → φ h2
/-- the abstract heap is held -/
def HOk (H : Hp) (h : Heap) : Prop := ∀ a o, H a = some o → ObjOk P w H h a o
end

section
variable {P : Program} {w : World} {H H' : Hp} {h h' : Heap} {a : Addr} {o : HO}
theorem ObjOk.lt (x : ObjOk P w H h a o) : a < h.objs.size := by
  cases o with
  | lst xs => obtain ⟨_, _, _, _, e⟩ := x; exact Heap.lt_size e
  | tup xs => obtain ⟨_, _, _, p⟩ := x; exact p.lt
  | dK kvs => obtain ⟨_, _, _, _, o, _, _, e, _⟩ := x; exact Heap.lt_size e
  | dT kvs => obtain ⟨_, _, _, _, o, _, _, e, _⟩ := x; exact Heap.lt_size e
  | set S n => obtain ⟨o, _, _, _, e, _⟩ := x; exact Heap.lt_size e
  | ins C dx fs => obtain ⟨_, _, _, e, _⟩ := x; exact Heap.lt_size e
  | own y => obtain ⟨_, e⟩ := x; exact Heap.lt_size e
  | xd fs => obtain ⟨_, ⟨_, _, _, e, _⟩, _⟩ := x; exact Heap.lt_size e
  | rng lo hi => obtain ⟨_, _, _, e⟩ := x; exact Heap.lt_size e
  | frz ob u => obtain ⟨e, _⟩ := x; exact Heap.lt_size e
  | tbl ps => exact Heap.lt_size (show h.get? a = some _ from x)
  | met f y => exact Heap.lt_size (show h.get? a = some _ from x)
  | ext φ => obtain ⟨_, ⟨_, e⟩, _⟩ := x; exact Heap.lt_size e
theorem Paired.mapP {α β : Type} {F G : α → β → Prop} : ∀ {l₁ : List α} {l₂ : List β}, Paired F l₁ l₂ → (∀ a b, F a b → G a b) → Paired G l₁ l₂
  | _, _, .nil, _ => .nil
  | _, _, .cons r t, f => .cons (f _ _ r) (Paired.mapP t f)
/-- what an object's description leans on: its own object, its own dict, the tuples -/
theorem ObjOk.stay (x : ObjOk P w H h a o) (k : ∀ b u, (b = a ∨ H b = some (.own a)) → h.get? b = some u → h'.get? b = some u)
    (ho : ∀ b, H b = some (.own a) → H' b = some (.own a)) (ht : ∀ b xs, H b = some (.tup xs) → H' b = some (.tup xs)) : ObjOk P w H' h' a o := by
  induction o with
  | lst xs => obtain ⟨z, its, n, r, e⟩ := x; exact ⟨z, its, n, r, k _ _ (.inl rfl) e⟩
  | tup xs => obtain ⟨z, its, r, ob, e, c⟩ := x; exact ⟨z, its, r, ob, k _ _ (.inl rfl) e, c⟩
  | dK kvs => obtain ⟨z, y, vs, r, ob, es, ep, e, c⟩ := x; exact ⟨z, y, vs, r, ob, es, ep, k _ _ (.inl rfl) e, c⟩
  | dT kvs =>
    obtain ⟨z, y, xs, r, ob, es, ep, e, c⟩ := x
    exact ⟨z, y, xs, Paired.mapP r fun p q z => ⟨z.1, ht _ _ z.2.1, z.2.2⟩, ob, es, ep, k _ _ (.inl rfl) e, c⟩
  | set S n => obtain ⟨ob, es, ep, t, e, c⟩ := x; exact ⟨ob, es, ep, t, k _ _ (.inl rfl) e, c⟩
  | ins C dx fs =>
    obtain ⟨d, z, ne, e, mA, ⟨od, es, ep, e2, c⟩, r⟩ := x
    exact ⟨ho _ d, z, ne, k _ _ (.inl rfl) e, mA, ⟨od, es, ep, k _ _ (.inr d) e2, c⟩, r⟩
  | own y => obtain ⟨ob, e⟩ := x; exact ⟨ob, k _ _ (.inl rfl) e⟩
  | xd fs => obtain ⟨mA, ⟨od, es, ep, e, c⟩, r⟩ := x; exact ⟨mA, ⟨od, es, ep, k _ _ (.inl rfl) e, c⟩, r⟩
  | rng lo hi => obtain ⟨t, u, v, e⟩ := x; exact ⟨t, u, v, k _ _ (.inl rfl) e⟩
  | frz ob u ih => obtain ⟨e, q⟩ := x; exact ⟨k _ _ (.inl rfl) e, ih q⟩
  | tbl ps =>
    have e : h.get? a = some { cls := .none, data := .fields ps } := x
    show h'.get? a = some { cls := .none, data := .fields ps }
    exact k a _ (.inl rfl) e
  | met f y =>
    have e : h.get? a = some (PySem.W.methodObj (.ref f) (.ref y)) := x
    show h'.get? a = some (PySem.W.methodObj (.ref f) (.ref y))
    exact k a _ (.inl rfl) e
  | ext φ => obtain ⟨p, ⟨o, e⟩, st⟩ := x; exact ⟨st _ _ p fun o q => k _ _ (.inl rfl) q, ⟨o, k _ _ (.inl rfl) e⟩, st⟩
theorem HOk.lt (x : HOk P w H h) (e : H a = some o) : a < h.objs.size := (x a o e).lt
theorem HOk.fresh (x : HOk P w H h) (e : h.objs.size ≤ a) : H a = none := by
  cases q : H a with
  | none => rfl
  | some u => exact absurd (Nat.lt_of_lt_of_le (x.lt q) e) (Nat.lt_irrefl _)
/-- every object of the heap is kept -/
theorem HOk.kept (x : HOk P w H h) (k : ∀ b u, h.get? b = some u → h'.get? b = some u) : HOk P w H h' := fun a o e =>
  (x a o e).stay (fun b u _ q => k b u q) (fun _ q => q) fun _ _ q => q
/-- a new object is laid and tracked -/
theorem HOk.laid (x : HOk P w H h) (k : ∀ b u, h.get? b = some u → h'.get? b = some u) (hp : h.objs.size ≤ a) (new : ObjOk P w (upd H a o) h' a o) : HOk P w (upd H a o) h' := fun b u e => by
  have hn := x.fresh hp
  by_cases hb : b = a
  · subst hb; rw [upd_same] at e; cases e; exact new
  · rw [upd_ne hb] at e
    exact (x b u e).stay (fun c v _ q => k c v q) (fun c q => by rw [upd_ne (ne_of_none q hn)]; exact q) fun c xs q => by rw [upd_ne (ne_of_none q hn)]; exact q
end

/-- what may be read as u: it is u, or a known u -/
def Rd (H : Hp) (a : Addr) (u : HO) : Prop := H a = some u ∨ ∃ o, H a = some (.frz o u)
theorem Rd.ok {P : Program} {w : World} {H : Hp} {h : Heap} {a : Addr} {u : HO} (r : Rd H a u) (x : HOk P w H h) : ObjOk P w H h a u := by
  rcases r with r | ⟨o, r⟩
  · exact x a u r
  · obtain ⟨_, q⟩ := x a _ r
    exact q
/-- what may be written -/
def Mut : Option HO → Prop
  | some (.lst _) => True
  | some (.dK _) => True
  | some (.dT _) => True
  | some (.set _ _) => True
  | some (.ins _ _ _) => True
  | some (.ext _) => True
  | _ => False
section
variable {P : Program} {w : World} {H : Hp} {h h' : Heap} {x e : Addr} {o' : HO}
/-- the object at e is changed: x itself, or the dict of the instance x -/
theorem HOk.write (ok : HOk P w H h) (mu : Mut (H x)) (he : e = x ∨ H e = some (.own x)) (k : ∀ b u, b ≠ e → h.get? b = some u → h'.get? b = some u) (heo : ∃ u, h'.get? e = some u)
    (new : ObjOk P w (upd H x o') h' x o') : HOk P w (upd H x o') h' := fun b u q => by
  have nown : ∀ c y, H c = some (.own y) → c ≠ x := fun c y r z => by subst z; rw [r] at mu; exact mu
  have ntup : ∀ c xs, H c = some (.tup xs) → c ≠ x := fun c xs r z => by subst z; rw [r] at mu; exact mu
  by_cases hb : b = x
  · subst hb; rw [upd_same] at q; cases q; exact new
  · rw [upd_ne hb] at q
    by_cases hbe : b = e
    · have q' : H b = some (.own x) := by
        rcases he with z | z
        · exact absurd (hbe.trans z) hb
        · rw [hbe]; exact z
      rw [q] at q'; cases q'
      obtain ⟨v, hv⟩ := heo
      exact ⟨v, by rw [hbe]; exact hv⟩
    · refine (ok b u q).stay (fun c v hc r => k c v ?_ r) (fun c r => by rw [upd_ne (nown c b r)]; exact r) fun c xs r => by rw [upd_ne (ntup c xs r)]; exact r
      rcases hc with rfl | hc
      · exact hbe
      · rintro rfl
        rcases he with z | z
        · exact nown c b hc z
        · rw [hc] at z; cases z; exact hb rfl
end

/-! ### kept unless tracked; of the frames at fs (the callers') the slots may change (an exception that passes writes there); of the records at ex (iterators) nothing is said -/
structure Un (fs ex : List Addr) (H H' : Hp) (h h' : Heap) : Prop where
  keep : ∀ b o, h.get? b = some o → H b = none → b ∉ fs → b ∉ ex → h'.get? b = some o
  slot : ∀ b o, h.get? b = some o → H b = none → b ∈ fs → b ∉ ex → ∃ sl, h'.get? b = some { o with slots := sl }
  free : ∀ b o, h.get? b = some o → H b = none → b ∉ ex → H' b = none
  there : ∀ b o, h.get? b = some o → b ∉ ex → ∃ o', h'.get? b = some o'
  tups : ∀ b xs, H b = some (.tup xs) → H' b = some (.tup xs)
  frzs : ∀ b o u, H b = some (.frz o u) → H' b = some (.frz o u)
  tbls : ∀ b ps, H b = some (.tbl ps) → ∃ more, H' b = some (.tbl (ps ++ more))
section
variable {fs fs' ex ex' : List Addr} {H H1 H2 : Hp} {h h1 h2 h' : Heap} {a x e : Addr} {o : HO}
theorem Un.any (u : Un fs ex H H1 h h1) {b : Addr} {ob : Obj} (q : h.get? b = some ob) (n : H b = none) (hx : b ∉ ex) : ∃ sl, h1.get? b = some { ob with slots := sl } := by
  by_cases hb : b ∈ fs
  · exact u.slot b ob q n hb hx
  · exact ⟨ob.slots, u.keep b ob q n hb hx⟩
theorem Un.kept (k : ∀ b u, h.get? b = some u → h'.get? b = some u) : Un fs ex H H h h' :=
  ⟨fun b ob q _ _ _ => k b ob q, fun b ob q _ _ _ => ⟨ob.slots, k b ob q⟩, fun _ _ _ n _ => n, fun b ob q _ => ⟨ob, k b ob q⟩, fun _ _ q => q, fun _ _ _ q => q, fun _ ps q => ⟨#[], by rw [q]; simp⟩⟩
theorem Un.refl : Un fs ex H H h h := Un.kept fun _ _ q => q
theorem Un.laid (k : ∀ b u, h.get? b = some u → h'.get? b = some u) (hp : h.objs.size ≤ a) (hn : H a = none) : Un fs ex H (upd H a o) h h' where
  keep := fun b u q _ _ _ => k b u q
  slot := fun b u q _ _ _ => ⟨u.slots, k b u q⟩
  free := fun b u q n _ => by rw [upd_ne (Nat.ne_of_lt (Nat.lt_of_lt_of_le (Heap.lt_size q) hp))]; exact n
  there := fun b u q _ => ⟨u, k b u q⟩
  tups := fun b xs q => by rw [upd_ne (ne_of_none q hn)]; exact q
  frzs := fun b u xs q => by rw [upd_ne (ne_of_none q hn)]; exact q
  tbls := fun b ps q => ⟨#[], by rw [upd_ne (ne_of_none q hn), q]; simp⟩
theorem Un.write (mu : Mut (H x)) (he : e = x ∨ H e = some (.own x)) (k : ∀ b u, b ≠ e → h.get? b = some u → h'.get? b = some u) (heo : ∃ u, h'.get? e = some u) : Un fs ex H (upd H x o) h h' := by
  have hx : ∀ b, H b = none → b ≠ x := fun b n z => by subst z; rw [n] at mu; exact mu
  have hb : ∀ b, H b = none → b ≠ e := fun b n z => by
    subst z
    rcases he with r | r
    · exact hx b n r
    · rw [n] at r; cases r
  have hm : ∀ b u, H b = some u → ¬ Mut (some u) → b ≠ x := fun b u q nm z => by subst z; rw [q] at mu; exact nm mu
  refine ⟨fun b u q n _ _ => k b u (hb b n) q, fun b u q n _ _ => ⟨u.slots, k b u (hb b n) q⟩, fun b u q n _ => by rw [upd_ne (hx b n)]; exact n, fun b u q _ => ?_,
    fun b xs q => by rw [upd_ne (hm b _ q fun z => z)]; exact q, fun b u xs q => by rw [upd_ne (hm b _ q fun z => z)]; exact q, fun b ps q => ⟨#[], by rw [upd_ne (hm b _ q fun z => z), q]; simp⟩⟩
  by_cases hbe : b = e
  · subst hbe; exact heo
  · exact ⟨u, k b u hbe q⟩
end

/-! ### the heap without what is tracked -/
def trk (h : Heap) (H : Hp) : List Addr := (List.range h.objs.size).filter fun a => (H a).isSome
def hidT (h : Heap) (H : Hp) : Heap := PySem.W.hideAll h (trk h H)
theorem hidT_size (h : Heap) (H : Hp) : (hidT h H).objs.size = h.objs.size := PySem.W.hideAll_size _ _
theorem hidT_get {h : Heap} {H : Hp} {b : Addr} {o : Obj} (e : h.get? b = some o) (n : H b = none) : (hidT h H).get? b = some o :=
  PySem.W.hideAll_get _ e fun hm => by
    have q : (H b).isSome = true := (List.mem_filter.mp hm).2
    rw [n] at q; simp at q
theorem of_hidT {h : Heap} {H : Hp} {b : Addr} {o : Obj} (e : (hidT h H).get? b = some o) : h.get? b = some o ∧ H b = none := by
  have e' : h.get? b = some o := PySem.W.of_hideAll (trk h H) e
  refine ⟨e', ?_⟩
  cases q : H b with
  | none => rfl
  | some x =>
    have hm : b ∈ trk h H := List.mem_filter.mpr ⟨List.mem_range.mpr (Heap.lt_size e'), by simp [q]⟩
    have z : (hidT h H).get? b = none := PySem.W.hideAll_none (trk h H) hm
    rw [z] at e; cases e

/-! ### OpenK's ledger, filled with every new object but one -/
def allNews (g h : Heap) (L : Addr) : List (Addr × Obj) := (List.range h.objs.size).filterMap fun a => if a = L ∨ (g.get? a).isSome = true then none else (h.get? a).map fun o => (a, o)
def rest (g h : Heap) (L d : Addr) : List (Addr × Obj) := (allNews g h L).filter fun p => decide (p.1 ≠ d)
end L2

namespace L2
open PySem PySem.Spec PyProof.Rows

/-- the module's facts, over the base: the heap at the law's entry without what is tracked there -/
structure Mod (K : PySem.W.Frag) (mg : Str → Option Value) (base : Heap) : Prop where
  kin : K.In base
  glob : base.Ns mainGlobals mg
  blt : ∃ mb, base.Ns builtinsNs mb ∧ ∀ x : Str, x ≠ "__name__" → mb x = bootBuiltins x
  nolimit : base.NoLimit

/-- the context: a def's body (or a comprehension's block) running. base: fixed through the whole law; s₀, H₀: the entry; outer: the frames whose slots others may change (a def's callers); stack: all frames that run;
   ex: iterators that were made ahead of the entry and are walked here (a comprehension's); fn: the names whose cells were made at the entry (a def: all; a comprehension's block: its own); calm: not within an except suite; pn: pins that every state bears; xe: what is wanted of an exception that leaves the code -/
structure Cx where
  prog : Program
  w : World
  K : PySem.W.Frag
  mg : Str → Option Value
  base : Heap
  A : Around
  N : List Str
  s_0 : Shared
  H_0 : Hp
  env : Env
  outer : List Env
  stack : List Env
  ex : List Addr
  fn : Str → Bool
  calm : Bool
  pn : List (Addr × Obj)
  xe : Value → Shared → Prop
/-- the callers' frames -/
def frs (l : List Env) : List Addr := l.filterMap (·.frame)
abbrev Cx.fs (X : Cx) : List Addr := frs X.outer

def Vis (sc : Scope) (x : Str) : Prop := sc.names.lookup x = some .local ∨ sc.names.lookup x = some .cell ∨ sc.names.lookup x = some .free
def Loc (sc : Scope) (x : Str) : Prop := sc.names.lookup x = some .local ∨ sc.names.lookup x = some .cell
def Look (env : Env) (h : Heap) (m : Str → Option Value) (x : Str) (u : Value) : Prop :=
  (env.kindOf x = some .local ∧ m x = some u) ∨ ((env.kindOf x = some .cell ∨ env.kindOf x = some .free) ∧ ∃ c, env.cells.lookup x = some c ∧ h.IsCell c (some u))

structure Cx.Ok (X : Cx) : Prop where
  mod : Mod X.K X.mg X.base
  kind : X.env.scope.kind = .function
  glob : X.env.globals = mainGlobals
  blt : X.env.builtins = builtinsNs
  above : X.s_0.heap.objs.size ≤ X.env.locals
  inj : ∀ x y c, X.env.cells.lookup x = some c → X.env.cells.lookup y = some c → x = y
  has : ∀ x, (X.env.kindOf x = some .cell ∨ X.env.kindOf x = some .free) → ∃ c, X.env.cells.lookup x = some c
  cab : ∀ x c, X.fn x = true → X.env.cells.lookup x = some c → X.s_0.heap.objs.size ≤ c
  hd : X.calm = true → X.A.handled = none
  frames : X.A.frames = some X.stack
  stk : X.stack = X.outer ∨ (X.stack = X.env :: X.outer ∧ X.env.frame = some X.env.locals)
  exf : ∀ b ∈ X.ex, b ≠ X.env.locals ∧ ∀ x c, X.env.cells.lookup x = some c → c ≠ b
  bs : ∀ b o, X.base.get? b = some o → X.s_0.heap.get? b = some o ∧ X.H_0 b = none
  bsz : X.base.objs.size ≤ X.s_0.heap.objs.size
  noex : ∀ b o, X.base.get? b = some o → b ∉ X.ex
  exfs : ∀ b ∈ X.ex, b ∉ X.fs
  funs : X.s_0.heap.FunFrames X.base X.outer
  frf : ∀ b ∈ X.fs, X.H_0 b = none

structure Inv (X : Cx) (pins : List (Addr × Obj)) (σ : List (Option V)) (H : Hp) (s : Shared) : Prop where
  ok : X.Ok
  os : s.os = X.s_0.os
  bare : AllBare s.gens
  base : Un X.fs X.ex X.H_0 H X.s_0.heap s.heap
  loc : ∃ m, s.heap.Ns X.env.locals m ∧ ∀ (i : Nat) (x : Str) (v : V), X.N[i]? = some x → σ[i]? = some (some v) → Vis X.env.scope x → ∃ u, RelV v u ∧ Look X.env s.heap m x u
  cell : ∀ x c, X.env.cells.lookup x = some c → ∃ v, s.heap.IsCell c v
  free : H X.env.locals = none
  freeC : ∀ x c, X.env.cells.lookup x = some c → H c = none
  pin : ∀ p ∈ X.pn ++ pins, s.heap.get? p.1 = some p.2 ∧ H p.1 = none ∧ p.1 ≠ X.env.locals ∧ p.1 ∉ X.fs ∧ ∀ v, p.2.data ≠ .cell v
  hok : HOk X.prog X.w H s.heap
  len : σ.length = X.N.length

section
variable {X : Cx} {pins : List (Addr × Obj)} {σ : List (Option V)} {H H' : Hp} {s : Shared} {h' : Heap}

theorem Cx.Ok.nofr (ok : X.Ok) {b : Addr} {o : Obj} (e : X.base.get? b = some o) : b ∉ X.fs := fun hb => by
  have := (ok.funs.mem hb).1
  rw [e] at this; cases this
theorem Inv.bs (I : Inv X pins σ H s) : ∀ b o, X.base.get? b = some o → s.heap.get? b = some o ∧ H b = none := fun b o e =>
  ⟨I.base.keep b o (I.ok.bs b o e).1 (I.ok.bs b o e).2 (I.ok.nofr e) (I.ok.noex b o e), I.base.free b o (I.ok.bs b o e).1 (I.ok.bs b o e).2 (I.ok.noex b o e)⟩
theorem Inv.bk (I : Inv X pins σ H s) : ∀ b o, X.base.get? b = some o → s.heap.get? b = some o := fun b o e => (I.bs b o e).1
theorem Inv.mod (I : Inv X pins σ H s) : Mod X.K X.mg X.base := I.ok.mod
theorem Inv.kIn (I : Inv X pins σ H s) : X.K.In s.heap := I.ok.mod.kin.keeps I.bk
/-- the frame over the base: for OpenK's rules (K.In X.base is I.mod.kin) -/
theorem Inv.fr (I : Inv X pins σ H s) : ∃ m, Fr X.base X.env.locals s.heap m :=
  let ⟨m, hn, _⟩ := I.loc
  ⟨m, hn, I.bk, Nat.le_trans I.ok.bsz I.ok.above⟩
theorem Inv.lt (I : Inv X pins σ H s) : X.env.locals < s.heap.objs.size := let ⟨_, hn, _⟩ := I.loc; hn.lt
theorem Inv.sz (I : Inv X pins σ H s) : X.s_0.heap.objs.size ≤ s.heap.objs.size := Nat.le_trans I.ok.above (Nat.le_of_lt I.lt)
theorem Inv.nofs (I : Inv X pins σ H s) {a : Addr} (h : s.heap.objs.size ≤ a) : a ∉ X.fs := fun hb => by
  obtain ⟨_, o, ho, _⟩ := I.ok.funs.mem hb
  exact absurd (Nat.lt_of_lt_of_le (Heap.lt_size ho) (Nat.le_trans I.sz h)) (Nat.lt_irrefl _)
theorem Inv.cne (I : Inv X pins σ H s) : ∀ x c, X.env.cells.lookup x = some c → c ≠ X.env.locals := fun x c e z => by
  obtain ⟨v, o, ho, hd⟩ := I.cell x c e
  obtain ⟨m, ⟨o', es, ep, ho', hd', _⟩, _⟩ := I.loc
  rw [z, ho'] at ho; cases ho; rw [hd'] at hd; cases hd
theorem Inv.funs (I : Inv X pins σ H s) : s.heap.FunFrames X.base X.outer := by
  have all : ∀ (l : List Env), (∀ b ∈ frs l, b ∈ X.fs) → X.s_0.heap.FunFrames X.base l → s.heap.FunFrames X.base l := by
    intro l
    induction l with
    | nil => intro _ _; trivial
    | cons env r ih =>
      intro hs hl
      obtain ⟨hk, ⟨L, o, hf, hn, ho, hd⟩, hr⟩ := hl
      have hL : L ∈ X.fs := hs L (by unfold frs; rw [List.filterMap_cons, hf]; exact List.mem_cons_self)
      obtain ⟨sl, e⟩ := I.base.slot L o ho (I.ok.frf L hL) hL fun z => I.ok.exfs L z hL
      exact ⟨hk, ⟨L, _, hf, hn, e, hd⟩, ih (fun b hb => hs b (by unfold frs; rw [List.filterMap_cons, hf]; exact List.mem_cons_of_mem _ hb)) hr⟩
  exact all X.outer (fun _ hb => hb) I.ok.funs

/-- the frames that run, for a call -/
theorem Inv.stack (I : Inv X pins σ H s) : s.heap.FunFrames X.base X.stack := by
  rcases I.ok.stk with e | ⟨e, hf⟩
  · rw [e]; exact I.funs
  · rw [e]
    obtain ⟨m, hn, _⟩ := I.loc
    refine .cons (by rw [I.ok.kind]; decide) hf hn ?_ I.funs
    exact Heap.get?_none_of_le (Nat.le_trans I.ok.bsz I.ok.above)
theorem Inv.stkSub (I : Inv X pins σ H s) : ∀ b ∈ frs X.stack, b ∈ X.env.locals :: X.fs := fun b hb => by
  rcases I.ok.stk with e | ⟨e, hf⟩
  · rw [e] at hb; exact List.mem_cons_of_mem _ hb
  · rw [e] at hb
    unfold frs at hb
    rw [List.filterMap_cons, hf] at hb
    exact hb
theorem Inv.stkFree (I : Inv X pins σ H s) : ∀ b ∈ frs X.stack, H b = none := fun b hb => by
  rcases List.mem_cons.mp (I.stkSub b hb) with e | hb
  · rw [e]; exact I.free
  · obtain ⟨_, o, ho, _⟩ := I.ok.funs.mem hb
    exact I.base.free b o ho (I.ok.frf b hb) fun z => I.ok.exfs b z hb

/-- THE STEP: the untracked objects but the frame and the records at ch are kept (the callers' frames up to slots), the frame's map is kept, the new abstract heap is held -/
theorem Inv.step {g' : Array GenState} {t' : Nat} {d' : Drawn} {ch : List Addr} (I : Inv X pins σ H s)
    (hch : ∀ b ∈ ch, (b ∈ X.ex ∨ X.s_0.heap.objs.size ≤ b) ∧ b ≠ X.env.locals ∧ (∀ x c, X.env.cells.lookup x = some c → c ≠ b) ∧ ∀ p ∈ X.pn ++ pins, p.1 ≠ b)
    (keep : ∀ b o, b ≠ X.env.locals → b ∉ X.fs → b ∉ ch → s.heap.get? b = some o → H b = none → h'.get? b = some o)
    (slot : ∀ b o, b ≠ X.env.locals → b ∈ X.fs → b ∉ ch → s.heap.get? b = some o → H b = none → ∃ sl, h'.get? b = some { o with slots := sl }) (free : ∀ b o, b ∉ ch → s.heap.get? b = some o → H b = none → H' b = none)
    (there : ∀ b o, b ∉ ch → s.heap.get? b = some o → ∃ o', h'.get? b = some o')
    (tups : ∀ b xs, H b = some (.tup xs) → H' b = some (.tup xs)) (frzs : ∀ b o u, H b = some (.frz o u) → H' b = some (.frz o u)) (tbls : ∀ b ps, H b = some (.tbl ps) → ∃ more, H' b = some (.tbl (ps ++ more)))
    (ns : ∀ m, s.heap.Ns X.env.locals m → h'.Ns X.env.locals m) (hok : HOk X.prog X.w H' h') (hg : AllBare g') :
    Inv X pins σ H' { s with heap := h', gens := g', drawn := d', toks := t' } := by
  have neL : ∀ b o, X.s_0.heap.get? b = some o → b ≠ X.env.locals := fun b o e => Nat.ne_of_lt (Nat.lt_of_lt_of_le (Heap.lt_size e) I.ok.above)
  have neC : ∀ b o, X.s_0.heap.get? b = some o → b ∉ X.ex → b ∉ ch := fun b o e hx hb => by
    rcases (hch b hb).1 with z | z
    · exact hx z
    · exact absurd (Nat.lt_of_lt_of_le (Heap.lt_size e) z) (Nat.lt_irrefl _)
  have cellK : ∀ x c, X.env.cells.lookup x = some c → ∀ v, s.heap.IsCell c v → h'.IsCell c v := fun x c e v ⟨o, ho, hd⟩ => by
    have nch : c ∉ ch := fun z => (hch c z).2.2.1 x c e rfl
    by_cases hc : c ∈ X.fs
    · obtain ⟨sl, q⟩ := slot c o (I.cne x c e) hc nch ho (I.freeC x c e)
      exact ⟨_, q, hd⟩
    · exact ⟨o, keep c o (I.cne x c e) hc nch ho (I.freeC x c e), hd⟩
  refine ⟨I.ok, I.os, hg, ⟨fun b o e n hb hx => ?_, fun b o e n hb hx => ?_, fun b o e n hx => ?_, fun b o e hx => ?_, fun b xs e => tups b xs (I.base.tups b xs e), fun b o xs e => frzs b o xs (I.base.frzs b o xs e), fun b ps e => ?_⟩, ?_, fun x c e => ?_, ?_, fun x c e => ?_, fun p hp => ?_, hok, I.len⟩
  · exact keep b o (neL b o e) hb (neC b o e hx) (I.base.keep b o e n hb hx) (I.base.free b o e n hx)
  · obtain ⟨sl, e1⟩ := I.base.slot b o e n hb hx
    obtain ⟨sl', e2⟩ := slot b _ (neL b o e) hb (neC b o e hx) e1 (I.base.free b o e n hx)
    exact ⟨sl', e2⟩
  · obtain ⟨o', e1⟩ := I.base.there b o e hx
    exact free b o' (neC b o e hx) e1 (I.base.free b o e n hx)
  · obtain ⟨o', e1⟩ := I.base.there b o e hx
    exact there b o' (neC b o e hx) e1
  · obtain ⟨m1, e1⟩ := I.base.tbls b ps e
    obtain ⟨m2, e2⟩ := tbls b _ e1
    exact ⟨m1 ++ m2, by rw [e2, Array.append_assoc]⟩
  · obtain ⟨m, hn, hl⟩ := I.loc
    refine ⟨m, ns m hn, fun i x v e1 e2 e3 => ?_⟩
    obtain ⟨u, r, l⟩ := hl i x v e1 e2 e3
    refine ⟨u, r, ?_⟩
    rcases l with l | ⟨k, c, e, z⟩
    · exact .inl l
    · exact .inr ⟨k, c, e, cellK x c e _ z⟩
  · obtain ⟨v, z⟩ := I.cell x c e
    exact ⟨v, cellK x c e v z⟩
  · obtain ⟨m, ⟨o, _, _, ho, _⟩, _⟩ := I.loc
    exact free _ o (fun z => (hch _ z).2.1 rfl) ho I.free
  · obtain ⟨v, o, ho, hd⟩ := I.cell x c e
    exact free c o (fun z => (hch c z).2.2.1 x c e rfl) ho (I.freeC x c e)
  · obtain ⟨e, n, ne, nf, d⟩ := I.pin p hp
    have nch : p.1 ∉ ch := fun z => (hch p.1 z).2.2.2 p hp rfl
    exact ⟨keep p.1 p.2 ne nf nch e n, free p.1 p.2 nch e n, ne, nf, d⟩
/-- .. where the frame's own object is kept too -/
theorem Inv.un {t' : Nat} (I : Inv X pins σ H s) (u : Un X.fs [] H H' s.heap h') (hok : HOk X.prog X.w H' h') : Inv X pins σ H' { s with heap := h', toks := t' } := by
  obtain ⟨m, ⟨o, es, ep, ho, r⟩, _⟩ := id I.loc
  obtain ⟨sl, hL⟩ := u.any ho I.free (by simp)
  exact I.step (g' := s.gens) (d' := s.drawn) (ch := []) (fun _ z => nomatch z) (fun b o _ hb _ e n => u.keep b o e n hb (by simp)) (fun b o _ hb _ e n => u.slot b o e n hb (by simp)) (fun b o _ e n => u.free b o e n (by simp)) (fun b o _ e => u.there b o e (by simp)) u.tups u.frzs u.tbls (fun m' hm => by
    obtain ⟨o', es', ep', ho', r'⟩ := hm
    rw [ho] at ho'; cases ho'
    exact ⟨_, es', ep', hL, r'⟩) hok I.bare
/-- behind a call (or a comprehension's block): the slots of this frame may have changed too, the records at ch may have turned -/
theorem Inv.call {g' : Array GenState} {t' : Nat} {d' : Drawn} {ch : List Addr} (I : Inv X pins σ H s) (u : Un (frs X.stack) ch H H' s.heap h') (hok : HOk X.prog X.w H' h') (hg : AllBare g')
    (hch : ∀ b ∈ ch, (b ∈ X.ex ∨ X.s_0.heap.objs.size ≤ b) ∧ b ≠ X.env.locals ∧ (∀ x c, X.env.cells.lookup x = some c → c ≠ b) ∧ ∀ p ∈ X.pn ++ pins, p.1 ≠ b) :
    Inv X pins σ H' { s with heap := h', gens := g', drawn := d', toks := t' } := by
  obtain ⟨m, ⟨o, es, ep, ho, r⟩, _⟩ := id I.loc
  obtain ⟨sl, hL⟩ := u.any ho I.free fun z => (hch _ z).2.1 rfl
  exact I.step (ch := ch) hch (fun b o hL hb hc e n => u.keep b o e n (fun z => (List.mem_cons.mp (I.stkSub b z)).elim hL hb) hc) (fun b o _ _ hc e n => u.any e n hc) (fun b o hc e n => u.free b o e n hc) (fun b o hc e => u.there b o e hc) u.tups u.frzs u.tbls (fun m' hm => by
    obtain ⟨o', es', ep', ho', r'⟩ := hm
    rw [ho] at ho'; cases ho'
    exact ⟨_, es', ep', hL, r'⟩) hok hg
/-- an untracked record of ours (an iterator) has turned -/
theorem Inv.turned {t' : Nat} {it : Addr} (I : Inv X pins σ H s) (k : ∀ b o, b ≠ it → s.heap.get? b = some o → h'.get? b = some o) (hn : H it = none) (hL : it ≠ X.env.locals)
    (h1 : it ∈ X.ex ∨ X.s_0.heap.objs.size ≤ it) (h2 : ∀ x c, X.env.cells.lookup x = some c → c ≠ it) (h3 : ∀ p ∈ X.pn ++ pins, p.1 ≠ it) : Inv X pins σ H { s with heap := h', toks := t' } := by
  have nit : ∀ b u, H b = some u → b ≠ it := fun b u e z => by rw [z, hn] at e; cases e
  refine I.step (g' := s.gens) (d' := s.drawn) (ch := [it]) (fun b hb => ?_) (fun b o _ _ hc e _ => k b o (fun z => hc (by simp [z])) e) (fun b o _ _ hc e _ => ⟨o.slots, k b o (fun z => hc (by simp [z])) e⟩) (fun _ _ _ _ n => n)
    (fun b o hc e => ⟨o, k b o (fun z => hc (by simp [z])) e⟩) (fun _ _ e => e) (fun _ _ _ e => e) (fun b ps e => ⟨#[], by rw [e]; simp⟩) (fun m hm => ?_) (fun b u e => ?_) I.bare
  · have e : b = it := by simpa using hb
    subst e
    exact ⟨h1, hL, h2, h3⟩
  · obtain ⟨o, es, ep, ho, r⟩ := hm
    exact ⟨o, es, ep, k _ o (Ne.symm hL) ho, r⟩
  · refine (I.hok b u e).stay (fun c v hc q => k c v ?_ q) (fun _ q => q) fun _ _ q => q
    rcases hc with z | z
    · rw [z]; exact nit b u e
    · exact nit c _ z
theorem Inv.tok (I : Inv X pins σ H s) (t : Nat) : Inv X pins σ H { s with toks := t } := I.un (h' := s.heap) (t' := t) Un.refl I.hok
/-- all objects kept -/
theorem Inv.kept {t' : Nat} (I : Inv X pins σ H s) (k : ∀ b u, s.heap.get? b = some u → h'.get? b = some u) : Inv X pins σ H { s with heap := h', toks := t' } := I.un (Un.kept k) (I.hok.kept k)
/-- a new object laid and tracked -/
theorem Inv.laid {a : Addr} {o : HO} {t' : Nat} (I : Inv X pins σ H s) (k : ∀ b u, s.heap.get? b = some u → h'.get? b = some u) (hp : s.heap.objs.size ≤ a) (new : ObjOk X.prog X.w (upd H a o) h' a o) :
    Inv X pins σ (upd H a o) { s with heap := h', toks := t' } := I.un (Un.laid k hp (I.hok.fresh hp)) (I.hok.laid k hp new)
/-- an object written -/
theorem Inv.write {x e : Addr} {o : HO} {t' : Nat} (I : Inv X pins σ H s) (mu : Mut (H x)) (he : e = x ∨ H e = some (.own x)) (k : ∀ b u, b ≠ e → s.heap.get? b = some u → h'.get? b = some u) (heo : ∃ u, h'.get? e = some u)
    (new : ObjOk X.prog X.w (upd H x o) h' x o) : Inv X pins σ (upd H x o) { s with heap := h', toks := t' } := I.un (Un.write mu he k heo) (I.hok.write mu he k heo new)
/-- forgetting slots, pins -/
theorem Inv.weak {σ' : List (Option V)} (I : Inv X pins σ H s) (hl : σ'.length = σ.length) (w : ∀ (i : Nat) v, σ'[i]? = some (some v) → σ[i]? = some (some v)) : Inv X pins σ' H s :=
  ⟨I.ok, I.os, I.bare, I.base, let ⟨m, hn, hl'⟩ := I.loc; ⟨m, hn, fun i x v e1 e2 e3 => hl' i x v e1 (w i v e2) e3⟩, I.cell, I.free, I.freeC, I.pin, I.hok, hl.trans I.len⟩
theorem Inv.pins_of {pins' : List (Addr × Obj)} (I : Inv X pins σ H s) (h : ∀ p ∈ pins', s.heap.get? p.1 = some p.2 ∧ H p.1 = none ∧ p.1 ≠ X.env.locals ∧ p.1 ∉ X.fs ∧ ∀ v, p.2.data ≠ .cell v) : Inv X pins' σ H s :=
  ⟨I.ok, I.os, I.bare, I.base, I.loc, I.cell, I.free, I.freeC, fun p hp => (List.mem_append.mp hp).elim (fun z => I.pin p (List.mem_append_left _ z)) (h p), I.hok, I.len⟩

theorem nodup_ix {N : List Str} (hN : N.Nodup) {i j : Nat} {x : Str} (a : N[i]? = some x) (b : N[j]? = some x) : i = j := by
  obtain ⟨h1, e1⟩ := List.getElem?_eq_some_iff.mp a
  obtain ⟨h2, e2⟩ := List.getElem?_eq_some_iff.mp b
  exact (List.getElem_inj hN).mp (e1.trans e2.symm)

/-- a name is stored; what changed -/
theorem store_ok2 {M : Model} {A : Around} {E : Value → Shared → Prop} {i : Nat} {x : Str} {v : V} {u : Value} {Q : Unit → Shared → Prop} (I : Inv X pins σ H s) (hN : X.N.Nodup) (hi : X.N[i]? = some x) (hx : Loc X.env.scope x) (r : RelV v u)
    (h : ∀ s', Inv X pins (σ.set i (some v)) H s' → (∃ a, Heap.SameBut a s.heap s'.heap ∧ (a = X.env.locals ∨ X.env.cells.lookup x = some a)) → Q () s') (hf : X.fn x = true ∨ X.env.scope.names.lookup x = some .local := by first | exact .inl rfl | exact .inr rfl | assumption) : wpAny M A (storeName X.env x u) Q E s := by
  obtain ⟨m, hn, hl⟩ := id I.loc
  have hcls : (X.env.scope.kind == .class || (X.env.scope.kind == .module && X.env.locals != X.env.globals)) = false := by rw [I.ok.kind]; rfl
  have hiσ : i < σ.length := by rw [I.len]; exact (List.getElem?_eq_some_iff.mp hi).1
  have cne := I.cne
  have tracked : ∀ {a : Addr} {h' : Heap}, (∃ o, s.heap.get? a = some o ∧ H a = none) → Heap.SameBut a s.heap h' → HOk X.prog X.w H h' := fun {a h'} ha hs b ob e => by
    obtain ⟨_, _, hfree⟩ := ha
    refine (I.hok b ob e).stay (fun c w' hc q => (hs.2 c ?_).trans q) (fun _ q => q) fun _ _ q => q
    rintro rfl
    rcases hc with rfl | hc
    · rw [hfree] at e; cases e
    · rw [hfree] at hc; cases hc
  rcases hx with hk | hk
  · refine wpAny_storeName_local hk hn (fun h' hn' hs => ?_) hcls
    obtain ⟨oL, _, _, hoL, _⟩ := id hn
    refine h _ ⟨I.ok, I.os, I.bare, ⟨fun b o e n hb hx => ?_, fun b o e n hb hx => ?_, I.base.free, fun b o e hx => ?_, I.base.tups, I.base.frzs, I.base.tbls⟩, ⟨_, hn', fun j y v' e1 e2 e3 => ?_⟩, fun y c e => ?_, I.free, I.freeC, fun p hp => ?_, tracked ⟨oL, hoL, I.free⟩ hs, by simpa using I.len⟩ ⟨_, hs, .inl rfl⟩
    · exact (hs.2 b (Nat.ne_of_lt (Nat.lt_of_lt_of_le (Heap.lt_size e) I.ok.above))).trans (I.base.keep b o e n hb hx)
    · obtain ⟨sl, e1⟩ := I.base.slot b o e n hb hx
      exact ⟨sl, (hs.2 b (Nat.ne_of_lt (Nat.lt_of_lt_of_le (Heap.lt_size e) I.ok.above))).trans e1⟩
    · obtain ⟨o', e1⟩ := I.base.there b o e hx
      exact ⟨o', (hs.2 b (Nat.ne_of_lt (Nat.lt_of_lt_of_le (Heap.lt_size e) I.ok.above))).trans e1⟩
    · by_cases hj : j = i
      · subst hj
        rw [hi] at e1; cases e1
        rw [List.getElem?_set_self hiσ] at e2
        cases e2
        exact ⟨u, r, .inl ⟨hk, by simp⟩⟩
      · rw [List.getElem?_set_ne (Ne.symm hj)] at e2
        obtain ⟨u', r', q⟩ := hl j y v' e1 e2 e3
        refine ⟨u', r', ?_⟩
        rcases q with ⟨k, e⟩ | ⟨k, c, e, z⟩
        · refine .inl ⟨k, ?_⟩
          have : y ≠ x := fun e => hj (nodup_ix hN e1 (e ▸ hi))
          simp [this, e]
        · exact .inr ⟨k, c, e, z.sameBut hs (cne y c e)⟩
    · obtain ⟨w', z⟩ := I.cell y c e
      exact ⟨w', z.sameBut hs (cne y c e)⟩
    · obtain ⟨e, n, ne, nf, d⟩ := I.pin p hp
      exact ⟨(hs.2 p.1 ne).trans e, n, ne, nf, d⟩
  · have hfn : X.fn x = true := by
      rcases hf with z | z
      · exact z
      · rw [z] at hk; cases hk
    obtain ⟨c, hc⟩ := I.ok.has x (.inl hk)
    obtain ⟨w', z⟩ := I.cell x c hc
    refine wpAny_storeName_cell I.ok.kind hk hc z (fun h' hc' hs => ?_)
    obtain ⟨oc, hoc, hocd⟩ := id z
    refine h { s with heap := h' } ⟨I.ok, I.os, I.bare, ⟨fun b o e n hb hx => ?_, fun b o e n hb hx => ?_, I.base.free, fun b o e hx => ?_, I.base.tups, I.base.frzs, I.base.tbls⟩, ⟨m, hn.sameBut hs (Ne.symm (cne x c hc)), fun j y v' e1 e2 e3 => ?_⟩, fun y c' e => ?_, I.free, I.freeC, fun p hp => ?_, tracked ⟨oc, hoc, I.freeC x c hc⟩ hs, by simpa using I.len⟩ ⟨c, hs, .inr hc⟩
    · exact (hs.2 b (Nat.ne_of_lt (Nat.lt_of_lt_of_le (Heap.lt_size e) (I.ok.cab x c hfn hc)))).trans (I.base.keep b o e n hb hx)
    · obtain ⟨sl, e1⟩ := I.base.slot b o e n hb hx
      exact ⟨sl, (hs.2 b (Nat.ne_of_lt (Nat.lt_of_lt_of_le (Heap.lt_size e) (I.ok.cab x c hfn hc)))).trans e1⟩
    · obtain ⟨o', e1⟩ := I.base.there b o e hx
      exact ⟨o', (hs.2 b (Nat.ne_of_lt (Nat.lt_of_lt_of_le (Heap.lt_size e) (I.ok.cab x c hfn hc)))).trans e1⟩
    · by_cases hj : j = i
      · subst hj
        rw [hi] at e1; cases e1
        rw [List.getElem?_set_self hiσ] at e2
        cases e2
        exact ⟨u, r, .inr ⟨.inl hk, c, hc, hc'⟩⟩
      · rw [List.getElem?_set_ne (Ne.symm hj)] at e2
        obtain ⟨u', r', q⟩ := hl j y v' e1 e2 e3
        refine ⟨u', r', ?_⟩
        rcases q with q | ⟨k, c', e, z'⟩
        · exact .inl q
        · refine .inr ⟨k, c', e, z'.sameBut hs ?_⟩
          rintro rfl
          exact hj (nodup_ix hN e1 (I.ok.inj _ _ _ e hc ▸ hi))
    · by_cases hcc : c' = c
      · subst hcc; exact ⟨_, hc'⟩
      · obtain ⟨w2, z2⟩ := I.cell y c' e
        exact ⟨w2, z2.sameBut hs hcc⟩
    · obtain ⟨e, n, ne, nf, d⟩ := I.pin p hp
      refine ⟨(hs.2 p.1 ?_).trans e, n, ne, nf, d⟩
      intro q
      rw [q, hoc] at e
      have q' : oc = p.2 := Option.some.inj e
      exact d w' (by rw [← q']; exact hocd)
theorem store_ok {M : Model} {A : Around} {E : Value → Shared → Prop} {i : Nat} {x : Str} {v : V} {u : Value} {Q : Unit → Shared → Prop} (I : Inv X pins σ H s) (hN : X.N.Nodup) (hi : X.N[i]? = some x) (hx : Loc X.env.scope x) (r : RelV v u)
    (h : ∀ s', Inv X pins (σ.set i (some v)) H s' → Q () s') (hf : X.fn x = true ∨ X.env.scope.names.lookup x = some .local := by first | exact .inl rfl | exact .inr rfl | assumption) : wpAny M A (storeName X.env x u) Q E s :=
  store_ok2 I hN hi hx r (fun s' I' _ => h s' I') hf
/-- behind a call or a block, the state as it is -/
theorem Inv.call' {s' : Shared} {ch : List Addr} (I : Inv X pins σ H s) (ho : s'.os = s.os) (u : Un (frs X.stack) ch H H' s.heap s'.heap) (hok : HOk X.prog X.w H' s'.heap) (hg : AllBare s'.gens)
    (hch : ∀ b ∈ ch, (b ∈ X.ex ∨ X.s_0.heap.objs.size ≤ b) ∧ b ≠ X.env.locals ∧ (∀ x c, X.env.cells.lookup x = some c → c ≠ b) ∧ ∀ p ∈ X.pn ++ pins, p.1 ≠ b) : Inv X pins σ H' s' := by
  obtain ⟨h', g', d', t', o'⟩ := s'
  have e : o' = s.os := ho
  subst e
  exact I.call (g' := g') (t' := t') (d' := d') u hok hg hch
end

/-! ### the judgements -/
/-- an exception: its class, its own dict's address (where it has one), the abstract heap behind it -/
abbrev XK := Value → Option Addr → Hp → Prop
abbrev St := List (Option V)
abbrev VK := V → Hp → Prop
/-- an expression's reading; a test's; an argument list's -/
abbrev TE := St → Hp → VK → Prop
abbrev TT := St → Hp → (Bool → Hp → Prop) → Prop
abbrev TA := St → Hp → (List V → Hp → Prop) → Prop
/-- what is wanted behind a statement -/
structure Ends where
  nx : St → Hp → Prop
  rt : VK
  bk : St → Hp → Prop := fun _ _ => False
  ct : St → Hp → Prop := fun _ _ => False
abbrev TS := Ends → St → Hp → Prop

def EP (X : Cx) (pins : List (Addr × Obj)) (σ : St) (Q : VK) (u : Value) (s' : Shared) : Prop := ∃ v H', Inv X pins σ H' s' ∧ RelV v u ∧ Q v H'
def TP (X : Cx) (pins : List (Addr × Obj)) (σ : St) (Q : Bool → Hp → Prop) (b : Bool) (s' : Shared) : Prop := ∃ H', Inv X pins σ H' s' ∧ Q b H'
def AP (X : Cx) (pins : List (Addr × Obj)) (σ : St) (Q : List V → Hp → Prop) (us : List Value) (s' : Shared) : Prop := ∃ vs H', Inv X pins σ H' s' ∧ Vals vs us ∧ Q vs H'
def SP (X : Cx) (pins : List (Addr × Obj)) (D : Ends) (f : Flow) (s' : Shared) : Prop :=
  match f with
  | .next => ∃ σ' H', Inv X pins σ' H' s' ∧ D.nx σ' H'
  | .brk => ∃ σ' H', Inv X pins σ' H' s' ∧ D.bk σ' H'
  | .cont => ∃ σ' H', Inv X pins σ' H' s' ∧ D.ct σ' H'
  | .ret u => ∃ v σ' H', Inv X pins σ' H' s' ∧ RelV v u ∧ D.rt v H'

def PE (X : Cx) (e : Expr) (t : TE) : Prop :=
  ∀ (pins : List (Addr × Obj)) (s : Shared) (σ : St) (H : Hp) (Q : VK), Inv X pins σ H s → t σ H Q → wpAny (model X.prog X.w) X.A (eval e X.env) (EP X pins σ Q) X.xe s
def PT (X : Cx) (e : Expr) (t : TT) : Prop :=
  ∀ (pins : List (Addr × Obj)) (s : Shared) (σ : St) (H : Hp) (Q : Bool → Hp → Prop), Inv X pins σ H s → t σ H Q → wpAny (model X.prog X.w) X.A (isTrue e X.env (eval e X.env)) (TP X pins σ Q) X.xe s
/-- a test whatever its 'whole' is (and, or) -/
def PW (X : Cx) (e : Expr) (t : TT) : Prop :=
  ∀ (whole : Sem Value) (pins : List (Addr × Obj)) (s : Shared) (σ : St) (H : Hp) (Q : Bool → Hp → Prop), Inv X pins σ H s → t σ H Q → wpAny (model X.prog X.w) X.A (isTrue e X.env whole) (TP X pins σ Q) X.xe s
theorem PW.pt {X : Cx} {e : Expr} {t : TT} (h : PW X e t) : PT X e t := h _
/-- an argument list (no star), from the left -/
def PA (X : Cx) (es : List Expr) (t : TA) : Prop :=
  ∀ (pos : Pos) (pins : List (Addr × Obj)) (s : Shared) (σ : St) (H : Hp) (Q : List V → Hp → Prop), Inv X pins σ H s → t σ H Q → wpAny (model X.prog X.w) X.A (spliced (backTo pos (starEach es X.env))) (AP X pins σ Q) X.xe s
def PS (X : Cx) (st : Stmt) (t : TS) : Prop :=
  ∀ (pins : List (Addr × Obj)) (s : Shared) (σ : St) (H : Hp) (D : Ends), Inv X pins σ H s → t D σ H → wpAny (model X.prog X.w) X.A (exec st X.env) (SP X pins D) X.xe s
def PSs (X : Cx) (st : List Stmt) (t : TS) : Prop :=
  ∀ (pins : List (Addr × Obj)) (s : Shared) (σ : St) (H : Hp) (D : Ends), Inv X pins σ H s → t D σ H → wpAny (model X.prog X.w) X.A (execs st X.env) (SP X pins D) X.xe s
/-- weaken the end -/
theorem thn {α : Type} {t : Sem α} {Q Q' : α → Shared → Prop} {M : Model} {A : Around} {E : Value → Shared → Prop} {s : Shared} (h : wpAny M A t Q E s) (hQ : ∀ a s, Q a s → Q' a s) : wpAny M A t Q' E s := wpAny_mono h hQ fun _ _ x => x
end L2

namespace L2
open PySem PySem.Spec PyProof.Rows
section
variable {X : Cx}

/-- two expressions in a row -/
theorem bin {a b : Expr} {ta tb : TE} (ha : PE X a ta) (hb : PE X b tb) {pins : List (Addr × Obj)} {s : Shared} {σ : St} {H : Hp} {R : V → V → Hp → Prop} (I : Inv X pins σ H s) (h : ta σ H fun x H1 => tb σ H1 fun y H2 => R x y H2)
    {α : Type} {Q : α → Shared → Prop} {f : Value → Value → Sem α}
    (hf : ∀ v u s2 x y H2, Inv X pins σ H2 s2 → RelV x v → RelV y u → R x y H2 → wpAny (model X.prog X.w) X.A (f v u) Q X.xe s2) :
    wpAny (model X.prog X.w) X.A (eval a X.env) (fun v s₁ => wpAny (model X.prog X.w) X.A (eval b X.env) (fun u s₂ => wpAny (model X.prog X.w) X.A (f v u) Q X.xe s₂) X.xe s₁) X.xe s := by
  refine thn (ha pins s σ H _ I h) fun v s1 ⟨x, H1, I1, r1, q1⟩ => ?_
  refine thn (hb pins s1 σ H1 _ I1 q1) fun u s2 ⟨y, H2, I2, r2, q2⟩ => ?_
  exact hf v u s2 x y H2 I2 r1 r2 q2

/-! ### names and constants -/
def tVar (i : Nat) : TE := fun σ H Q => ∃ v, σ[i]? = some (some v) ∧ Q v H
def tC (v : V) : TE := fun _ H Q => Q v H
theorem pe_var {i : Nat} {x : Str} {pos : Pos} (hN : X.N[i]? = some x) (hv : Vis X.env.scope x) (hd : (x == ("__debug__" : Str)) = false := by decide) (hcd : (x == ("__classdict__" : Str)) = false := by decide) : PE X (.Name x pos) (tVar i) := by
  intro pins s σ H Q I h
  obtain ⟨v, e, h⟩ := h
  obtain ⟨m, hn, hl⟩ := I.loc
  obtain ⟨u, r, l⟩ := hl i x v hN e hv
  have fin : EP X pins σ Q u s := ⟨v, H, I, r, h⟩
  rcases l with ⟨hk, hm⟩ | ⟨hk, c, hc, hcell⟩
  · exact wpAny_Name (wpAny_loadName_local I.ok.kind hk hn hm fin) hd
  · rcases hk with hk | hk
    · exact wpAny_Name (wpAny_loadName_cell I.ok.kind hk hc hcell fin) hd
    · exact wpAny_Name (wpAny_loadName_free I.ok.kind hk hc hcell fin hcd) hd
theorem pe_int {i j pos} : PE X (.Constant (.int i) j pos) (tC (.int i)) := fun _ _ _ H _ I h => wpAny_Constant_int ⟨.int i, H, I.tok _, ⟨_, rfl⟩, h⟩
theorem pe_bl {b j pos} : PE X (.Constant (.bool b) j pos) (tC (.bl b)) := fun _ _ _ H _ I h => Constant_bool ⟨.bl b, H, I, rfl, h⟩
theorem pe_non {j pos} : PE X (.Constant .none j pos) (tC .non) := fun _ _ _ H _ I h => Constant_none ⟨.non, H, I, rfl, h⟩
/-- a global name of the def -/
def Gl (X : Cx) (x : Str) : Prop := X.env.kindOf x = some .globalImplicit
theorem ld_glob {E : Value → Shared → Prop} {pins : List (Addr × Obj)} {s : Shared} {σ : St} {H : Hp} {x : Str} {u : Value} {pos : Pos} {Q : Value → Shared → Prop} (I : Inv X pins σ H s) (hg : Gl X x) (hm : X.mg x = some u) (h : Q u s)
    (hd : (x == ("__debug__" : Str)) = false := by decide) : wpAny (model X.prog X.w) X.A (eval (.Name x pos) X.env) Q E s :=
  Calls.Name_function_global I.ok.kind hg (Calls.loadGlobal_global (by rw [I.ok.glob]; exact I.mod.glob.keeps I.bk) hm h) hd
theorem ld_blt {E : Value → Shared → Prop} {pins : List (Addr × Obj)} {s : Shared} {σ : St} {H : Hp} {x : Str} {u : Value} {pos : Pos} {Q : Value → Shared → Prop} (I : Inv X pins σ H s) (hg : Gl X x) (hm : X.mg x = none) (hv : bootBuiltins x = some u) (h : Q u s)
    (hn : x ≠ "__name__" := by decide) (hd : (x == ("__debug__" : Str)) = false := by decide) : wpAny (model X.prog X.w) X.A (eval (.Name x pos) X.env) Q E s := by
  obtain ⟨mb, h1, h2⟩ := I.mod.blt
  exact Calls.Name_function_global I.ok.kind hg (Calls.loadGlobal_builtin (by rw [I.ok.glob]; exact I.mod.glob.keeps I.bk) hm (by rw [I.ok.blt]; exact h1.keeps I.bk) ((h2 x hn).trans hv) h) hd
/-- a module's constant, a class, a function, as a value -/
theorem pe_glob {x : Str} {v : V} {u : Value} {pos : Pos} (hg : Gl X x) (hm : X.mg x = some u) (r : RelV v u) (hd : (x == ("__debug__" : Str)) = false := by decide) : PE X (.Name x pos) (tC v) :=
  fun _ _ _ H _ I h => ld_glob I hg hm ⟨v, H, I, r, h⟩ hd
/-! ### arithmetic -/
variable {a b : Expr} {ta tb : TE} {pos : Pos}
/-! ### comparisons -/
def PC (X : Cx) (op : CmpOp) (a b : Expr) (t : TE) : Prop :=
  ∀ (pins : List (Addr × Obj)) (s : Shared) (σ : St) (H : Hp) (Q : VK), Inv X pins σ H s → t σ H Q →
    wpAny (model X.prog X.w) X.A (eval a X.env) (fun v s₁ => wpAny (model X.prog X.w) X.A (eval b X.env) (fun u s₂ => wpAny (model X.prog X.w) X.A (compareOp op v u) (EP X pins σ Q) X.xe s₂) X.xe s₁) X.xe s
theorem nobehind (b : Expr) {op : CmpOp} (h : op ≠ .In) (h2 : op ≠ .NotIn) : behindInMarks op b = false := by
  have e1 : (op == CmpOp.In) = false := by cases op <;> first | rfl | exact absurd rfl h
  have e2 : (op == CmpOp.NotIn) = false := by cases op <;> first | rfl | exact absurd rfl h2
  cases b <;> simp [behindInMarks, e1, e2]
/-- a comparison as a value, as a test -/
def tB (t : TE) : TT := fun σ H Q => t σ H fun x H1 => ∃ c, x = .bl c ∧ Q c H1
theorem pt_cmp {op : CmpOp} {t : TE} (h : PC X op a b t) (h1 : behindInMarks op b = false := by first | exact nobehind _ (by decide) (by decide) | rfl) : PT X (.Compare a [op] [b] pos) (tB t) := by
  intro pins s σ H Q I hw
  refine wpAny_isTrue_Compare1 (thn (h pins s σ H _ I hw) fun v s1 h1 => thn h1 fun u s2 h2 => thn h2 fun c s3 ⟨x, H1, I1, r1, q1⟩ => ?_) h1
  obtain ⟨d, rfl, q⟩ := q1
  cases r1
  exact wpAny_truthy_bool ⟨H1, I1, q⟩
/-- an expression whose value is a bool, as a test -/
theorem pt_val {e : Expr} {t : TE} (h : PE X e t) (he : ∀ whole, isTrue e X.env whole = (do let v ← whole; standAt e.pos; holding [v] (truthy v)) := by intro _; rfl) : PT X e (tB t) := by
  intro pins s σ H Q I hw
  refine isTrue_plain (thn (h pins s σ H _ I hw) fun v s1 ⟨x, H1, I1, r1, q1⟩ => ?_) (he _)
  obtain ⟨d, rfl, q⟩ := q1
  cases r1
  exact wpAny_truthy_bool ⟨H1, I1, q⟩

/-! ### and, or, not -/
variable {tA tB' : TT} {rest : List Expr}
def tAnd (t u : TT) : TT := fun σ H Q => t σ H fun c H1 => if c = true then u σ H1 Q else Q false H1
def tOr (t u : TT) : TT := fun σ H Q => t σ H fun c H1 => if c = true then Q true H1 else u σ H1 Q
def tNot (t : TT) : TT := fun σ H Q => t σ H fun c H1 => Q (!c) H1
theorem pw_and1 (ha : PT X a tA) : PW X (.BoolOp .And [a] pos) tA := by
  intro wh pins s σ H Q I h
  refine isTrue_and (thn (ha pins s σ H Q I h) fun c s1 e => ?_)
  cases c with
  | true => exact isTrue_and_nil e
  | false => exact e
theorem pw_or1 (ha : PT X a tA) : PW X (.BoolOp .Or [a] pos) tA := by
  intro wh pins s σ H Q I h
  refine isTrue_or (thn (ha pins s σ H Q I h) fun c s1 e => ?_)
  cases c with
  | false => exact isTrue_or_nil e
  | true => exact e
theorem pw_and (ha : PT X a tA) (hb : PW X (.BoolOp .And (b :: rest) pos) tB') : PW X (.BoolOp .And (a :: b :: rest) pos) (tAnd tA tB') := by
  intro wh pins s σ H Q I h
  refine isTrue_and (thn (ha pins s σ H _ I h) fun c s1 ⟨H1, I1, q1⟩ => ?_)
  cases c with
  | true => exact hb wh pins s1 σ H1 Q I1 q1
  | false => exact ⟨H1, I1, q1⟩
theorem pw_or (ha : PT X a tA) (hb : PW X (.BoolOp .Or (b :: rest) pos) tB') : PW X (.BoolOp .Or (a :: b :: rest) pos) (tOr tA tB') := by
  intro wh pins s σ H Q I h
  refine isTrue_or (thn (ha pins s σ H _ I h) fun c s1 ⟨H1, I1, q1⟩ => ?_)
  cases c with
  | true => exact ⟨H1, I1, q1⟩
  | false => exact hb wh pins s1 σ H1 Q I1 q1
theorem pt_not (ha : PT X a tA) : PT X (.UnaryOp .Not a pos) (tNot tA) := by
  intro pins s σ H Q I h
  exact isTrue_not (ha pins s σ H (fun c H1 => Q (!c) H1) I h)
/-- .. as values (bools) -/
def tAndV (ta tb : TE) : TE := fun σ H Q => ta σ H fun x H1 => ∃ c, x = .bl c ∧ if c = true then tb σ H1 Q else Q (.bl false) H1
def tNotV (ta : TE) : TE := fun σ H Q => ta σ H fun x H1 => ∃ c, x = .bl c ∧ Q (.bl (!c)) H1
theorem pe_one {op} {t : TE} (h : PE X a t) : PE X (.BoolOp op [a] pos) t := fun pins s σ H Q I hw => BoolOp_one (h pins s σ H Q I hw)
theorem pe_and (ha : PE X a ta) (hb : PE X (.BoolOp .And (b :: rest) pos) tb) : PE X (.BoolOp .And (a :: b :: rest) pos) (tAndV ta tb) := by
  intro pins s σ H Q I h
  refine BoolOp_and (thn (ha pins s σ H _ I h) fun v s1 ⟨x, H1, I1, r1, q1⟩ => ?_)
  obtain ⟨c, rfl, q1⟩ := q1
  cases r1
  refine wpAny_truthy_bool ?_
  cases c with
  | true => exact hb pins s1 σ H1 Q I1 q1
  | false => exact ⟨.bl false, H1, I1, rfl, q1⟩
theorem pe_not (ha : PE X a ta) : PE X (.UnaryOp .Not a pos) (tNotV ta) := by
  intro pins s σ H Q I h
  refine UnaryOp_ (thn (ha pins s σ H _ I h) fun v s1 ⟨x, H1, I1, r1, q1⟩ => ?_)
  obtain ⟨c, rfl, q1⟩ := q1
  cases r1
  exact not_of (wpAny_truthy_bool ⟨.bl (!c), H1, I1, rfl, q1⟩)
/-- a if t else b -/
def tIf (t : TT) (ta tb : TE) : TE := fun σ H Q => t σ H fun c H1 => if c = true then ta σ H1 Q else tb σ H1 Q
theorem pe_ifExp {c : Expr} (hc : PT X c tA) (ha : PE X a ta) (hb : PE X b tb) : PE X (.IfExp c a b pos) (tIf tA ta tb) := by
  intro pins s σ H Q I h
  refine wpAny_IfExp (thn (hc pins s σ H _ I h) fun d s1 ⟨H1, I1, q1⟩ => ?_)
  cases d with
  | true => exact ha pins s1 σ H1 Q I1 q1
  | false => exact hb pins s1 σ H1 Q I1 q1
end
end L2

namespace L2
open PySem PySem.Spec PyProof.Rows

/-! ### a list, a tuple that is read: tracked, frozen, or an object of the module -/
def SqL (K : PySem.W.Frag) (H : Hp) (a : Addr) (xs : List V) : Prop :=
  Rd H a (.lst xs) ∨
    ∃ (o : Obj) (its : Array Value) (n : Nat), K.lookup a = some o ∧ o.cls = .type "list" ∧ o.dict = none ∧ o.data = .seq its n ∧ its.size ≤ sizeLine ∧ Vals xs its.toList
def SqT (K : PySem.W.Frag) (H : Hp) (a : Addr) (xs : List V) : Prop :=
  Rd H a (.tup xs) ∨
    ∃ (o : Obj) (its : Array Value) (n : Nat), K.lookup a = some o ∧ o.cls = .type "tuple" ∧ o.data = .seq its n ∧ its.size ≤ sizeLine ∧ Vals xs its.toList
def absV : Value → Option V
  | .none => some .non
  | .bool b => some (.bl b)
  | .int i _ => some (.int i)
  | .str x _ => some (.str x)
  | .bytes b _ => some (.byt b)
  | .float b _ => some (.flt b)
  | .ref a => some (.ref a)
  | .type n => some (.ty n)
  | _ => none
theorem RelV.abs {x : V} {u : Value} (r : RelV x u) : absV u = some x := by
  cases x with
  | non => cases r; rfl
  | bl _ => cases r; rfl
  | int _ => obtain ⟨t, rfl⟩ := r; rfl
  | str _ => obtain ⟨t, rfl⟩ := r; rfl
  | byt _ => obtain ⟨t, rfl⟩ := r; rfl
  | flt _ => obtain ⟨t, rfl⟩ := r; rfl
  | ref _ => cases r; rfl
  | ty _ => cases r; rfl
theorem RelV.inj {x y : V} {u : Value} (r : RelV x u) (q : RelV y u) : x = y := Option.some.inj (r.abs.symm.trans q.abs)
theorem Vals.inj : ∀ {xs ys : List V} {us : List Value}, Vals xs us → Vals ys us → xs = ys
  | _, _, _, .nil, .nil => rfl
  | _, _, _, .cons r t, .cons r' t' => by rw [r.inj r', Vals.inj t t']
section
variable {X : Cx} {pins : List (Addr × Obj)} {σ : St} {H : Hp} {s : Shared} {a : Addr} {xs ys : List V}
theorem SqL.of {K : PySem.W.Frag} (h : H a = some (.lst xs)) : SqL K H a xs := .inl (.inl h)
theorem SqT.of {K : PySem.W.Frag} (h : H a = some (.tup xs)) : SqT K H a xs := .inl (.inl h)
theorem Inv.list (I : Inv X pins σ H s) (h : SqL X.K H a xs) : ∃ its : List Value, Vals xs its ∧ PlainL s.heap a its.toArray ∧ xs.length ≤ sizeLine := by
  rcases h with h | ⟨o, its, n, hk, hc, hd, hs, hz, r⟩
  · obtain ⟨z, its, n, r, e⟩ := h.ok I.hok
    exact ⟨its, r, ⟨_, n, e, rfl, rfl, rfl⟩, z⟩
  · refine ⟨its.toList, r, ⟨o, n, I.kIn a o hk, hc, hd, by simpa using hs⟩, ?_⟩
    have e := r.length
    simp only [Array.length_toList] at e
    omega
theorem Inv.tuple (I : Inv X pins σ H s) (h : SqT X.K H a xs) : ∃ its : List Value, Vals xs its ∧ IsTup s.heap a its.toArray ∧ xs.length ≤ sizeLine := by
  rcases h with h | ⟨o, its, n, hk, hc, hs, hz, r⟩
  · obtain ⟨z, its, r, p⟩ := h.ok I.hok
    exact ⟨its, r, p, z⟩
  · refine ⟨its.toList, r, ⟨o, I.kIn a o hk, hc, n, by simpa using hs⟩, ?_⟩
    have e := r.length
    simp only [Array.length_toList] at e
    omega
theorem Inv.list_inj (I : Inv X pins σ H s) (h : SqL X.K H a xs) (h' : SqL X.K H a ys) : xs = ys := by
  obtain ⟨its, r, ⟨o, n, e, _, _, d⟩, _⟩ := I.list h
  obtain ⟨its', r', ⟨o', n', e', _, _, d'⟩, _⟩ := I.list h'
  rw [e] at e'; cases e'
  rw [d] at d'
  injection d' with d1 _
  have : its = its' := by simpa using congrArg Array.toList d1
  subst this
  exact r.inj r'
theorem Inv.tuple_inj (I : Inv X pins σ H s) (h : SqT X.K H a xs) (h' : SqT X.K H a ys) : xs = ys := by
  obtain ⟨its, r, ⟨o, e, _, n, d⟩, _⟩ := I.tuple h
  obtain ⟨its', r', ⟨o', e', _, n', d'⟩, _⟩ := I.tuple h'
  rw [e] at e'; cases e'
  rw [d] at d'
  injection d' with d1 _
  have : its = its' := by simpa using congrArg Array.toList d1
  subst this
  exact r.inj r'
end

/-! ### another wish about exceptions -/
abbrev Cx.wish (X : Cx) (E : Value → Shared → Prop) : Cx := { X with xe := E }
/-- no exception leaves -/
abbrev Cx.nox (X : Cx) : Cx := X.wish fun _ _ => False
theorem Cx.Ok.wish {X : Cx} (ok : X.Ok) (E : Value → Shared → Prop) : (X.wish E).Ok :=
  ⟨ok.mod, ok.kind, ok.glob, ok.blt, ok.above, ok.inj, ok.has, ok.cab, ok.hd, ok.frames, ok.stk, ok.exf, ok.bs, ok.bsz, ok.noex, ok.exfs, ok.funs, ok.frf⟩
theorem Cx.Ok.unwish {X : Cx} {E : Value → Shared → Prop} (ok : (X.wish E).Ok) : X.Ok :=
  ⟨ok.mod, ok.kind, ok.glob, ok.blt, ok.above, ok.inj, ok.has, ok.cab, ok.hd, ok.frames, ok.stk, ok.exf, ok.bs, ok.bsz, ok.noex, ok.exfs, ok.funs, ok.frf⟩
section
variable {X : Cx} {pins : List (Addr × Obj)} {σ : St} {H : Hp} {s : Shared} {E : Value → Shared → Prop}
theorem Inv.wish (I : Inv X pins σ H s) (E : Value → Shared → Prop) : Inv (X.wish E) pins σ H s := ⟨I.ok.wish E, I.os, I.bare, I.base, I.loc, I.cell, I.free, I.freeC, I.pin, I.hok, I.len⟩
theorem Inv.unwish (I : Inv (X.wish E) pins σ H s) : Inv X pins σ H s := ⟨I.ok.unwish, I.os, I.bare, I.base, I.loc, I.cell, I.free, I.freeC, I.pin, I.hok, I.len⟩
theorem SP.unwish {D : Ends} {f : Flow} {s' : Shared} (h : SP (X.wish E) pins D f s') : SP X pins D f s' := by
  cases f with
  | next => obtain ⟨σ', H', I, q⟩ := h; exact ⟨σ', H', I.unwish, q⟩
  | brk => obtain ⟨σ', H', I, q⟩ := h; exact ⟨σ', H', I.unwish, q⟩
  | cont => obtain ⟨σ', H', I, q⟩ := h; exact ⟨σ', H', I.unwish, q⟩
  | ret u => obtain ⟨v, σ', H', I, r, q⟩ := h; exact ⟨v, σ', H', I.unwish, r, q⟩
theorem PSs.nox {st : List Stmt} {t : TS} (h : PSs X.nox st t) : PSs X st t := fun pins s σ H D I hw =>
  wpAny_mono (h pins s σ H D (I.wish _) hw) (fun _ _ q => q.unwish) fun _ _ z => False.elim z
end

/-! ### blocks and small statements -/
section
variable {X : Cx} {st : Stmt} {rest : List Stmt} {t u : TS} {e : Expr} {te : TE} {pos : Pos}
def tNext : TS := fun D σ H => D.nx σ H
def tSeq (t u : TS) : TS := fun D σ H => t { D with nx := u D } σ H
theorem pss_nil : PSs X [] tNext := fun _ _ σ H _ I h => wpAny_execs_nil ⟨σ, H, I, h⟩
theorem pss_cons (h1 : PS X st t) (h2 : PSs X rest u) : PSs X (st :: rest) (tSeq t u) := by
  intro pins s σ H D I h
  refine wpAny_execs_cons (thn (h1 pins s σ H { D with nx := u D } I h) fun f s1 q => ?_)
  cases f with
  | next =>
    obtain ⟨σ', H', I', q⟩ := q
    exact h2 pins s1 σ' H' D I' q
  | ret v => exact q
  | brk => exact q
  | cont => exact q
theorem pss_one (h1 : PS X st t) : PSs X [st] t := by
  intro pins s σ H D I h
  refine wpAny_execs_cons (thn (h1 pins s σ H D I h) fun f s1 q => ?_)
  cases f with
  | next => exact wpAny_execs_nil q
  | ret v => exact q
  | brk => exact q
  | cont => exact q
/-- in a def's body nothing is shown -/
theorem Inv.quiet {pins : List (Addr × Obj)} {σ : St} {H : Hp} {s : Shared} (I : Inv X pins σ H s) : interactive X.env = false := by simp [interactive, I.ok.kind]
/-- an expression whose value is dropped -/
def tDrop (te : TE) : TS := fun D σ H => te σ H fun _ H1 => D.nx σ H1
theorem ps_expr (he : PE X e te) (hs : swapsWith e none pos.line X.env = pure false := by rfl) : PS X (.Expr e pos) (tDrop te) := by
  intro pins s σ H D I h
  exact wpAny_Expr_any (thn (he pins s σ H _ I h) fun v s1 ⟨x, H1, I1, r1, q1⟩ => ⟨σ, H1, I1, q1⟩) I.quiet hs
def tRet (te : TE) : TS := fun D σ H => te σ H D.rt
theorem ps_ret (he : PE X e te) : PS X (.Return (some e) pos) (tRet te) := by
  intro pins s σ H D I h
  exact wpAny_Return_some (thn (he pins s σ H _ I h) fun v s1 ⟨x, H1, I1, r1, q1⟩ => ⟨x, σ, H1, I1, r1, q1⟩)
def tIfS (c : TT) (t u : TS) : TS := fun D σ H => c σ H fun b H1 => if b = true then t D σ H1 else u D σ H1
theorem ps_if {c : Expr} {a b : List Stmt} {tc : TT} (hc : PT X c tc) (ha : PSs X a t) (hb : PSs X b u) : PS X (.If c a b pos) (tIfS tc t u) := by
  intro pins s σ H D I h
  refine wpAny_If (thn (hc pins s σ H _ I h) fun d s1 ⟨H1, I1, q1⟩ => ?_)
  cases d with
  | true => exact ha pins s1 σ H1 D I1 q1
  | false => exact hb pins s1 σ H1 D I1 q1
end

/-! ### targets -/
abbrev TG := V → St → Hp → (St → Hp → Prop) → Prop
abbrev TGs := List V → St → Hp → (St → Hp → Prop) → Prop
def PG (X : Cx) (target : Expr) (t : TG) : Prop :=
  ∀ (pins : List (Addr × Obj)) (s : Shared) (σ : St) (H : Hp) (v : V) (u : Value) (Q : St → Hp → Prop), Inv X pins σ H s → RelV v u → t v σ H Q →
    wpAny (model X.prog X.w) X.A (assign target X.env u) (fun _ s' => ∃ σ' H', Inv X pins σ' H' s' ∧ Q σ' H') X.xe s
/-- several targets, one after another -/
def PGs (X : Cx) (ts : List Expr) (t : TGs) : Prop :=
  ∀ (pins : List (Addr × Obj)) (s : Shared) (σ : St) (H : Hp) (vs : List V) (us : List Value) (Q : St → Hp → Prop), Inv X pins σ H s → Vals vs us → t vs σ H Q →
    wpAny (model X.prog X.w) X.A (assignInOrder ((assignEach ts X.env).map (·.2)) us) (fun _ s' => ∃ σ' H', Inv X pins σ' H' s' ∧ Q σ' H') X.xe s
/-- a op= b, by values -/
abbrev TIp := V → V → Hp → VK → Prop
def PIp (X : Cx) (op : Operator) (t : TIp) : Prop :=
  ∀ (pins : List (Addr × Obj)) (s : Shared) (σ : St) (H : Hp) (x y : V) (v u : Value) (Q : VK), Inv X pins σ H s → RelV x v → RelV y u → t x y H Q →
    wpAny (model X.prog X.w) X.A (inplaceOp op v u) (EP X pins σ Q) X.xe s
section
variable {X : Cx} {pos : Pos}
def gName (i : Nat) : TG := fun v σ H Q => Q (σ.set i (some v)) H
theorem pg_name {i : Nat} {x : Str} (hN : X.N.Nodup) (hi : X.N[i]? = some x) (hx : Loc X.env.scope x) (hf : X.fn x = true ∨ X.env.scope.names.lookup x = some .local := by first | exact .inl rfl | exact .inr rfl | assumption) : PG X (.Name x pos) (gName i) := by
  intro pins s σ H v u Q I r h
  exact wpAny_assign_Name (store_ok I hN hi hx r (fun s' I' => ⟨_, H, I', h⟩) hf)
def gNil : TGs := fun vs σ H Q => vs = [] ∧ Q σ H
def gCons (t : TG) (u : TGs) : TGs := fun vs σ H Q => ∃ v r, vs = v :: r ∧ t v σ H fun σ' H' => u r σ' H' Q
theorem pgs_nil : PGs X [] gNil := by
  intro pins s σ H vs us Q I r h
  obtain ⟨e, h⟩ := h
  subst e
  cases r
  exact assignInOrder_nil ⟨σ, H, I, h⟩
theorem pgs_cons {e : Expr} {es : List Expr} {t : TG} {u : TGs} (h1 : PG X e t) (h2 : PGs X es u)
    (hs : (assignEach (e :: es) X.env).map (·.2) = assign e X.env :: (assignEach es X.env).map (·.2) := by rfl) : PGs X (e :: es) (gCons t u) := by
  intro pins s σ H vs us Q I r h
  obtain ⟨v, vr, e1, h⟩ := h
  subst e1
  cases r with
  | cons r rr =>
    rw [hs]
    refine assignInOrder_cons (thn (h1 pins s σ H _ _ _ I r h) fun _ s1 ⟨σ1, H1, I1, q1⟩ => ?_)
    exact h2 pins s1 σ1 H1 _ _ Q I1 rr q1
/-- (a, b, ..) = a tuple of that length -/
def gTup (K : PySem.W.Frag) (n : Nat) (t : TGs) : TG := fun v σ H Q => ∃ a xs, v = .ref a ∧ SqT K H a xs ∧ xs.length = n ∧ t xs σ H Q
theorem pg_tup {es : List Expr} {k : Nat} {t : TGs} {n : Nat} (hc : X.calm = true) (h : PGs X es t)
    (hn : (assignEach es X.env).length = n := by rfl) (hst : (assignEach es X.env).findIdx? (·.1) = none := by rfl) : PG X (.Tuple es k pos) (gTup X.K n t) := by
  intro pins s σ H v u Q I r hw
  obtain ⟨a, xs, e1, hq, hl, hw⟩ := hw
  subst e1
  cases r
  obtain ⟨its, rv, ht, hz⟩ := I.tuple hq
  refine assign_Tuple_tuple (I.ok.hd hc) ht (by simp [hn, ← hl, rv.length]) hst fun h' hx => ?_
  have I1 : Inv X pins σ H { s with heap := h' } := I.kept (t' := s.toks) fun b o e => hx b o (Nat.ne_of_lt (Heap.lt_size e)) e
  exact h pins _ σ H xs _ Q I1 (by simpa using rv) hw
/-- target = value -/
def tAsg (te : TE) (g : TG) : TS := fun D σ H => te σ H fun x H1 => g x σ H1 D.nx
/-- name = value -/
theorem ps_set {i : Nat} {x : Str} {e : Expr} {te : TE} {pos' : Pos} (hN : X.N.Nodup) (hi : X.N[i]? = some x) (hx : Loc X.env.scope x) (he : PE X e te) (hs : swapsWith e (some (.Name x pos')) pos.line X.env = pure false := by rfl) (hf : X.fn x = true ∨ X.env.scope.names.lookup x = some .local := by first | exact .inl rfl | exact .inr rfl | assumption) :
    PS X (.Assign [.Name x pos'] e pos) (tAsg te (gName i)) := by
  intro pins s σ H D I h
  refine wpAny_Assign_Name (thn (he pins s σ H _ I h) fun v s1 ⟨y, H1, I1, r1, q1⟩ => ?_) hs
  exact store_ok I1 hN hi hx r1 (fun s2 I2 => ⟨_, H1, I2, q1⟩) hf
/-- name op= e -/
def tAug (i : Nat) (te : TE) (ti : TIp) : TS := fun D σ H => ∃ x, σ[i]? = some (some x) ∧ te σ H fun y H1 => ti x y H1 fun z H2 => D.nx (σ.set i (some z)) H2
theorem ps_aug {i : Nat} {x : Str} {e : Expr} {te : TE} {op : Operator} {ti : TIp} {pos' : Pos} (hN : X.N.Nodup) (hi : X.N[i]? = some x) (hx : Loc X.env.scope x) (he : PE X e te) (ho : PIp X op ti) (hf : X.fn x = true ∨ X.env.scope.names.lookup x = some .local := by first | exact .inl rfl | exact .inr rfl | assumption) :
    PS X (.AugAssign (.Name x pos') op e pos) (tAug i te ti) := by
  intro pins s σ H D I h
  obtain ⟨v, e1, h⟩ := h
  obtain ⟨m, hn, hl⟩ := I.loc
  have vis : Vis X.env.scope x := by rcases hx with k | k; exact .inl k; exact .inr (.inl k)
  obtain ⟨u, r, l⟩ := hl i x v hi e1 vis
  refine wpAny_AugAssign_Name ?_
  have go : wpAny (model X.prog X.w) X.A (eval e X.env) (fun w s₂ => wpAny (model X.prog X.w) X.A (inplaceOp op u w) (fun r s₃ => wpAny (model X.prog X.w) X.A (storeName X.env x r) (fun _ => SP X pins D .next) X.xe s₃) X.xe s₂) X.xe s := by
    refine thn (he pins s σ H _ I h) fun w s1 ⟨y, H1, I1, r1, q1⟩ => ?_
    refine thn (ho pins s1 σ H1 v y u w _ I1 r r1 q1) fun z s2 ⟨zv, H2, I2, r2, q2⟩ => ?_
    exact store_ok I2 hN hi hx r2 (fun s3 I3 => ⟨_, H2, I3, q2⟩) hf
  rcases l with ⟨hk, hm⟩ | ⟨hk, c, hc, hcell⟩
  · exact wpAny_loadName_local I.ok.kind hk hn hm go
  · rcases hk with hk | hk
    · exact wpAny_loadName_cell I.ok.kind hk hc hcell go
    · rcases hx with k | k
      · have : X.env.scope.names.lookup x = some .free := hk
        rw [k] at this; cases this
      · have : X.env.scope.names.lookup x = some .free := hk
        rw [k] at this; cases this
end

/-! ### while -/
section
variable {X : Cx} {pos : Pos}
/-- the invariant W with its measure -/
def tWhile (c : TT) (tb : TS) : TS := fun D σ H => ∃ W : Nat → St → Hp → Prop, (∃ m, W m σ H) ∧ ∀ m σ H, W m σ H →
  c σ H fun b H1 => if b = true then ∃ N : St → Hp → Prop, (∀ σ' H', N σ' H' → ∃ m', m' < m ∧ W m' σ' H') ∧ tb { D with nx := N, ct := N, bk := D.nx } σ H1 else D.nx σ H1
theorem ps_while {c : Expr} {body : List Stmt} {tc : TT} {tb : TS} (hp : PassesOwn (model X.prog X.w) X.A X.env X.xe) (hc : PT X c tc) (hb : PSs X body tb) : PS X (.While c body [] pos) (tWhile tc tb) := by
  intro pins s σ H D I h
  obtain ⟨W, ⟨m0, w0⟩, turn⟩ := h
  refine wpAny_While (codeAny_whileLoop (fun n s' => ∃ σ' H', Inv X pins σ' H' s' ∧ W n σ' H') ?_ m0 ⟨σ, H, I, w0⟩)
  rintro n s1 ⟨σ1, H1, I1, w1⟩
  refine wpAny_passesOwn hp (thn (hc pins s1 σ1 H1 _ I1 (turn n σ1 H1 w1)) fun b s2 ⟨H2, I2, q2⟩ => ?_)
  cases b with
  | true =>
    obtain ⟨N, hN, q2⟩ := q2
    rw [if_pos rfl]
    refine wpAny_passesOwn hp (thn (hb pins s2 σ1 H2 _ I2 q2) fun f s3 q3 => ?_)
    cases f with
    | next =>
      obtain ⟨σ3, H3, I3, n3⟩ := q3
      obtain ⟨m', hm, w3⟩ := hN σ3 H3 n3
      exact ⟨m', hm, σ3, H3, I3, w3⟩
    | cont =>
      obtain ⟨σ3, H3, I3, n3⟩ := q3
      obtain ⟨m', hm, w3⟩ := hN σ3 H3 n3
      exact ⟨m', hm, σ3, H3, I3, w3⟩
    | brk => exact q3
    | ret v => exact q3
  | false =>
    rw [if_neg Bool.false_ne_true]
    exact wpAny_execs_nil ⟨σ1, H2, I2, q2⟩
end

/-! ### what a loop or a comprehension walks -/
/-- at turn i: it yields x (the heap may grow), or it stops -/
structure It where
  go : Nat → Hp → Prop
  yld : Nat → Hp → V → Hp → Prop
  stop : Nat → Hp → Prop
/-- the iterator's own objects may turn: they are not the frame's, not pinned, younger than the entry (or a comprehension's own) -/
def FpOk (X : Cx) (pins : List (Addr × Obj)) (H : Hp) (b : Addr) : Prop :=
  H b = none ∧ b ≠ X.env.locals ∧ b ∉ X.fs ∧ (b ∈ X.ex ∨ X.s_0.heap.objs.size ≤ b) ∧ (∀ x c, X.env.cells.lookup x = some c → c ≠ b) ∧ ∀ p ∈ X.pn ++ pins, p.1 ≠ b
theorem Inv.fpOk {X : Cx} {pins : List (Addr × Obj)} {σ : St} {H H' : Hp} {s : Shared} {b : Addr} (I : Inv X pins σ H s) (hb : s.heap.objs.size ≤ b) (hn : H' b = none) : FpOk X pins H' b := by
  refine ⟨hn, Nat.ne_of_gt (Nat.lt_of_lt_of_le I.lt hb), I.nofs hb, .inr (Nat.le_trans I.sz hb), fun x c e z => ?_, fun p hp z => ?_⟩
  · obtain ⟨v, q⟩ := I.cell x c e
    exact absurd (Nat.lt_of_lt_of_le q.lt (by rw [z]; exact hb)) (Nat.lt_irrefl _)
  · exact absurd (Nat.lt_of_lt_of_le (Heap.lt_size (I.pin p hp).1) (by rw [z]; exact hb)) (Nat.lt_irrefl _)
structure Turn (P : Program) (w : World) (K : PySem.W.Frag) (tg : Expr) (J : It) (fp : List Addr) (it : Addr) (tn : Nat → Heap → Prop) : Prop where
  mem : it ∈ fp
  obj : ∀ i h, tn i h → ∀ b ∈ fp, ∃ o, h.get? b = some o ∧ ∀ v, o.data ≠ .cell v
  keep : ∀ i h h', tn i h → (∀ b ∈ fp, ∀ o, h.get? b = some o → h'.get? b = some o) → tn i h'
  item : ∀ (X : Cx), X.prog = P → X.w = w → X.K = K → X.calm = true → ∀ (i : Nat) (pins : List (Addr × Obj)) (s : Shared) (σ : St) (H : Hp) (E : Value → Shared → Prop), Inv X pins σ H s → (∀ b ∈ fp, FpOk X pins H b) → tn i s.heap → J.go i H →
    wpAny (model P w) X.A (pyNext (.ref it)) (fun r s1 => ∃ u, r = some u ∧
      wpAny (model P w) X.A (letOwnedTupleGo tg (.ref it) u) (fun _ s2 => ∃ x H', Inv X pins σ H' s2 ∧ RelV x u ∧ J.yld i H x H' ∧ tn (i + 1) s2.heap ∧ ∀ b ∈ fp, H' b = none) E s1) E s
  done : ∀ (X : Cx), X.prog = P → X.w = w → X.K = K → X.calm = true → ∀ (i : Nat) (pins : List (Addr × Obj)) (s : Shared) (σ : St) (H : Hp) (E : Value → Shared → Prop), Inv X pins σ H s → (∀ b ∈ fp, FpOk X pins H b) → tn i s.heap → J.stop i H →
    wpAny (model P w) X.A (pyNext (.ref it)) (fun r s1 => r = none ∧ Inv X pins σ H s1) E s
  self : ∀ (A : Around) (i : Nat) (s : Shared) (Q : Value → Shared → Prop) (E : Value → Shared → Prop), tn i s.heap → Q (.ref it) s → wpAny (model P w) A (pyIter (.ref it)) Q E s
abbrev TI := St → Hp → (It → Hp → Prop) → Prop
/-- an iterator has come -/
def PIE (X : Cx) (pins : List (Addr × Obj)) (σ : St) (tg : Expr) (R : It → Hp → Prop) (itv : Value) (s2 : Shared) : Prop :=
  ∃ (it : Addr) (fp : List Addr) (tn : Nat → Heap → Prop) (J : It) (H' : Hp), itv = .ref it ∧ Inv X pins σ H' s2 ∧ Turn X.prog X.w X.K tg J fp it tn ∧ tn 0 s2.heap ∧ (∀ b ∈ fp, FpOk X pins H' b) ∧ R J H'
def PI (X : Cx) (tg iter : Expr) (wi : TI) : Prop :=
  ∀ (pins : List (Addr × Obj)) (s : Shared) (σ : St) (H : Hp) (R : It → Hp → Prop), Inv X pins σ H s → wi σ H R →
    wpAny (model X.prog X.w) X.A (eval iter X.env) (fun v s1 => wpAny (model X.prog X.w) X.A (pyIter v) (PIE X pins σ tg R) X.xe s1) X.xe s

/-- the step ahead of the store is nothing for an iterator that keeps no tuple -/
theorem go_of {M : Model} {A : Around} {E : Value → Shared → Prop} {s : Shared} {tg : Expr} {it : Addr} {u : Value} {o : Obj} {n : String} {vs : Array Value} {Q : Unit → Shared → Prop} (ho : s.heap.get? it = some o) (hc : o.cls = .type n) (hd : o.data = .fields vs)
    (hn : ["enumerate", "zip", "dict_itemiterator", "dict_reverseitemiterator", "odict_iterator", "itertools.zip_longest", "itertools.pairwise"].contains n = false) (hQ : Q () s) : wpAny M A (letOwnedTupleGo tg (.ref it) u) Q E s := by
  unfold letOwnedTupleGo
  cases tg <;> first
    | exact wpAny_pure hQ
    | (cases u <;> first
        | exact wpAny_pure hQ
        | (refine wpAny_bind (wpAny_load ho ?_)
           rw [hc, hd]
           show wpAny M A (if (["enumerate", "zip", "dict_itemiterator", "dict_reverseitemiterator", "odict_iterator", "itertools.zip_longest", "itertools.pairwise"].contains n && vs[0]? == some (rawInt _)) = true then _ else _) Q E s
           rw [if_neg (by intro h; rw [hn, Bool.false_and] at h; cases h)]
           exact wpAny_pure hQ))

/-- the list at a, as it stands at each turn (a loop may append to it) -/
def Itl (K : PySem.W.Frag) (a : Addr) : It :=
  ⟨fun i H => ∃ xs x, SqL K H a xs ∧ xs[i]? = some x, fun i H x H' => H' = H ∧ ∀ xs, SqL K H a xs → xs[i]? = some x, fun i H => ∃ xs, SqL K H a xs ∧ xs.length ≤ i⟩
def Itt (K : PySem.W.Frag) (a : Addr) : It :=
  ⟨fun i H => ∃ xs x, SqT K H a xs ∧ xs[i]? = some x, fun i H x H' => H' = H ∧ ∀ xs, SqT K H a xs → xs[i]? = some x, fun i H => ∃ xs, SqT K H a xs ∧ xs.length ≤ i⟩
/-- lo, lo + 1, .. (n of them) -/
def Itr (lo : Int) (n : Nat) : It := ⟨fun i _ => i < n, fun i H x H' => H' = H ∧ x = .int (lo + i), fun i _ => n ≤ i⟩
theorem turn_list {P : Program} {w : World} {K : PySem.W.Frag} {tg : Expr} (a it : Addr) : Turn P w K tg (Itl K a) [it] it (fun i h => h.IsListIter it a i) where
  mem := by simp
  obj := fun i h st b hb => by
    have e : b = it := by simpa using hb
    subst e
    obtain ⟨o, e, c, d⟩ := st
    exact ⟨o, e, fun v z => by rw [d] at z; cases z⟩
  keep := fun i h h' st k => st.at fun o e => k it (by simp) o e
  item := by
    intro X hP hw hK hc i pins s σ H E I hf st hg
    subst hP hw hK
    obtain ⟨xs, x, hq, hx⟩ := hg
    obtain ⟨its, rv, p, hz⟩ := I.list hq
    obtain ⟨u, hu, ru⟩ := rv.get hx
    obtain ⟨f0, f1, f2, f3, f4, f5⟩ := hf it (by simp)
    refine wpAny_pyNext_list_item st p.isList (x := u) (by simpa using hu) fun h' st' sb => ?_
    have I1 : Inv X pins σ H { s with heap := h' } := I.turned (t' := s.toks) (fun b o hb e => (sb.2 b hb).trans e) f0 f1 f3 f4 f5
    obtain ⟨o, e, c, d⟩ := id st'
    exact ⟨u, rfl, go_of (s := { s with heap := h' }) e c d (by decide) ⟨x, H, I1, ru, ⟨rfl, fun ys hy => by rw [I.list_inj hy hq]; exact hx⟩, st', fun b hb => (hf b hb).1⟩⟩
  done := by
    intro X hP hw hK hc i pins s σ H E I hf st hg
    subst hP hw hK
    obtain ⟨xs, hq, hx⟩ := hg
    obtain ⟨its, rv, p, hz⟩ := I.list hq
    obtain ⟨f0, f1, f2, f3, f4, f5⟩ := hf it (by simp)
    have hl := rv.length
    exact wpAny_pyNext_list_end (I.ok.hd hc) st p.isList (by simp; omega) fun h' eb => ⟨rfl, I.turned (t' := s.toks) (fun b o hb e => eb b o hb e) f0 f1 f3 f4 f5⟩
  self := fun _ _ _ _ _ st h => wpAny_pyIter_listiter st h
theorem turn_tuple {P : Program} {w : World} {K : PySem.W.Frag} {tg : Expr} (a it : Addr) : Turn P w K tg (Itt K a) [it] it (fun i h => h.IsTupleIter it a i) where
  mem := by simp
  obj := fun i h st b hb => by
    have e : b = it := by simpa using hb
    subst e
    obtain ⟨o, e, c, d⟩ := st
    exact ⟨o, e, fun v z => by rw [d] at z; cases z⟩
  keep := fun i h h' st k => st.at fun o e => k it (by simp) o e
  item := by
    intro X hP hw hK hc i pins s σ H E I hf st hg
    subst hP hw hK
    obtain ⟨xs, x, hq, hx⟩ := hg
    obtain ⟨its, rv, p, hz⟩ := I.tuple hq
    obtain ⟨u, hu, ru⟩ := rv.get hx
    obtain ⟨f0, f1, f2, f3, f4, f5⟩ := hf it (by simp)
    refine wpAny_pyNext_tuple_item st (show s.heap.IsTuple a its.toArray from p) (x := u) (by simpa using hu) fun h' st' sb => ?_
    have I1 : Inv X pins σ H { s with heap := h' } := I.turned (t' := s.toks) (fun b o hb e => (sb.2 b hb).trans e) f0 f1 f3 f4 f5
    obtain ⟨o, e, c, d⟩ := id st'
    exact ⟨u, rfl, go_of (s := { s with heap := h' }) e c d (by decide) ⟨x, H, I1, ru, ⟨rfl, fun ys hy => by rw [I.tuple_inj hy hq]; exact hx⟩, st', fun b hb => (hf b hb).1⟩⟩
  done := by
    intro X hP hw hK hc i pins s σ H E I hf st hg
    subst hP hw hK
    obtain ⟨xs, hq, hx⟩ := hg
    obtain ⟨its, rv, p, hz⟩ := I.tuple hq
    obtain ⟨f0, f1, f2, f3, f4, f5⟩ := hf it (by simp)
    have hl := rv.length
    exact wpAny_pyNext_tuple_end (I.ok.hd hc) st (show s.heap.IsTuple a its.toArray from p) (by simp; omega) fun h' eb => ⟨rfl, I.turned (t' := s.toks) (fun b o hb e => eb b o hb e) f0 f1 f3 f4 f5⟩
  self := fun _ _ _ _ _ st h => wpAny_pyIter_tupleiter st h
theorem turn_range {P : Program} {w : World} {K : PySem.W.Frag} {tg : Expr} (it : Addr) (lo : Int) (n : Nat) : Turn P w K tg (Itr lo n) [it] it (fun i h => IsRangeIter h it (lo + (i : Nat) * 1) ((n : Int) - (i : Nat)) 1) where
  mem := by simp
  obj := fun i h st b hb => by
    have e : b = it := by simpa using hb
    subst e
    exact ⟨_, st, fun v z => by
      have z' : Data.fields _ = Data.cell v := z
      cases z'⟩
  keep := fun i h h' st k => k it (by simp) _ st
  item := by
    intro X hP hw hK hc i pins s σ H E I hf st hg
    subst hP hw hK
    obtain ⟨f0, f1, f2, f3, f4, f5⟩ := hf it (by simp)
    have W := Walks.range (prog := X.prog) (w := X.w) (I.ok.hd hc) it lo 1 n
    refine W.item i s _ _ hg st fun v h' tk hv st' kk => ?_
    obtain ⟨t, rfl⟩ := hv
    have I1 : Inv X pins σ H { s with heap := h', toks := tk } := I.turned (fun b o hb e => kk b o (by simpa using hb) e) f0 f1 f3 f4 f5
    refine ⟨_, rfl, go_of (s := { s with heap := h', toks := tk }) (n := "range_iterator") st' rfl rfl (by decide) ⟨.int (lo + i), H, I1, ⟨t, ?_⟩, ⟨rfl, rfl⟩, st', fun b hb => (hf b hb).1⟩⟩
    rw [Int.mul_one]
  done := by
    intro X hP hw hK hc i pins s σ H E I hf st hg
    subst hP hw hK
    obtain ⟨f0, f1, f2, f3, f4, f5⟩ := hf it (by simp)
    exact wpAny_pyNext_range_end (I.ok.hd hc) st (by have : n ≤ i := hg; omega) fun h' eb => ⟨rfl, I.turned (t' := s.toks) (fun b o hb e => eb b o hb e) f0 f1 f3 f4 f5⟩
  self := fun _ _ _ _ _ st h => wpAny_pyIter_rangeiter st h
end L2

namespace L2
open PySem PySem.Spec PyProof.Rows
section
variable {X : Cx} {tg : Expr}
def iList (K : PySem.W.Frag) (tl : TE) : TI := fun σ H R => tl σ H fun x H1 => ∃ a, x = .ref a ∧ (∃ xs, SqL K H1 a xs) ∧ R (Itl K a) H1
def iTup (K : PySem.W.Frag) (tl : TE) : TI := fun σ H R => tl σ H fun x H1 => ∃ a, x = .ref a ∧ (∃ xs, SqT K H1 a xs) ∧ R (Itt K a) H1
theorem pi_list {l : Expr} {tl : TE} (hl : PE X l tl) : PI X tg l (iList X.K tl) := by
  intro pins s σ H R I h
  refine thn (hl pins s σ H _ I h) fun v s1 ⟨x, H1, I1, r1, q1⟩ => ?_
  obtain ⟨a, e, ⟨xs, hq⟩, q⟩ := q1
  subst e
  cases r1
  obtain ⟨its, rv, p, hz⟩ := I1.list hq
  refine wpAny_pyIter_list p.isList ?_
  refine ⟨s1.heap.objs.size, [s1.heap.objs.size], _, _, H1, rfl, I1.kept (t' := s1.toks) fun b o e => Heap.get?_push_of_some _ e, turn_list a _, ⟨_, Heap.get?_push_size _ rfl, rfl, rfl⟩, fun b hb => ?_, q⟩
  have e : b = s1.heap.objs.size := by simpa using hb
  subst e
  exact I1.fpOk (Nat.le_refl _) (I1.hok.fresh (Nat.le_refl _))
theorem pi_tup {l : Expr} {tl : TE} (hl : PE X l tl) : PI X tg l (iTup X.K tl) := by
  intro pins s σ H R I h
  refine thn (hl pins s σ H _ I h) fun v s1 ⟨x, H1, I1, r1, q1⟩ => ?_
  obtain ⟨a, e, ⟨xs, hq⟩, q⟩ := q1
  subst e
  cases r1
  obtain ⟨its, rv, p, hz⟩ := I1.tuple hq
  refine wpAny_pyIter_tuple (show s1.heap.IsTuple a its.toArray from p) ?_
  refine ⟨s1.heap.objs.size, [s1.heap.objs.size], _, _, H1, rfl, I1.kept (t' := s1.toks) fun b o e => Heap.get?_push_of_some _ e, turn_tuple a _, ⟨_, Heap.get?_push_size _ rfl, rfl, rfl⟩, fun b hb => ?_, q⟩
  have e : b = s1.heap.objs.size := by simpa using hb
  subst e
  exact I1.fpOk (Nat.le_refl _) (I1.hok.fresh (Nat.le_refl _))
/-- a range object just made, walked -/
theorem range_it {pins : List (Addr × Obj)} {σ : St} {H : Hp} {s : Shared} {R : It → Hp → Prop} {E : Value → Shared → Prop} {lo hi : Int} {t u v : Tok} {tk : Nat} (I : Inv X pins σ H s) (h1 : -(2 ^ 62) ≤ lo) (h2 : lo < 2 ^ 62) (h3 : -(2 ^ 62) ≤ hi) (h4 : hi < 2 ^ 62)
    (q : R (Itr lo (hi - lo).toNat) H) : wpAny (model X.prog X.w) X.A (pyIter (.ref s.heap.objs.size)) (PIE X pins σ tg R) E { s with heap := s.heap.push { cls := .type "range", data := .fields #[.int lo t, .int hi u, .int 1 v] }, toks := tk } := by
  refine wpAny_pyIter_range (IsRange.new ..) (small_one h1 h2 h3 h4) ?_
  have I1 : Inv X pins σ H { s with heap := s.heap.push { cls := .type "range", data := .fields #[.int lo t, .int hi u, .int 1 v] }, toks := tk } := I.kept fun b o e => Heap.get?_push_of_some _ e
  refine ⟨(s.heap.push { cls := .type "range", data := .fields #[.int lo t, .int hi u, .int 1 v] }).objs.size, [(s.heap.push { cls := .type "range", data := .fields #[.int lo t, .int hi u, .int 1 v] }).objs.size], _, _, H, rfl,
    I1.kept (t' := tk) fun b o e => Heap.get?_push_of_some _ e, turn_range _ lo (hi - lo).toNat, ?_, fun b hb => ?_, q⟩
  · have e1 : lo + ((0 : Nat) : Int) * 1 = lo := by simp
    have e2 : (((hi - lo).toNat : Nat) : Int) - ((0 : Nat) : Int) = Builtin.Range.rangeSize lo hi 1 := by rw [rangeSize_one]; split <;> omega
    show IsRangeIter _ _ (lo + ((0 : Nat) : Int) * 1) ((((hi - lo).toNat : Nat) : Int) - ((0 : Nat) : Int)) 1
    rw [e1, e2]
    exact Heap.get?_push_size _ rfl
  · have e : b = (s.heap.push { cls := .type "range", data := .fields #[.int lo t, .int hi u, .int 1 v] }).objs.size := by simpa using hb
    subst e
    exact I1.fpOk (Nat.le_refl _) (I1.hok.fresh (Nat.le_refl _))
def iRng2 (ta : TA) : TI := fun σ H R => ta σ H fun vs H1 => ∃ i j : Int, vs = [.int i, .int j] ∧ (-(2 ^ 62) ≤ i ∧ i < 2 ^ 62 ∧ -(2 ^ 62) ≤ j ∧ j < 2 ^ 62) ∧ R (Itr i (j - i).toNat) H1
theorem pi_range2 {a b : Expr} {ta : TA} {p pos : Pos} (hg : Gl X "range") (hm : X.mg "range" = none) (ha : PA X [a, b] ta) (hs : starEach [a, b] X.env = [(false, eval a X.env), (false, eval b X.env)] := by rfl) (hs2 : starEach [b] X.env = [(false, eval b X.env)] := by rfl) :
    PI X tg (.Call (.Name "range" p) [a, b] [] pos) (iRng2 ta) := by
  intro pins s σ H R I h
  refine Call_ (ld_blt I hg hm boot_range (PyProof.Rows.callWith_type1 (thn (ha pos pins s σ H _ I h) fun us s1 ⟨vs, H1, I1, r1, q1⟩ => ?_) (by rw [hs, hs2]) (by rw [hs2]; rfl)))
  obtain ⟨i, j, e, ⟨q1, q2, q3, q4⟩, q⟩ := q1
  subst e
  cases r1 with
  | cons r rr =>
    cases rr with
    | cons r' rr =>
      cases rr
      obtain ⟨t, rfl⟩ := r
      obtain ⟨t', rfl⟩ := r'
      exact call_range_2 (range_it I1 q1 q2 q3 q4 q)

/-! ### for -/
/-- W: the invariant by the turn and a measure; N: what the body is to reach -/
def tFor (wi : TI) (g : TG) (tb : TS) : TS := fun D σ H => wi σ H fun J H1 => ∃ W : Nat → Nat → St → Hp → Prop, (∃ m, W 0 m σ H1) ∧ ∀ i m σ H, W i m σ H →
  (J.stop i H ∧ D.nx σ H) ∨ (J.go i H ∧ ∃ N : St → Hp → Prop, (∀ σ' H', N σ' H' → ∃ m', m' < m ∧ W (i + 1) m' σ' H') ∧ ∀ x H', J.yld i H x H' → g x σ H' fun σ2 H2 => tb { D with nx := N, ct := N, bk := D.nx } σ2 H2)
/-- the records at fp as they stand -/
def pinsAt (fp : List Addr) (h : Heap) : List (Addr × Obj) := fp.filterMap fun b => (h.get? b).map fun o => (b, o)
theorem mem_pinsAt {fp : List Addr} {h : Heap} {b : Addr} {o : Obj} (hb : b ∈ fp) (e : h.get? b = some o) : (b, o) ∈ pinsAt fp h := List.mem_filterMap.mpr ⟨b, hb, by rw [e]; rfl⟩
theorem of_pinsAt {fp : List Addr} {h : Heap} {p : Addr × Obj} (hp : p ∈ pinsAt fp h) : p.1 ∈ fp ∧ h.get? p.1 = some p.2 := by
  obtain ⟨b, hb, e⟩ := List.mem_filterMap.mp hp
  cases q : h.get? b with
  | none => rw [q] at e; cases e
  | some o =>
    rw [q] at e
    have e' : (b, o) = p := Option.some.inj e
    subst e'
    exact ⟨hb, q⟩
theorem Inv.pinned {pins : List (Addr × Obj)} {σ : St} {H : Hp} {s : Shared} {fp : List Addr} (I : Inv X pins σ H s) (hf : ∀ b ∈ fp, FpOk X pins H b) (ho : ∀ b ∈ fp, ∃ o, s.heap.get? b = some o ∧ ∀ v, o.data ≠ .cell v) : Inv X (pins ++ pinsAt fp s.heap) σ H s :=
  I.pins_of fun p hp => (List.mem_append.mp hp).elim (fun z => I.pin p (List.mem_append_right _ z)) fun z => by
    obtain ⟨hb, e⟩ := of_pinsAt z
    obtain ⟨f0, f1, f2, _⟩ := hf p.1 hb
    obtain ⟨o, e', d⟩ := ho p.1 hb
    rw [e] at e'; cases e'
    exact ⟨e, f0, f1, f2, d⟩
theorem Inv.unpinned {pins pl : List (Addr × Obj)} {σ : St} {H : Hp} {s : Shared} (I : Inv X (pins ++ pl) σ H s) : Inv X pins σ H s := I.pins_of fun p hp => I.pin p (List.mem_append_right _ (List.mem_append_left _ hp))
theorem ps_for {iter : Expr} {body : List Stmt} {wi : TI} {g : TG} {tb : TS} {pos : Pos} (hp : PassesOwn (model X.prog X.w) X.A X.env X.xe) (hc : X.calm = true) (hi : PI X tg iter wi) (hg : PG X tg g) (hb : PSs X body tb)
    (hs : ∀ x, foldedSetIterable iter X.env x = pure x := by intro _; rfl) : PS X (.For tg iter body [] pos) (tFor wi g tb) := by
  intro pins s σ H D I h
  refine wpAny_For (thn (hi pins s σ H _ I h) fun v s1 h1 => thn h1 fun itv s2 h2 => ?_) hs
  obtain ⟨it, fp, tn, J, H2, e, I2, T, st2, f2, W, ⟨m0, w0⟩, turn⟩ := h2
  subst e
  -- what stays true of the iterator's objects through the loop
  have stat : ∀ {H' : Hp}, (∀ b ∈ fp, H' b = none) → ∀ b ∈ fp, FpOk X pins H' b := fun hn b hb => ⟨hn b hb, (f2 b hb).2⟩
  refine codeAny_forLoop_any (fun n s' => ∃ i σ' H', Inv X pins σ' H' s' ∧ tn i s'.heap ∧ (∀ b ∈ fp, H' b = none) ∧ W i n σ' H') ?_ m0 ⟨0, σ, H2, I2, st2, fun b hb => (f2 b hb).1, w0⟩
  rintro n s3 ⟨i, σ3, H3, I3, st3, fr3, w3⟩
  rcases turn i n σ3 H3 w3 with ⟨stop, qn⟩ | ⟨go, N, hN, step⟩
  · refine wpAny_passesOwn hp (thn (T.done X rfl rfl rfl hc i pins s3 σ3 H3 X.xe I3 (stat fr3) st3 stop) fun r s4 ⟨hr, I4⟩ => ?_)
    subst hr
    exact wpAny_execs_nil ⟨σ3, H3, I4, qn⟩
  · refine wpAny_passesOwn hp (thn (T.item X rfl rfl rfl hc i pins s3 σ3 H3 X.xe I3 (stat fr3) st3 go) fun r s4 ⟨u, hr, h4⟩ => ?_)
    subst hr
    refine wpAny_passesOwn hp (thn h4 fun _ s5 ⟨x, H5, I5, r5, y5, st5, fr5⟩ => ?_)
    have I5' := I5.pinned (stat fr5) (T.obj _ _ st5)
    refine wpAny_passesOwn hp (thn (hg _ s5 σ3 H5 x u _ I5' r5 (step x H5 y5)) fun _ s6 ⟨σ6, H6, I6, q6⟩ => ?_)
    refine wpAny_passesOwn hp (thn (hb _ s6 σ6 H6 _ I6 q6) fun f s7 q7 => ?_)
    have again : ∀ {σ7 : St} {H7 : Hp}, Inv X (pins ++ pinsAt fp s5.heap) σ7 H7 s7 → N σ7 H7 → ∃ m, m < n ∧ ∃ i σ' H', Inv X pins σ' H' s7 ∧ tn i s7.heap ∧ (∀ b ∈ fp, H' b = none) ∧ W i m σ' H' := fun {σ7 H7} I7 n7 => by
      obtain ⟨m', hm, w7⟩ := hN σ7 H7 n7
      refine ⟨m', hm, i + 1, σ7, H7, I7.unpinned, T.keep _ _ _ st5 fun b hb o e => (I7.pin (b, o) (List.mem_append_right _ (List.mem_append_right _ (mem_pinsAt hb e)))).1, fun b hb => ?_, w7⟩
      obtain ⟨o, e, d⟩ := T.obj _ _ st5 b hb
      exact (I7.pin (b, o) (List.mem_append_right _ (List.mem_append_right _ (mem_pinsAt hb e)))).2.1
    cases f with
    | next => obtain ⟨σ7, H7, I7, n7⟩ := q7; exact again I7 n7
    | cont => obtain ⟨σ7, H7, I7, n7⟩ := q7; exact again I7 n7
    | brk => obtain ⟨σ7, H7, I7, q7⟩ := q7; exact ⟨σ7, H7, I7.unpinned, q7⟩
    | ret v => obtain ⟨x7, σ7, H7, I7, r7, q7⟩ := q7; exact ⟨x7, σ7, H7, I7.unpinned, r7, q7⟩
end

/-! ### the forms one uses -/
/-- over a list that the body leaves as it is -/
theorem for_list {K : PySem.W.Frag} {a : Addr} {xs : List V} {g : TG} {tb : TS} {D : Ends} {σ : St} {H : Hp} (Pv : Nat → St → Hp → Prop) (h0 : Pv 0 σ H) (hl : ∀ i σ H, i ≤ xs.length → Pv i σ H → SqL K H a xs)
    (hs : ∀ i x σ H, xs[i]? = some x → Pv i σ H → g x σ H fun σ2 H2 => tb { D with nx := Pv (i + 1), ct := Pv (i + 1), bk := D.nx } σ2 H2) (hd : ∀ σ H, Pv xs.length σ H → D.nx σ H) :
    ∃ W : Nat → Nat → St → Hp → Prop, (∃ m, W 0 m σ H) ∧ ∀ i m σ H, W i m σ H →
      ((Itl K a).stop i H ∧ D.nx σ H) ∨ ((Itl K a).go i H ∧ ∃ N : St → Hp → Prop, (∀ σ' H', N σ' H' → ∃ m', m' < m ∧ W (i + 1) m' σ' H') ∧ ∀ x H', (Itl K a).yld i H x H' → g x σ H' fun σ2 H2 => tb { D with nx := N, ct := N, bk := D.nx } σ2 H2) := by
  refine ⟨fun i m σ H => m = xs.length - i ∧ i ≤ xs.length ∧ Pv i σ H, ⟨xs.length, by simp, Nat.zero_le _, h0⟩, ?_⟩
  rintro i m σ H ⟨rfl, hi, p⟩
  have q := hl i σ H hi p
  by_cases hlt : i < xs.length
  · refine .inr ⟨⟨xs, xs[i], q, by simp [hlt]⟩, Pv (i + 1), fun σ' H' p' => ⟨xs.length - (i + 1), by omega, rfl, hlt, p'⟩, fun x H' y => ?_⟩
    obtain ⟨e, y⟩ := y
    subst e
    exact hs i x σ _ (y xs q) p
  · have e : i = xs.length := by omega
    subst e
    exact .inl ⟨⟨xs, q, Nat.le_refl _⟩, hd σ H p⟩
theorem for_tup {K : PySem.W.Frag} {a : Addr} {xs : List V} {g : TG} {tb : TS} {D : Ends} {σ : St} {H : Hp} (Pv : Nat → St → Hp → Prop) (h0 : Pv 0 σ H) (hl : ∀ i σ H, i ≤ xs.length → Pv i σ H → SqT K H a xs)
    (hs : ∀ i x σ H, xs[i]? = some x → Pv i σ H → g x σ H fun σ2 H2 => tb { D with nx := Pv (i + 1), ct := Pv (i + 1), bk := D.nx } σ2 H2) (hd : ∀ σ H, Pv xs.length σ H → D.nx σ H) :
    ∃ W : Nat → Nat → St → Hp → Prop, (∃ m, W 0 m σ H) ∧ ∀ i m σ H, W i m σ H →
      ((Itt K a).stop i H ∧ D.nx σ H) ∨ ((Itt K a).go i H ∧ ∃ N : St → Hp → Prop, (∀ σ' H', N σ' H' → ∃ m', m' < m ∧ W (i + 1) m' σ' H') ∧ ∀ x H', (Itt K a).yld i H x H' → g x σ H' fun σ2 H2 => tb { D with nx := N, ct := N, bk := D.nx } σ2 H2) := by
  refine ⟨fun i m σ H => m = xs.length - i ∧ i ≤ xs.length ∧ Pv i σ H, ⟨xs.length, by simp, Nat.zero_le _, h0⟩, ?_⟩
  rintro i m σ H ⟨rfl, hi, p⟩
  have q := hl i σ H hi p
  by_cases hlt : i < xs.length
  · refine .inr ⟨⟨xs, xs[i], q, by simp [hlt]⟩, Pv (i + 1), fun σ' H' p' => ⟨xs.length - (i + 1), by omega, rfl, hlt, p'⟩, fun x H' y => ?_⟩
    obtain ⟨e, y⟩ := y
    subst e
    exact hs i x σ _ (y xs q) p
  · have e : i = xs.length := by omega
    subst e
    exact .inl ⟨⟨xs, q, Nat.le_refl _⟩, hd σ H p⟩
theorem for_range {lo : Int} {n : Nat} {g : TG} {tb : TS} {D : Ends} {σ : St} {H : Hp} (Pv : Nat → St → Hp → Prop) (h0 : Pv 0 σ H)
    (hs : ∀ i σ H, i < n → Pv i σ H → g (.int (lo + i)) σ H fun σ2 H2 => tb { D with nx := Pv (i + 1), ct := Pv (i + 1), bk := D.nx } σ2 H2) (hd : ∀ σ H, Pv n σ H → D.nx σ H) :
    ∃ W : Nat → Nat → St → Hp → Prop, (∃ m, W 0 m σ H) ∧ ∀ i m σ H, W i m σ H →
      ((Itr lo n).stop i H ∧ D.nx σ H) ∨ ((Itr lo n).go i H ∧ ∃ N : St → Hp → Prop, (∀ σ' H', N σ' H' → ∃ m', m' < m ∧ W (i + 1) m' σ' H') ∧ ∀ x H', (Itr lo n).yld i H x H' → g x σ H' fun σ2 H2 => tb { D with nx := N, ct := N, bk := D.nx } σ2 H2) := by
  refine ⟨fun i m σ H => m = n - i ∧ i ≤ n ∧ Pv i σ H, ⟨n, by simp, Nat.zero_le _, h0⟩, ?_⟩
  rintro i m σ H ⟨rfl, hi, p⟩
  by_cases hlt : i < n
  · refine .inr ⟨hlt, Pv (i + 1), fun σ' H' p' => ⟨n - (i + 1), by omega, rfl, hlt, p'⟩, fun x H' y => ?_⟩
    obtain ⟨e, y⟩ := y
    subst e y
    exact hs i σ _ hlt p
  · have e : i = n := by omega
    subst e
    exact .inl ⟨Nat.le_refl _, hd σ H p⟩
end L2

namespace L2
open PySem PySem.Spec PyProof.Rows

abbrev R2 := V → V → Hp → VK → Prop
/-- a two-place operation on values: f is binaryOp op, inplaceOp op or compareOp op -/
def OpR (X : Cx) (f : Value → Value → Sem Value) (r : R2) : Prop :=
  ∀ (pins : List (Addr × Obj)) (s : Shared) (σ : St) (H : Hp) (x y : V) (v u : Value) (Q : VK), Inv X pins σ H s → RelV x v → RelV y u → r x y H Q →
    wpAny (model X.prog X.w) X.A (f v u) (EP X pins σ Q) X.xe s
/-- a one-place operation -/
def UnR (X : Cx) (f : Value → Sem Value) (r : V → Hp → VK → Prop) : Prop :=
  ∀ (pins : List (Addr × Obj)) (s : Shared) (σ : St) (H : Hp) (x : V) (v : Value) (Q : VK), Inv X pins σ H s → RelV x v → r x H Q →
    wpAny (model X.prog X.w) X.A (f v) (EP X pins σ Q) X.xe s
/-- a call of a value that is known (a builtin, a type) with values -/
def CallR (X : Cx) (f : Value) (r : List V → Hp → VK → Prop) : Prop :=
  ∀ (pins : List (Addr × Obj)) (s : Shared) (σ : St) (H : Hp) (xs : List V) (us : List Value) (Q : VK), Inv X pins σ H s → Vals xs us → r xs H Q →
    wpAny (model X.prog X.w) X.A (call f us) (EP X pins σ Q) X.xe s
def tOp (r : R2) (ta tb : TE) : TE := fun σ H Q => ta σ H fun x H1 => tb σ H1 fun y H2 => r x y H2 Q
def tUn (r : V → Hp → VK → Prop) (ta : TE) : TE := fun σ H Q => ta σ H fun x H1 => r x H1 Q
/-- ints in, under C, and a value out -/
def rI (C : Int → Int → Prop) (g : Int → Int → V) : R2 := fun x y H Q => ∃ i j, x = .int i ∧ y = .int j ∧ C i j ∧ Q (g i j) H
def rI0 (g : Int → Int → V) : R2 := fun x y H Q => ∃ i j, x = .int i ∧ y = .int j ∧ Q (g i j) H
def rU (g : Int → V) : V → Hp → VK → Prop := fun x H Q => ∃ i, x = .int i ∧ Q (g i) H

section
variable {X : Cx} {a b c : Expr} {ta tb tc : TE} {pos : Pos}

theorem binT (ha : PE X a ta) (hb : PE X b tb) {pins : List (Addr × Obj)} {s : Shared} {σ : St} {H : Hp} {R : V → V → Hp → Prop} (I : Inv X pins σ H s)
    (h : ta σ H fun x H1 => tb σ H1 fun y H2 => R x y H2) {Q : Value → Shared → Prop} {f : Value → Value → Sem Value}
    (hf : ∀ v u s2 x y H2, Inv X pins σ H2 s2 → RelV x v → RelV y u → R x y H2 → wpAny (model X.prog X.w) X.A (f v u) Q X.xe s2) :
    wpAny (model X.prog X.w) X.A (eval a X.env) (fun v s₁ => wpAny (model X.prog X.w) X.A (eval b X.env) (fun u s₂ => wpAny (model X.prog X.w) X.A (f v u) Q X.xe s₂) X.xe s₁) X.xe s := by
  refine thn (ha pins s σ H _ I h) fun v s1 ⟨x, H1, I1, r1, q1⟩ => ?_
  refine thn (hb pins s1 σ H1 _ I1 q1) fun u s2 ⟨y, H2, I2, r2, q2⟩ => ?_
  exact hf v u s2 x y H2 I2 r1 r2 q2

theorem pe_op {op : Operator} {r : R2} (ho : OpR X (binaryOp op) r) (ha : PE X a ta) (hb : PE X b tb) : PE X (.BinOp a op b pos) (tOp r ta tb) := by
  intro pins s σ H Q I h
  exact wpAny_BinOp (binT ha hb I h fun v u s2 x y H2 I2 rx ry q => ho pins s2 σ H2 x y v u Q I2 rx ry q)
theorem pe_un {op : UnaryOp} {r : V → Hp → VK → Prop} (ho : UnR X (unaryOp op) r) (ha : PE X a ta) : PE X (.UnaryOp op a pos) (tUn r ta) := by
  intro pins s σ H Q I h
  exact UnaryOp_ (thn (ha pins s σ H _ I h) fun v s1 ⟨x, H1, I1, r1, q1⟩ => ho pins s1 σ H1 x v Q I1 r1 q1)
/-! ### ints -/
theorem opI {f : Value → Value → Sem Value} {C : Int → Int → Prop} {g : Int → Int → Int}
    (rule : ∀ (i j : Int) (t u : Tok) (s : Shared) (Q : Value → Shared → Prop) (E : Value → Shared → Prop), C i j → Q (.int (g i j) s.toks) { s with toks := s.toks + 1 } → wpAny (model X.prog X.w) X.A (f (.int i t) (.int j u)) Q E s) :
    OpR X f (rI C fun i j => .int (g i j)) := by
  intro pins s σ H x y v u Q I rx ry h
  obtain ⟨i, j, rfl, rfl, hc, q⟩ := h
  obtain ⟨t, rfl⟩ := rx
  obtain ⟨t', rfl⟩ := ry
  exact rule i j t t' s _ _ hc ⟨.int (g i j), H, I.tok _, ⟨_, rfl⟩, q⟩
theorem opI0 {f : Value → Value → Sem Value} {g : Int → Int → Int}
    (rule : ∀ (i j : Int) (t u : Tok) (s : Shared) (Q : Value → Shared → Prop) (E : Value → Shared → Prop), Q (.int (g i j) s.toks) { s with toks := s.toks + 1 } → wpAny (model X.prog X.w) X.A (f (.int i t) (.int j u)) Q E s) :
    OpR X f (rI0 fun i j => .int (g i j)) := by
  intro pins s σ H x y v u Q I rx ry h
  obtain ⟨i, j, rfl, rfl, q⟩ := h
  obtain ⟨t, rfl⟩ := rx
  obtain ⟨t', rfl⟩ := ry
  exact rule i j t t' s _ _ ⟨.int (g i j), H, I.tok _, ⟨_, rfl⟩, q⟩
theorem opB0 {f : Value → Value → Sem Value} {g : Int → Int → Bool}
    (rule : ∀ (i j : Int) (t u : Tok) (s : Shared) (Q : Value → Shared → Prop) (E : Value → Shared → Prop), Q (.bool (g i j)) s → wpAny (model X.prog X.w) X.A (f (.int i t) (.int j u)) Q E s) :
    OpR X f (rI0 fun i j => .bl (g i j)) := by
  intro pins s σ H x y v u Q I rx ry h
  obtain ⟨i, j, rfl, rfl, q⟩ := h
  obtain ⟨t, rfl⟩ := rx
  obtain ⟨t', rfl⟩ := ry
  exact rule i j t t' s _ _ ⟨.bl (g i j), H, I, rfl, q⟩

def CDiv (i j : Int) : Prop := 0 < j ∧ j < 1073741824
def CMul (i j : Int) : Prop := (-(2 ^ 64) < i ∧ i < 2 ^ 64) ∨ (-(2 ^ 64) < j ∧ j < 2 ^ 64)
theorem CMul.ok {i j : Int} (h : CMul i j) : IntMulOk i j := by
  rcases h with ⟨h1, h2⟩ | ⟨h1, h2⟩
  · exact .of_left (intBits_le_64 h1 h2)
  · exact .of_right (intBits_le_64 h1 h2)
theorem two_pow_nn (k : Nat) : (0 : Int) ≤ 2 ^ k := by
  rw [two_pow_cast]
  exact Int.natCast_nonneg _

theorem op_add : OpR X (binaryOp .Add) (rI0 fun i j => .int (i + j)) := opI0 fun _ _ _ _ _ _ _ q => add_int q
theorem op_sub : OpR X (binaryOp .Sub) (rI0 fun i j => .int (i - j)) := opI0 fun _ _ _ _ _ _ _ q => sub_int q
theorem op_mul : OpR X (binaryOp .Mult) (rI CMul fun i j => .int (i * j)) := opI fun _ _ _ _ _ _ _ hc q => mul_int q hc.ok
/-- // by a positive divisor -/
theorem op_fdiv : OpR X (binaryOp .FloorDiv) (rI CDiv fun i j => .int (i / j)) := opI fun i j _ _ _ _ _ hc q => by
  have h1 : (0 : Int) < j := hc.1
  have h2 : j < 1073741824 := hc.2
  exact floordiv_int (by omega) (by rw [Int.fdiv_eq_ediv_of_nonneg i (by omega)]; exact q) (.inl (PyProof.noPylong_small (by omega)))
/-- % by a positive divisor of any size -/
theorem op_mod : OpR X (binaryOp .Mod) (rI (fun _ j => 0 < j) fun i j => .int (i % j)) := opI fun i j _ _ _ _ _ hc q => by
  have h1 : (0 : Int) < j := hc
  exact mod_int' (by omega) (by rw [Int.fmod_eq_emod_of_nonneg i (by omega)]; exact q)
theorem op_shr : OpR X (binaryOp .RShift) (rI (fun _ j => 0 ≤ j) fun i j => .int (i / 2 ^ j.toNat)) := opI fun i j _ _ _ _ _ hc q =>
  rshift_int hc (by rw [Int.fdiv_eq_ediv_of_nonneg i (two_pow_nn _)]; exact q)
theorem op_and : OpR X (binaryOp .BitAnd) (rI0 fun i j => .int (Builtin.bitAnd i j)) := opI0 fun _ _ _ _ _ _ _ q => and_int q
theorem unI {f : Value → Sem Value} {g : Int → Int}
    (rule : ∀ (i : Int) (t : Tok) (s : Shared) (Q : Value → Shared → Prop) (E : Value → Shared → Prop), Q (.int (g i) s.toks) { s with toks := s.toks + 1 } → wpAny (model X.prog X.w) X.A (f (.int i t)) Q E s) :
    UnR X f (rU fun i => .int (g i)) := by
  intro pins s σ H x v Q I rx h
  obtain ⟨i, rfl, q⟩ := h
  obtain ⟨t, rfl⟩ := rx
  exact rule i t s _ _ ⟨.int (g i), H, I.tok _, ⟨_, rfl⟩, q⟩
theorem un_neg : UnR X (unaryOp .USub) (rU fun i => .int (-i)) := unI fun _ _ _ _ _ q => neg_int q
/-! ### bools among ints: n += (a < b) -/
end

/-! ### comparisons -/
/-- the scalars that == tells apart as data does -/
def scal : V → V → Bool
  | .non, .non => true | .non, .int _ => true | .int _, .non => true | .non, .bl _ => true | .bl _, .non => true | .non, .str _ => true | .str _, .non => true
  | .int _, .int _ => true | .bl _, .bl _ => true | .str _, .str _ => true | .byt _, .byt _ => true
  | .int _, .str _ => true | .str _, .int _ => true | .bl _, .str _ => true | .str _, .bl _ => true
  | _, _ => false
def rEq : R2 := fun x y H Q => scal x y = true ∧ Q (.bl (decide (x = y))) H
def rNe : R2 := fun x y H Q => scal x y = true ∧ Q (.bl (!decide (x = y))) H

theorem dec_int {i j : Int} : decide (V.int i = V.int j) = (i == j) := by
  rw [Bool.eq_iff_iff]
  simp
theorem dec_bl {i j : Bool} : decide (V.bl i = V.bl j) = (i == j) := by
  rw [Bool.eq_iff_iff]
  simp
theorem dec_str {i j : Str} : decide (V.str i = V.str j) = (i == j) := by
  rw [Bool.eq_iff_iff]
  simp
theorem dec_byt {i j : Array UInt8} : decide (V.byt i = V.byt j) = (i.toList == j.toList) := by
  rw [Bool.eq_iff_iff]
  cases i
  cases j
  simp

section
variable {X : Cx} {a b c : Expr} {ta tb tc : TE} {pos : Pos}
theorem fin_bl {pins : List (Addr × Obj)} {σ : St} {H : Hp} {s : Shared} {Q : VK} {k k' : Bool} (I : Inv X pins σ H s) (q : Q (.bl k) H) (e : k = k') : EP X pins σ Q (.bool k') s := by
  subst e
  exact ⟨.bl k, H, I, rfl, q⟩
theorem op_eq : OpR X (compareOp .Eq) rEq := by
  intro pins s σ H x y v u Q I rx ry h
  obtain ⟨hs, q⟩ := h
  cases x with
  | non =>
    cases rx
    cases y with
    | non => cases ry; exact PySem.EqNone.eq_none_none (fin_bl I q (by simp))
    | bl j => cases ry; exact PySem.EqNone.eq_none_bool (fin_bl I q (by simp))
    | int j => obtain ⟨t', rfl⟩ := ry; exact PySem.EqNone.eq_none_int (fin_bl I q (by simp))
    | str j => obtain ⟨t', rfl⟩ := ry; exact PySem.EqNone.eq_none_str (fin_bl I q (by simp))
    | _ => exact absurd (show false = true from hs) Bool.false_ne_true
  | bl i =>
    cases rx
    cases y with
    | non => cases ry; exact PySem.EqNone.eq_bool_none (fin_bl I q (by simp))
    | bl j => cases ry; exact eq_bool (fin_bl I q dec_bl)
    | str j => obtain ⟨t', rfl⟩ := ry; exact PySem.EqMixed.eq_bool_str (fin_bl I q (by simp))
    | _ => exact absurd (show false = true from hs) Bool.false_ne_true
  | int i =>
    obtain ⟨t, rfl⟩ := rx
    cases y with
    | non => cases ry; exact PySem.EqNone.eq_int_none (fin_bl I q (by simp))
    | int j => obtain ⟨t', rfl⟩ := ry; exact eq_int (fin_bl I q dec_int)
    | str j => obtain ⟨t', rfl⟩ := ry; exact PySem.EqMixed.eq_int_str (fin_bl I q (by simp))
    | _ => exact absurd (show false = true from hs) Bool.false_ne_true
  | str i =>
    obtain ⟨t, rfl⟩ := rx
    cases y with
    | non => cases ry; exact PySem.EqNone.eq_str_none (fin_bl I q (by simp))
    | bl j => cases ry; exact PySem.EqMixed.eq_str_bool (fin_bl I q (by simp))
    | int j => obtain ⟨t', rfl⟩ := ry; exact PySem.EqMixed.eq_str_int (fin_bl I q (by simp))
    | str j => obtain ⟨t', rfl⟩ := ry; exact eq_str (fin_bl I q dec_str)
    | _ => exact absurd (show false = true from hs) Bool.false_ne_true
  | byt i =>
    obtain ⟨t, rfl⟩ := rx
    cases y with
    | byt j => obtain ⟨t', rfl⟩ := ry; exact PySem.W.eq_bytes (fin_bl I q dec_byt)
    | _ => exact absurd (show false = true from hs) Bool.false_ne_true
  | _ => cases y <;> exact absurd (show false = true from hs) Bool.false_ne_true
theorem op_ne : OpR X (compareOp .NotEq) rNe := by
  intro pins s σ H x y v u Q I rx ry h
  obtain ⟨hs, q⟩ := h
  cases x with
  | non =>
    cases rx
    cases y with
    | non => cases ry; exact PySem.EqNone.ne_none_none (fin_bl I q (by simp))
    | bl j => cases ry; exact PySem.EqNone.ne_none_bool (fin_bl I q (by simp))
    | int j => obtain ⟨t', rfl⟩ := ry; exact PySem.EqNone.ne_none_int (fin_bl I q (by simp))
    | str j => obtain ⟨t', rfl⟩ := ry; exact PySem.EqNone.ne_none_str (fin_bl I q (by simp))
    | _ => exact absurd (show false = true from hs) Bool.false_ne_true
  | bl i =>
    cases rx
    cases y with
    | non => cases ry; exact PySem.EqNone.ne_bool_none (fin_bl I q (by simp))
    | bl j => cases ry; exact ne_bool (fin_bl I q (congrArg not dec_bl))
    | str j => obtain ⟨t', rfl⟩ := ry; exact PySem.EqMixed.ne_bool_str (fin_bl I q (by simp))
    | _ => exact absurd (show false = true from hs) Bool.false_ne_true
  | int i =>
    obtain ⟨t, rfl⟩ := rx
    cases y with
    | non => cases ry; exact PySem.EqNone.ne_int_none (fin_bl I q (by simp))
    | int j => obtain ⟨t', rfl⟩ := ry; exact ne_int (fin_bl I q (congrArg not dec_int))
    | str j => obtain ⟨t', rfl⟩ := ry; exact PySem.EqMixed.ne_int_str (fin_bl I q (by simp))
    | _ => exact absurd (show false = true from hs) Bool.false_ne_true
  | str i =>
    obtain ⟨t, rfl⟩ := rx
    cases y with
    | non => cases ry; exact PySem.EqNone.ne_str_none (fin_bl I q (by simp))
    | bl j => cases ry; exact PySem.EqMixed.ne_str_bool (fin_bl I q (by simp))
    | int j => obtain ⟨t', rfl⟩ := ry; exact PySem.EqMixed.ne_str_int (fin_bl I q (by simp))
    | str j => obtain ⟨t', rfl⟩ := ry; exact ne_str (fin_bl I q (congrArg not dec_str))
    | _ => exact absurd (show false = true from hs) Bool.false_ne_true
  | byt i =>
    obtain ⟨t, rfl⟩ := rx
    cases y with
    | byt j => obtain ⟨t', rfl⟩ := ry; exact PySem.W.ne_bytes (fin_bl I q (congrArg not dec_byt))
    | _ => exact absurd (show false = true from hs) Bool.false_ne_true
  | _ => cases y <;> exact absurd (show false = true from hs) Bool.false_ne_true

theorem op_lt : OpR X (compareOp .Lt) (rI0 fun i j => .bl (decide (i < j))) := opB0 fun _ _ _ _ _ _ _ q => lt_int q
theorem op_le : OpR X (compareOp .LtE) (rI0 fun i j => .bl (decide (i ≤ j))) := opB0 fun _ _ _ _ _ _ _ q => le_int q
theorem op_gt : OpR X (compareOp .Gt) (rI0 fun i j => .bl (decide (j < i))) := opB0 fun _ _ _ _ _ _ _ q => gt_int q
theorem nomark (b : Expr) {op : CmpOp} (h : op ≠ .In := by decide) (h2 : op ≠ .NotIn := by decide) : behindInMarks op b = false := by
  have e1 : (op == CmpOp.In) = false := by cases op <;> first | rfl | exact absurd rfl h
  have e2 : (op == CmpOp.NotIn) = false := by cases op <;> first | rfl | exact absurd rfl h2
  cases b <;> simp [behindInMarks, e1, e2]
/-- a comparison as a value; hm: nomark b, or (for in, not in) by with_unfolding_all rfl -/
theorem pe_cmpR {op : CmpOp} {r : R2} (ho : OpR X (compareOp op) r) (ha : PE X a ta) (hb : PE X b tb) (hm : behindInMarks op b = false) : PE X (.Compare a [op] [b] pos) (tOp r ta tb) := by
  intro pins s σ H Q I h
  exact wpAny_Compare1 (binT ha hb I h fun v u s2 x y H2 I2 rx ry q => ho pins s2 σ H2 x y v u Q I2 rx ry q) hm
/-- a reading of a value as a test -/
def tTest (t : TE) : TT := fun σ H Q => t σ H fun x H' => ∃ k, x = .bl k ∧ Q k H'
theorem pt_cmpR {op : CmpOp} {r : R2} (ho : OpR X (compareOp op) r) (ha : PE X a ta) (hb : PE X b tb) (hm : behindInMarks op b = false) : PT X (.Compare a [op] [b] pos) (tTest (tOp r ta tb)) := by
  intro pins s σ H Q I h
  refine wpAny_isTrue_Compare1 (thn (ha pins s σ H _ I h) fun v s1 ⟨x, H1, I1, r1, q1⟩ => thn (hb pins s1 σ H1 _ I1 q1) fun u s2 ⟨y, H2, I2, r2, q2⟩ =>
    thn (ho pins s2 σ H2 x y v u _ I2 r1 r2 q2) fun c s3 ⟨z, H3, I3, r3, k, e, q3⟩ => ?_) hm
  subst e
  cases r3
  exact wpAny_truthy_bool ⟨H3, I3, q3⟩
/-- a op1 b op2 c -/
def tChain (r r' : R2) (ta tb tc : TE) : TE := fun σ H Q => ta σ H fun x H1 => tb σ H1 fun y H2 => r x y H2 fun z H3 => ∃ k, z = .bl k ∧
  (if k = true then tc σ H3 fun w' H4 => r' y w' H4 Q else Q (.bl false) H3)
theorem pt_chain {op op' : CmpOp} {r r' : R2} (ho : OpR X (compareOp op) r) (ho' : OpR X (compareOp op') r') (ha : PE X a ta) (hb : PE X b tb) (hc : PE X c tc)
    (hm : lastMarks [op, op'] [b, c] = false := by with_unfolding_all rfl) : PT X (.Compare a [op, op'] [b, c] pos) (tTest (tChain r r' ta tb tc)) := by
  intro pins s σ H Q I h
  refine isTrue_chain (thn (ha pins s σ H _ I h) fun v s1 ⟨x, H1, I1, r1, q1⟩ => test_link (thn (hb pins s1 σ H1 _ I1 q1) fun u s2 ⟨y, H2, I2, r2, q2⟩ =>
    thn (ho pins s2 σ H2 x y v u _ I2 r1 r2 q2) fun d s3 ⟨z, H3, I3, r3, k, e, q3⟩ => ?_)) hm
  subst e
  cases r3
  refine wpAny_truthy_bool ?_
  cases k with
  | false =>
    obtain ⟨k', e', q'⟩ := q3
    cases e'
    exact ite_ff ⟨H3, I3, q'⟩
  | true =>
    refine ite_tt (test_last (thn (hc pins s3 σ H3 _ I3 q3) fun w' s4 ⟨z', H4, I4, r4, q4⟩ => thn (ho' pins s4 σ H4 y z' u w' _ I4 r2 r4 q4) fun d' s5 ⟨z2, H5, I5, r5, k2, e2, q5⟩ => ?_))
    subst e2
    cases r5
    exact wpAny_truthy_bool ⟨H5, I5, q5⟩

/-! ### truth -/
theorem line63 : (sizeLine : Nat) < 2 ^ 63 := by rw [sizeLine_eq]; decide
/-! ### strs and bytes -/
/-! ### scalar builtins, by CallR -/
theorem vals1 {x : V} {us : List Value} (r : Vals [x] us) : ∃ u, us = [u] ∧ RelV x u := by
  cases r with
  | cons r1 r2 => cases r2; exact ⟨_, rfl, r1⟩
theorem call_str_int : CallR X (.type "str") (fun xs H Q => ∃ i, xs = [.int i] ∧ i.natAbs.log2 < 1920 ∧ Q (.str (toString i)) H) := by
  intro pins s σ H xs us Q I r h
  obtain ⟨i, rfl, hz, q⟩ := h
  obtain ⟨u, rfl, t, rfl⟩ := vals1 r
  exact PySem.P.str_of_int hz ⟨.str _, H, I.tok _, ⟨_, rfl⟩, q⟩
theorem call_ord : CallR X (.builtin "ord") (fun xs H Q => ∃ x, xs = [.str x] ∧ x.length = 1 ∧ Q (.int (x.cps.getD 0 0 : Nat)) H) := by
  intro pins s σ H xs us Q I r h
  obtain ⟨x, rfl, hz, q⟩ := h
  obtain ⟨u, rfl, t, rfl⟩ := vals1 r
  exact ord_of_one hz ⟨.int _, H, I.tok _, ⟨_, rfl⟩, q⟩
end
end L2

namespace L2
open PySem PySem.Spec PyProof.Rows

/-! ### an instance, its attributes a map -/
structure ObjM (h : Heap) (x dx C : Addr) (mA : Str → Option Value) : Prop where
  obj : h.get? x = some (PySem.W.instObj C dx)
  ns : h.Ns1 dx mA
  ne : dx ≠ x

theorem lookIn_ns {h : Heap} {dx : Addr} {mA : Str → Option Value} (n : h.Ns1 dx mA) : ∃ od, h.get? dx = some od ∧ ∀ name, PySem.W.lookIn name od = some (mA name) := by
  obtain ⟨o, es, ep, ho, hd, hk, _, hm⟩ := n
  refine ⟨o, ho, fun name => ?_⟩
  have e := hm name
  unfold nsFind findBy at e
  rw [← Array.find?_toList] at e
  unfold PySem.W.lookIn
  rw [hd]
  dsimp only
  split
  · rename_i y q
    rw [q] at e
    exact congrArg some e
  · rename_i q
    rw [q] at e
    have a : es.toList.any (·.refKey) = false := by
      rw [List.any_eq_false]
      intro y hy
      obtain ⟨z, t, hkey⟩ := hk y (Array.mem_toList_iff.mp hy)
      simp [DictEntry.refKey, hkey]
    have a' : ¬ es.toList.any (·.refKey) = true := by rw [a]; exact Bool.false_ne_true
    rw [if_neg a']
    exact congrArg some e

theorem ObjM.look {h : Heap} {x dx C : Addr} {mA : Str → Option Value} (I : ObjM h x dx C mA) : ∃ od, PySem.W.InstAt h x (PySem.W.instObj C dx) C (some od) ∧ ∀ name, PySem.W.lookIn name od = some (mA name) :=
  let ⟨od, ho, hl⟩ := lookIn_ns I.ns
  ⟨od, ⟨I.obj, rfl, rfl, ho⟩, hl⟩

section
variable {prog : Program} {w : World} {A : Around} {E : Value → Shared → Prop} {s : Shared} {K : PySem.W.Frag} {x dx C f : Addr} {mA : Str → Option Value} {name : Str} {v : Value}

theorem get_map {expr : Bool} {Q : Value → Shared → Prop} (X : K.In s.heap) (I : ObjM s.heap x dx C mA) (hg : PySem.W.plainGet K C name = true) (hh : PySem.W.hasDictIn K C = true)
    (ha : PySem.W.findIn K (.ref C) name = some none) (hv : mA name = some v) (hv' : PySem.W.handedIn v = true) (h : Q v { s with toks := s.toks + 1 }) :
    wpAny (model prog w) A (getAttr (.ref x) name expr) Q E s := by
  obtain ⟨od, J, hl⟩ := I.look
  exact PySem.W.get_value X J (PySem.W.plainGet_of hg).1 (PySem.W.findObj_own hh ha rfl (by rw [hl, hv])) hv' h

theorem get_meth {pl : Sem Bool} {Q : Value × List Value → Shared → Prop} (X : K.In s.heap) (I : ObjM s.heap x dx C mA) (hg : PySem.W.plainGet K C name = true)
    (hf : PySem.W.findIn K (.ref C) name = some (some (.ref f))) (ht : PySem.W.isFn K (.ref f) = true) (hv : mA name = none) (h : Q (.ref f, [.ref x]) s) :
    wpAny (model prog w) A (getMethod (.ref x) name pl) Q E s := by
  obtain ⟨od, J, hl⟩ := I.look
  exact PySem.W.method_fn X J (PySem.W.plainGet_of hg).1 (PySem.W.plainGet_of hg).2 hf (beq_iff_eq.mp ht) (by show (PySem.W.lookIn name od).map (·.isSome) = some false; rw [hl, hv]; rfl) h

theorem set_map {ns : List Str} {Q : Unit → Shared → Prop} (X : K.In s.heap) (I : ObjM s.heap x dx C mA)
    (hs : PySem.W.findIn K (.ref C) "__setattr__" = some (some (.builtin "object.__setattr__"))) (hp : PySem.W.plainOver K C = true) (ht : PySem.W.takerIn K C name = some none) (hh : PySem.W.hasDictIn K C = true)
    (hw : PySem.Within mA ns) (hsz : ns.length ≤ sizeLine)
    (h : ∀ h', ObjM h' x dx C (fun y => if y = name then some v else mA y) → Heap.SameBut dx s.heap h' → Q () { s with heap := h', toks := s.toks + 2 }) :
    wpAny (model prog w) A (setAttr (.ref x) name v) Q E s := by
  obtain ⟨od, J, hl⟩ := I.look
  refine PySem.W.set_plain X J hs (PySem.W.osa_open (s := { s with toks := s.toks + 1 }) (r := none) X J hp ht fun b => ?_)
  obtain ⟨cd, hc, hd'⟩ := PySem.W.any_some hh
  have hx : s.heap.get? x = some ⟨.ref C, some dx, .plain, #[]⟩ := I.obj
  refine wpAny_bind (wpAny_pure (wpAny_bind (wpAny_bind (wpAny_loadPart hx (wpAny_bind (PySem.W.Looks.here (s := { s with toks := s.toks + 1 }) (PySem.W.looks_clsIn X hc) ?_))))))
  rw [hd']
  refine wpAny_pure (a := some dx) (wpAny_bind (wpAny_pure (wpAny_bind ?_)))
  refine wpAny_nsSet1 (s := { s with toks := s.toks + 1 }) I.ns fun h' hn2 hs2 => ?_
  obtain ⟨oD, esD, epD, hoD, hdD, hcD⟩ := hn2.count (PySem.Within.cons name v hw)
  refine wpAny_bind (wpAny_lookBehind hoD (by rw [hdD]; exact pastItsLine_dict (Nat.le_trans hcD (by rw [List.length_cons]; omega))) ?_)
  exact wpAny_pure (h _ ⟨(hs2.2 _ (Ne.symm I.ne)).trans I.obj, hn2, I.ne⟩ hs2)

/-- C(..): the dict at the heap's end, the instance behind it; then its __init__ -/
theorem make_map {R : Result → Shared → Prop} {vs : List Value} {kw : List (Str × Value)} (X : K.In s.heap) (hm : PySem.W.makesIn K C = true)
    (hi : PySem.W.findIn K (.ref C) "__init__" = some (some (.ref f))) (hf : PySem.W.typeIn K (.ref f) = some (.type "function"))
    (h : codeAny (model prog w) (A.under (.builtin "type.__call__" ⟨.ref C :: vs, kw⟩)) (.call (.ref f) ⟨.ref (s.heap.objs.size + 1) :: vs, kw⟩) (PySem.W.InitBack (s.heap.objs.size + 1) R)
      { s with heap := (s.heap.push PySem.W.emptyDict).push (PySem.W.instObj C s.heap.objs.size) }) :
    codeAny (model prog w) A (.call (.ref C) ⟨vs, kw⟩) R s := by
  obtain ⟨hh, g, d, t, os⟩ := s
  exact PySem.W.make_core (PySem.W.makes_of X hm) (PySem.W.looks_findIn X hi) (fun self => PySem.W.bind_fn X self hf) (.inl rfl) h
end

/-! ### the attributes as a list of pairs -/
def putF (f : Str) (v : V) : List (Str × V) → List (Str × V)
  | [] => [(f, v)]
  | (g, x) :: r => if g = f then (g, v) :: r else (g, x) :: putF f v r
theorem lookup_putF (f g : Str) (v : V) : ∀ fs : List (Str × V), (putF f v fs).lookup g = if g = f then some v else fs.lookup g
  | [] => by
    show List.lookup g [(f, v)] = _
    by_cases h : g = f
    · have hb : (g == f) = true := beq_iff_eq.mpr h
      simp only [List.lookup, hb, if_pos h]
    · have hb : (g == f) = false := beq_eq_false_iff_ne.mpr h
      simp only [List.lookup, hb, if_neg h]
  | (k, x) :: r => by
    have ih := lookup_putF f g v r
    rw [show putF f v ((k, x) :: r) = (if k = f then (k, v) :: r else (k, x) :: putF f v r) from rfl]
    by_cases hk : k = f
    · rw [if_pos hk]
      by_cases h : g = k
      · have hb : (g == k) = true := beq_iff_eq.mpr h
        simp only [List.lookup, hb, if_pos (h.trans hk)]
      · have hb : (g == k) = false := beq_eq_false_iff_ne.mpr h
        simp only [List.lookup, hb, if_neg (fun e : g = f => h (e.trans hk.symm))]
    · rw [if_neg hk]
      by_cases h : g = k
      · have hb : (g == k) = true := beq_iff_eq.mpr h
        simp only [List.lookup, hb, if_neg (fun e : g = f => hk (h.symm.trans e))]
      · have hb : (g == k) = false := beq_eq_false_iff_ne.mpr h
        simp only [List.lookup, hb]
        exact ih
theorem keys_putF (f : Str) (v : V) : ∀ fs : List (Str × V), f ∈ (putF f v fs).map (·.1) ∧ ∀ g, g ∈ fs.map (·.1) → g ∈ (putF f v fs).map (·.1)
  | [] => ⟨by simp [putF], fun g h => by simp at h⟩
  | (k, x) :: r => by
    obtain ⟨i1, i2⟩ := keys_putF f v r
    rw [show putF f v ((k, x) :: r) = (if k = f then (k, v) :: r else (k, x) :: putF f v r) from rfl]
    by_cases hk : k = f
    · rw [if_pos hk]
      subst hk
      exact ⟨by simp, fun g h => by simpa using h⟩
    · rw [if_neg hk]
      refine ⟨?_, fun g h => ?_⟩
      · rw [List.map_cons]
        exact List.mem_cons_of_mem _ i1
      · rw [List.map_cons] at h ⊢
        rcases List.mem_cons.mp h with e | e
        · exact List.mem_cons.mpr (.inl e)
        · exact List.mem_cons_of_mem _ (i2 g e)
theorem length_putF (f : Str) (v : V) : ∀ fs : List (Str × V), (putF f v fs).length ≤ fs.length + 1
  | [] => by simp [putF]
  | (k, x) :: r => by
    have ih := length_putF f v r
    rw [show putF f v ((k, x) :: r) = (if k = f then (k, v) :: r else (k, x) :: putF f v r) from rfl]
    by_cases hk : k = f
    · rw [if_pos hk, List.length_cons, List.length_cons]; omega
    · rw [if_neg hk, List.length_cons, List.length_cons]; omega

theorem RelO.some_of {v : V} {o : Option Value} (r : RelO (some v) o) : ∃ u, o = some u ∧ RelV v u := by
  cases o with
  | none => exact (show False from r).elim
  | some u => exact ⟨u, rfl, r⟩
theorem RelO.none_of {o : Option Value} (r : RelO none o) : o = none := by
  cases o with
  | none => rfl
  | some u => exact (show False from r).elim
theorem handed_of {v : V} {u : Value} (r : RelV v u) : PySem.W.handedIn u = true := by
  cases v with
  | non => cases (show u = Value.none from r); rfl
  | bl b => cases (show u = Value.bool b from r); rfl
  | int i => obtain ⟨t, e⟩ := (show ∃ t, u = Value.int i t from r); cases e; rfl
  | str x => obtain ⟨t, e⟩ := (show ∃ t, u = Value.str x t from r); cases e; rfl
  | byt b => obtain ⟨t, e⟩ := (show ∃ t, u = Value.bytes b t from r); cases e; rfl
  | flt b => obtain ⟨t, e⟩ := (show ∃ t, u = Value.float b t from r); cases e; rfl
  | ref a => cases (show u = Value.ref a from r); rfl
  | ty n => cases (show u = Value.type n from r); rfl

section
variable {P : Program} {w : World} {H H' : Hp} {h h' : Heap} {a C dx : Addr} {fs fs' : List (Str × V)}
theorem ins_get (hok : HOk P w H h) (e : H a = some (.ins C dx fs)) : ∃ mA, ObjM h a dx C mA ∧ (∀ f, RelO (fs.lookup f) (mA f)) ∧ PySem.Within mA (fs.map (·.1)) ∧ fs.length ≤ 1000 ∧ H dx = some (.own a) := by
  obtain ⟨d, z, ne, ob, mA, n, r, q⟩ := (show ObjOk P w H h a (.ins C dx fs) from hok a _ e)
  exact ⟨mA, ⟨ob, n, ne⟩, r, q, z, d⟩
end

/-! ### what of the text a class must have -/
structure Cls (K : PySem.W.Frag) (C : Addr) : Prop where
  pg : PySem.W.plainGet K C Str.empty = true
  hd : PySem.W.hasDictIn K C = true
  po : PySem.W.plainOver K C = true
  sa : PySem.W.findIn K (.ref C) "__setattr__" = some (some (.builtin "object.__setattr__"))
theorem Cls.get {K : PySem.W.Frag} {C : Addr} (c : Cls K C) (f : Str) : PySem.W.plainGet K C f = true := c.pg
/-- no class of it has the name -/
def NoAttr (K : PySem.W.Frag) (C : Addr) (f : Str) : Prop := PySem.W.findIn K (.ref C) f = some none
theorem NoAttr.taker {K : PySem.W.Frag} {C : Addr} {f : Str} (n : NoAttr K C f) : PySem.W.takerIn K C f = some none := by
  unfold PySem.W.takerIn
  rw [show PySem.W.findIn K (.ref C) f = some none from n]
  rfl
/-- a method: a plain def of the class or of one above it -/
structure Meth (K : PySem.W.Frag) (C : Addr) (m : Str) (f : Addr) : Prop where
  at_ : PySem.W.findIn K (.ref C) m = some (some (.ref f))
  fn : PySem.W.isFn K (.ref f) = true
  kp : PySem.W.keepIn K (.ref f) = true

section
variable {X : Cx} {pins : List (Addr × Obj)} {σ : St} {H : Hp} {s : Shared} {a C dx : Addr} {fs : List (Str × V)} {f : Str} {v : V} {A : Around} {E : Value → Shared → Prop}

theorem getattr_ok {b : Bool} {Q : Value → Shared → Prop} (I : Inv X pins σ H s) (e : H a = some (.ins C dx fs)) (c : Cls X.K C) (n : NoAttr X.K C f) (l : fs.lookup f = some v)
    (h : ∀ u s', Inv X pins σ H s' → RelV v u → Q u s') : wpAny (model X.prog X.w) A (getAttr (.ref a) f b) Q E s := by
  obtain ⟨mA, O, r, _, _, _⟩ := ins_get I.hok e
  obtain ⟨u, hu, ru⟩ := RelO.some_of (v := v) (o := mA f) (by rw [← l]; exact r f)
  exact get_map I.kIn O (c.get f) c.hd n hu (handed_of ru) (h u _ (I.tok _) ru)

theorem getmeth_ok {m : Str} {g : Addr} {pl : Sem Bool} {Q : Value × List Value → Shared → Prop} (I : Inv X pins σ H s) (e : H a = some (.ins C dx fs)) (c : Cls X.K C) (k : Meth X.K C m g) (l : fs.lookup m = none)
    (h : Q (.ref g, [.ref a]) s) : wpAny (model X.prog X.w) A (getMethod (.ref a) m pl) Q E s := by
  obtain ⟨mA, O, r, _, _, _⟩ := ins_get I.hok e
  have hn : mA m = none := RelO.none_of (by rw [← l]; exact r m)
  exact get_meth I.kIn O (c.get m) k.at_ k.fn hn h

theorem setattr_ok {y : V} {u : Value} {Q : Unit → Shared → Prop} (I : Inv X pins σ H s) (e : H a = some (.ins C dx fs)) (c : Cls X.K C) (n : NoAttr X.K C f) (hl : fs.length < 1000) (ry : RelV y u)
    (h : ∀ s', Inv X pins σ (upd H a (.ins C dx (putF f y fs))) s' → Q () s') : wpAny (model X.prog X.w) A (setAttr (.ref a) f u) Q E s := by
  obtain ⟨mA, O, r, wi, _, ho⟩ := ins_get I.hok e
  have hz : (fs.map (·.1)).length ≤ sizeLine := by rw [List.length_map, sizeLine_eq]; omega
  refine set_map I.kIn O c.sa c.po n.taker c.hd wi hz fun h' O' sb => h _ ?_
  have hd : ∃ o, h'.get? dx = some o := let ⟨o, _, _, e', _⟩ := O'.ns; ⟨o, e'⟩
  refine I.write (x := a) (e := dx) (by rw [e]; exact True.intro) (.inr ho) (fun b q hb z => (sb.2 b hb).trans z) hd ?_
  refine ⟨by rw [upd_ne O.ne]; exact ho, ?_, O.ne, O'.obj, _, O'.ns, fun g => ?_, fun g hg => ?_⟩
  · have := length_putF f y fs; omega
  · show RelO ((putF f y fs).lookup g) (if g = f then some u else mA g)
    rw [lookup_putF]
    by_cases q : g = f
    · rw [if_pos q, if_pos q]; exact ry
    · rw [if_neg q, if_neg q]; exact r g
  · by_cases q : g = f
    · rw [q]; exact (keys_putF f y fs).1
    · refine (keys_putF f y fs).2 g (wi g fun z => hg ?_)
      show (if g = f then some u else mA g) = none
      rw [if_neg q]; exact z

/-- a new instance, tracked, without attributes -/
theorem Inv.made (I : Inv X pins σ H s) : Inv X pins σ (upd (upd H s.heap.objs.size (.own (s.heap.objs.size + 1))) (s.heap.objs.size + 1) (.ins C s.heap.objs.size []))
    { s with heap := (s.heap.push PySem.W.emptyDict).push (PySem.W.instObj C s.heap.objs.size) } := by
  have e1 : (s.heap.push PySem.W.emptyDict).get? s.heap.objs.size = some PySem.W.emptyDict := Heap.get?_push_size s.heap rfl
  have e2 : ((s.heap.push PySem.W.emptyDict).push (PySem.W.instObj C s.heap.objs.size)).get? (s.heap.objs.size + 1) = some (PySem.W.instObj C s.heap.objs.size) := by
    have := Heap.get?_push_size (s.heap.push PySem.W.emptyDict) (o := PySem.W.instObj C s.heap.objs.size) rfl
    rwa [Heap.size_push] at this
  have e3 : (s.heap.push PySem.W.emptyDict).Ns s.heap.objs.size (fun _ => none) := ⟨PySem.W.emptyDict, #[], _, e1, rfl, (fun e he => absurd he (by simp)), fun _ => rfl⟩
  have I1 := I.laid (a := s.heap.objs.size) (o := .own (s.heap.objs.size + 1)) (h' := s.heap.push PySem.W.emptyDict) (t' := s.toks) (fun b u q => Heap.get?_push_of_some _ q) (Nat.le_refl _) ⟨_, e1⟩
  refine I1.laid (a := s.heap.objs.size + 1) (o := .ins C s.heap.objs.size []) (t' := s.toks) (fun b u q => Heap.get?_push_of_some _ q) (Nat.le_of_eq (Heap.size_push _ _)) ?_
  have ne : s.heap.objs.size ≠ s.heap.objs.size + 1 := Nat.ne_of_lt (Nat.lt_succ_self _)
  refine ⟨by rw [upd_ne ne, upd_same], Nat.zero_le _, ne, e2, fun _ => none, (Heap.Ns1.of_empty e3).at fun o q => Heap.get?_push_of_some _ q, fun _ => True.intro, fun y hy => absurd rfl hy⟩

/-- e.f where nothing but the object is asked: through attributeBase (super) and the last hold -/
theorem attr_of {prog : Program} {w : World} {env : Env} {e : Expr} {f : Str} {pos : Pos} {s : Shared} {Q : Value → Shared → Prop} (hb : attributeBase e f env (eval e env) = eval e env)
    (h : wpAny (model prog w) A (eval e env) (fun o s₁ => wpAny (model prog w) A (getAttr o f true) Q E s₁) E s) : wpAny (model prog w) A (eval (.Attribute e f pos) env) Q E s :=
  Attribute_any_ h (by rw [arm_eval_Attribute, hb])
end

/-! ### readings and rules -/
/-- e.f, an attribute of the instance -/
def tFld (K : PySem.W.Frag) (ta : TE) (f : Str) : TE := fun σ H Q => ta σ H fun x H1 => ∃ a C dx fs v, x = .ref a ∧ H1 a = some (.ins C dx fs) ∧ Cls K C ∧ NoAttr K C f ∧ fs.lookup f = some v ∧ Q v H1
/-- e.f = value -/
def sFld (K : PySem.W.Frag) (ta tv : TE) (f : Str) : TS := fun D σ H => tv σ H fun y H1 => ta σ H1 fun x H2 => ∃ a C dx fs, x = .ref a ∧ H2 a = some (.ins C dx fs) ∧ Cls K C ∧ NoAttr K C f ∧ fs.length < 1000 ∧
  D.nx σ (upd H2 a (.ins C dx (putF f y fs)))
/-- an augmented operator on two values -/
def InOp (X : Cx) (op : Operator) (rd : V → V → Hp → VK → Prop) : Prop :=
  ∀ (pins : List (Addr × Obj)) (s : Shared) (σ : St) (H : Hp) (x y : V) (u v : Value) (Q : VK), Inv X pins σ H s → RelV x u → RelV y v → rd x y H Q → wpAny (model X.prog X.w) X.A (inplaceOp op u v) (EP X pins σ Q) X.xe s
/-- e.f op= value -/
def sFldAug (K : PySem.W.Frag) (ta tv : TE) (rd : V → V → Hp → VK → Prop) (f : Str) : TS := fun D σ H => ta σ H fun x H1 => ∃ a C dx fs v, x = .ref a ∧ H1 a = some (.ins C dx fs) ∧ Cls K C ∧ NoAttr K C f ∧ fs.lookup f = some v ∧
  tv σ H1 fun y H2 => rd v y H2 fun z H3 => ∃ dx' fs', H3 a = some (.ins C dx' fs') ∧ fs'.length < 1000 ∧ D.nx σ (upd H3 a (.ins C dx' (putF f z fs')))

section
variable {X : Cx} {o e value : Expr} {f : Str} {pos pos' tpos : Pos} {ta tv : TE}
theorem pe_fld (he : PE X e ta) (hb : attributeBase e f X.env (eval e X.env) = eval e X.env) : PE X (.Attribute e f pos) (tFld X.K ta f) := by
  intro pins s σ H Q I h
  refine attr_of hb (thn (he pins s σ H _ I h) fun u s1 ⟨x, H1, I1, rx, a, C, dx, fs, v, ex, ea, c, n, l, q⟩ => ?_)
  subst ex
  obtain rfl : u = Value.ref a := rx
  exact getattr_ok I1 ea c n l fun u' s2 I2 ru => ⟨v, H1, I2, ru, q⟩
theorem ps_fld (ha : PE X o ta) (hv : PE X value tv) (hs : swapsWith value (some (.Attribute o f pos')) pos.line X.env = pure false) : PS X (.Assign [.Attribute o f pos'] value pos) (sFld X.K ta tv f) := by
  intro pins s σ H D I h
  refine plainObj_wpAny_Assign_Attribute (thn (hv pins s σ H _ I h) fun u s1 ⟨y, H1, I1, ry, q⟩ => thn (ha pins s1 σ H1 _ I1 q) fun ov s2 ⟨x, H2, I2, rx, a, C, dx, fs, ex, ea, c, n, l, q2⟩ => ?_) hs
  subst ex
  obtain rfl : ov = Value.ref a := rx
  exact setattr_ok I2 ea c n l ry fun s3 I3 => ⟨σ, _, I3, q2⟩
theorem ps_fldaug {op : Operator} {rd : V → V → Hp → VK → Prop} (ha : PE X o ta) (hv : PE X value tv) (hop : InOp X op rd) : PS X (.AugAssign (.Attribute o f tpos) op value pos) (sFldAug X.K ta tv rd f) := by
  intro pins s σ H D I h
  refine wpAny_AugAssign_AttributeAny (thn (ha pins s σ H _ I h) fun ov s1 ⟨x, H1, I1, rx, a, C, dx, fs, v, ex, ea, c, n, l, q⟩ => ?_)
  subst ex
  obtain rfl : ov = Value.ref a := rx
  refine getattr_ok I1 ea c n l fun u s2 I2 ru => thn (hv pins s2 σ H1 _ I2 q) fun w3 s3 ⟨y, H2, I3, ry, q3⟩ => thn (hop pins s3 σ H2 v y u w3 _ I3 ru ry q3) fun w4 s4 ⟨z, H3, I4, rz, dx', fs', ea', l', q4⟩ => ?_
  exact setattr_ok I4 ea' c n l' rz fun s5 I5 => ⟨σ, _, I5, q4⟩
def rAdd : V → V → Hp → VK → Prop := fun x y H Q => ∃ i j, x = .int i ∧ y = .int j ∧ Q (.int (i + j)) H
theorem in_add : InOp X .Add rAdd := by
  rintro pins s σ H x y u v Q I rx ry ⟨i, j, rfl, rfl, q⟩
  obtain ⟨t, rfl⟩ := (show ∃ t, u = Value.int i t from rx)
  obtain ⟨t', rfl⟩ := (show ∃ t', v = Value.int j t' from ry)
  exact PyProof.Rows.iadd_int ⟨.int (i + j), H, I.tok _, ⟨_, rfl⟩, q⟩
/-- what is between an instance and its method: the tree of a method call -/
theorem methcall_of {pl : Sem Bool} {m : Str} {apos : Pos} {args : List Expr} {pins : List (Addr × Obj)} {s : Shared} {σ : St} {H : Hp} {Q : Value → Shared → Prop} {te : TE} (he : PE X e te) (I : Inv X pins σ H s)
    (h : te σ H fun x H1 => ∃ a C dx fs g, x = .ref a ∧ H1 a = some (.ins C dx fs) ∧ Cls X.K C ∧ Meth X.K C m g ∧ fs.lookup m = none ∧
      ∀ s1, Inv X pins σ H1 s1 → wpAny (model X.prog X.w) X.A (callWith pos (.ref g) [.ref a] (backTo pos (starEach args X.env)) (backToKw pos (keywordEach [] X.env))) Q X.xe s1)
    (ht : eval (.Call (.Attribute e m apos) args [] pos) X.env = (do
      let ov ← eval e X.env
      standAt apos.atName
      let (f, first) ← holding [ov] (getMethod ov m pl)
      callWith pos f first (backTo pos (starEach args X.env)) (backToKw pos (keywordEach [] X.env)))) :
    wpAny (model X.prog X.w) X.A (eval (.Call (.Attribute e m apos) args [] pos) X.env) Q X.xe s := by
  refine PySem.W.methodCall_KW (pl := pl) (thn (he pins s σ H _ I h) fun u s1 ⟨x, H1, I1, rx, a, C, dx, fs, g, ex, ea, c, k, l, q⟩ => ?_) ht
  subst ex
  obtain rfl : u = Value.ref a := rx
  exact getmeth_ok I1 ea c k l (q s1 I1)
end

/-! ### isinstance -/
section
variable {X : Cx} {pins : List (Addr × Obj)} {σ : St} {H : Hp} {s : Shared} {A : Around} {E : Value → Shared → Prop} {Q : Value → Shared → Prop} {c : Value} {b : Bool}
end
end L2

namespace L2
open PySem PySem.Spec PyProof.Rows

/-! ### room -/
structure Room (k : Nat) (A : Around) : Prop where
  hd : A.handled = none
  dp : A.depth + 3 * k + 5 < recursionLimit
  un : A.units + 16 * k + 200 < cLine
theorem Room.mono {j k : Nat} {A : Around} (r : Room k A) (h : j ≤ k) : Room j A := ⟨r.hd, by have := r.dp; omega, by have := r.un; omega⟩
theorem Room.deeper {k : Nat} {A : Around} (r : Room (k + 1) A) (env : Env) : Room k (A.deeper env) :=
  ⟨r.hd, by have := r.dp; show A.depth + 1 + 3 * k + 5 < _; omega, by have := r.un; show A.units + 3 + 16 * k + 200 < _; omega⟩
theorem make_depth {A : Around} {C : Addr} {us : List Value} {kw : List (Str × Value)} : (A.under (.builtin "type.__call__" ⟨.ref C :: us, kw⟩)).depth = A.depth + 1 := by
  first | rfl | simp [Around.under, Code.weight, Code.isCreation, Code.isGuard, Code.isCaller, Code.frames, Code.isFrame, guardIds]
theorem make_units {A : Around} {C : Addr} {us : List Value} {kw : List (Str × Value)} : (A.under (.builtin "type.__call__" ⟨.ref C :: us, kw⟩)).units = A.units + 1 := by
  first | rfl | simp [Around.under, Code.cUnits, Code.frames, Code.isFrame]
theorem Room.make {k : Nat} {A : Around} (r : Room (k + 1) A) (C : Addr) (us : List Value) (kw : List (Str × Value)) : Room k (A.under (.builtin "type.__call__" ⟨.ref C :: us, kw⟩)) :=
  ⟨r.hd, by have := r.dp; rw [make_depth]; omega, by have := r.un; rw [make_units]; omega⟩
theorem Room.depth {k : Nat} {A : Around} (r : Room k A) : A.depth < recursionLimit := by have := r.dp; omega
theorem Room.units {k : Nat} {A : Around} (r : Room k A) : A.units + 64 < cLine := by have := r.un; omega
/-! ### argument lists and displays -/
def tNil : TA := fun _ H Q => Q [] H
def tCons (ta : TE) (tr : TA) : TA := fun σ H Q => ta σ H fun x H1 => tr σ H1 fun xs H2 => Q (x :: xs) H2
section
variable {X : Cx} {e : Expr} {es : List Expr} {te : TE} {t : TA} {pos : Pos}
theorem pa_nil : PA X [] tNil := fun _ _ _ _ H Q I h => Calls.spliced_nil ⟨[], H, I, .nil, h⟩
theorem pa_cons (ha : PE X e te) (hr : PA X es t) (hs : starEach (e :: es) X.env = (false, eval e X.env) :: starEach es X.env := by rfl) : PA X (e :: es) (tCons te t) := by
  intro pos pins s σ H Q I h
  rw [hs]
  show wpAny _ _ (spliced ((false, eval e X.env) :: backTo pos (starEach es X.env))) _ _ s
  refine Calls.spliced_cons (thn (ha pins s σ H _ I h) fun u s1 ⟨x, H1, I1, r1, q1⟩ => ?_)
  exact thn (hr pos pins s1 σ H1 _ I1 q1) fun us s2 ⟨xs, H2, I2, r2, q2⟩ => ⟨x :: xs, H2, I2, .cons r1 r2, q2⟩

/-- a tuple, a list of written items -/
def tTup (t : TA) : TE := fun σ H Q => t σ H fun xs H1 => xs.length ≤ sizeLine ∧ ∀ p, H1 p = none → Q (.ref p) (upd H1 p (.tup xs))
def tLst (t : TA) : TE := fun σ H Q => t σ H fun xs H1 => xs.length ≤ sizeLine ∧ ∀ p, H1 p = none → Q (.ref p) (upd H1 p (.lst xs))
theorem pe_tup {x1} (h : PA X es t) : PE X (.Tuple es x1 pos) (tTup t) := by
  intro pins s σ H Q I hq
  refine wpAny_Tuple_spliced (thn (h pos pins s σ H _ I hq) fun us s1 ⟨xs, H1, I1, r, z, q⟩ => ⟨by rw [← r.length]; exact z, ?_⟩)
  have hf : H1 s1.heap.objs.size = none := I1.hok.fresh (Nat.le_refl _)
  refine ⟨.ref s1.heap.objs.size, upd H1 s1.heap.objs.size (.tup xs), I1.laid (t' := s1.toks) (fun b u e => Heap.get?_push_of_some _ e) (Nat.le_refl _) ?_, rfl, q _ hf⟩
  exact ⟨z, us, r, ⟨_, Heap.get?_push_size _ rfl, rfl, _, rfl⟩⟩
theorem pe_lst (h : PA X es t) : PE X (.List es pos) (tLst t) := by
  intro pins s σ H Q I hq
  refine wpAny_List_spliced (thn (h pos pins s σ H _ I hq) fun us s1 ⟨xs, H1, I1, r, z, q⟩ => ⟨by rw [← r.length]; exact z, ?_⟩)
  have hf : H1 s1.heap.objs.size = none := I1.hok.fresh (Nat.le_refl _)
  refine ⟨.ref s1.heap.objs.size, upd H1 s1.heap.objs.size (.lst xs), I1.laid (t' := s1.toks) (fun b u e => Heap.get?_push_of_some _ e) (Nat.le_refl _) ?_, rfl, q _ hf⟩
  exact ⟨z, us, 0, r, Heap.get?_push_size _ rfl⟩
end

/-! ### what a def promises -/
/-- a def's promise: the bound arguments in the parameters' order, the heap, the wanted end, the wanted exception -/
abbrev Sp := List V → Hp → VK → XK → Prop
/-- how an exception lies behind a call (file 08 gives it): the callers' frames, abstract heap and state ahead of the call, the wish, the exception, the state -/
abbrev CXT := List Env → Hp → Shared → XK → Value → Shared → Prop

/-- the state at a call -/
structure Env0 (P : Program) (w : World) (K : PySem.W.Frag) (mg : Str → Option Value) (base : Heap) (A : Around) (outer : List Env) (s : Shared) (H : Hp) : Prop where
  frames : A.frames = some outer
  mod : Mod K mg base
  bs : ∀ b o, base.get? b = some o → s.heap.get? b = some o ∧ H b = none
  bsz : base.objs.size ≤ s.heap.objs.size
  funs : s.heap.FunFrames base outer
  frf : ∀ b ∈ frs outer, H b = none
  hok : HOk P w H s.heap
  bare : AllBare s.gens
/-- a call's end -/
def CE (outer : List Env) (P : Program) (w : World) (H : Hp) (s : Shared) (Q : VK) (u : Value) (s' : Shared) : Prop :=
  ∃ v H', s'.os = s.os ∧ AllBare s'.gens ∧ Un (frs outer) [] H H' s.heap s'.heap ∧ HOk P w H' s'.heap ∧ RelV v u ∧ Q v H'
def CR (CX : CXT) (outer : List Env) (P : Program) (w : World) (H : Hp) (s : Shared) (Q : VK) (E : XK) (r : Result) (s' : Shared) : Prop :=
  match r with
  | .ok (.ret u) => CE outer P w H s Q u s'
  | .ok _ => False
  | .error e => CX outer H s E e s'
structure FnOk (P : Program) (w : World) (K : PySem.W.Frag) (mg : Str → Option Value) (base : Heap) (CX : CXT) (k : Nat) (f : Addr) (fd : FuncData) (ps : List Str) (sp : Sp) : Prop where
  len : ∀ vs H Q E, sp vs H Q E → vs.length = ps.length
  run : ∀ (A : Around) (outer : List Env) (s : Shared) (H : Hp) (args : Args) (us : List Value) (vs : List V) (Q : VK) (E : XK), Room k A → Env0 P w K mg base A outer s H → BindsTo s fd args (ps.zip us) → Vals vs us → sp vs H Q E →
    codeAny (model P w) A (.call (.ref f) args) (CR CX outer P w H s Q E) s
theorem Env0.make {P : Program} {w : World} {K : PySem.W.Frag} {mg : Str → Option Value} {base : Heap} {A : Around} {outer : List Env} {s : Shared} {H : Hp} (e : Env0 P w K mg base A outer s H) (C : Addr) (us : List Value) (kw : List (Str × Value)) :
    Env0 P w K mg base (A.under (.builtin "type.__call__" ⟨.ref C :: us, kw⟩)) outer s H := ⟨by first | exact e.frames | (simpa [Around.under, Code.envs, Code.isFrame, pushEnvs] using e.frames), e.mod, e.bs, e.bsz, e.funs, e.frf, e.hok, e.bare⟩
section
variable {X : Cx} {pins : List (Addr × Obj)} {σ : St} {H : Hp} {s s' : Shared}
/-- from a body: what a callee wants -/
theorem Inv.env0 (I : Inv X pins σ H s) : Env0 X.prog X.w X.K X.mg X.base X.A X.stack s H :=
  ⟨I.ok.frames, I.ok.mod, I.bs, Nat.le_trans I.ok.bsz I.sz, I.stack, I.stkFree, I.hok, I.bare⟩
/-- behind a call -/
theorem Inv.after {Q : VK} {u : Value} (I : Inv X pins σ H s) (h : CE X.stack X.prog X.w H s Q u s') : EP X pins σ Q u s' := by
  obtain ⟨v, H', os, bare, un, hok, r, q⟩ := h
  obtain ⟨hh, g, d, t, os'⟩ := s'
  obtain rfl : os' = s.os := os
  exact ⟨v, H', I.call (h' := hh) (g' := g) (d' := d) (t' := t) (ch := []) un hok bare (fun b z => absurd z (by simp)), r, q⟩
end

/-! ### calls -/
/-- f(..): the written arguments, then the defaults dvs; E: what is wanted of an exception -/
def tCall (sp : Sp) (dvs : List V) (E : XK) (t : TA) : TE := fun σ H Q => t σ H fun vs H1 => sp (vs ++ dvs) H1 Q E
/-- o.m(..) of an instance of the class at C -/
def tMeth (C : Addr) (m : Str) (sp : Sp) (dvs : List V) (E : XK) (ta : TE) (t : TA) : TE := fun σ H Q => ta σ H fun x H1 => ∃ a dx fs, x = .ref a ∧ H1 a = some (.ins C dx fs) ∧ fs.lookup m = none ∧
  t σ H1 fun vs H2 => sp (x :: (vs ++ dvs)) H2 Q E
/-- C(..): a new instance and its dict, then __init__ -/
def tMake (C : Addr) (sp : Sp) (dvs : List V) (E : XK) (t : TA) : TE := fun σ H Q => t σ H fun vs H1 => ∀ x dx, H1 x = none → H1 dx = none → dx ≠ x →
  sp (.ref x :: (vs ++ dvs)) (upd (upd H1 dx (.own x)) x (.ins C dx [])) (fun v H2 => v = .non ∧ Q (.ref x) H2) E

/-- how the parameters are bound: us the positional arguments, kw the keywords' values by name, ds the defaults that fill up -/
def Binds (K : PySem.W.Frag) (fd : FuncData) (ps : List Str) (ds : List Value) : Prop :=
  ∀ (s : Shared) (us : List Value), K.In s.heap → (us ++ ds).length = ps.length → BindsTo s fd ⟨us, []⟩ (ps.zip (us ++ ds))
/-- every parameter is given -/
theorem Binds.all {K : PySem.W.Frag} {fd : FuncData} {ps : List Str} (h : ∀ us : List Value, us.length = ps.length → bindArgs fd ⟨us, []⟩ = pure (ps.zip us)) : Binds K fd ps [] := fun s us _ hl => by
  rw [List.append_nil] at hl ⊢
  exact .of_eq (h us hl)

/-- an exception of a callee reaches what this body wants of exceptions -/
def Passes (CX : CXT) (X : Cx) (E : XK) : Prop := ∀ (pins : List (Addr × Obj)) (σ : St) (H : Hp) (s : Shared) (e : Value) (s' : Shared), Inv X pins σ H s → CX X.stack H s E e s' → X.xe e s'

section
variable {X : Cx} {CX : CXT} {k : Nat} {f C : Addr} {fd : FuncData} {ps : List Str} {sp : Sp} {dvs : List V} {ds : List Value} {E : XK} {x m : Str} {p pos apos : Pos} {e o : Expr} {es : List Expr} {ta : TE} {t : TA}

/-- the callee runs -/
theorem run_fn {pins : List (Addr × Obj)} {σ : St} {H : Hp} {s : Shared} {Q : VK} {us : List Value} {vs : List V} (F : FnOk X.prog X.w X.K X.mg X.base CX k f fd ps sp) (hr : Room k X.A) (hb : Binds X.K fd ps ds) (hd : Vals dvs ds) (hx : Passes CX X E)
    (I : Inv X pins σ H s) (r : Vals vs us) (h : sp (vs ++ dvs) H Q E) : wpAny (model X.prog X.w) X.A (call (.ref f) us) (EP X pins σ Q) X.xe s := by
  have r2 : Vals (vs ++ dvs) (us ++ ds) := r.append hd
  have hl : (us ++ ds).length = ps.length := by rw [← r2.length]; exact F.len _ _ _ _ h
  refine wpAny_call (codeAny_mono (F.run X.A X.stack s H ⟨us, []⟩ (us ++ ds) (vs ++ dvs) Q E hr I.env0 (hb s us I.kIn hl) r2 h) fun r s' hq => ?_)
  cases r with
  | error e => exact hx pins σ H s e s' I hq
  | ok fl =>
    cases fl with
    | ret u => exact I.after hq
    | next => exact False.elim hq
    | brk => exact False.elim hq
    | cont => exact False.elim hq

theorem pe_call (F : FnOk X.prog X.w X.K X.mg X.base CX k f fd ps sp) (hr : Room k X.A) (hg : Gl X x) (hm : X.mg x = some (.ref f)) (hk : PySem.W.keepIn X.K (.ref f) = true) (hb : Binds X.K fd ps ds) (hd : Vals dvs ds) (hx : Passes CX X E)
    (ha : PA X (e :: es) t) (hdb : (x == ("__debug__" : Str)) = false := by decide) (he : starEach (e :: es) X.env = (false, eval e X.env) :: starEach es X.env := by rfl) (hpl : (backTo pos (starEach es X.env)).any (·.1) = false := by rfl) :
    PE X (.Call (.Name x p) (e :: es) [] pos) (tCall sp dvs E t) := by
  intro pins s σ H Q I h
  refine wpAny_Call_Name_kw (ld_glob I hg hm ?_ hdb)
  refine PySem.W.callWith_K (h₀ := X.base) I.ok.mod.kin hk (thn (ha pos pins s σ H _ I h) fun us s1 ⟨vs, H1, I1, r, q⟩ => ⟨I1.kIn, ?_⟩) he hpl
  exact run_fn F hr hb hd hx I1 r q
/-- o.m(e, ..) -/
theorem pe_meth {pl : Sem Bool} (he : PE X o ta) (c : Cls X.K C) (hm : Meth X.K C m f) (F : FnOk X.prog X.w X.K X.mg X.base CX k f fd ps sp) (hr : Room k X.A) (hb : Binds X.K fd ps ds) (hd : Vals dvs ds) (hx : Passes CX X E) (ha : PA X (e :: es) t)
    (hst : starEach (e :: es) X.env = (false, eval e X.env) :: starEach es X.env := by rfl) (hpl : (backTo pos (starEach es X.env)).any (·.1) = false := by rfl)
    (ht : eval (.Call (.Attribute o m apos) (e :: es) [] pos) X.env = (do
      let ov ← eval o X.env
      standAt apos.atName
      let (f, first) ← holding [ov] (getMethod ov m pl)
      callWith pos f first (backTo pos (starEach (e :: es) X.env)) (backToKw pos (keywordEach [] X.env))) := by rfl) :
    PE X (.Call (.Attribute o m apos) (e :: es) [] pos) (tMeth C m sp dvs E ta t) := by
  intro pins s σ H Q I h
  refine PySem.W.methodCall_KW (pl := pl) (thn (he pins s σ H _ I h) fun u s1 ⟨x, H1, I1, rx, a, dx, fs, ex, ea, l, q⟩ => ?_) ht
  subst ex
  obtain rfl : u = Value.ref a := rx
  refine getmeth_ok I1 ea c hm l ?_
  refine PySem.W.callWith_K (first := [.ref a]) (h₀ := X.base) I.ok.mod.kin hm.kp (thn (ha pos pins s1 σ H1 _ I1 q) fun us s2 ⟨vs, H2, I2, r, q2⟩ => ⟨I2.kIn, ?_⟩) hst hpl
  exact run_fn (us := .ref a :: us) (vs := .ref a :: vs) F hr hb hd hx I2 (.cons rfl r) q2
/-- o.m() -/
theorem pe_meth0 {pl : Sem Bool} (he : PE X o ta) (c : Cls X.K C) (hm : Meth X.K C m f) (F : FnOk X.prog X.w X.K X.mg X.base CX k f fd ps sp) (hr : Room k X.A) (hb : Binds X.K fd ps ds) (hd : Vals dvs ds) (hx : Passes CX X E)
    (ht : eval (.Call (.Attribute o m apos) [] [] pos) X.env = (do
      let ov ← eval o X.env
      standAt apos.atName
      let (f, first) ← holding [ov] (getMethod ov m pl)
      callWith pos f first (backTo pos (starEach [] X.env)) (backToKw pos (keywordEach [] X.env))) := by rfl) :
    PE X (.Call (.Attribute o m apos) [] [] pos) (tMeth C m sp dvs E ta tNil) := by
  intro pins s σ H Q I h
  refine PySem.W.methodCall_KW (pl := pl) (thn (he pins s σ H _ I h) fun u s1 ⟨x, H1, I1, rx, a, dx, fs, ex, ea, l, q⟩ => ?_) ht
  subst ex
  obtain rfl : u = Value.ref a := rx
  refine getmeth_ok I1 ea c hm l ?_
  exact PySem.W.callWith_K0 (first := [.ref a]) I1.kIn hm.kp (run_fn (us := [.ref a]) (vs := [.ref a]) F hr hb hd hx I1 (.cons rfl .nil) q)

/-- what a class must have to be made -/
structure Mk (K : PySem.W.Frag) (C f : Addr) : Prop where
  makes : PySem.W.makesIn K C = true
  init : PySem.W.findIn K (.ref C) "__init__" = some (some (.ref f))
  fn : PySem.W.isFn K (.ref f) = true
  kp : PySem.W.keepIn K (.ref C) = true

theorem run_make {pins : List (Addr × Obj)} {σ : St} {H : Hp} {s : Shared} {Q : VK} {us : List Value} {vs : List V} (M : Mk X.K C f) (F : FnOk X.prog X.w X.K X.mg X.base CX k f fd ps sp) (hr : Room (k + 1) X.A) (hb : Binds X.K fd ps ds) (hd : Vals dvs ds)
    (hx : Passes CX X E) (I : Inv X pins σ H s) (r : Vals vs us)
    (h : ∀ x dx, H x = none → H dx = none → dx ≠ x → sp (.ref x :: (vs ++ dvs)) (upd (upd H dx (.own x)) x (.ins C dx [])) (fun v H2 => v = .non ∧ Q (.ref x) H2) E) :
    wpAny (model X.prog X.w) X.A (call (.ref C) us) (EP X pins σ Q) X.xe s := by
  have hq := h (s.heap.objs.size + 1) s.heap.objs.size (I.hok.fresh (Nat.le_succ _)) (I.hok.fresh (Nat.le_refl _)) (Nat.ne_of_lt (Nat.lt_succ_self _))
  have I2 := Inv.made (C := C) I
  have r2 : Vals (V.ref (s.heap.objs.size + 1) :: (vs ++ dvs)) (Value.ref (s.heap.objs.size + 1) :: (us ++ ds)) := .cons rfl (r.append hd)
  have hl : (Value.ref (s.heap.objs.size + 1) :: us ++ ds).length = ps.length := by
    have e := r2.length
    rw [F.len _ _ _ _ hq] at e
    exact e.symm
  refine wpAny_call (make_map (f := f) I.kIn M.makes M.init (beq_iff_eq.mp M.fn) (codeAny_mono (F.run _ X.stack _ _ ⟨Value.ref (s.heap.objs.size + 1) :: us, []⟩ (Value.ref (s.heap.objs.size + 1) :: (us ++ ds)) _ _ E (hr.make C us [])
    (I2.env0.make C us []) (hb _ (Value.ref (s.heap.objs.size + 1) :: us) I2.kIn hl) r2 hq) fun r s' hq' => ?_))
  cases r with
  | error e => exact hx pins σ _ _ e s' I2 hq'
  | ok fl =>
    cases fl with
    | ret u =>
      obtain ⟨v, H', I3, rv, ev, q3⟩ := I2.after hq'
      subst ev
      exact ⟨rv, ⟨V.ref (s.heap.objs.size + 1), H', I3, rfl, q3⟩⟩
    | next => exact False.elim hq'
    | brk => exact False.elim hq'
    | cont => exact False.elim hq'
theorem pe_make (M : Mk X.K C f) (F : FnOk X.prog X.w X.K X.mg X.base CX k f fd ps sp) (hr : Room (k + 1) X.A) (hg : Gl X x) (hm : X.mg x = some (.ref C)) (hb : Binds X.K fd ps ds) (hd : Vals dvs ds) (hx : Passes CX X E)
    (ha : PA X (e :: es) t) (hdb : (x == ("__debug__" : Str)) = false := by decide) (he : starEach (e :: es) X.env = (false, eval e X.env) :: starEach es X.env := by rfl) (hpl : (backTo pos (starEach es X.env)).any (·.1) = false := by rfl) :
    PE X (.Call (.Name x p) (e :: es) [] pos) (tMake C sp dvs E t) := by
  intro pins s σ H Q I h
  refine wpAny_Call_Name_kw (ld_glob I hg hm ?_ hdb)
  refine PySem.W.callWith_K (h₀ := X.base) I.ok.mod.kin M.kp (thn (ha pos pins s σ H _ I h) fun us s1 ⟨vs, H1, I1, r, q⟩ => ⟨I1.kIn, ?_⟩) he hpl
  exact run_make M F hr hb hd hx I1 r q
end

/-! ### keywords -/
section
variable {X : Cx} {CX : CXT} {k : Nat} {f C : Addr} {fd : FuncData} {ps ks : List Str} {sp : Sp} {E : XK} {x m : Str} {p pos apos kpos : Pos} {e o : Expr} {es : List Expr} {kws : List Keyword} {te ta : TE} {t tk : TA} {nm : Option Str}
variable {g : List Value → List Value → List Value} {gV : List V → List V → List V}
end

/-! ### a def's body keeps its promise -/
/-- names: the parameters first -/
structure FnScope (N P : List Str) (sc : Scope) : Prop where
  kind : sc.kind = .function
  co : sc.isCoroutine = false
  gen : sc.isGenerator = false
  nd : N.Nodup
  pre : N.take P.length = P
  par : ∀ x ∈ P, sc.names.lookup x = some .local ∨ sc.names.lookup x = some .cell
  nofree : ∀ y ∈ sc.names, y.2 ≠ .free

theorem bindL_out {kindOf : Str → Option NameKind} {x : Str} : ∀ {binds : List (Str × Value)} {m : Str → Option Value}, (∀ v, (x, v) ∉ binds) → bindL kindOf binds m x = m x
  | [], _, _ => rfl
  | (n, v) :: r, m, h => by
    unfold bindL
    rw [bindL_out fun w hw => h w (List.mem_cons_of_mem _ hw)]
    split
    · have : x ≠ n := by rintro rfl; exact h v List.mem_cons_self
      simp [this]
    · rfl
theorem bindC_out {kindOf : Str → Option NameKind} {x : Str} : ∀ {binds : List (Str × Value)} {m : Str → Option Value}, (∀ v, (x, v) ∉ binds) → bindC kindOf binds m x = m x
  | [], _, _ => rfl
  | (n, v) :: r, m, h => by
    unfold bindC
    rw [bindC_out fun w hw => h w (List.mem_cons_of_mem _ hw)]
    split
    · rfl
    · have : x ≠ n := by rintro rfl; exact h v List.mem_cons_self
      simp [this]
theorem bindL_get {kindOf : Str → Option NameKind} {x : Str} {v : Value} : ∀ {P : List Str} {vs : List Value} {i : Nat} {m : Str → Option Value}, P.Nodup → P[i]? = some x → vs[i]? = some v → kindOf x = some .local →
    bindL kindOf (P.zip vs) m x = some v
  | [], _, _, _, _, h, _, _ => by simp at h
  | _ :: _, [], _, _, _, _, h, _ => by simp at h
  | p :: P, w :: vs, 0, m, nd, h1, h2, hk => by
    simp at h1 h2; subst h1; subst h2
    show bindL kindOf ((p, w) :: P.zip vs) m p = _
    unfold bindL
    rw [bindL_out fun v hv => (List.nodup_cons.mp nd).1 (List.of_mem_zip hv).1, if_pos hk]
    simp
  | p :: P, w :: vs, i + 1, m, nd, h1, h2, hk => by
    show bindL kindOf ((p, w) :: P.zip vs) m x = _
    unfold bindL
    exact bindL_get (i := i) (List.nodup_cons.mp nd).2 (by simpa using h1) (by simpa using h2) hk
theorem bindC_get {kindOf : Str → Option NameKind} {x : Str} {v : Value} : ∀ {P : List Str} {vs : List Value} {i : Nat} {m : Str → Option Value}, P.Nodup → P[i]? = some x → vs[i]? = some v → kindOf x ≠ some .local →
    bindC kindOf (P.zip vs) m x = some v
  | [], _, _, _, _, h, _, _ => by simp at h
  | _ :: _, [], _, _, _, _, h, _ => by simp at h
  | p :: P, w :: vs, 0, m, nd, h1, h2, hk => by
    simp at h1 h2; subst h1; subst h2
    show bindC kindOf ((p, w) :: P.zip vs) m p = _
    unfold bindC
    rw [bindC_out fun v hv => (List.nodup_cons.mp nd).1 (List.of_mem_zip hv).1, if_neg hk]
    simp
  | p :: P, w :: vs, i + 1, m, nd, h1, h2, hk => by
    show bindC kindOf ((p, w) :: P.zip vs) m x = _
    unfold bindC
    exact bindC_get (i := i) (List.nodup_cons.mp nd).2 (by simpa using h1) (by simpa using h2) hk

/-- the names' values at the entry -/
def start (N : List Str) (vs : List V) : St := vs.map some ++ List.replicate (N.length - vs.length) none

/-- the context of a def's body, at its entry; an exception leaves the frame, then lies as CX says -/
def cxOf (CX : CXT) (P : Program) (w : World) (K : PySem.W.Frag) (mg : Str → Option Value) (base : Heap) (N : List Str) (qual : Str) (scope : Scope) (f : Addr) (cd : Value) (A : Around) (outer : List Env) (s : Shared) (H : Hp) (E : XK) : Cx where
  prog := P
  w := w
  K := K
  mg := mg
  base := base
  A := A.deeper (envOfC qual scope s.heap.objs.size f cd)
  N := N
  s_0 := s
  H_0 := H
  env := envOfC qual scope s.heap.objs.size f cd
  outer := outer
  stack := envOfC qual scope s.heap.objs.size f cd :: outer
  ex := []
  calm := true
  fn := fun _ => true
  pn := []
  xe := fun e s' => wpAny (model P w) (A.deeper (envOfC qual scope s.heap.objs.size f cd)) (leaving (envOfC qual scope s.heap.objs.size f cd) e) (fun _ s'' => CX outer H s E e s'') (fun e' s'' => CX outer H s E e' s'') s'

theorem cell_has {sc : Scope} {n : Nat} {x : Str} (h : sc.names.lookup x = some .cell) : ∃ c, (cellsFrom n sc.names []).lookup x = some c := by
  have q := PySem.W.cellsFrom_some sc.names n [] (.inl h)
  exact Option.isSome_iff_exists.mp q

theorem inv_start {CX : CXT} {P : Program} {w : World} {K : PySem.W.Frag} {mg : Str → Option Value} {base : Heap} {N ps : List Str} {qual : Str} {scope : Scope} {f : Addr} {cd : Value} {A : Around} {outer : List Env} {s s1 : Shared} {H : Hp} {E : XK} {us : List Value} {vs : List V}
    (S : FnScope N ps scope) (hd : A.handled = none) (e0 : Env0 P w K mg base A outer s H) (hl : vs.length = ps.length) (r : Vals vs us)
    (x : InCallC s s.heap.objs.size (bindL (envOfC qual scope s.heap.objs.size f cd).kindOf (ps.zip us) fun _ => none) (cellsFrom (s.heap.objs.size + 1) scope.names []) (bindC (envOfC qual scope s.heap.objs.size f cd).kindOf (ps.zip us) fun _ => none) s1) :
    Inv (cxOf CX P w K mg base N qual scope f cd A outer s H E) [] (start N vs) H s1 := by
  have hpl : ps.length ≤ N.length := by have := congrArg List.length S.pre; rw [List.length_take] at this; omega
  obtain ⟨h1, tk, rfl, hk⟩ := x.done
  have noA : ∀ b : Addr, b ∉ (cxOf CX P w K mg base N qual scope f cd A outer s H E).ex := fun b z => absurd (show b ∈ ([] : List Addr) from z) (by simp)
  refine ⟨⟨e0.mod, S.kind, rfl, rfl, Nat.le_refl _, fun y z c h1 h2 => ?_, fun y hy => ?_, fun y c _ h => ?_, fun _ => hd, Around.frames_deeper e0.frames, .inr ⟨rfl, rfl⟩, fun b z => absurd z (noA b), e0.bs, e0.bsz, fun b _ _ => noA b, fun b z => absurd z (noA b), e0.funs, e0.frf⟩,
    rfl, e0.bare, Un.kept hk, ⟨_, x.toInCall.ns, fun i y v h1 h2 h3 => ?_⟩, fun y c h => ⟨_, x.cell y c h⟩, e0.hok.fresh (Nat.le_refl _), fun y c h => ?_, fun p hp => absurd (show p ∈ ([] : List (Addr × Obj)) from hp) (by simp), e0.hok.kept hk, ?_⟩
  · exact name_of_addr x.apart (PySem.mem_of_lookup h1) (PySem.mem_of_lookup h2)
  · have hy : scope.names.lookup y = some .cell ∨ scope.names.lookup y = some .free := hy
    rcases hy with hy | hy
    · exact cell_has hy
    · exact absurd rfl (S.nofree _ (PySem.mem_of_lookup hy))
  · exact Nat.le_of_lt (x.above y c (PySem.mem_of_lookup h))
  · have hi : i < vs.length := by
      unfold start at h2
      by_cases hi : i < vs.length
      · exact hi
      · rw [List.getElem?_append_right (by simpa using hi)] at h2
        rw [List.getElem?_replicate] at h2
        split at h2 <;> cases h2
    have ha : vs[i]? = some v := by
      unfold start at h2
      rw [List.getElem?_append_left (by simpa using hi), List.getElem?_map] at h2
      cases e : vs[i]? with
      | none => rw [e] at h2; cases h2
      | some a => rw [e] at h2; cases h2; rfl
    obtain ⟨u, hu, rv⟩ := r.get ha
    have hp : ps[i]? = some y := by
      rw [← S.pre, List.getElem?_take_of_lt (by omega)]; exact h1
    have ndP : ps.Nodup := by rw [← S.pre]; exact S.nd.sublist (List.take_sublist _ _)
    refine ⟨u, rv, ?_⟩
    rcases S.par y (List.mem_of_getElem? hp) with k | k
    · exact .inl ⟨k, bindL_get ndP hp hu k⟩
    · obtain ⟨c, e⟩ := cell_has (n := s.heap.objs.size + 1) k
      refine .inr ⟨.inl k, c, e, ?_⟩
      have q := x.cell y c e
      rw [bindC_get ndP hp hu (by show scope.names.lookup y ≠ _; rw [k]; decide)] at q
      exact q
  · exact e0.hok.fresh (Nat.le_of_lt (x.above y c (PySem.mem_of_lookup h)))
  · unfold start
    show _ = N.length
    rw [List.length_append, List.length_map, List.length_replicate]
    omega

/-- THE RULE: a def (or a method) of the text, by its body. The body's reading t is chosen for each entry; it is run at the parameters' values -/
theorem fn_of {CX : CXT} {P : Program} {w : World} {K : PySem.W.Frag} {mg : Str → Option Value} {base : Heap} {k : Nat} {f : Addr} {name qual : Str} {params : Arguments} {body : List Stmt} {scope : Scope} {dV kV doc pm cdv ct oc : Value} {an od : Option Addr}
    {osl : Array (Option Value)} {N ps : List Str} {sp : Sp} (lk : K.lookup f = some ⟨oc, od, .func (PySem.W.fnOf name qual params body scope dV kV doc pm an cdv ct), osl⟩) (hcd : PySem.W.codeIn K cdv qual = true) (S : FnScope N ps scope)
    (len : ∀ vs H Q E, sp vs H Q E → vs.length = ps.length)
    (hbody : ∀ (A : Around) (outer : List Env) (s : Shared) (H : Hp) (vs : List V) (Q : VK) (E : XK), Room k (A.deeper (envOfC qual scope s.heap.objs.size f cdv)) → sp vs H Q E →
      ∃ t, PSs (cxOf CX P w K mg base N qual scope f cdv A outer s H E) body t ∧ t { nx := fun _ H' => Q .non H', rt := Q } (start N vs) H) :
    FnOk P w K mg base CX (k + 1) f (PySem.W.fnOf name qual params body scope dV kV doc pm an cdv ct) ps sp := by
  refine ⟨len, fun A outer s H args us vs Q E hr e0 hb r hsp => ?_⟩
  have hl := len _ _ _ _ hsp
  have KX : K.In s.heap := e0.mod.kin.keeps fun b o e => (e0.bs b o e).1
  have lim : s.heap.NoLimit := e0.mod.nolimit.keeps fun b o e => (e0.bs b o e).1
  have hkind : ∀ y ∈ ps.zip us, scope.names.lookup y.1 = some .local ∨ (scope.names.lookup y.1 = some .cell ∧ ((cellsFrom (s.heap.objs.size + 1) scope.names []).lookup y.1).isSome = true) := fun ⟨n, v⟩ hy => by
    rcases S.par n (List.of_mem_zip hy).1 with q | q
    · exact .inl q
    · exact .inr ⟨q, PySem.W.cellsFrom_some _ _ _ (.inl q)⟩
  refine codeAny_call_function hr.depth (KX _ _ lk) rfl S.co S.gen rfl (PySem.W.codeRec_of KX hcd) (hb _ _ _ _ ?_)
  refine wpAny_newFunctionEnv_cells S.kind hkind fun env he s1 x => ?_
  subst he
  refine ⟨lim.keeps x.toInCall.keep, codeAny_func ?_⟩
  obtain ⟨t, ht, hq⟩ := hbody A outer s H vs Q E (hr.deeper _) hsp
  have I : Inv (cxOf CX P w K mg base N qual scope f cdv A outer s H E) [] (start N vs) H s1 := inv_start S hr.hd e0 hl r x
  refine wpAny_mono (ht [] s1 (start N vs) H _ I hq) (fun fl s' hs => ?_) fun e s' hs => hs
  have fin : ∀ {σ' : St} {H' : Hp} {v : V} {u : Value}, Inv (cxOf CX P w K mg base N qual scope f cdv A outer s H E) [] σ' H' s' → RelV v u → Q v H' → CE outer P w H s Q u s' :=
    fun {σ' H' v u} J rv q => ⟨v, H', J.os, J.bare, J.base, J.hok, rv, q⟩
  cases fl with
  | ret u =>
    obtain ⟨v, σ', H', J, rv, q⟩ := hs
    exact fin J rv q
  | next =>
    obtain ⟨σ', H', J, q⟩ := hs
    exact fin (v := V.non) (u := Value.none) J rfl q
  | brk =>
    obtain ⟨_, _, _, q⟩ := hs
    exact False.elim q
  | cont =>
    obtain ⟨_, _, _, q⟩ := hs
    exact False.elim q
end L2

namespace L2
open PySem PySem.Spec PyProof.Rows
section
variable {X : Cx} {x : Str} {p pos : Pos} {e : Expr} {es : List Expr} {t : TA} {id T : String} {r : List V → Hp → VK → Prop}

def tCB (r : List V → Hp → VK → Prop) (t : TA) : TE := fun σ H Q => t σ H fun vs H1 => r vs H1 Q
/-- f(e, ..), f a built-in function -/
theorem pe_callB (hc : CallR X (.builtin id) r) (hg : Gl X x) (hm : X.mg x = none) (hv : bootBuiltins x = some (.builtin id)) (ha : PA X (e :: es) t) (hn : x ≠ "__name__" := by decide) (hdb : (x == ("__debug__" : Str)) = false := by decide)
    (he : starEach (e :: es) X.env = (false, eval e X.env) :: starEach es X.env := by rfl) (hpl : (backTo pos (starEach es X.env)).any (·.1) = false := by rfl) : PE X (.Call (.Name x p) (e :: es) [] pos) (tCB r t) := by
  intro pins s σ H Q I h
  refine wpAny_Call_Name_kw (ld_blt I hg hm hv ?_ hn hdb)
  exact PyProof.Rows.callWith_builtin1 (thn (ha pos pins s σ H _ I h) fun us s1 ⟨vs, H1, I1, r1, q1⟩ => hc pins s1 σ H1 vs us Q I1 r1 q1) he hpl
/-- T(e, ..), T a built-in type -/
theorem pe_callTy (hc : CallR X (.type T) r) (hg : Gl X x) (hm : X.mg x = none) (hv : bootBuiltins x = some (.type T)) (ha : PA X (e :: es) t) (hn : x ≠ "__name__" := by decide) (hdb : (x == ("__debug__" : Str)) = false := by decide)
    (he : starEach (e :: es) X.env = (false, eval e X.env) :: starEach es X.env := by rfl) (hpl : (backTo pos (starEach es X.env)).any (·.1) = false := by rfl) : PE X (.Call (.Name x p) (e :: es) [] pos) (tCB r t) := by
  intro pins s σ H Q I h
  refine wpAny_Call_Name_kw (ld_blt I hg hm hv ?_ hn hdb)
  exact PyProof.Rows.callWith_type1 (thn (ha pos pins s σ H _ I h) fun us s1 ⟨vs, H1, I1, r1, q1⟩ => hc pins s1 σ H1 vs us Q I1 r1 q1) he hpl
end
end L2

namespace HT
open PySem PyProof.Rows

section
open PySem.SeqAt
open PySem.AutoSeq1 (wpAny_loadPart')
open PySem.MeetsSeq PySem.MeetsSeq2 PySem.MeetsSeq3

end

section
variable {prog : Program} {w : World} {A : Around} {E : Value → Shared → Prop} {s : Shared}

/-! ### t[a:b], not the whole -/
/-- a slice's bound as a place among n (d where it is left out) -/
def sIx (n d : Nat) : Option Int → Nat
  | none => d
  | some v => if v < 0 then (v + (n : Int)).toNat else min v.toNat n
theorem sIx_nat (n d k : Nat) : sIx n d (some (k : Int)) = min k n := by
  show (if (k : Int) < 0 then ((k : Int) + (n : Int)).toNat else min (k : Int).toNat n) = min k n
  rw [if_neg (by omega), Int.toNat_natCast]
end
end HT

namespace L2
open PySem PySem.Spec PyProof.Rows

/-! ### the parts of a slice -/
abbrev TO := St → Hp → (Option Int → Hp → Prop) → Prop
/-- a slice's part (left out, or an int) -/
def PO (X : Cx) (e : Option Expr) (t : TO) : Prop :=
  ∀ (pins : List (Addr × Obj)) (s : Shared) (σ : St) (H : Hp) (Q : Option Int → Hp → Prop), Inv X pins σ H s → t σ H Q →
    wpAny (model X.prog X.w) X.A (evalPart e X.env) (fun u s' => ∃ o H', Inv X pins σ H' s' ∧ IsPart u o ∧ Q o H') X.xe s
def tNoPart : TO := fun _ H Q => Q none H
def tPart (t : TE) : TO := fun σ H Q => t σ H fun x H1 => ∃ i, x = .int i ∧ Q (some i) H1

section
variable {X : Cx} {e : Expr} {te : TE} {lo hi : Option Expr} {tl th : TO} {pos p2 : Pos}

theorem po_none : PO X none tNoPart := by
  intro pins s σ H Q I h
  rw [evalPart_none]
  exact wpAny_pure ⟨none, H, I, .none, h⟩
theorem po_some (h : PE X e te) : PO X (some e) (tPart te) := by
  intro pins s σ H Q I hw
  rw [evalPart_some]
  refine thn (h pins s σ H _ I hw) fun u s1 ⟨x, H1, I1, r1, q1⟩ => ?_
  obtain ⟨i, rfl, q⟩ := q1
  obtain ⟨t, rfl⟩ := r1
  exact ⟨some i, H1, I1, .int i t, q⟩

/-- what a slice of a value is, by values: the slice object stands at sl -/
def SlR (X : Cx) (r : V → Option Int → Option Int → Hp → VK → Prop) : Prop :=
  ∀ (pins : List (Addr × Obj)) (s : Shared) (σ : St) (H : Hp) (x : V) (v vl vu : Value) (lo hi : Option Int) (sl : Addr) (Q : VK), Inv X pins σ H s → RelV x v → s.heap.IsSliceOf sl vl vu .none → IsPart vl lo → IsPart vu hi → r x lo hi H Q →
    ∃ T id, typeLookup (.type T) "__getitem__" = pure (some (.builtin id)) ∧ s.TypeIs v T ∧ wpAny (model X.prog X.w) X.A (getItem v (.ref sl)) (EP X pins σ Q) X.xe s
def tSl (r : V → Option Int → Option Int → Hp → VK → Prop) (te : TE) (tl th : TO) : TE := fun σ H Q => te σ H fun x H1 => tl σ H1 fun l H2 => th σ H2 fun u H3 => r x l u H3 Q
/-- a[lo:hi], any a -/
theorem pe_slice {r : V → Option Int → Option Int → Hp → VK → Prop} (hr : SlR X r) (he : PE X e te) (hl : PO X lo tl) (hu : PO X hi th) : PE X (.Subscript e (.Slice lo hi none p2) pos) (tSl r te tl th) := by
  intro pins s σ H Q I h
  refine Subscript_ (thn (he pins s σ H _ I h) fun v s1 ⟨x, H1, I1, r1, q1⟩ => ?_)
  refine wpAny_Slice (thn (hl pins s1 σ H1 _ I1 q1) fun vl s2 ⟨l, H2, I2, pl, q2⟩ => thn (hu pins s2 σ H2 _ I2 q2) fun vu s3 ⟨u, H3, I3, pu, q3⟩ => ?_)
  rw [evalPart_none]
  refine wpAny_pure ?_
  have I4 : Inv X pins σ H3 { s3 with heap := s3.heap.push { cls := .type "slice", data := .fields #[vl, vu, .none] } } := I3.kept (t' := s3.toks) fun b ob q => Heap.get?_push_of_some _ q
  obtain ⟨T, id, hT, ht, hg⟩ := hr pins { s3 with heap := s3.heap.push { cls := .type "slice", data := .fields #[vl, vu, .none] } } σ H3 x v vl vu l u s3.heap.objs.size Q I4 r1 (Heap.IsSliceOf.new ..) pl pu q3
  show wpAny (model X.prog X.w) X.A (subscriptTail e (.Slice lo hi none p2) v (.ref s3.heap.objs.size)) (EP X pins σ Q) X.xe { s3 with heap := s3.heap.push { cls := .type "slice", data := .fields #[vl, vu, .none] } }
  exact tail_any (ops := [.ref s3.heap.objs.size, v]) ht hT hg (by with_unfolding_all rfl)

/-- the items of xs[lo:hi] -/
def cutV (xs : List V) (lo hi : Option Int) : List V := (xs.drop (HT.sIx xs.length 0 lo)).take (HT.sIx xs.length xs.length hi - HT.sIx xs.length 0 lo)
theorem cutV_length (xs : List V) (lo hi : Option Int) : (cutV xs lo hi).length ≤ xs.length := by
  unfold cutV
  rw [List.length_take, List.length_drop]
  omega
/-! ### t < u, t + u -/
end
end L2

namespace L2
open PySem PySem.Spec PyProof.Rows

/-! ### places -/
/-- the place that an index of any sign means -/
def ixN (n : Nat) (i : Int) : Option Nat := if 0 ≤ i then (if i < n then some i.toNat else none) else if -(n : Int) ≤ i then some (i + n).toNat else none
def atI {α : Type} (xs : List α) (i : Int) : Option α := (ixN xs.length i).bind fun j => xs[j]?
theorem ixN_seq {n : Nat} {i : Int} {j : Nat} (h : ixN n i = some j) : seqIndex? i n = some j ∧ j < n ∧ -(n : Int) ≤ i ∧ i < n := by
  unfold ixN at h
  by_cases h0 : 0 ≤ i
  · rw [if_pos h0] at h
    by_cases h1 : i < n
    · rw [if_pos h1] at h
      have e : i.toNat = j := Option.some.inj h
      exact ⟨by rw [seqIndex_of h0 h1, e], by omega, by omega, h1⟩
    · rw [if_neg h1] at h; cases h
  · rw [if_neg h0] at h
    by_cases h1 : -(n : Int) ≤ i
    · rw [if_pos h1] at h
      have e : (i + n).toNat = j := Option.some.inj h
      exact ⟨by rw [seqIndex_neg (by omega) h1, e], by omega, h1, by omega⟩
    · rw [if_neg h1] at h; cases h
theorem atI_get {α : Type} {xs : List α} {i : Int} {v : α} (h : atI xs i = some v) : ∃ j, seqIndex? i xs.length = some j ∧ xs[j]? = some v ∧ j < xs.length ∧ -(xs.length : Int) ≤ i ∧ i < xs.length := by
  unfold atI at h
  cases e : ixN xs.length i with
  | none => rw [e] at h; cases h
  | some j =>
    rw [e] at h
    obtain ⟨h1, h2, h3, h4⟩ := ixN_seq e
    exact ⟨j, h1, h, h2, h3, h4⟩
theorem atI_nat {α : Type} {xs : List α} {j : Nat} {v : α} (h : xs[j]? = some v) : atI xs (j : Int) = some v := by
  have hj : j < xs.length := (List.getElem?_eq_some_iff.mp h).1
  have e : ixN xs.length (j : Int) = some j := by
    unfold ixN
    rw [if_pos (by omega), if_pos (by omega)]; simp
  unfold atI; rw [e]; exact h
/-! ### what may be subscripted -/
/-- what stands as an index of a plain subscript -/
def PlainIx (b : Expr) : Prop := ∀ o i, subscripted b false o i = operate [o, i] (getItem o i)
/-- a subscript by values -/
def IxR (X : Cx) (r : R2) : Prop :=
  ∀ (value slice : Expr) (pins : List (Addr × Obj)) (s : Shared) (σ : St) (H : Hp) (x y : V) (v u : Value) (Q : VK), Inv X pins σ H s → RelV x v → RelV y u → r x y H Q →
    subscripted slice false v u = operate [v, u] (getItem v u) → wpAny (model X.prog X.w) X.A (subscriptTail value slice v u) (EP X pins σ Q) X.xe s
/-- a call of a builtin's method by values: the receiver, the arguments -/
def MtR (X : Cx) (id : String) (r : V → List V → Hp → VK → Prop) : Prop :=
  ∀ (pins : List (Addr × Obj)) (s : Shared) (σ : St) (H : Hp) (x : V) (xs : List V) (v : Value) (us : List Value) (Q : VK), Inv X pins σ H s → RelV x v → Vals xs us → r x xs H Q →
    wpAny (model X.prog X.w) X.A (call (.builtin id) (v :: us)) (EP X pins σ Q) X.xe s
section
variable {X : Cx} {a b : Expr} {ta tb : TE} {pos : Pos}
/-- a[b] -/
theorem pe_ix {r : R2} (hr : IxR X r) (ha : PE X a ta) (hb : PE X b tb) (hs : PlainIx b) : PE X (.Subscript a b pos) (tOp r ta tb) := by
  intro pins s σ H Q I h
  exact Subscript_ (binT ha hb I h fun v u s2 x y H2 I2 rx ry q => hr a b pins s2 σ H2 x y v u Q I2 rx ry q (hs _ _))

def rIxL (K : PySem.W.Frag) : R2 := fun x y H Q => ∃ p xs i v, x = .ref p ∧ y = .int i ∧ SqL K H p xs ∧ atI xs i = some v ∧ Q v H
def rIxT (K : PySem.W.Frag) : R2 := fun x y H Q => ∃ p xs i v, x = .ref p ∧ y = .int i ∧ SqT K H p xs ∧ atI xs i = some v ∧ Q v H
theorem ix_list : IxR X (rIxL X.K) := by
  intro value slice pins s σ H x y v u Q I rx ry h hs
  obtain ⟨p, xs, i, z, rfl, rfl, hq, he, q⟩ := h
  cases rx
  obtain ⟨t, rfl⟩ := ry
  obtain ⟨its, r, pl, hz⟩ := I.list hq
  obtain ⟨j, h1, h2, h3, h4, h5⟩ := atI_get he
  obtain ⟨w, ew, rw'⟩ := r.get h2
  have hl := r.length
  have hn := line63
  have fin : EP X pins σ Q w s := ⟨z, H, I, rw', q⟩
  by_cases h0 : 0 ≤ i
  · have hj : i.toNat = j := by
      rw [seqIndex_of h0 h5] at h1
      exact Option.some.inj h1
    exact item_listR pl.isList h0 (by omega) (by rw [hj]; simpa using ew) fin hs
  · have hj : (i + (its.toArray.size : Int)).toNat = j := by
      rw [seqIndex_neg (by omega) h4] at h1
      rw [List.size_toArray, ← hl]
      exact Option.some.inj h1
    exact subscriptTail_builtinR (x := w) pl.isList.typeIs slot_list_getitem.lookup
      (wpAny_getItem_list_neg (Q := fun r s' => r = w ∧ EP X pins σ Q r s') pl.isList (by omega) (by rw [List.size_toArray] <;> omega) (by omega) (by rw [hj]; simpa using ew) ⟨rfl, fin⟩) hs
theorem ix_tup : IxR X (rIxT X.K) := by
  intro value slice pins s σ H x y v u Q I rx ry h hs
  obtain ⟨p, xs, i, z, rfl, rfl, hq, he, q⟩ := h
  cases rx
  obtain ⟨t, rfl⟩ := ry
  obtain ⟨its, r, pl, hz⟩ := I.tuple hq
  obtain ⟨j, h1, h2, h3, h4, h5⟩ := atI_get he
  obtain ⟨w, ew, rw'⟩ := r.get h2
  have hl := r.length
  have hn := line63
  have fin : EP X pins σ Q w s := ⟨z, H, I, rw', q⟩
  exact subscriptTail_builtinR (x := w) pl.typeIs slot_tuple_getitem.lookup
    (getItem_tuple (j := j) (Q := fun r s' => r = w ∧ EP X pins σ Q r s') pl (by omega) (by omega) (by rw [List.size_toArray, ← hl]; exact h1) (by simpa using ew) ⟨rfl, fin⟩) hs
/-! ### xs[i] = v, any sign -/
/-! ### slices -/
theorem slice_bounds (lo hi : Option Int) (n : Nat) : (sliceBounds lo hi none n).1 = ((HT.sIx n 0 lo : Nat) : Int) ∧ (sliceBounds lo hi none n).2.1 = ((HT.sIx n n hi : Nat) : Int) ∧ (sliceBounds lo hi none n).2.2 = 1 := by
  refine ⟨?_, ?_, rfl⟩
  · cases lo with
    | none => simp [sliceBounds, HT.sIx]
    | some i =>
      simp only [sliceBounds, HT.sIx, Option.getD_none, show (1 : Int) > 0 by decide, if_true]
      by_cases h : i < 0
      · simp only [h, if_true] <;> omega
      · simp only [h, if_false] <;> omega
  · cases hi with
    | none => simp [sliceBounds, HT.sIx]
    | some i =>
      simp only [sliceBounds, HT.sIx, Option.getD_none, show (1 : Int) > 0 by decide, if_true]
      by_cases h : i < 0
      · simp only [h, if_true] <;> omega
      · simp only [h, if_false] <;> omega
theorem slicePick_cut (its : List Value) (lo hi : Option Int) : slicePick its.toArray lo hi none = ((its.drop (HT.sIx its.length 0 lo)).take (HT.sIx its.length its.length hi - HT.sIx its.length 0 lo)).toArray := by
  obtain ⟨h1, h2, h3⟩ := slice_bounds lo hi its.toArray.size
  unfold slicePick
  rw [h1, h2, h3]
  simp only [sliceRange_one, pick_run, List.size_toArray] <;> rfl
/-- xs[lo:hi] of a list: a new list -/
def rSlL (K : PySem.W.Frag) : V → Option Int → Option Int → Hp → VK → Prop := fun x lo hi H Q => ∃ a xs, x = .ref a ∧ SqL K H a xs ∧ ∀ p, H p = none → Q (.ref p) (upd H p (.lst (cutV xs lo hi)))
theorem sl_list : SlR X (rSlL X.K) := by
  intro pins s σ H x v vl vu lo hi sl Q I rx hs pl pu h
  obtain ⟨a, xs, rfl, hx, q⟩ := h
  cases rx
  obtain ⟨its, r, ht, hz⟩ := I.list hx
  have hlen := r.length
  refine ⟨"list", _, slot_list_getitem.lookup, ht.isList.typeIs, ?_⟩
  refine wpAny_getItem_list_slice ht.isList hs pl pu .none (by simp) ?_ (by rw [List.size_toArray] <;> omega)
  rw [slicePick_cut, ← hlen]
  refine ⟨.ref s.heap.objs.size, _, I.laid (t' := s.toks) (o := .lst (cutV xs lo hi)) (fun b ob q => Heap.get?_push_of_some _ q) (Nat.le_refl _) ?_, rfl, q _ (I.hok.fresh (Nat.le_refl _))⟩
  exact ⟨Nat.le_trans (cutV_length xs lo hi) hz, _, 0, (r.drop (HT.sIx xs.length 0 lo)).take (HT.sIx xs.length xs.length hi - HT.sIx xs.length 0 lo), Heap.get?_push_size _ rfl⟩

/-! ### in, not in: flat items -/
def flatV : V → Bool
  | .non => true
  | .bl _ => true
  | .int _ => true
  | .str _ => true
  | _ => false
/-- == of flat values -/
def eqV : V → V → Bool
  | .non, .non => true
  | .bl a, .bl b => a == b
  | .bl a, .int b => (if a then 1 else 0) == b
  | .int a, .bl b => a == (if b then 1 else 0)
  | .int a, .int b => a == b
  | .str a, .str b => a == b
  | _, _ => false
theorem eqAt_V {A : Around} {s : Shared} {y x : V} {u v : Value} (ry : RelV y u) (rx : RelV x v) (fy : flatV y = true) (fx : flatV x = true) : SeqAt.EqAt A s u v (eqV y x) := by
  cases y with
  | non =>
    cases ry
    cases x with
    | non => cases rx; exact SeqAt.EqAt.same _
    | bl b => cases rx; exact SeqAt.EqAt.none_bool b
    | int b => obtain ⟨t, rfl⟩ := rx; exact SeqAt.EqAt.none_int b t
    | str b => obtain ⟨t, rfl⟩ := rx; exact SeqAt.EqAt.none_str b t
    | _ => exact absurd (show false = true from fx) Bool.false_ne_true
  | bl a =>
    cases ry
    cases x with
    | non => cases rx; exact SeqAt.EqAt.bool_none a
    | bl b => cases rx; exact SeqAt.EqAt.bool_bool a b
    | int b => obtain ⟨t, rfl⟩ := rx; exact SeqAt.EqAt.bool_int a b t
    | str b => obtain ⟨t, rfl⟩ := rx; exact SeqAt.EqAt.bool_str a b t
    | _ => exact absurd (show false = true from fx) Bool.false_ne_true
  | int a =>
    obtain ⟨t', rfl⟩ := ry
    cases x with
    | non => cases rx; exact SeqAt.EqAt.int_none a t'
    | bl b => cases rx; exact SeqAt.EqAt.int_bool a t' b
    | int b => obtain ⟨t, rfl⟩ := rx; exact SeqAt.EqAt.int_int a t' b t
    | str b => obtain ⟨t, rfl⟩ := rx; exact SeqAt.EqAt.int_str a t' b t
    | _ => exact absurd (show false = true from fx) Bool.false_ne_true
  | str a =>
    obtain ⟨t', rfl⟩ := ry
    cases x with
    | non => cases rx; exact SeqAt.EqAt.str_none a t'
    | bl b => cases rx; exact SeqAt.EqAt.str_bool a t' b
    | int b => obtain ⟨t, rfl⟩ := rx; exact SeqAt.EqAt.str_int a t' b t
    | str b => obtain ⟨t, rfl⟩ := rx; exact SeqAt.EqAt.str_str a t' b t
    | _ => exact absurd (show false = true from fx) Bool.false_ne_true
  | _ => exact absurd (show false = true from fy) Bool.false_ne_true
/-- the items' answers, read off the values (a value's own answer does not lean on its token) -/
def eqU (x : V) (u : Value) : Bool := match u with
  | .none => eqV .non x
  | .bool b => eqV (.bl b) x
  | .int i _ => eqV (.int i) x
  | .str z _ => eqV (.str z) x
  | _ => false
theorem eqU_of {x y : V} {u : Value} (r : RelV y u) (f : flatV y = true) : eqU x u = eqV y x := by
  cases y with
  | non => cases r; rfl
  | bl b => cases r; rfl
  | int i => obtain ⟨t, rfl⟩ := r; rfl
  | str z => obtain ⟨t, rfl⟩ := r; rfl
  | _ => exact absurd (show false = true from f) Bool.false_ne_true
theorem any_eqU {x : V} : ∀ {xs : List V} {us : List Value}, Vals xs us → xs.all flatV = true → us.any (eqU x) = xs.any fun y => eqV y x
  | _, _, .nil, _ => rfl
  | y :: xs, u :: us, .cons r t, f => by
    rw [List.all_cons, Bool.and_eq_true] at f
    rw [List.any_cons, List.any_cons, eqU_of r f.1, any_eqU t f.2]
theorem mem_eqAt {A : Around} {s : Shared} {x : V} {v : Value} (rx : RelV x v) (fx : flatV x = true) : ∀ {xs : List V} {us : List Value}, Vals xs us → xs.all flatV = true → ∀ u ∈ us, SeqAt.EqAt A s u v (eqU x u)
  | _, _, .nil, _ => fun u hu => by cases hu
  | y :: xs, u :: us, .cons r t, f => fun u' hu => by
    rw [List.all_cons, Bool.and_eq_true] at f
    rcases List.mem_cons.mp hu with rfl | hu
    · rw [eqU_of r f.1]; exact eqAt_V r rx f.1 fx
    · exact mem_eqAt rx fx t f.2 u' hu
def inV (x : V) (xs : List V) : Bool := xs.any fun y => eqV y x
/-- x in a list or tuple of flat items -/
def rIn (K : PySem.W.Frag) (neg : Bool) : R2 := fun x y H Q => ∃ p xs, y = .ref p ∧ (SqL K H p xs ∨ SqT K H p xs) ∧ flatV x = true ∧ xs.all flatV = true ∧ Q (.bl (if neg then !inV x xs else inV x xs)) H
theorem op_notIn_seq : OpR X (compareOp .NotIn) (rIn X.K true) := by
  intro pins s σ H x y v u Q I rx ry h
  obtain ⟨p, xs, rfl, hq, fx, fs, q⟩ := h
  cases ry
  rcases hq with hq | hq
  · obtain ⟨its, r, pl, hz⟩ := I.list hq
    refine SeqAt.notIn_listAt (eqU x) pl.isList (fun w hw => mem_eqAt rx fx r fs w (by simpa using hw)) ⟨.bl _, H, I, rfl, ?_⟩
    rw [show its.toArray.any (eqU x) = its.any (eqU x) by simp, any_eqU r fs]
    exact q
  · obtain ⟨its, r, pl, hz⟩ := I.tuple hq
    refine SeqAt.notIn_tupleAt (eqU x) pl (fun w hw => mem_eqAt rx fx r fs w (by simpa using hw)) ⟨.bl _, H, I, rfl, ?_⟩
    rw [show its.toArray.any (eqU x) = its.any (eqU x) by simp, any_eqU r fs]
    exact q
/-! ### len, list(x), tuple(x) of any list or tuple that is read -/
theorem call_len_seq : CallR X (.builtin "len") (fun xs H Q => ∃ p ys, xs = [.ref p] ∧ (SqL X.K H p ys ∨ SqT X.K H p ys) ∧ Q (.int ys.length) H) := by
  intro pins s σ H xs us Q I r h
  obtain ⟨p, ys, rfl, hq, q⟩ := h
  obtain ⟨u, rfl, rx⟩ := vals1 r
  cases rx
  have hn := line63
  rcases hq with hq | hq
  · obtain ⟨its, r', pl, hz⟩ := I.list hq
    have hlen := r'.length
    exact Calls.call_len_list pl.isList (by simp only [List.size_toArray] <;> omega) ⟨.int ys.length, H, I.tok _, ⟨s.toks + 1, by rw [List.size_toArray, hlen]⟩, q⟩
  · obtain ⟨its, r', pl, hz⟩ := I.tuple hq
    have hlen := r'.length
    exact len_tuple pl (by simp only [List.size_toArray] <;> omega) ⟨.int ys.length, H, I.tok _, ⟨s.toks + 1, by rw [List.size_toArray, hlen]⟩, q⟩
/-! ### the call of a builtin's method: o.m(..) -/
/-- the value is of that builtin type -/
def tyV (K : PySem.W.Frag) (T : String) (x : V) (H : Hp) : Prop := match x with
  | .str _ => T = "str"
  | .int _ => T = "int"
  | .ref p => (T = "list" ∧ ∃ xs, SqL K H p xs) ∨ (T = "tuple" ∧ ∃ o, K.lookup p = some o ∧ o.cls = .type "tuple" ∧ o.dict = none) ∨
      (T = "dict" ∧ ((∃ kvs, H p = some (.dK kvs)) ∨ ∃ kvs, H p = some (.dT kvs))) ∨ (T = "set" ∧ ∃ S n, H p = some (.set S n))
  | _ => False
theorem tyV_is {pins : List (Addr × Obj)} {σ : St} {H : Hp} {s : Shared} {T : String} {x : V} {v : Value} (I : Inv X pins σ H s) (r : RelV x v) (ty : tyV X.K T x H) :
    s.TypeIs v T ∧ ∀ a, v = .ref a → ∃ ob, s.heap.get? a = some ob ∧ ob.dict = none := by
  cases x with
  | str z =>
    obtain ⟨t, rfl⟩ := r
    cases (show T = "str" from ty)
    exact ⟨typeIs_str s z t, fun _ e => nomatch e⟩
  | int i =>
    obtain ⟨t, rfl⟩ := r
    cases (show T = "int" from ty)
    exact ⟨typeIs_int s i t, fun _ e => nomatch e⟩
  | ref p =>
    cases r
    rcases ty with ⟨rfl, xs, hq⟩ | ⟨rfl, o, hk, hc, hd⟩ | ⟨rfl, hk⟩ | ⟨rfl, S, n, hk⟩
    · obtain ⟨its, _, pl, _⟩ := I.list hq
      refine ⟨pl.isList.typeIs, fun a e => ?_⟩
      cases e
      obtain ⟨o, n, e, c, hd, _⟩ := pl
      exact ⟨o, e, hd⟩
    · refine ⟨⟨o, I.kIn p o hk, hc⟩, fun a e => ?_⟩
      cases e
      exact ⟨o, I.kIn _ o hk, hd⟩
    · have z : ∃ o, s.heap.get? p = some o ∧ o.ExactDict := by
        rcases hk with ⟨kvs, hk⟩ | ⟨kvs, hk⟩
        · obtain ⟨_, _, _, _, o, _, _, e, ex, _⟩ := I.hok p _ hk
          exact ⟨o, e, ex⟩
        · obtain ⟨_, _, _, _, o, _, _, e, ex, _⟩ := I.hok p _ hk
          exact ⟨o, e, ex⟩
      obtain ⟨o, e, ex⟩ := z
      refine ⟨⟨o, e, ex.1⟩, fun a e2 => ?_⟩
      cases e2
      exact ⟨o, e, ex.2.1⟩
    · obtain ⟨o, _, _, _, e, ex, _⟩ := I.hok p _ hk
      refine ⟨⟨o, e, ex.1⟩, fun a e2 => ?_⟩
      cases e2
      exact ⟨o, e, ex.2.1⟩
  | _ => exact False.elim ty
def tBM0 (K : PySem.W.Frag) (T : String) (r : V → List V → Hp → VK → Prop) (to : TE) : TE := fun σ H Q => to σ H fun x H1 => tyV K T x H1 ∧ r x [] H1 Q
def tBM (K : PySem.W.Frag) (T : String) (r : V → List V → Hp → VK → Prop) (to : TE) (t : TA) : TE := fun σ H Q => to σ H fun x H1 => tyV K T x H1 ∧ t σ H1 fun xs H2 => r x xs H2 Q
variable {o e : Expr} {es : List Expr} {to : TE} {t : TA} {name : Str} {apos cpos : Pos} {T id : String} {r : V → List V → Hp → VK → Prop}
theorem pe_bm0 (pa : PlainAttrs T) (slot : Slot T name id) (hty : typeOf (.builtin id) = pure (.type "method_descriptor")) (hm : MtR X id r) (ho : PE X o to)
    (hbase : attributeBase o name X.env (eval o X.env) = eval o X.env := by rfl) (hline : (apos.endLine == cpos.line) = true := by rfl) : PE X (.Call (.Attribute o name apos) [] [] cpos) (tBM0 X.K T r to) := by
  intro pins s σ H Q I h
  refine wpAny_Call_method0_late hbase hline (thn (ho pins s σ H _ I h) fun v s1 ⟨x, H1, I1, r1, ty, q1⟩ => ?_)
  obtain ⟨h1, h2⟩ := tyV_is I1 r1 ty
  exact ⟨T, id, pa, slot, hty, h1, h2, Calls.callWith_builtin rfl (PySem.evalArgs_none (hm pins s1 σ H1 x [] v [] Q I1 r1 .nil q1))⟩
theorem pe_bm (pa : PlainAttrs T) (slot : Slot T name id) (hty : typeOf (.builtin id) = pure (.type "method_descriptor")) (hm : MtR X id r) (ho : PE X o to) (ha : PA X (e :: es) t)
    (hbase : attributeBase o name X.env (eval o X.env) = eval o X.env := by rfl)
    (hfew : ((backTo cpos (starEach (e :: es) X.env)).all (fun x => !x.1) && (backToKw cpos (keywordEach [] X.env)).all (fun x => x.1.isSome)
      && decide ((e :: es).length + ([] : List Keyword).length + (if ([] : List Keyword).isEmpty then 0 else 1) < 30)) = true := by rfl)
    (hline : (apos.endLine == cpos.line) = true := by rfl) (hs : starEach (e :: es) X.env = (false, eval e X.env) :: starEach es X.env := by rfl) (hplain : (backTo cpos (starEach es X.env)).any (·.1) = false := by rfl) :
    PE X (.Call (.Attribute o name apos) (e :: es) [] cpos) (tBM X.K T r to t) := by
  intro pins s σ H Q I h
  refine wpAny_Call_method_late hbase hfew hline rfl (thn (ho pins s σ H _ I h) fun v s1 ⟨x, H1, I1, r1, ty, q1⟩ => ?_)
  obtain ⟨h1, h2⟩ := tyV_is I1 r1 ty
  refine ⟨T, id, pa, slot, hty, h1, h2, ?_⟩
  have hA := ha cpos pins s1 σ H1 _ I1 q1
  rw [hs] at hA ⊢
  refine Calls.callWith_builtin (by show (false || (backTo cpos (starEach es X.env)).any (·.1)) = false; rw [hplain] <;> rfl) (Calls.evalArgs_plain ?_)
  exact thn hA fun us s2 ⟨vs, H2, I2, r2, q2⟩ => hm pins s2 σ H2 x vs v us Q I2 r1 r2 q2
/- xs.append(e), list.index on a module's tuple .. are MtR facts of 06m -/
end
end L2

namespace L2
open PySem PySem.Spec PyProof.Rows

def MtM (X : Cx) (id : String) (r : V → List V → Hp → VK → Prop) : Prop :=
  ∀ (pins : List (Addr × Obj)) (s : Shared) (σ : St) (H : Hp) (x : V) (xs : List V) (v : Value) (us : List Value) (Q : VK), Inv X pins σ H s → RelV x v → Vals xs us → r x xs H Q →
    wpAny (model X.prog X.w) X.A (call (.builtin id) (v :: us)) (EP X pins σ Q) X.xe s

/-! ### lists of values -/
theorem Vals.one : ∀ {x : V} {us : List Value}, Vals [x] us → ∃ u, us = [u] ∧ RelV x u
  | _, _, .cons r .nil => ⟨_, rfl, r⟩
theorem Vals.zero : ∀ {us : List Value}, Vals [] us → us = []
  | _, .nil => rfl
theorem Vals.dropLast {xs : List V} {us : List Value} (h : Vals xs us) : Vals xs.dropLast us.dropLast := by
  induction h with
  | nil => exact .nil
  | cons r t ih =>
    cases t with
    | nil => exact .nil
    | cons q t' => exact .cons r ih
theorem erase_last {α : Type} (l : List α) : l.eraseIdx (l.length - 1) = l.dropLast := by
  induction l with
  | nil => rfl
  | cons a r ih =>
    cases r with
    | nil => rfl
    | cons b r =>
      have e : (a :: b :: r).length - 1 = ((b :: r).length - 1) + 1 := by
        have h1 : (a :: b :: r).length = r.length + 2 := rfl
        have h2 : (b :: r).length = r.length + 1 := rfl
        omega
      rw [e, List.eraseIdx_cons_succ, ih]
      all_goals rfl
section
variable {X : Cx} {pins : List (Addr × Obj)} {σ : St} {H : Hp} {s : Shared} {l b : Addr} {xs ys zs : List V}

/-! ### the two steps: a tracked list is rewritten, a new list is laid -/
theorem Inv.lset {its its' : List Value} {n : Nat} {f : Array Value → Array Value} {t' : Nat} (I : Inv X pins σ H s) (hH : H l = some (.lst xs))
    (e : s.heap.get? l = some { cls := .type "list", data := .seq its.toArray n }) (hf : f its.toArray = its'.toArray) (hv : Vals ys its') (hz : ys.length ≤ sizeLine) :
    Inv X pins σ (upd H l (.lst ys)) { s with heap := s.heap.update l (Obj.mapSeq f), toks := t' } := by
  have q := PySem.IsL.update e f
  rw [hf] at q
  refine I.write (x := l) (e := l) (by rw [hH]; exact trivial) (.inl rfl) (fun b' u hb hu => (Heap.get?_update_other s.heap (Obj.mapSeq f) (Ne.symm hb)).trans hu) ⟨_, q⟩ ?_
  exact ⟨hz, its', _, hv, q⟩
theorem Inv.lstM (I : Inv X pins σ H s) (hH : H l = some (.lst xs)) : xs.length ≤ sizeLine ∧ ∃ (its : List Value) (n : Nat), Vals xs its ∧ xs.length = its.length ∧ s.heap.get? l = some { cls := .type "list", data := .seq its.toArray n } := by
  obtain ⟨z, its, n, r, e⟩ := I.hok l _ hH
  exact ⟨z, its, n, r, r.length, e⟩

theorem notLongL {n : Nat} (h : n ≤ sizeLine) : Builtin.List.listTooLong n = false := by
  unfold Builtin.List.listTooLong
  exact decide_eq_false (by omega)
end

section
variable {X : Cx}

/-! ### methods -/
def rAppend : V → List V → Hp → VK → Prop := fun x vs H Q => ∃ l xs y, x = .ref l ∧ vs = [y] ∧ H l = some (.lst xs) ∧ xs.length < sizeLine ∧ Q .non (upd H l (.lst (xs ++ [y])))
theorem mt_append : MtM X "list.append" rAppend := by
  intro pins s σ H x vs v us Q I rx rv h
  obtain ⟨l, xs, y, rfl, rfl, hH, hz, q⟩ := h
  cases rx
  obtain ⟨u, rfl, ru⟩ := rv.one
  obtain ⟨z, its, n, r, hl, e⟩ := I.lstM hH
  refine call_meets F.slot_list_append ⟨_, e, rfl⟩ F.entry_list_append (F.args_list_append_2 _ _) (PySem.list_append l its.toArray n u (by rw [List.size_toArray]; omega)) ⟨e, ?_⟩
  refine ⟨.non, _, I.lset (its' := its ++ [u]) hH e (by simp) (r.append (.cons ru .nil)) ?_, rfl, q⟩
  rw [List.length_append, List.length_singleton]
  omega

def rExtend : V → List V → Hp → VK → Prop := fun x vs H Q => ∃ l b xs zs, x = .ref l ∧ vs = [.ref b] ∧ H l = some (.lst xs) ∧ H b = some (.lst zs) ∧ xs.length + zs.length ≤ sizeLine ∧ Q .non (upd H l (.lst (xs ++ zs)))
theorem mt_extend : MtM X "list.extend" rExtend := by
  intro pins s σ H x vs v us Q I rx rv h
  obtain ⟨l, b, xs, zs, rfl, rfl, hH, hB, hz, q⟩ := h
  cases rx
  obtain ⟨u, rfl, ru⟩ := rv.one
  cases ru
  obtain ⟨z, its, n, r, hl, e⟩ := I.lstM hH
  obtain ⟨z2, its2, n2, r2, hl2, e2⟩ := I.lstM hB
  have hsz : its.toArray.size + its2.toArray.size ≤ sizeLine := by rw [List.size_toArray, List.size_toArray]; omega
  have hlong : ¬ (!its.toArray.isEmpty && Builtin.List.listTooLong (its.toArray.size + its2.toArray.size)) = true := by
    rw [notLongL hsz, Bool.and_false]
    exact Bool.false_ne_true
  refine call_meets F.slot_list_extend ⟨_, e, rfl⟩ F.entry_list_extend (F.args_list_extend_2 _ _)
    (AutoSeq1.list_extend_list_list_0 l its.toArray n b its2.toArray n2 hlong (by rw [List.size_toArray]; omega) (by omega)) ⟨e, e2, ?_⟩
  refine ⟨.non, _, I.lset (its' := its ++ its2) hH e (by simp) (r.append r2) ?_, rfl, q⟩
  rw [List.length_append]
  omega

def rPop : V → List V → Hp → VK → Prop := fun x vs H Q => ∃ l xs y, x = .ref l ∧ vs = [] ∧ H l = some (.lst xs) ∧ xs[xs.length - 1]? = some y ∧ Q y (upd H l (.lst xs.dropLast))
theorem mt_pop : MtM X "list.pop" rPop := by
  intro pins s σ H x vs v us Q I rx rv h
  obtain ⟨l, xs, y, rfl, rfl, hH, hy, q⟩ := h
  cases rx
  have hus := rv.zero
  subst hus
  obtain ⟨z, its, n, r, hl, e⟩ := I.lstM hH
  obtain ⟨u, hu, ru⟩ := r.get hy
  have hy' : its.toArray[its.toArray.size - 1]? = some u := by
    show its.toArray[its.length - 1]? = some u
    rw [← Array.getElem?_toList, ← hl]
    exact hu
  refine call_meets F.slot_list_pop ⟨_, e, rfl⟩ F.entry_list_pop (F.args_list_pop_1 _) (MeetsSeq.list_pop_last l its.toArray n u hy' (by rw [List.size_toArray]; omega)) ⟨e, ?_⟩
  refine ⟨y, _, I.lset (its' := its.dropLast) hH e ?_ r.dropLast ?_, ru, q⟩
  · show its.toArray.eraseIdxIfInBounds (its.toArray.size - 1) = its.dropLast.toArray
    rw [List.size_toArray, List.eraseIdxIfInBounds_toArray, erase_last]
  · rw [List.length_dropLast]
    omega

/-! ### list + list, list += list, list * int -/
/-! ### del xs[i] -/
end

/-! ### xs[a:b] = ys -/
section
variable {prog : Program} {w : World} {A : Around} {E : Value → Shared → Prop} {s : Shared}
end

section
variable {X : Cx}
end
end L2

namespace L2
open PySem PySem.Spec PyProof.Rows

theorem Vals.ints : ∀ {ns : List Int} {us : List Value}, Vals (ns.map V.int) us → IntsAre us ns
  | [], us, h => by
    rw [List.map_nil] at h
    cases h
    exact IntsAre.nil
  | n :: ns, us, h => by
    rw [List.map_cons] at h
    cases h with
    | cons r t =>
      obtain ⟨k, rfl⟩ := r
      exact IntsAre.cons n k (Vals.ints t)
theorem Vals.ref1 {a : Addr} {us : List Value} (r : Vals [V.ref a] us) : us = [Value.ref a] := by
  cases r with
  | cons r t =>
    cases t
    cases r
    rfl
/-! ### the library's walks over a list of ints, kept objects alone -/
section
variable {prog : Program} {w : World} {A : Around} {E : Value → Shared → Prop} {s : Shared} {l : Addr} {its : List Value} {ns : List Int} {Q : Value → Shared → Prop}
theorem sum_raw (hh : A.handled = none) (hl : s.heap.IsList l its.toArray) (hi : IntsAre its ns)
    (h : ∀ h' tk t', (∀ b o, s.heap.get? b = some o → h'.get? b = some o) → Q (.int ns.sum t') { s with heap := h', toks := tk }) : wpAny (model prog w) A (call (.builtin "sum") [.ref l]) Q E s := by
  obtain ⟨xs, e⟩ := hi.allInts.items
  have hn : numsOf (intItems xs).toList = ns := by rw [← e]; exact hi.numsOf
  rw [nums_intItems] at hn
  rw [e] at hl
  refine PySem.sum_intListG hh hl fun h' tk t' hk => ?_
  have := h h' tk t' hk
  rw [preSum_eq, List.take_of_length_le (by simp), hn]; exact this
end

/-! ### the calls, by values (CallR of 03t; MtR of 06l) -/
section
variable {X : Cx}
/-- sum(xs) of a list of ints -/
def rSum (K : PySem.W.Frag) : List V → Hp → VK → Prop := fun vs H Q => ∃ (a : Addr) (ns : List Int), vs = [V.ref a] ∧ SqL K H a (ns.map V.int) ∧ Q (.int ns.sum) H
theorem cr_sum (hc : X.calm = true) : CallR X (.builtin "sum") (rSum X.K) := by
  intro pins s σ H vs us Q I r h
  obtain ⟨a, ns, rfl, hs, q⟩ := h
  obtain ⟨its, rv, hl, _⟩ := I.list hs
  rw [Vals.ref1 r]
  exact sum_raw (I.ok.hd hc) hl.isList rv.ints fun h' tk t' hk => ⟨.int _, H, I.kept hk, ⟨_, rfl⟩, q⟩
/-! sorted, sort (fewer than 64 items: the library's own bound) -/
end

/-! ### list.index, flat items -/
section
variable {X : Cx}
end

/-! ### type(x) of an own instance; is, is not of a module's class -/
section
variable {X : Cx}
end

/-! ### any(xs), all(xs) of a list of bools -/
section
variable {X : Cx}
end

/-! ### == and != of data at any depth: none, bools, ints, texts, lists, tuples -/
mutual
inductive Dp (K : PySem.W.Frag) (H : Hp) : V → PyData → Prop
  | non : Dp K H .non .none
  | bl (b : Bool) : Dp K H (.bl b) (.bool b)
  | int (i : Int) : Dp K H (.int i) (.int i)
  | str (x : Str) : Dp K H (.str x) (.str x)
  | lst {a : Addr} {xs : List V} {ds : List PyData} : SqL K H a xs → DpAll K H xs ds → Dp K H (.ref a) (.list ds)
  | tup {a : Addr} {xs : List V} {ds : List PyData} : SqT K H a xs → DpAll K H xs ds → Dp K H (.ref a) (.tuple ds)
inductive DpAll (K : PySem.W.Frag) (H : Hp) : List V → List PyData → Prop
  | nil : DpAll K H [] []
  | cons {v : V} {vs : List V} {d : PyData} {ds : List PyData} : Dp K H v d → DpAll K H vs ds → DpAll K H (v :: vs) (d :: ds)
end
section
variable {X : Cx} {pins : List (Addr × Obj)} {σ : St} {H : Hp} {s : Shared}
mutual
theorem Dp.reads (I : Inv X pins σ H s) : ∀ (d : PyData) (v : V) (u : Value), Dp X.K H v d → RelV v u → ∃ as, Reads s.heap u d as
  | .none, _, _, h, r => by
    cases h
    cases r
    exact ⟨_, Reads.none⟩
  | .bool b, _, _, h, r => by
    cases h
    cases r
    exact ⟨_, Reads.bool b⟩
  | .int i, _, _, h, r => by
    cases h
    obtain ⟨t, rfl⟩ := r
    exact ⟨_, Reads.int i t⟩
  | .str x, _, _, h, r => by
    cases h
    obtain ⟨t, rfl⟩ := r
    exact ⟨_, Reads.str x t⟩
  | .list ds, _, _, h, r => by
    cases h with
    | lst hs ha =>
      cases r
      obtain ⟨its, rv, ⟨o, n, ho, hc, _, hd⟩, _⟩ := I.list hs
      obtain ⟨as, hr⟩ := Dp.readsAll I ds _ its ha rv
      exact ⟨_, Reads.list ho hc hd hr⟩
  | .tuple ds, _, _, h, r => by
    cases h with
    | tup hs ha =>
      cases r
      obtain ⟨its, rv, ⟨o, ho, hc, n, hd⟩, _⟩ := I.tuple hs
      obtain ⟨as, hr⟩ := Dp.readsAll I ds _ its ha rv
      exact ⟨_, Reads.tuple ho hc hd hr⟩
  | .dict _, _, _, h, _ => by cases h
theorem Dp.readsAll (I : Inv X pins σ H s) : ∀ (ds : List PyData) (vs : List V) (us : List Value), DpAll X.K H vs ds → Vals vs us → ∃ as, ReadsAll s.heap us ds as
  | [], _, _, h, r => by
    cases h
    cases r
    exact ⟨_, ReadsAll.nil⟩
  | d :: ds, _, _, h, r => by
    cases h with
    | cons h1 h2 =>
      cases r with
      | cons r1 r2 =>
        obtain ⟨as, q1⟩ := Dp.reads I d _ _ h1 r1
        obtain ⟨bs, q2⟩ := Dp.readsAll I ds _ _ h2 r2
        exact ⟨_, ReadsAll.cons q1 q2⟩
end
end
section
variable {X : Cx}
def rEqD (K : PySem.W.Frag) : R2 := fun x y H Q => ∃ d e, Dp K H x d ∧ Dp K H y e ∧ SeqAt.shaped d = true ∧ SeqAt.shaped e = true ∧ Q (.bl (PyData.eqv d e)) H
theorem op_eqD (hu : X.A.units + 64 < cLine) : OpR X (compareOp .Eq) (rEqD X.K) := by
  intro pins s σ H x y v u Q I rx ry h
  obtain ⟨d, e, hd, he, sd, se, q⟩ := h
  obtain ⟨as, r1⟩ := Dp.reads I d x v hd rx
  obtain ⟨bs, r2⟩ := Dp.reads I e y u he ry
  exact SeqAt.compareEq_shaped r1 r2 sd se hu ⟨.bl _, H, I, rfl, q⟩
end
end L2

namespace L2
open PySem PySem.Spec PyProof.Rows
abbrev CellAt (h : Heap) (c : Addr) (v : Option Value) : Prop := h.IsCell c v
def relS (scope sc : Scope) : Scope :=
  { scope with names := scope.names.map fun (n, k) => if (k == .free && sc.kind == .function && sc.names.lookup n == some .cell) then (n, .cell) else (n, k) }

def cloFrom (cells : List (Str × Addr)) : List (Str × NameKind) → List (Str × Addr) → List (Str × Addr)
  | [], acc => acc
  | (n, k) :: r, acc => if k == .free then cloFrom cells r ((n, (cells.lookup n).getD 0) :: acc) else cloFrom cells r acc

theorem closure_loop (env : Env) (f : Str × NameKind → List (Str × Addr) → Sem (ForInStep (List (Str × Addr))))
    (hf : ∀ n k c, f (n, k) c = if k == .free then (do let a ← cellOf env n; pure (.yield ((n, a) :: c))) else pure (.yield c)) :
    ∀ (names : List (Str × NameKind)) (acc : List (Str × Addr)), (∀ y ∈ names, y.2 = .free → ∃ c, env.cells.lookup y.1 = some c) → forIn names acc f = pure (cloFrom env.cells names acc)
  | [], acc, _ => by rw [List.forIn_nil]; rfl
  | (n, k) :: r, acc, h => by
    rw [List.forIn_cons, hf]
    have ih := fun acc => closure_loop env f hf r acc fun y hy => h y (List.mem_cons_of_mem _ hy)
    unfold cloFrom
    by_cases hk : (k == NameKind.free) = true
    · rw [if_pos hk, if_pos hk]
      obtain ⟨c, hc⟩ := h (n, k) List.mem_cons_self (by simpa using hk)
      have e : cellOf env n = pure c := by unfold cellOf; rw [hc]
      rw [e]
      have e2 : (env.cells.lookup n).getD 0 = c := by rw [hc]; rfl
      rw [e2]
      exact ih _
    · rw [if_neg hk, if_neg hk]
      exact ih _
theorem closure_ok {scope : Scope} {env : Env} (h : ∀ y ∈ scope.names, y.2 = .free → ∃ c, env.cells.lookup y.1 = some c) : closureFor scope env = pure (cloFrom env.cells scope.names []) := by
  simp only [closureFor]
  rw [closure_loop env _ (fun n k c => rfl) scope.names [] h]
  rfl

theorem mem_lookup {α : Type} : ∀ {l : List (Str × α)} {n : Str} {c : α}, (n, c) ∈ l → ∃ c', l.lookup n = some c'
  | (k, v) :: r, n, c, h => by
    rw [List.lookup_cons]
    cases hb : n == k with
    | true => exact ⟨_, rfl⟩
    | false =>
      rcases List.mem_cons.mp h with e | h
      · cases e; simp at hb
      · exact mem_lookup h

theorem cloFrom_mem {cells : List (Str × Addr)} : ∀ {names : List (Str × NameKind)} {acc : List (Str × Addr)} {n : Str} {c : Addr}, (n, c) ∈ cloFrom cells names acc → (n, c) ∈ acc ∨ ((n, .free) ∈ names ∧ c = (cells.lookup n).getD 0)
  | [], _, _, _, h => .inl h
  | (m, k) :: r, acc, n, c, h => by
    unfold cloFrom at h
    split at h
    · rename_i hk
      have hk : k = .free := by simpa using hk
      rcases cloFrom_mem h with h | ⟨h1, h2⟩
      · rcases List.mem_cons.mp h with e | h
        · cases e; exact .inr ⟨hk ▸ List.mem_cons_self, rfl⟩
        · exact .inl h
      · exact .inr ⟨List.mem_cons_of_mem _ h1, h2⟩
    · rcases cloFrom_mem h with h | ⟨h1, h2⟩
      · exact .inl h
      · exact .inr ⟨List.mem_cons_of_mem _ h1, h2⟩
theorem cloFrom_acc {cells : List (Str × Addr)} : ∀ {names : List (Str × NameKind)} {acc : List (Str × Addr)} {p : Str × Addr}, p ∈ acc → p ∈ cloFrom cells names acc
  | [], _, _, h => h
  | (m, k) :: r, acc, p, h => by
    unfold cloFrom
    split
    · exact cloFrom_acc (List.mem_cons_of_mem _ h)
    · exact cloFrom_acc h
theorem cloFrom_has {cells : List (Str × Addr)} : ∀ {names : List (Str × NameKind)} {acc : List (Str × Addr)} {n : Str}, (n, .free) ∈ names → (n, (cells.lookup n).getD 0) ∈ cloFrom cells names acc
  | (m, k) :: r, acc, n, h => by
    unfold cloFrom
    rcases List.mem_cons.mp h with e | h
    · cases e
      exact cloFrom_acc List.mem_cons_self
    · split
      · exact cloFrom_has h
      · exact cloFrom_has h

theorem cells_mem : ∀ {names : List (Str × NameKind)} {h : Heap} {acc : List (Str × Addr)} {x : Str} {c : Addr}, (x, c) ∈ cellsFrom h.objs.size names acc →
    (x, c) ∈ acc ∨ ((x, .cell) ∈ names ∧ h.objs.size ≤ c ∧ CellAt (pushCells h names) c none)
  | [], _, _, _, _, h => .inl h
  | (n, k) :: r, h, acc, x, c, hm => by
    unfold cellsFrom at hm
    unfold pushCells
    split at hm
    · rename_i hk
      rw [if_pos hk]
      have hk : k = .cell := by simpa using hk
      rw [← Heap.size_push h { cls := .type "cell", data := .cell none }] at hm
      rcases cells_mem hm with hm | ⟨h1, h2, h3⟩
      · rcases List.mem_cons.mp hm with e | hm
        · cases e
          exact .inr ⟨hk ▸ List.mem_cons_self, Nat.le_refl _, _, pushCells_keeps r _ _ _ (Heap.get?_push_size _ rfl), rfl⟩
        · exact .inl hm
      · rw [Heap.size_push] at h2
        exact .inr ⟨List.mem_cons_of_mem _ h1, Nat.le_of_succ_le h2, h3⟩
    · rename_i hk
      rw [if_neg hk]
      rcases cells_mem hm with hm | ⟨h1, h2, h3⟩
      · exact .inl hm
      · exact .inr ⟨List.mem_cons_of_mem _ h1, h2, h3⟩
theorem cells_acc : ∀ {names : List (Str × NameKind)} {n : Nat} {acc : List (Str × Addr)} {p : Str × Addr}, p ∈ acc → p ∈ cellsFrom n names acc
  | [], _, _, _, h => h
  | (m, k) :: r, n, acc, p, h => by
    unfold cellsFrom
    split
    · exact cells_acc (List.mem_cons_of_mem _ h)
    · exact cells_acc h
theorem cells_has : ∀ {names : List (Str × NameKind)} {n : Nat} {acc : List (Str × Addr)} {x : Str}, (x, .cell) ∈ names → ∃ c, (x, c) ∈ cellsFrom n names acc
  | (m, k) :: r, n, acc, x, h => by
    unfold cellsFrom
    rcases List.mem_cons.mp h with e | h
    · cases e
      exact ⟨n, cells_acc List.mem_cons_self⟩
    · split
      · exact cells_has h
      · exact cells_has h
theorem cells_inj : ∀ {names : List (Str × NameKind)} {h : Heap} {acc : List (Str × Addr)} {x y : Str} {c : Addr}, (∀ p ∈ acc, p.2 < h.objs.size) → (∀ x y c, (x, c) ∈ acc → (y, c) ∈ acc → x = y) →
    (x, c) ∈ cellsFrom h.objs.size names acc → (y, c) ∈ cellsFrom h.objs.size names acc → x = y
  | [], _, _, _, _, _, _, hi, h1, h2 => hi _ _ _ h1 h2
  | (n, k) :: r, h, acc, x, y, c, hl, hi, h1, h2 => by
    unfold cellsFrom at h1 h2
    split at h1
    · rename_i hk
      rw [if_pos hk] at h2
      rw [← Heap.size_push h { cls := .type "cell", data := .cell none }] at h1 h2
      refine cells_inj (h := h.push _) (fun p hp => ?_) (fun x y c a b => ?_) h1 h2
      · rw [Heap.size_push]
        rcases List.mem_cons.mp hp with rfl | hp
        · exact Nat.lt_succ_self _
        · exact Nat.lt_succ_of_lt (hl p hp)
      · rcases List.mem_cons.mp a with e | a <;> rcases List.mem_cons.mp b with e' | b
        · cases e; cases e'; rfl
        · cases e; exact absurd (hl _ b) (Nat.lt_irrefl _)
        · cases e'; exact absurd (hl _ a) (Nat.lt_irrefl _)
        · exact hi _ _ _ a b
    · rename_i hk
      rw [if_neg hk] at h2
      exact cells_inj hl hi h1 h2

theorem newEnv_comp {M : Model} {A : Around} {E : Value → Shared → Prop} {s : Shared} {scope : Scope} {globals : Addr} {closure : List (Str × Addr)} {qual : Str} {func : Option Addr} {code : Value} {around : Env} {builtins : Addr} {Q : Env → Shared → Prop}
    (h : Q (newEnv scope s.heap.objs.size globals (cellsFrom (s.heap.objs.size + 1) scope.names closure) qual func code (some around) builtins)
      { s with heap := pushCells (s.heap.push { cls := .type "dict", data := .dict #[] }) scope.names }) :
    wpAny M A (newFunctionEnv scope globals closure [] qual func code (some around) builtins) Q E s := by
  simp only [newFunctionEnv, Option.isSome_some, if_true]
  refine wpAny_bind (wpAny_alloc ?_)
  refine wpAny_bind (wpAny_layCells _ (fun n k c => rfl) scope.names closure _ _ ?_)
  rw [show ({ s with heap := s.heap.push { cls := .type "dict", data := .dict #[] } } : Shared).heap.objs.size = s.heap.objs.size + 1 from Heap.size_push ..]
  rw [List.forIn_nil]
  exact wpAny_bind (wpAny_pure (wpAny_pure h))

/-- every name of the written scope, in the scope that runs -/
theorem lookup_relS {sc : Scope} : ∀ {names : List (Str × NameKind)} {x : Str} {k : NameKind},
    (names.map fun (n, k) => if (k == NameKind.free && sc.kind == .function && sc.names.lookup n == some .cell) then (n, NameKind.cell) else (n, k)).lookup x = some k →
    ∃ k', names.lookup x = some k' ∧ (k = k' ∨ (k' = .free ∧ k = .cell))
  | [], _, _, h => by simp at h
  | (n, k₀) :: r, x, k, h => by
    have ih := @lookup_relS sc r x k
    have h' : List.lookup x ((if (k₀ == NameKind.free && sc.kind == .function && sc.names.lookup n == some .cell) = true then (n, NameKind.cell) else (n, k₀)) :: (r.map _)) = some k := h
    cases hx : x == n with
    | true =>
      simp only [List.lookup_cons, hx]
      by_cases hc : (k₀ == NameKind.free && sc.kind == .function && sc.names.lookup n == some .cell) = true
      · rw [if_pos hc] at h'
        simp only [List.lookup_cons, hx] at h'
        cases h'
        simp only [Bool.and_eq_true, beq_iff_eq] at hc
        exact ⟨k₀, rfl, .inr ⟨hc.1.1, rfl⟩⟩
      · rw [if_neg hc] at h'
        simp only [List.lookup_cons, hx] at h'
        cases h'
        exact ⟨_, rfl, .inl rfl⟩
    | false =>
      simp only [List.lookup_cons, hx]
      by_cases hc : (k₀ == NameKind.free && sc.kind == .function && sc.names.lookup n == some .cell) = true
      · rw [if_pos hc] at h'
        simp only [List.lookup_cons, hx] at h'
        exact ih h'
      · rw [if_neg hc] at h'
        simp only [List.lookup_cons, hx] at h'
        exact ih h'
/-- the names of a comprehension's block: its own (with their places in N), or captured -/
structure BlkOk (N : List Str) (sc scope : Scope) (own : List (Str × Nat)) : Prop where
  kind : scope.kind = .function
  uniq : ∀ y ∈ scope.names, scope.names.lookup y.1 = some y.2
  ix : ∀ p ∈ own, N[p.2]? = some p.1
  free : ∀ y ∈ scope.names, y.2 = .free → sc.names.lookup y.1 = some .cell ∨ sc.names.lookup y.1 = some .free
  own : ∀ y ∈ scope.names, y.2 = .local ∨ y.2 = .cell → y.1 ∈ own.map (·.1) ∨ y.1 ∉ N
/-- the slots of the block's own names forgotten -/
def wipe (σ : St) : List Nat → St
  | [] => σ
  | v :: vs => (wipe σ vs).set v none
theorem wipe_length (σ : St) : ∀ vs : List Nat, (wipe σ vs).length = σ.length
  | [] => rfl
  | v :: vs => by unfold wipe; rw [List.length_set, wipe_length σ vs]
theorem wipe_some {σ : St} {i : Nat} {x : V} : ∀ {vs : List Nat}, (wipe σ vs)[i]? = some (some x) → σ[i]? = some (some x) ∧ i ∉ vs
  | [], h => ⟨h, by simp⟩
  | v :: vs, h => by
    unfold wipe at h
    by_cases hi : v = i
    · subst hi
      by_cases hv : v < (wipe σ vs).length
      · rw [List.getElem?_set_self hv] at h; cases h
      · rw [List.getElem?_eq_none (by simpa using hv)] at h; cases h
    · rw [List.getElem?_set_ne hi] at h
      obtain ⟨h1, h2⟩ := wipe_some h
      exact ⟨h1, by simp only [List.mem_cons, not_or]; exact ⟨fun e => hi e.symm, h2⟩⟩

/-- the context of a block that starts at s, its iterator's objects at fp -/
abbrev Cx.blk (X : Cx) (s : Shared) (H : Hp) (scope : Scope) (cenv : Env) (fp : List Addr) : Cx := { X with s_0 := s, H_0 := H, env := cenv, outer := X.stack, ex := fp, fn := fun x => scope.names.lookup x == some .cell, pn := [], xe := fun _ _ => False }
section
variable {X : Cx} {pins : List (Addr × Obj)} {σ : St} {H : Hp} {s : Shared}
theorem block_start {scope : Scope} {own : List (Str × Nat)} {fp : List Addr} (I : Inv X pins σ H s) (ok : BlkOk X.N X.env.scope scope own) (hN : X.N.Nodup) (hfp : ∀ b ∈ fp, FpOk X pins H b ∧ b < s.heap.objs.size) :
    Inv (X.blk s H scope (compEnvC scope (cellsFrom (s.heap.objs.size + 1) scope.names (cloFrom X.env.cells scope.names [])) s.heap.objs.size X.env) fp) [] (wipe σ (own.map (·.2))) H { s with heap := pushCells (s.heap.push { cls := .type "dict", data := .dict #[] }) scope.names } := by
  have hfree : ∀ y ∈ scope.names, y.2 = .free → ∃ c, X.env.cells.lookup y.1 = some c := fun y hy e => by
    rcases ok.free y hy e with k | k
    · exact I.ok.has _ (.inl k)
    · exact I.ok.has _ (.inr k)
  generalize hcenv : compEnvC scope (cellsFrom (s.heap.objs.size + 1) scope.names (cloFrom X.env.cells scope.names [])) s.heap.objs.size X.env = cenv
  have kp : ∀ b o, s.heap.get? b = some o → (pushCells (s.heap.push { cls := .type "dict", data := .dict #[] }) scope.names).get? b = some o := fun b o e => pushCells_keeps _ _ _ _ (Heap.get?_push_of_some _ e)
  have hL : cenv.locals = s.heap.objs.size := by rw [← hcenv]; rfl
  have hcl : cenv.cells = cellsFrom (s.heap.objs.size + 1) scope.names (cloFrom X.env.cells scope.names []) := by rw [← hcenv]; rfl
  have hsc : cenv.scope = relS scope X.env.scope := by rw [← hcenv]; rfl
  rw [← Heap.size_push s.heap { cls := .type "dict", data := .dict #[] }] at hcl
  have cm : ∀ {y c}, (y, c) ∈ cloFrom X.env.cells scope.names [] → X.env.cells.lookup y = some c ∧ c < s.heap.objs.size := fun {y c} hm => by
    rcases cloFrom_mem hm with hm | ⟨h1, rfl⟩
    · cases hm
    · obtain ⟨c, hc⟩ := hfree _ h1 rfl
      rw [hc]
      obtain ⟨w, z⟩ := I.cell _ _ hc
      exact ⟨rfl, z.lt⟩
  have mem : ∀ {y c}, cenv.cells.lookup y = some c → (X.env.cells.lookup y = some c ∧ c < s.heap.objs.size) ∨ (s.heap.objs.size + 1 ≤ c ∧ CellAt (pushCells (s.heap.push { cls := .type "dict", data := .dict #[] }) scope.names) c none) := fun {y c} e => by
    rw [hcl] at e
    rcases cells_mem (PySem.mem_of_lookup e) with hm | ⟨_, h2, h3⟩
    · exact .inl (cm hm)
    · rw [Heap.size_push] at h2; exact .inr ⟨h2, h3⟩
  have look : ∀ {y}, scope.names.lookup y = some .free → ∃ c, cenv.cells.lookup y = some c ∧ X.env.cells.lookup y = some c := fun {y} hl => by
    have hy : (y, NameKind.free) ∈ scope.names := PySem.mem_of_lookup hl
    obtain ⟨c', e'⟩ := mem_lookup (cells_acc (names := scope.names) (n := (s.heap.push { cls := .type "dict", data := .dict #[] }).objs.size) (cloFrom_has (cells := X.env.cells) (acc := []) hy))
    rw [← hcl] at e'
    refine ⟨c', e', ?_⟩
    rw [hcl] at e'
    rcases cells_mem (PySem.mem_of_lookup e') with hm | ⟨h1, _, _⟩
    · exact (cm hm).1
    · have := ok.uniq _ h1
      rw [hl] at this; cases this
  have okB : (X.blk s H scope cenv fp).Ok := by
    refine ⟨I.ok.mod, by show cenv.scope.kind = _; rw [hsc]; exact ok.kind, by show cenv.globals = _; rw [← hcenv]; exact I.ok.glob, by show cenv.builtins = _; rw [← hcenv]; exact I.ok.blt, by show s.heap.objs.size ≤ cenv.locals; rw [hL]; exact Nat.le_refl _,
      fun y z c e1 e2 => ?_, fun y hy => ?_, fun y c z e => ?_, I.ok.hd, I.ok.frames, .inl rfl, fun b hb => ⟨?_, fun y c e z => ?_⟩, I.bs, Nat.le_trans I.ok.bsz I.sz, fun b o e hb => ?_, fun b hb z => ?_, I.stack, I.stkFree⟩
    · have e1 : cenv.cells.lookup y = some c := e1
      have e2 : cenv.cells.lookup z = some c := e2
      rw [hcl] at e1 e2
      refine cells_inj (fun p hp => ?_) (fun y z c a b => I.ok.inj y z c (cm a).1 (cm b).1) (PySem.mem_of_lookup e1) (PySem.mem_of_lookup e2)
      rw [Heap.size_push]
      exact Nat.lt_succ_of_lt (cm (y := p.1) (c := p.2) hp).2
    · show ∃ c, cenv.cells.lookup y = some c
      have key : ∀ k, cenv.kindOf y = some k → (k = .cell ∨ k = .free) → ∃ c, cenv.cells.lookup y = some c := fun k hk hk' => by
        unfold Env.kindOf at hk
        rw [hsc] at hk
        obtain ⟨k', e, r⟩ := lookup_relS hk
        have : k' = .cell ∨ k' = .free := by
          rcases r with rfl | ⟨rfl, _⟩
          · exact hk'
          · exact .inr rfl
        rcases this with rfl | rfl
        · obtain ⟨c, hm⟩ := cells_has (n := (s.heap.push { cls := .type "dict", data := .dict #[] }).objs.size) (acc := cloFrom X.env.cells scope.names []) (PySem.mem_of_lookup e)
          obtain ⟨c', e'⟩ := mem_lookup hm
          exact ⟨c', by rw [hcl]; exact e'⟩
        · obtain ⟨c, h1, _⟩ := look e
          exact ⟨c, h1⟩
      rcases hy with hy | hy
      · exact key _ hy (.inl rfl)
      · exact key _ hy (.inr rfl)
    · have z : (scope.names.lookup y == some NameKind.cell) = true := z
      have z : scope.names.lookup y = some .cell := by simpa using z
      have e : cenv.cells.lookup y = some c := e
      rw [hcl] at e
      rcases cells_mem (PySem.mem_of_lookup e) with hm | ⟨_, h2, _⟩
      · rcases cloFrom_mem hm with hm | ⟨h1, _⟩
        · cases hm
        · have q := ok.uniq _ h1
          rw [z] at q; cases q
      · rw [Heap.size_push] at h2
        exact Nat.le_of_succ_le h2
    · show b ≠ cenv.locals
      rw [hL]; exact Nat.ne_of_lt (hfp b hb).2
    · have e : cenv.cells.lookup y = some c := e
      rcases mem e with ⟨h1, _⟩ | ⟨h1, _⟩
      · exact (hfp b hb).1.2.2.2.2.1 y c h1 z
      · have h2 : s.heap.objs.size + 1 ≤ b := by rw [← z]; exact h1
        exact absurd (Nat.lt_of_lt_of_le (hfp b hb).2 (Nat.le_of_succ_le h2)) (Nat.lt_irrefl _)
    · rcases (hfp b hb).1.2.2.2.1 with z | z
      · exact I.ok.noex b o e z
      · exact absurd (Nat.lt_of_lt_of_le (Heap.lt_size e) (Nat.le_trans I.ok.bsz z)) (Nat.lt_irrefl _)
    · rcases List.mem_cons.mp (I.stkSub b z) with z | z
      · exact (hfp b hb).1.2.1 z
      · exact (hfp b hb).1.2.2.1 z
  refine ⟨okB, rfl, I.bare, Un.kept kp, ⟨fun _ => none, ?_, fun i y av e1 e2 e3 => ?_⟩, fun y c e => ?_, ?_, fun y c e => ?_, fun p hp => ?_, I.hok.kept kp, by rw [wipe_length]; exact I.len⟩
  · show Heap.Ns _ cenv.locals _
    rw [hL]
    exact Heap.Ns.keeps (Heap.Ns.new ..) fun b o e => pushCells_keeps _ _ _ _ e
  · obtain ⟨e2, hne⟩ := wipe_some e2
    have hfr : scope.names.lookup y = some .free ∧ (cenv.kindOf y = some .cell ∨ cenv.kindOf y = some .free) := by
      have key : ∀ k, cenv.scope.names.lookup y = some k → k = .local ∨ k = .cell ∨ k = .free → scope.names.lookup y = some .free ∧ (cenv.kindOf y = some .cell ∨ cenv.kindOf y = some .free) := fun k hk hk' => by
        have hk0 := hk
        rw [hsc] at hk
        obtain ⟨k', e, r⟩ := lookup_relS hk
        have no : ¬ (k' = .local ∨ k' = .cell) := fun hh => by
          rcases ok.own _ (PySem.mem_of_lookup e) hh with e' | e'
          · obtain ⟨p, hp, hpy⟩ := List.mem_map.mp e'
            have e3 := ok.ix p hp
            have : p.1 = y := hpy
            rw [this] at e3
            exact hne (List.mem_map.mpr ⟨p, hp, nodup_ix hN e3 e1⟩)
          · exact e' (List.mem_of_getElem? e1)
        rcases r with rfl | ⟨rfl, rfl⟩
        · rcases hk' with rfl | rfl | rfl
          · exact absurd (.inl rfl) no
          · exact absurd (.inr rfl) no
          · exact ⟨e, .inr hk0⟩
        · exact ⟨e, .inl hk0⟩
      have e3 : Vis cenv.scope y := e3
      rcases e3 with e3 | e3 | e3
      · exact key _ e3 (.inl rfl)
      · exact key _ e3 (.inr (.inl rfl))
      · exact key _ e3 (.inr (.inr rfl))
    obtain ⟨m, hn, hl⟩ := I.loc
    have hvis : Vis X.env.scope y := (ok.free _ (PySem.mem_of_lookup hfr.1) rfl).elim (fun k => .inr (.inl k)) (fun k => .inr (.inr k))
    obtain ⟨w, r, q⟩ := hl i y av e1 e2 hvis
    refine ⟨w, r, .inr ⟨hfr.2, ?_⟩⟩
    obtain ⟨c, h1, h2⟩ := look hfr.1
    rcases q with ⟨k, _⟩ | ⟨_, c', e', z⟩
    · have k : X.env.scope.names.lookup y = some .local := k
      rcases ok.free _ (PySem.mem_of_lookup hfr.1) rfl with k' | k' <;> rw [show X.env.scope.names.lookup y = _ from k'] at k <;> cases k
    · rw [h2] at e'; cases e'
      exact ⟨c, h1, z.keeps kp⟩
  · have e : cenv.cells.lookup y = some c := e
    rcases mem e with ⟨h1, _⟩ | ⟨_, z⟩
    · obtain ⟨w, z⟩ := I.cell y c h1
      exact ⟨w, z.keeps kp⟩
    · exact ⟨_, z⟩
  · show H cenv.locals = none
    rw [hL]; exact I.hok.fresh (Nat.le_refl _)
  · have e : cenv.cells.lookup y = some c := e
    rcases mem e with ⟨h1, _⟩ | ⟨h1, _⟩
    · exact I.freeC y c h1
    · exact I.hok.fresh (Nat.le_of_succ_le h1)
  · exact absurd (show p ∈ ([] : List (Addr × Obj)) ++ [] from hp) (by simp)

/-- an item appended to a tracked list -/
theorem app_ok {E : Value → Shared → Prop} {D : Addr} {xs : List V} {y : V} {v : Value} {Q : Value → Shared → Prop} (I : Inv X pins σ H s) (hD : H D = some (.lst xs)) (hz : xs.length < sizeLine) (r : RelV y v)
    (h : ∀ s', Inv X pins σ (upd H D (.lst (xs ++ [y]))) s' → Q .none s') : wpAny (model X.prog X.w) X.A (call (.builtin "list.append") [.ref D, v]) Q E s := by
  obtain ⟨hz', its, n, ri, e⟩ := I.hok D _ hD
  have hl := ri.length
  refine append_at (hsz := by rw [List.size_toArray]; omega) e fun h' sb ho' => ?_
  refine h { s with heap := h' } (I.write (t' := s.toks) (by rw [hD]; trivial) (.inl rfl) (fun b u hb q => (sb.2 b hb).trans q) ⟨_, ho'⟩ ⟨by rw [List.length_append]; exact hz, its ++ [v], n + 1, ri.append (.cons r .nil), ?_⟩)
  rw [ho']
  simp

/-- a clause's tests -/
def PTs (X : Cx) (ifs : List Expr) (t : TT) : Prop :=
  ∀ (pins : List (Addr × Obj)) (s : Shared) (σ : St) (H : Hp) (Q : Bool → Hp → Prop), Inv X pins σ H s → t σ H Q →
    wpAny (model X.prog X.w) X.A (forIn ifs true fun c r => if r = true then do let ok ← isTrue c X.env (eval c X.env); pure (ForInStep.yield ok) else pure (ForInStep.yield r)) (TP X pins σ Q) X.xe s
def tYes : TT := fun _ H Q => Q true H
theorem pts_nil : PTs X [] tYes := fun _ _ _ H _ I h => wpAny_tests_nil ⟨H, I, h⟩
theorem pts_one {c : Expr} {t : TT} (h : PT X c t) : PTs X [c] t := fun pins s σ H Q I hw => wpAny_tests_one (h pins s σ H Q I hw)
end

theorem thnF {α : Type} {t : Sem α} {Q Q' : α → Shared → Prop} {M : Model} {A : Around} {E : Value → Shared → Prop} {s : Shared} (h : wpAny M A t Q (fun _ _ => False) s) (hQ : ∀ a s, Q a s → Q' a s) : wpAny M A t Q' E s := wpAny_mono h hQ fun _ _ z => False.elim z

/-- the loop of a list comprehension's block, the target of any form (codeAny_compLoop_tests asks a target that no tuple goes to; statement and proof follow it, PyProof/CompMap.lean:41-61, with the step letOwnedTupleGo kept) -/
theorem compLoop_any {prog : Program} {w : World} {A : Around} {R : Result → Shared → Prop} {s : Shared} {elt target iter : Expr} {ifs : List Expr} {scope : Scope} {pos : Pos} {it acc : Value} {env : Env} (I : Nat → Shared → Prop)
    (turn : ∀ n s, I n s → wpAny (model prog w) A (pyNext it) (fun r s₁ => match r with
      | none => R (.ok .next) s₁
      | some v => wpAny (model prog w) A (letOwnedTupleGo target it v) (fun _ s₁' => wpAny (model prog w) A (assign target env v) (fun _ s₂ =>
          wpAny (model prog w) A (forIn ifs true fun c r => if r = true then do let ok ← isTrue c env (eval c env); pure (ForInStep.yield ok) else pure (ForInStep.yield r)) (fun ok s₃ =>
            if ok = true then wpAny (model prog w) A (eval elt env) (fun x s₄ =>
              wpAny (model prog w) A (call (.builtin "list.append") [acc, x]) (fun _ s₅ => ∃ m, m < n ∧ I m s₅) (notedBy (model prog w) A env fun e s' => R (.error e) s') s₄) (notedBy (model prog w) A env fun e s' => R (.error e) s') s₃
            else ∃ m, m < n ∧ I m s₃) (notedBy (model prog w) A env fun e s' => R (.error e) s') s₂) (notedBy (model prog w) A env fun e s' => R (.error e) s') s₁') (notedBy (model prog w) A env fun e s' => R (.error e) s') s₁) (notedBy (model prog w) A env fun e s' => R (.error e) s') s)
    (n : Nat) (h : I n s) :
    codeAny (model prog w) A (.compLoop (.ListComp elt [⟨target, iter, ifs, 0⟩] scope pos) 0 it acc env) R s := by
  refine codeAny_loop rfl I (fun n s hI => ?_) n h
  show wpAny _ A ((compTurn (.ListComp elt [⟨target, iter, ifs, 0⟩] scope pos) 0 it acc env).onRaise (fun x => do noteFrame x env; theTreesLotGoes x)) _ _ s
  refine wpAny_noted ?_
  rw [compTurn_list]
  refine wpAny_bind (wpAny_standAt (wpAny_bind (wpAny_mono (turn n s hI) (fun r s₁ h₁ => ?_) fun _ _ h' => h')))
  cases r with
  | none => exact wpAny_pure h₁
  | some v =>
    refine wpAny_bind (wpAny_mono h₁ (fun _ s₁' h₁' => ?_) fun _ _ h' => h')
    refine wpAny_bind (wpAny_mono h₁' (fun _ s₂ h₂ => wpAny_bind (wpAny_mono h₂ (fun ok s₃ h₃ => ?_) fun _ _ h' => h')) fun _ _ h' => h')
    cases ok with
    | false => exact wpAny_pure ⟨rfl, h₃⟩
    | true =>
      exact wpAny_bind (wpAny_bind (wpAny_mono h₃ (fun x s₄ h₄ => wpAny_bind (wpAny_mono h₄ (fun _ s₅ h₅ => wpAny_pure (wpAny_pure ⟨rfl, h₅⟩)) fun _ _ h' => h')) fun _ _ h' => h'))

section
variable {X : Cx}
/-- [elt for target in iter if ..]: D the new list; W by the turn and a measure, Nx what a turn is to reach -/
def tLc (wi : TI) (g : TG) (tt : TT) (te : TE) (vs : List Nat) : TE := fun σ H Q => wi σ H fun J H1 => ∀ D, H1 D = none → ∃ W : Nat → Nat → Hp → Prop, (∃ m, W 0 m (upd H1 D (.lst []))) ∧ ∀ i m H, W i m H →
  (J.stop i H ∧ Q (.ref D) H) ∨ (J.go i H ∧ ∃ Nx : Hp → Prop, (∀ H', Nx H' → ∃ m', m' < m ∧ W (i + 1) m' H') ∧ ∀ x H', J.yld i H x H' → g x (wipe σ vs) H' fun σ2 H2 => wipe σ2 vs = wipe σ vs ∧ tt σ2 H2 fun b H3 =>
    if b = true then te σ2 H3 fun y H4 => ∃ acc, H4 D = some (.lst acc) ∧ acc.length < sizeLine ∧ Nx (upd H4 D (.lst (acc ++ [y]))) else Nx H3)
theorem lc_core {pins : List (Addr × Obj)} {s : Shared} {σ : St} {H : Hp} {Q : VK} {elt tg iter : Expr} {ifs : List Expr} {scope : Scope} {own : List (Str × Nat)} {pos pos' : Pos} {wi : TI} {g : TG} {tt : TT} {te : TE} {use : Option (Value → Sem Unit)} {Qf : Value → Shared → Prop}
    (hc : X.calm = true) (hN : X.N.Nodup) (I : Inv X pins σ H s) (hi : PI X tg iter wi) (ok : BlkOk X.N X.env.scope scope own)
    (hg : ∀ (s : Shared) (H : Hp) (C : Addr) (cl : List (Str × Addr)) (fp : List Addr), PG (X.blk s H scope (compEnvC scope cl C X.env) fp) tg g) (ht : ∀ (s : Shared) (H : Hp) (C : Addr) (cl : List (Str × Addr)) (fp : List Addr), PTs (X.blk s H scope (compEnvC scope cl C X.env) fp) ifs tt)
    (he : ∀ (s : Shared) (H : Hp) (C : Addr) (cl : List (Str × Addr)) (fp : List Addr), PE (X.blk s H scope (compEnvC scope cl C X.env) fp) elt te) (hs : ∀ x, foldedSetIterable iter X.env x = pure x)
    (h : tLc wi g tt te (own.map (·.2)) σ H Q)
    (hRR : ∀ D C s' m H', Inv X pins σ H' s' → Q (.ref D) H' → s'.heap.Ns C m → FpOk X pins H' C → compPost (model X.prog X.w) X.A X.xe use Qf (.ref D) C (.ok .next) s') :
    wpAny (model X.prog X.w) X.A (comprehension (.ListComp elt [⟨tg, iter, ifs, 0⟩] scope pos) scope X.env pos' (newList []) false (eval iter X.env) use) Qf X.xe s := by
  have hfree : ∀ y ∈ scope.names, y.2 = .free → ∃ c, X.env.cells.lookup y.1 = some c := fun y hy e => by
    rcases ok.free y hy e with k | k
    · exact I.ok.has _ (.inl k)
    · exact I.ok.has _ (.inr k)
  refine wpAny_comprehension_free (use := use) rfl hs (closure_ok hfree) ok.kind (fun y hy e => by rw [ok.uniq y hy, e])
    (thn (hi pins s σ H _ I h) fun xv s1 hx => thn hx fun itv s2 h2 => ?_)
  obtain ⟨it, fp, tn, J, H2, e, I2, T, st2, f2, q⟩ := h2
  subst e
  refine wpAny_newObj_type (newEnv_comp ?_) (by show 0 ≤ sizeLine; decide)
  generalize hD : s2.heap.objs.size = D
  have hDn : H2 D = none := I2.hok.fresh (Nat.le_of_eq hD)
  obtain ⟨W, ⟨m0, w0⟩, turn⟩ := q D hDn
  -- the new list
  generalize hs3 : ({ s2 with heap := s2.heap.push { cls := .type "list", data := .seq ([] : List Value).toArray } } : Shared) = s3
  have I3 : Inv X pins σ (upd H2 D (.lst [])) s3 := by
    rw [← hs3]
    refine I2.laid (t' := s2.toks) (fun b o e => Heap.get?_push_of_some _ e) (Nat.le_of_eq hD) ⟨Nat.zero_le _, [], 0, .nil, ?_⟩
    rw [← hD]
    exact Heap.get?_push_size _ rfl
  have h3 : s3.heap = s2.heap.push { cls := .type "list", data := .seq ([] : List Value).toArray } := by rw [← hs3]
  have sz : ∀ b ∈ fp, b < s2.heap.objs.size := fun b hb => by
    obtain ⟨o, e, _⟩ := T.obj _ _ st2 b hb
    exact Heap.lt_size e
  have f3 : ∀ b ∈ fp, FpOk X pins (upd H2 D (.lst [])) b ∧ b < s3.heap.objs.size := fun b hb => by
    have hlt := sz b hb
    refine ⟨⟨?_, (f2 b hb).2⟩, by rw [h3, Heap.size_push]; exact Nat.lt_succ_of_lt hlt⟩
    rw [upd_ne (by rw [← hD]; exact Nat.ne_of_lt hlt)]
    exact (f2 b hb).1
  have st3 : tn 0 s3.heap := T.keep _ _ _ st2 fun b _ o e => by rw [h3]; exact Heap.get?_push_of_some _ e
  have I4 := block_start I3 ok hN f3
  have pg := hg s3 (upd H2 D (.lst [])) s3.heap.objs.size (cellsFrom (s3.heap.objs.size + 1) scope.names (cloFrom X.env.cells scope.names [])) fp
  have pt := ht s3 (upd H2 D (.lst [])) s3.heap.objs.size (cellsFrom (s3.heap.objs.size + 1) scope.names (cloFrom X.env.cells scope.names [])) fp
  have pe := he s3 (upd H2 D (.lst [])) s3.heap.objs.size (cellsFrom (s3.heap.objs.size + 1) scope.names (cloFrom X.env.cells scope.names [])) fp
  show codeAny _ _ (.compStart (.ListComp elt [⟨tg, iter, ifs, 0⟩] scope pos) 0 (.ref it) (.ref D) (compEnvC scope (cellsFrom (s3.heap.objs.size + 1) scope.names (cloFrom X.env.cells scope.names [])) s3.heap.objs.size X.env)) (compPost (model X.prog X.w) X.A X.xe use Qf (.ref D) s3.heap.objs.size) { s3 with heap := pushCells (s3.heap.push { cls := .type "dict", data := .dict #[] }) scope.names }
  have nfp : ∀ b ∈ fp, (upd H2 D (.lst [])) b = none := fun b hb => (f3 b hb).1.1
  generalize hce : compEnvC scope (cellsFrom (s3.heap.objs.size + 1) scope.names (cloFrom X.env.cells scope.names [])) s3.heap.objs.size X.env = ce at I4 pg pt pe ⊢
  have cL : ce.locals = s3.heap.objs.size := by subst hce; rfl
  generalize hH3 : upd H2 D (.lst []) = H3 at I3 I4 pg pt pe w0 nfp f3
  generalize hs4 : ({ s3 with heap := pushCells (s3.heap.push { cls := .type "dict", data := .dict #[] }) scope.names } : Shared) = s4 at I4 ⊢
  have st4 : tn 0 s4.heap := T.keep _ _ _ st3 fun b _ o e => by rw [← hs4]; exact pushCells_keeps _ _ _ _ (Heap.get?_push_of_some _ e)
  have stat : ∀ {σ' : St} {H' : Hp} {s' : Shared}, Inv (X.blk s3 H3 scope ce fp) [] σ' H' s' → (∀ b ∈ fp, H' b = none) → ∀ b ∈ fp, FpOk (X.blk s3 H3 scope ce fp) [] H' b := fun {σ' H' s'} I' hn b hb =>
    ⟨hn b hb, (I'.ok.exf b hb).1, I'.ok.exfs b hb, .inl hb, fun x c e => (I'.ok.exf b hb).2 x c e, fun p hp => absurd (show p ∈ ([] : List (Addr × Obj)) ++ [] from hp) (by simp)⟩
  have loop : codeAny (model X.prog X.w) X.A (.compLoop (.ListComp elt [⟨tg, iter, ifs, 0⟩] scope pos) 0 (.ref it) (.ref D) ce) (compPost (model X.prog X.w) X.A X.xe use Qf (.ref D) s3.heap.objs.size) s4 := by
    refine compLoop_any (fun n s' => ∃ i H', Inv (X.blk s3 H3 scope ce fp) [] (wipe σ (own.map (·.2))) H' s' ∧ tn i s'.heap ∧ (∀ b ∈ fp, H' b = none) ∧ W i n H') ?_ m0 ⟨0, H3, I4, st4, nfp, w0⟩
    rintro n s5 ⟨i, H5, I5, st5, n5, w5⟩
    rcases turn i n H5 w5 with ⟨stop, qq⟩ | ⟨go, Nx, hNx, step⟩
    · have td := T.done (X.blk s3 H3 scope ce fp) rfl rfl rfl hc i [] s5 _ H5 (fun _ _ => False) I5 (stat I5 n5) st5 stop
      refine thnF td fun r s6 ⟨hr, I6⟩ => ?_
      subst hr
      -- back in the def's context
      have I7 : Inv X pins σ H5 s6 := I3.call' (ch := fp) I6.os I6.base I6.hok I6.bare fun b hb => ⟨(f3 b hb).1.2.2.2.1, (f3 b hb).1.2.1, (f3 b hb).1.2.2.2.2.1, (f3 b hb).1.2.2.2.2.2⟩
      have nC : H5 s3.heap.objs.size = none := by
        have z : H5 ce.locals = none := I6.free
        rw [cL] at z
        exact z
      obtain ⟨m, hn, _⟩ := I6.loc
      have hn : s6.heap.Ns ce.locals m := hn
      rw [cL] at hn
      exact hRR D s3.heap.objs.size s6 m H5 I7 qq hn (I3.fpOk (Nat.le_refl _) nC)
    · have ti := T.item (X.blk s3 H3 scope ce fp) rfl rfl rfl hc i [] s5 _ H5 (fun _ _ => False) I5 (stat I5 n5) st5 go
      refine thnF ti fun r s6 ⟨u, hr, h6⟩ => ?_
      subst hr
      refine thnF h6 fun _ s7 ⟨x, H7, I7, r7, y7, st7, n7⟩ => ?_
      have I7' := I7.pinned (stat I7 n7) (T.obj _ _ st7)
      refine thnF (pg _ s7 _ H7 x u _ I7' r7 (step x H7 y7)) fun _ s8 ⟨σ8, H8, I8, hw8, q8⟩ => ?_
      refine thnF (pt _ s8 σ8 H8 _ I8 q8) fun b s9 ⟨H9, I9, q9⟩ => ?_
      -- the turn's end
      have fin : ∀ {s' : Shared} {H' : Hp}, Inv (X.blk s3 H3 scope ce fp) ([] ++ pinsAt fp s7.heap) σ8 H' s' → Nx H' → ∃ m, m < n ∧ ∃ i H', Inv (X.blk s3 H3 scope ce fp) [] (wipe σ (own.map (·.2))) H' s' ∧ tn i s'.heap ∧ (∀ b ∈ fp, H' b = none) ∧ W i m H' := fun {s' H'} I' nx => by
        obtain ⟨m', hm, w'⟩ := hNx H' nx
        have pin' : ∀ b ∈ fp, ∀ o, s7.heap.get? b = some o → s'.heap.get? b = some o ∧ H' b = none := fun b hb o e =>
          let z := I'.pin (b, o) (List.mem_append_right _ (List.mem_append_right _ (mem_pinsAt hb e)))
          ⟨z.1, z.2.1⟩
        have hl : (wipe σ (own.map (·.2))).length = σ8.length := by rw [← hw8, wipe_length]
        refine ⟨m', hm, i + 1, H', (I'.unpinned (pins := [])).weak hl (fun j v e => ?_), T.keep _ _ _ st7 fun b hb o e => (pin' b hb o e).1, fun b hb => ?_, w'⟩
        · rw [← hw8] at e
          exact (wipe_some e).1
        · obtain ⟨o, e, _⟩ := T.obj _ _ st7 b hb
          exact (pin' b hb o e).2
      cases b with
      | false =>
        simp only [Bool.false_eq_true, if_false] at q9 ⊢
        exact fin I9 q9
      | true =>
        simp only [if_true] at q9 ⊢
        refine thnF (pe _ s9 σ8 H9 _ I9 q9) fun z s10 ⟨yv, H10, I10, r10, acc, hD10, hz10, nx⟩ => ?_
        exact app_ok (X := X.blk s3 H3 scope ce fp) I10 hD10 hz10 r10 fun s11 I11 => fin I11 nx
  exact codeAny_compStart_list loop (T.self X.A 0 _ _ _ st4 loop)
/-- as a value -/
theorem pe_lc {elt tg iter : Expr} {ifs : List Expr} {scope : Scope} {own : List (Str × Nat)} {pos : Pos} {wi : TI} {g : TG} {tt : TT} {te : TE} (hc : X.calm = true) (hN : X.N.Nodup) (hi : PI X tg iter wi) (ok : BlkOk X.N X.env.scope scope own)
    (hg : ∀ (s : Shared) (H : Hp) (C : Addr) (cl : List (Str × Addr)) (fp : List Addr), PG (X.blk s H scope (compEnvC scope cl C X.env) fp) tg g) (ht : ∀ (s : Shared) (H : Hp) (C : Addr) (cl : List (Str × Addr)) (fp : List Addr), PTs (X.blk s H scope (compEnvC scope cl C X.env) fp) ifs tt)
    (he : ∀ (s : Shared) (H : Hp) (C : Addr) (cl : List (Str × Addr)) (fp : List Addr), PE (X.blk s H scope (compEnvC scope cl C X.env) fp) elt te) (hs : ∀ x, foldedSetIterable iter X.env x = pure x := by intro _; rfl) :
    PE X (.ListComp elt [⟨tg, iter, ifs, 0⟩] scope pos) (tLc wi g tt te (own.map (·.2))) := by
  intro pins s σ H Q I h
  rw [eval_ListComp]
  refine lc_core hc hN I hi ok hg ht he hs h fun D C s' m H' I' q hn f => ⟨m, hn, fun h'' sb => ?_⟩
  obtain ⟨f0, f1, f2, f3, f4, f5⟩ := f
  exact ⟨.ref D, H', I'.turned (t' := s'.toks) (fun b o hb e => (sb.2 b hb).trans e) f0 f1 f3 f4 f5, rfl, q⟩
/-- name = [..] on one line, the name a local -/
theorem ps_setLc {i : Nat} {y : Str} {py : Pos} {elt tg iter : Expr} {ifs : List Expr} {scope : Scope} {own : List (Str × Nat)} {pos spos : Pos} {wi : TI} {g : TG} {tt : TT} {te : TE} (hc : X.calm = true) (hN : X.N.Nodup) (hy : X.N[i]? = some y) (hyl : X.env.scope.names.lookup y = some .local)
    (hsw : swapsWith (.ListComp elt [⟨tg, iter, ifs, 0⟩] scope pos) (some (.Name y py)) spos.line X.env = pure true) (hi : PI X tg iter wi) (ok : BlkOk X.N X.env.scope scope own)
    (hg : ∀ (s : Shared) (H : Hp) (C : Addr) (cl : List (Str × Addr)) (fp : List Addr), PG (X.blk s H scope (compEnvC scope cl C X.env) fp) tg g) (ht : ∀ (s : Shared) (H : Hp) (C : Addr) (cl : List (Str × Addr)) (fp : List Addr), PTs (X.blk s H scope (compEnvC scope cl C X.env) fp) ifs tt)
    (he : ∀ (s : Shared) (H : Hp) (C : Addr) (cl : List (Str × Addr)) (fp : List Addr), PE (X.blk s H scope (compEnvC scope cl C X.env) fp) elt te) (hs : ∀ x, foldedSetIterable iter X.env x = pure x := by intro _; rfl) :
    PS X (.Assign [.Name y py] (.ListComp elt [⟨tg, iter, ifs, 0⟩] scope pos) spos) (tAsg (tLc wi g tt te (own.map (·.2))) (gName i)) := by
  intro pins s σ H D I h
  rw [exec_Assign_Name_used _ _ _ _ hsw]
  refine wpAny_bind (wpAny_standAt (wpAny_bind ?_))
  show wpAny _ X.A (do let _ ← comprehension (.ListComp elt [⟨tg, iter, ifs, 0⟩] scope pos) scope X.env (firstIterPos [⟨tg, iter, ifs, 0⟩] pos) (newList []) false (eval iter X.env) (some (assign (.Name y py) X.env))) _ _ s
  have h : tLc wi g tt te (own.map (·.2)) σ H (fun x H1 => gName i x σ H1 D.nx) := h
  refine wpAny_bind (thn (lc_core (Qf := fun _ s' => SP X pins D .next s') hc hN I hi ok hg ht he hs h fun L C s' m H' I' q hn f => ?_) fun _ s' hq => wpAny_pure (wpAny_pure hq))
  show wpAny _ _ (assign (.Name y py) X.env (.ref L)) _ _ _
  refine wpAny_assign_Name (store_ok2 (v := V.ref L) I' hN hy (.inl hyl) rfl (fun s2 I2 ⟨a, sb, ha⟩ => ?_) (.inr hyl))
  obtain ⟨f0, f1, f2, f3, f4, f5⟩ := f
  have haC : C ≠ a := by
    rcases ha with z | z
    · rw [z]; exact f1
    · exact fun e => f4 y a z e.symm
  refine ⟨m, hn.sameBut sb haC, fun h3 sb3 => ?_⟩
  exact ⟨_, H', I2.turned (t' := s2.toks) (fun b o hb e => (sb3.2 b hb).trans e) f0 f1 f3 f4 f5, q⟩
theorem sw_true {elt : Expr} {gs : List Comprehension} {scope : Scope} {pos py : Pos} {y : Str} {l : Nat} {env : Env} (hk : env.scope.kind = .function) (hy : env.scope.names.lookup y = some .local) (hl : (py.line == pos.line) = true)
    (ha : (scope.names.any fun (n, k) => n == y && (k == .local || k == .cell)) = false) : swapsWith (.ListComp elt gs scope pos) (some (.Name y py)) l env = pure true := by
  have ky : env.kindOf y = some .local := hy
  have hb : env.blockKind = .function := by unfold Env.blockKind; rw [hk]; rfl
  unfold swapsWith
  simp only [hb, ky, ha, Expr.pos, hl]
  rfl
end

/-! ### the forms one uses -/
/-- over a list that the block leaves as it is -/
theorem lc_list {K : PySem.W.Frag} {a : Addr} {xs : List V} {g : TG} {tt : TT} {te : TE} {vs : List Nat} {σ : St} {H1 : Hp} {D : Addr} {Qd : Hp → Prop} (Pv : Nat → Hp → Prop) (h0 : Pv 0 (upd H1 D (.lst []))) (hl : ∀ i H, i ≤ xs.length → Pv i H → SqL K H a xs)
    (hs : ∀ i x H, xs[i]? = some x → Pv i H → g x (wipe σ vs) H fun σ2 H2 => wipe σ2 vs = wipe σ vs ∧ tt σ2 H2 fun b H3 =>
      if b = true then te σ2 H3 fun y H4 => ∃ acc, H4 D = some (.lst acc) ∧ acc.length < sizeLine ∧ Pv (i + 1) (upd H4 D (.lst (acc ++ [y]))) else Pv (i + 1) H3) (hd : ∀ H, Pv xs.length H → Qd H) :
    ∃ W : Nat → Nat → Hp → Prop, (∃ m, W 0 m (upd H1 D (.lst []))) ∧ ∀ i m H, W i m H →
      ((Itl K a).stop i H ∧ Qd H) ∨ ((Itl K a).go i H ∧ ∃ Nx : Hp → Prop, (∀ H', Nx H' → ∃ m', m' < m ∧ W (i + 1) m' H') ∧ ∀ x H', (Itl K a).yld i H x H' → g x (wipe σ vs) H' fun σ2 H2 => wipe σ2 vs = wipe σ vs ∧ tt σ2 H2 fun b H3 =>
        if b = true then te σ2 H3 fun y H4 => ∃ acc, H4 D = some (.lst acc) ∧ acc.length < sizeLine ∧ Nx (upd H4 D (.lst (acc ++ [y]))) else Nx H3) := by
  refine ⟨fun i m H => m = xs.length - i ∧ i ≤ xs.length ∧ Pv i H, ⟨xs.length, by simp, Nat.zero_le _, h0⟩, ?_⟩
  rintro i m H ⟨rfl, hi, p⟩
  have q := hl i H hi p
  by_cases hlt : i < xs.length
  · refine .inr ⟨⟨xs, xs[i], q, by simp [hlt]⟩, Pv (i + 1), fun H' p' => ⟨xs.length - (i + 1), by omega, rfl, hlt, p'⟩, fun x H' y => ?_⟩
    obtain ⟨e, y⟩ := y
    subst e
    exact hs i x _ (y xs q) p
  · have e : i = xs.length := by omega
    subst e
    exact .inl ⟨⟨xs, q, Nat.le_refl _⟩, hd H p⟩
def blkC (N : List Str) (sc scope : Scope) (own : List (Str × Nat)) : Bool :=
  (match scope.kind with | .function => true | _ => false) && (scope.names.all fun y => decide (scope.names.lookup y.1 = some y.2)) && (own.all fun p => decide (N[p.2]? = some p.1)) &&
    (scope.names.all fun y => match y.2 with
      | .free => (match sc.names.lookup y.1 with | some .cell => true | some .free => true | _ => false)
      | .local => decide (y.1 ∈ own.map (·.1)) || decide (y.1 ∉ N)
      | .cell => decide (y.1 ∈ own.map (·.1)) || decide (y.1 ∉ N)
      | _ => true)
theorem blkOk_by {N : List Str} {sc scope : Scope} {own : List (Str × Nat)} (h : blkC N sc scope own = true) : BlkOk N sc scope own := by
  unfold blkC at h
  simp only [Bool.and_eq_true, List.all_eq_true, decide_eq_true_eq] at h
  obtain ⟨⟨⟨h1, h2⟩, h3⟩, h4⟩ := h
  refine ⟨?_, h2, h3, fun y hy e => ?_, fun y hy e => ?_⟩
  · split at h1
    · assumption
    · cases h1
  · have q := h4 y hy
    simp only [e] at q
    split at q <;> first | exact .inl (by assumption) | exact .inr (by assumption) | cases q
  · have q := h4 y hy
    rcases e with e | e <;> (simp only [e, Bool.or_eq_true, decide_eq_true_eq] at q; exact q)
end L2

namespace L2
open PySem PySem.Spec PyProof.Rows

section
variable {prog : Program} {w : World} {A : Around} {R : Result → Shared → Prop} {s : Shared} {elt t0 i0 t1 i1 : Expr} {ifs0 ifs1 : List Expr} {scope : Scope} {pos : Pos} {it acc : Value} {env : Env}
end

section
variable {X : Cx}
end
end L2

namespace L2
open PySem PySem.Spec PyProof.Rows

/-! ### lists of pairs as tables -/
section
variable {κ : Type} [DecidableEq κ]
def valV (kvs : List (κ × V)) (k : κ) : Option V := (kvs.find? fun kv => decide (kv.1 = k)).map (·.2)
/-- in its place, or at the end -/
def putK (kvs : List (κ × V)) (k : κ) (v : V) : List (κ × V) :=
  if (kvs.any fun kv => decide (kv.1 = k)) = true then kvs.map (fun kv => if kv.1 = k then (kv.1, v) else kv) else kvs ++ [(k, v)]
theorem valV_pos {p : κ × V} {r : List (κ × V)} {k : κ} (e : p.1 = k) : valV (p :: r) k = some p.2 := by simp [valV, List.find?_cons, e]
theorem valV_neg {p : κ × V} {r : List (κ × V)} {k : κ} (e : ¬ p.1 = k) : valV (p :: r) k = valV r k := by simp [valV, List.find?_cons, e]
theorem valV_any (k : κ) : ∀ kvs : List (κ × V), (kvs.any fun kv => decide (kv.1 = k)) = (valV kvs k).isSome
  | [] => rfl
  | p :: r => by
    rw [List.any_cons]
    by_cases e : p.1 = k
    · simp only [valV_pos e, decide_eq_true e, Bool.true_or, Option.isSome_some]
    · rw [valV_neg e, decide_eq_false e, Bool.false_or]; exact valV_any k r
theorem valV_map (k j : κ) (y : V) : ∀ kvs : List (κ × V), valV (kvs.map fun kv => if kv.1 = k then (kv.1, y) else kv) j = (valV kvs j).map fun x => if j = k then y else x
  | [] => rfl
  | p :: r => by
    have ih := valV_map k j y r
    rw [List.map_cons]
    by_cases h : p.1 = k
    · rw [if_pos h]
      by_cases e : p.1 = j
      · rw [valV_pos (p := (p.1, y)) e, valV_pos e, Option.map_some, if_pos (e.symm.trans h)]
      · rw [valV_neg (p := (p.1, y)) e, valV_neg e, ih]
    · rw [if_neg h]
      by_cases e : p.1 = j
      · rw [valV_pos (p := p) e, valV_pos e, Option.map_some, if_neg (fun z => h (e.trans z))]
      · rw [valV_neg (p := p) e, valV_neg e, ih]
theorem valV_snoc (k j : κ) (y : V) : ∀ kvs : List (κ × V), valV kvs k = none → valV (kvs ++ [(k, y)]) j = if j = k then some y else valV kvs j
  | [], _ => by
    by_cases e : k = j
    · rw [if_pos e.symm]; exact valV_pos (p := (k, y)) e
    · rw [if_neg (fun z => e z.symm)]; exact valV_neg (p := (k, y)) e
  | p :: r, hn => by
    rw [List.cons_append]
    have hk : ¬ p.1 = k := fun z => by rw [valV_pos z] at hn; cases hn
    rw [valV_neg hk] at hn
    have ih := valV_snoc k j y r hn
    by_cases e : p.1 = j
    · rw [valV_pos e, valV_pos e, if_neg (fun z => hk (e.trans z))]
    · rw [valV_neg e, valV_neg e, ih]
theorem valV_put (kvs : List (κ × V)) (k j : κ) (y : V) : valV (putK kvs k y) j = if j = k then some y else valV kvs j := by
  unfold putK
  by_cases a : (kvs.any fun kv => decide (kv.1 = k)) = true
  · rw [if_pos a, valV_map]
    rw [valV_any] at a
    by_cases e : j = k
    · obtain ⟨x, hx⟩ := Option.isSome_iff_exists.mp a
      rw [if_pos e, e, hx, Option.map_some, if_pos rfl]
    · rw [if_neg e]
      cases valV kvs j with
      | none => rfl
      | some x => rw [Option.map_some, if_neg e]
  · rw [if_neg a]
    refine valV_snoc k j y kvs ?_
    rw [valV_any] at a
    cases q : valV kvs k with
    | none => rfl
    | some x => rw [q] at a; exact (a rfl).elim
theorem length_putK (kvs : List (κ × V)) (k : κ) (v : V) : (putK kvs k v).length ≤ kvs.length + 1 := by
  unfold putK
  split
  · rw [List.length_map]; omega
  · rw [List.length_append, List.length_cons, List.length_nil]; omega
theorem RelO.isSome_eq {o : Option V} {u : Option Value} (r : RelO o u) : o.isSome = u.isSome := by
  cases o with
  | none => cases u with
    | none => rfl
    | some _ => exact (show False from r).elim
  | some _ => cases u with
    | none => exact (show False from r).elim
    | some _ => rfl
theorem RelO.getD {o : Option V} {u : Option Value} {d : V} {d' : Value} (r : RelO o u) (rd : RelV d d') : RelV (o.getD d) (u.getD d') := by
  cases o with
  | none => cases u with
    | none => exact rd
    | some _ => exact (show False from r).elim
  | some _ => cases u with
    | none => exact (show False from r).elim
    | some _ => exact r

/-- raw tables of the same keys -/
theorem KV.val {kvs : List (κ × V)} {vs : List (κ × Value)} (r : KV kvs vs) (k : κ) : RelO (valV kvs k) (valueAt vs k) := by
  unfold KV at r
  induction r with
  | nil => exact True.intro
  | @cons p q ps qs h t ih =>
    obtain ⟨h1, h2⟩ := h
    by_cases e : p.1 = k
    · have e' : q.1 = k := h1.symm.trans e
      have b : valueAt (q :: qs) k = some q.2 := by simp [valueAt, List.find?_cons, e']
      rw [valV_pos e, b]; exact h2
    · have e' : ¬ q.1 = k := fun z => e (h1.trans z)
      have b : valueAt (q :: qs) k = valueAt qs k := by simp [valueAt, List.find?_cons, e']
      rw [valV_neg e, b]; exact ih
theorem KV.any {kvs : List (κ × V)} {vs : List (κ × Value)} (r : KV kvs vs) (k : κ) : (kvs.any fun kv => decide (kv.1 = k)) = vs.any fun kv => decide (kv.1 = k) := by
  unfold KV at r
  induction r with
  | nil => rfl
  | cons h t ih => rw [List.any_cons, List.any_cons, ih, h.1]
theorem KV.repl {kvs : List (κ × V)} {vs : List (κ × Value)} (r : KV kvs vs) (k : κ) {y : V} {u : Value} (ry : RelV y u) :
    KV (kvs.map fun kv => if kv.1 = k then (kv.1, y) else kv) (vs.map fun kv => if kv.1 = k then (kv.1, u) else kv) := by
  unfold KV at r ⊢
  induction r with
  | nil => exact .nil
  | @cons p q ps qs h t ih =>
    rw [List.map_cons, List.map_cons]
    refine .cons ?_ ih
    obtain ⟨h1, h2⟩ := h
    by_cases e : p.1 = k
    · rw [if_pos e, if_pos (h1.symm.trans e)]; exact ⟨h1, ry⟩
    · rw [if_neg e, if_neg (fun z => e (h1.trans z))]; exact ⟨h1, h2⟩
theorem KV.put {kvs : List (κ × V)} {vs : List (κ × Value)} (r : KV kvs vs) (k : κ) {y : V} {u : Value} (ry : RelV y u) : KV (putK kvs k y) (stored vs k u) := by
  unfold putK stored
  rw [r.any k]
  by_cases e : (vs.any fun kv => decide (kv.1 = k)) = true
  · rw [if_pos e, if_pos e]; exact r.repl k ry
  · rw [if_neg e, if_neg e]; exact Paired.snoc r ⟨rfl, ry⟩
theorem KV.length {kvs : List (κ × V)} {vs : List (κ × Value)} (r : KV kvs vs) : kvs.length = vs.length := Paired.length r
end


/-! ### a tracked dict, its keys ints and texts or tuples of these -/
theorem kV_is {P : Program} {w : World} {k : Key} {u : Value} (r : RelV (kV k) u) : (mixKind P w).is k u = true := by
  cases k with
  | inl i => obtain ⟨t, e⟩ := (show ∃ t, u = Value.int i t from r); subst e; exact mixKind_int P w i t
  | inr x => obtain ⟨t, e⟩ := (show ∃ t, u = Value.str x t from r); subst e; exact mixKind_str P w x t
theorem items_are {P : Program} {w : World} : ∀ {ks : List Key} {us : List Value}, Vals (ks.map kV) us → ItemsAre (mixKind P w) ks us
  | [], _, r => by rw [List.map_nil] at r; cases r; exact .nil
  | k :: ks, _, r => by
    rw [List.map_cons] at r
    cases r with
    | cons h t => exact .cons (kV_is h) (items_are t)

/-- raw entries of a dict with tuple keys -/
abbrev KT (H : Hp) : List (List Key × V) → List (List Key × Addr × Value) → Prop := Paired fun p q => p.1 = q.1 ∧ H q.2.1 = some (.tup (p.1.map kV)) ∧ RelV p.2 q.2.2
theorem KT.val {H : Hp} {kvs : List (List Key × V)} {xs : List (List Key × Addr × Value)} (r : KT H kvs xs) (k : List Key) : RelO (valV kvs k) ((atKey xs k).map (·.2)) := by
  induction r with
  | nil => exact True.intro
  | @cons p q ps qs h t ih =>
    obtain ⟨h1, _, h2⟩ := h
    by_cases e : p.1 = k
    · have e' : q.1 = k := h1.symm.trans e
      have b : atKey (q :: qs) k = some q.2 := by simp [atKey, List.find?_cons, e']
      rw [valV_pos e, b]; exact h2
    · have e' : ¬ q.1 = k := fun z => e (h1.trans z)
      have b : atKey (q :: qs) k = atKey qs k := by simp [atKey, List.find?_cons, e']
      rw [valV_neg e, b]; exact ih
theorem KT.repl {H : Hp} {kvs : List (List Key × V)} {xs : List (List Key × Addr × Value)} (r : KT H kvs xs) (k : List Key) {y : V} {u : Value} (ry : RelV y u) :
    KT H (kvs.map fun kv => if kv.1 = k then (kv.1, y) else kv) (xs.map (putAt k u)) := by
  induction r with
  | nil => exact .nil
  | @cons p q ps qs h t ih =>
    rw [List.map_cons, List.map_cons]
    refine .cons ?_ ih
    obtain ⟨h1, h2, h3⟩ := h
    unfold putAt
    by_cases e : p.1 = k
    · rw [if_pos e, if_pos (h1.symm.trans e)]; exact ⟨h1, h2, ry⟩
    · rw [if_neg e, if_neg (fun z => e (h1.trans z))]; exact ⟨h1, h2, h3⟩
theorem KT.put {H : Hp} {kvs : List (List Key × V)} {xs : List (List Key × Addr × Value)} (r : KT H kvs xs) (k : List Key) {b : Addr} {y : V} {u : Value} (hb : H b = some (.tup (k.map kV))) (ry : RelV y u) :
    KT H (putK kvs k y) (storedH xs k b u) := by
  have e : (kvs.any fun kv => decide (kv.1 = k)) = (atKey xs k).isSome := by
    rw [valV_any, (r.val k).isSome_eq, Option.isSome_map]
  unfold putK storedH
  rw [e]
  by_cases q : (atKey xs k).isSome = true
  · rw [if_pos q, if_pos q]; exact r.repl k ry
  · rw [if_neg q, if_neg q]; exact Paired.snoc r ⟨rfl, hb, ry⟩
theorem KT.keeps {H H' : Hp} {kvs : List (List Key × V)} {xs : List (List Key × Addr × Value)} (r : KT H kvs xs) (ht : ∀ b ys, H b = some (.tup ys) → H' b = some (.tup ys)) : KT H' kvs xs :=
  Paired.mapP r fun _ _ z => ⟨z.1, ht _ _ z.2.1, z.2.2⟩

section
variable {P : Program} {w : World} {H : Hp} {h : Heap} {a : Addr}
theorem rd_of {u : HO} (ok : HOk P w H h) (e : Rd H a u) : ObjOk P w H h a u := e.ok ok
theorem dk_rd {kvs : List (Key × V)} (ok : HOk P w H h) (e : Rd H a (.dK kvs)) : kvs.length ≤ sizeLine ∧ (a == sysModules) = false ∧ ∃ vs, KV kvs vs ∧ h.DictOf (mixKind P w) a vs :=
  show ObjOk P w H h a (.dK kvs) from rd_of ok e
theorem dk_of {kvs : List (Key × V)} (ok : HOk P w H h) (e : H a = some (.dK kvs)) : kvs.length ≤ sizeLine ∧ (a == sysModules) = false ∧ ∃ vs, KV kvs vs ∧ h.DictOf (mixKind P w) a vs := dk_rd ok (.inl e)
/-- a tracked tuple of ints and texts is a key -/
theorem key_of {ks : List Key} (ok : HOk P w H h) (e : H a = some (.tup (ks.map kV))) : (tupleKind (mixKind P w)).is h ks a := by
  obtain ⟨_, its, r, o, h1, h2, n, h3⟩ := (show ObjOk P w H h a (.tup (ks.map kV)) from ok a _ e)
  exact ⟨o, its.toArray, n, h1, h2, h3, by simpa using items_are r⟩
theorem dt_rd {kvs : List (List Key × V)} (ok : HOk P w H h) (e : Rd H a (.dT kvs)) : kvs.length ≤ sizeLine ∧ (a == sysModules) = false ∧
    ∃ xs, KT H kvs xs ∧ h.DictOfH (tupleKind (mixKind P w)) a xs := by
  obtain ⟨z, y, xs, r, o, es, ep, h1, h2, h3, h4, h5⟩ := (show ObjOk P w H h a (.dT kvs) from rd_of ok e)
  refine ⟨z, y, xs, r, o, es, ep, h1, h2, h3, h4, fun x hx => ?_, h5⟩
  have all : ∀ {l : List (List Key × V)} {m : List (List Key × Addr × Value)}, KT H l m → ∀ x ∈ m, (tupleKind (mixKind P w)).is h x.1 x.2.1 := by
    intro l m q
    induction q with
    | nil => intro x hx; exact nomatch hx
    | @cons p q ps qs hq t ih =>
      intro x hx
      rcases List.mem_cons.mp hx with e | hx
      · subst e
        exact key_of ok (by rw [← hq.1]; exact hq.2.1)
      · exact ih x hx
  exact all r x hx
theorem dt_of {kvs : List (List Key × V)} (ok : HOk P w H h) (e : H a = some (.dT kvs)) : kvs.length ≤ sizeLine ∧ (a == sysModules) = false ∧
    ∃ xs, KT H kvs xs ∧ h.DictOfH (tupleKind (mixKind P w)) a xs := dt_rd ok (.inl e)
end

/-- what the dict at a holds at the key y -/
def DGet (H : Hp) (a : Addr) (y : V) (r : Option V) : Prop :=
  (∃ kvs k, Rd H a (.dK kvs) ∧ y = kV k ∧ r = valV kvs k) ∨ ∃ kvs k b, Rd H a (.dT kvs) ∧ y = .ref b ∧ H b = some (.tup (k.map kV)) ∧ r = valV kvs k
/-- the heap behind a[y] = v -/
def DPut (H : Hp) (a : Addr) (y v : V) (H' : Hp) : Prop :=
  (∃ kvs k, H a = some (.dK kvs) ∧ y = kV k ∧ kvs.length < sizeLine ∧ H' = upd H a (.dK (putK kvs k v))) ∨
  ∃ kvs k b, H a = some (.dT kvs) ∧ y = .ref b ∧ H b = some (.tup (k.map kV)) ∧ kvs.length < sizeLine ∧ H' = upd H a (.dT (putK kvs k v))
theorem DGet.k {H : Hp} {a : Addr} {kvs : List (Key × V)} {k : Key} (e : H a = some (.dK kvs)) : DGet H a (kV k) (valV kvs k) := .inl ⟨kvs, k, .inl e, rfl, rfl⟩
theorem DPut.k {H : Hp} {a : Addr} {kvs : List (Key × V)} {k : Key} {v : V} (e : H a = some (.dK kvs)) (hl : kvs.length < sizeLine) : DPut H a (kV k) v (upd H a (.dK (putK kvs k v))) := .inl ⟨kvs, k, e, rfl, hl, rfl⟩
section
variable {X : Cx} {pins : List (Addr × Obj)} {σ : St} {H : Hp} {s : Shared} {a : Addr} {y v : V} {u r : Value} {o : Option V} {A : Around} {E : Value → Shared → Prop}

theorem Inv.big (I : Inv X pins σ H s) : sysModules < s.heap.objs.size := by
  have h : mainGlobals < s.heap.objs.size := (I.mod.glob.keeps I.bk).lt
  exact Nat.lt_trans (by decide) h

/-- d[y], there -/
theorem d_getItem {Q : Value → Shared → Prop} (hu : A.units + 1 < cLine) (I : Inv X pins σ H s) (g : DGet H a y (some v)) (ry : RelV y u) (h : ∀ w' s', Inv X pins σ H s' → RelV v w' → Q w' s') :
    wpAny (model X.prog X.w) A (getItem (.ref a) u) Q E s := by
  rcases g with ⟨kvs, k, e, ey, l⟩ | ⟨kvs, k, b, e, ey, eb, l⟩
  · subst ey
    obtain ⟨z, hd, vs, rel, dd⟩ := dk_rd I.hok e
    obtain ⟨w', hw, rw'⟩ := RelO.some_of (v := v) (o := valueAt vs k) (by rw [l]; exact rel.val k)
    exact wpAny_getItem_of (kV_is ry) dd.mapOf hw (h w' _ (I.tok _) rw')
  · subst ey
    cases (show u = Value.ref b from ry)
    obtain ⟨z, hd, xs, rel, dd⟩ := dt_rd I.hok e
    obtain ⟨w', hw, rw'⟩ := RelO.some_of (v := v) (o := (atKey xs k).map (·.2)) (by rw [l]; exact rel.val k)
    obtain ⟨p, hp, hp2⟩ := Option.map_eq_some_iff.mp hw
    refine wpAny_getItem_heap (tupleKind_room_in1 hu) (key_of I.hok eb) dd hp ?_
    rw [hp2]
    exact h w' _ (I.tok _) rw'
/-- y in d -/
theorem d_in {Q : Value → Shared → Prop} (hu : A.units + 1 < cLine) (I : Inv X pins σ H s) (g : DGet H a y o) (ry : RelV y u) (h : ∀ s', Inv X pins σ H s' → Q (.bool o.isSome) s') :
    wpAny (model X.prog X.w) A (compareOp .In u (.ref a)) Q E s := by
  rcases g with ⟨kvs, k, e, ey, l⟩ | ⟨kvs, k, b, e, ey, eb, l⟩
  · subst ey
    obtain ⟨z, hd, vs, rel, dd⟩ := dk_rd I.hok e
    refine wpAny_in_of (kV_is ry) hd dd.mapOf ?_
    rw [← (rel.val k).isSome_eq, ← l]
    exact h _ (I.tok _)
  · subst ey
    cases (show u = Value.ref b from ry)
    obtain ⟨z, hd, xs, rel, dd⟩ := dt_rd I.hok e
    refine wpAny_in_heap (tupleKind_room_in1 hu) (key_of I.hok eb) hd dd ?_
    have q := (rel.val k).isSome_eq
    rw [Option.isSome_map] at q
    rw [← q, ← l]
    exact h _ (I.tok _)
theorem d_notIn {Q : Value → Shared → Prop} (hu : A.units + 1 < cLine) (I : Inv X pins σ H s) (g : DGet H a y o) (ry : RelV y u) (h : ∀ s', Inv X pins σ H s' → Q (.bool (!o.isSome)) s') :
    wpAny (model X.prog X.w) A (compareOp .NotIn u (.ref a)) Q E s := by
  rcases g with ⟨kvs, k, e, ey, l⟩ | ⟨kvs, k, b, e, ey, eb, l⟩
  · subst ey
    obtain ⟨z, hd, vs, rel, dd⟩ := dk_rd I.hok e
    refine wpAny_notIn_of (kV_is ry) hd dd.mapOf ?_
    rw [← (rel.val k).isSome_eq, ← l]
    exact h _ (I.tok _)
  · subst ey
    cases (show u = Value.ref b from ry)
    obtain ⟨z, hd, xs, rel, dd⟩ := dt_rd I.hok e
    refine wpAny_notIn_heap (tupleKind_room_in1 hu) (key_of I.hok eb) hd dd ?_
    have q := (rel.val k).isSome_eq
    rw [Option.isSome_map] at q
    rw [← q, ← l]
    exact h _ (I.tok _)
/-- a dict's object is replaced -/
theorem d_write {h' : Heap} {t' : Nat} {ob : HO} (I : Inv X pins σ H s) (mu : Mut (H a)) (hs : Heap.SameBut a s.heap h') (he : ∃ q, h'.get? a = some q) (new : ObjOk X.prog X.w (upd H a ob) h' a ob) :
    Inv X pins σ (upd H a ob) { s with heap := h', toks := t' } :=
  I.write (x := a) (e := a) mu (.inl rfl) (fun b q hb z => (hs.2 b hb).trans z) he new
theorem dk_new {P : Program} {w : World} {H' : Hp} {h' : Heap} {kvs : List (Key × V)} {vs : List (Key × Value)} (z : kvs.length ≤ sizeLine) (hd : (a == sysModules) = false) (rel : KV kvs vs) (dd : h'.DictOf (mixKind P w) a vs) :
    ObjOk P w H' h' a (.dK kvs) := ⟨z, hd, vs, rel, dd⟩
/-- d[y] = v -/
theorem d_setItem {H' : Hp} {Q : Unit → Shared → Prop} (hu : A.units + 1 < cLine) (I : Inv X pins σ H s) (g : DPut H a y v H') (ry : RelV y u) (rv : RelV v r) (h : ∀ s', Inv X pins σ H' s' → Q () s') :
    wpAny (model X.prog X.w) A (setItem (.ref a) u r) Q E s := by
  rcases g with ⟨kvs, k, e, ey, l, eH⟩ | ⟨kvs, k, b, e, ey, eb, l, eH⟩
  · subst ey eH
    obtain ⟨z, hd, vs, rel, dd⟩ := dk_of I.hok e
    have hz : vs.length ≤ sizeLine := by rw [← rel.length]; exact z
    have hl : (putK kvs k v).length ≤ sizeLine := by have := length_putK kvs k v; omega
    refine wpAny_setItem_pairs (hsz := hz) (kV_is ry) dd fun h' dd' hs => h _ ?_
    have he : ∃ q, h'.get? a = some q := let ⟨q, _, _, hq, _⟩ := dd'; ⟨q, hq⟩
    exact d_write I (by rw [e]; exact True.intro) hs he (dk_new hl hd (rel.put k rv) dd')
  · subst ey eH
    cases (show u = Value.ref b from ry)
    obtain ⟨z, hd, xs, rel, dd⟩ := dt_of I.hok e
    have hz : xs.length ≤ sizeLine := by rw [← Paired.length rel]; exact z
    have hl : (putK kvs k v).length ≤ sizeLine := by have := length_putK kvs k v; omega
    refine wpAny_setItem_heap (hsz := hz) (tupleKind_room_in1 hu) (key_of I.hok eb) dd fun h' dd' hs => h _ ?_
    obtain ⟨q, es, ep, hq, h2, h3, h4, _, h5⟩ := dd'
    refine d_write I (by rw [e]; exact True.intro) hs ⟨q, hq⟩ ⟨hl, hd, _, (rel.put k eb rv).keeps fun c ys ec => ?_, q, es, ep, hq, h2, h3, h4, h5⟩
    rw [upd_ne (ne_of ec e (fun z => nomatch z))]
    exact ec
end

section
variable {X : Cx} {pins : List (Addr × Obj)} {σ : St} {H : Hp} {s : Shared} {a : Addr} {kvs : List (Key × V)} {k : Key} {u : Value} {A : Around} {E : Value → Shared → Prop}
/-- len(d) -/
theorem d_len {Q : Value → Shared → Prop} (I : Inv X pins σ H s) (e : Rd H a (.dK kvs)) (h : ∀ t s', Inv X pins σ H s' → Q (.int kvs.length t) s') : wpAny (model X.prog X.w) A (call (.builtin "len") [.ref a]) Q E s := by
  obtain ⟨z, hd, vs, rel, dd⟩ := dk_rd I.hok e
  refine call_len_dict hd dd (by rw [← rel.length]; rw [sizeLine_eq] at z; omega) ?_
  rw [← rel.length]
  exact h _ _ (I.tok _)
end


/-! ### readings and rules -/
/-- the element of a subscription, not a slice -/
def NoSl (i : Expr) : Prop := ∀ ov iv, subscripted i false ov iv = operate [ov, iv] (getItem ov iv)
theorem subD_of {prog : Program} {w : World} {A : Around} {E : Value → Shared → Prop} {s : Shared} {env : Env} {value slice : Expr} {pos : Pos} {T id : String} {Q : Value → Shared → Prop}
    (hl : typeLookup (.type T) "__getitem__" = pure (some (.builtin id))) (hs : NoSl slice)
    (h : wpAny (model prog w) A (eval value env) (fun o s₁ => wpAny (model prog w) A (eval slice env) (fun i s₂ => s₂.TypeIs o T ∧ wpAny (model prog w) A (getItem o i) Q E s₂) E s₁) E s) :
    wpAny (model prog w) A (eval (.Subscript value slice pos) env) Q E s := by
  refine Subscript_ (wpAny_mono h (fun o s₁ h₁ => wpAny_mono h₁ (fun i s₂ h₂ => ?_) fun _ _ x => x) fun _ _ x => x)
  obtain ⟨hT, h₂⟩ := h₂
  unfold subscriptTail
  refine wpAny_bind ?_
  rw [getitemInPython_of_ne hT.not_modules]
  refine wpAny_bind (wpAny_specialOf hT hl ?_)
  have fin : wpAny (model prog w) A (subscripted slice false o i) (fun r s₃ => wpAny (model prog w) A (letTemporaryGo value o r >>= fun _ => pure r) Q E s₃) E s₂ := by
    rw [hs o i]
    exact wpAny_operating (wpAny_mono h₂ (fun r s₃ h₃ => wpAny_bind (wpAny_letTemporaryGo (wpAny_pure h₃))) fun _ _ x => x)
  first
    | exact wpAny_pure (wpAny_bind fin)
    | exact wpAny_bind (wpAny_pure (wpAny_bind fin))
    | exact wpAny_bind fin

theorem dict_typeIs {X : Cx} {pins : List (Addr × Obj)} {σ : St} {H : Hp} {s : Shared} {a : Addr} {y : V} {o : Option V} (I : Inv X pins σ H s) (g : DGet H a y o) : s.TypeIs (.ref a) "dict" := by
  rcases g with ⟨kvs, k, e, _, _⟩ | ⟨kvs, k, b, e, _, _, _⟩
  · obtain ⟨_, _, vs, _, dd⟩ := dk_rd I.hok e
    exact dd.typeIs
  · obtain ⟨_, _, xs, _, dd⟩ := dt_rd I.hok e
    exact dd.typeIs
/-- d[y] -/
def tDGet (td ty : TE) : TE := fun σ H Q => td σ H fun x H1 => ty σ H1 fun y H2 => ∃ a v, x = .ref a ∧ DGet H2 a y (some v) ∧ Q v H2
/-- y in d, y not in d -/
def tDIn (ty td : TE) : TE := fun σ H Q => ty σ H fun y H1 => td σ H1 fun x H2 => ∃ a o, x = .ref a ∧ DGet H2 a y o ∧ Q (.bl o.isSome) H2
def tDNotIn (ty td : TE) : TE := fun σ H Q => ty σ H fun y H1 => td σ H1 fun x H2 => ∃ a o, x = .ref a ∧ DGet H2 a y o ∧ Q (.bl (!o.isSome)) H2
/-- d[y] = v -/
def sDPut (td ty tv : TE) : TS := fun D σ H => tv σ H fun v H1 => td σ H1 fun x H2 => ty σ H2 fun y H3 => ∃ a H4, x = .ref a ∧ DPut H3 a y v H4 ∧ D.nx σ H4
section
variable {X : Cx} {o i e value : Expr} {pos pos' tpos : Pos} {td ty tv : TE}
theorem pe_dget (hu : X.A.units + 1 < cLine) (ho : PE X o td) (hi : PE X i ty) (hs : NoSl i) : PE X (.Subscript o i pos) (tDGet td ty) := by
  intro pins s σ H Q I h
  refine subD_of PySem.F.slot_dict_getitem.lookup hs (thn (ho pins s σ H _ I h) fun u s1 ⟨x, H1, I1, rx, q1⟩ => thn (hi pins s1 σ H1 _ I1 q1) fun iv s2 ⟨y, H2, I2, ry, a, v, ex, g, q2⟩ => ?_)
  subst ex
  obtain rfl : u = Value.ref a := rx
  exact ⟨dict_typeIs I2 g, d_getItem hu I2 g ry fun w' s3 I3 rw' => ⟨v, H2, I3, rw', q2⟩⟩
theorem pc_din (hu : X.A.units + 1 < cLine) (hi : PE X i ty) (ho : PE X o td) : PC X .In i o (tDIn ty td) := by
  intro pins s σ H Q I h
  refine thn (hi pins s σ H _ I h) fun iv s1 ⟨y, H1, I1, ry, q1⟩ => thn (ho pins s1 σ H1 _ I1 q1) fun u s2 ⟨x, H2, I2, rx, a, ov, ex, g, q2⟩ => ?_
  subst ex
  obtain rfl : u = Value.ref a := rx
  exact d_in hu I2 g ry fun s3 I3 => ⟨.bl ov.isSome, H2, I3, rfl, q2⟩
theorem pc_dnotin (hu : X.A.units + 1 < cLine) (hi : PE X i ty) (ho : PE X o td) : PC X .NotIn i o (tDNotIn ty td) := by
  intro pins s σ H Q I h
  refine thn (hi pins s σ H _ I h) fun iv s1 ⟨y, H1, I1, ry, q1⟩ => thn (ho pins s1 σ H1 _ I1 q1) fun u s2 ⟨x, H2, I2, rx, a, ov, ex, g, q2⟩ => ?_
  subst ex
  obtain rfl : u = Value.ref a := rx
  exact d_notIn hu I2 g ry fun s3 I3 => ⟨.bl (!ov.isSome), H2, I3, rfl, q2⟩
theorem ps_dput (hu : X.A.units + 1 < cLine) (ho : PE X o td) (hi : PE X i ty) (hv : PE X value tv) (hs : swapsWith value (some (.Subscript o i pos')) pos.line X.env = pure false) :
    PS X (.Assign [.Subscript o i pos'] value pos) (sDPut td ty tv) := by
  intro pins s σ H D I h
  refine wpAny_Assign_Subscript (thn (hv pins s σ H _ I h) fun r s1 ⟨v, H1, I1, rv, q1⟩ => thn (ho pins s1 σ H1 _ I1 q1) fun u s2 ⟨x, H2, I2, rx, q2⟩ => thn (hi pins s2 σ H2 _ I2 q2) fun iv s3 ⟨y, H3, I3, ry, a, H4, ex, g, q3⟩ => ?_) hs
  subst ex
  obtain rfl : u = Value.ref a := rx
  exact d_setItem hu I3 g ry rv fun s4 I4 => ⟨σ, H4, I4, q3⟩
end


/-! ### displays -/
theorem dk_empty {P : Program} {w : World} {H : Hp} (h : Heap) (hb : sysModules < h.objs.size) : ObjOk P w H (h.push { cls := .type "dict", data := .dict #[] }) h.objs.size (.dK []) :=
  ⟨Nat.zero_le _, beq_eq_false_iff_ne.mpr (Ne.symm (Nat.ne_of_lt hb)), [], .nil, Heap.DictOf.new h⟩
/-- {}, to be a dict of the kind that is wanted -/
def tDNewK : TE := fun _ H Q => ∀ p, H p = none → Q (.ref p) (upd H p (.dK []))
section
variable {X : Cx} {pos : Pos}
theorem pe_dnewK : PE X (.Dict [] [] pos) tDNewK := fun pins s σ H Q I h =>
  wpAny_Dict_empty ⟨.ref s.heap.objs.size, _, I.laid (a := s.heap.objs.size) (o := .dK []) (t' := s.toks) (fun _ _ q => Heap.get?_push_of_some _ q) (Nat.le_refl _) (dk_empty s.heap I.big), rfl, h _ (I.hok.fresh (Nat.le_refl _))⟩
end

/-! ### methods -/
structure M2 (X : Cx) (o : Expr) (m : Str) (apos : Pos) (e f : Expr) (cpos : Pos) : Prop where
  base : attributeBase o m X.env (eval o X.env) = eval o X.env
  few : ((backTo cpos (starEach [e, f] X.env)).all (fun x => !x.1) && (backToKw cpos (keywordEach [] X.env)).all (fun x => x.1.isSome)
    && decide (([e, f] : List Expr).length + ([] : List Keyword).length + (if ([] : List Keyword).isEmpty then 0 else 1) < 30)) = true
  line : (apos.endLine == cpos.line) = true
  trees : backTo cpos (starEach [e, f] X.env) = [(false, eval e X.env), (false, eval f X.env)]

section
variable {X : Cx} {pins : List (Addr × Obj)} {σ : St} {H : Hp} {s : Shared} {a : Addr} {y d : V} {u r : Value} {o : Option V} {A : Around} {E : Value → Shared → Prop}
end

section
variable {X : Cx} {o e f : Expr} {apos cpos : Pos} {td ty tx : TE}
end

/-! ### dict(d): a copy -/
section
variable {X : Cx} {pins : List (Addr × Obj)} {σ : St} {H : Hp} {s : Shared} {a : Addr} {kvs : List (Key × V)} {A : Around} {E : Value → Shared → Prop}
end


section
variable {X : Cx} {pins : List (Addr × Obj)} {σ : St} {H : Hp} {s : Shared} {a : Addr} {y : V} {u : Value} {A : Around} {E : Value → Shared → Prop}
end
end L2

namespace L2
open PySem PySem.Spec PyProof.Rows

section
variable {prog : Program} {w : World} {A : Around} {E : Value → Shared → Prop}
end

section
variable {X : Cx}
end
end L2

namespace L2
open PySem PySem.Spec PyProof.Rows

section
variable {X : Cx} {pins : List (Addr × Obj)} {σ : St} {H : Hp} {s : Shared} {h' : Heap}
/-! ### locking a thing while a statement runs -/
end
section
variable {X : Cx}
/-! ### one iterator just laid -/
theorem pi_one {tg : Expr} {pins : List (Addr × Obj)} {σ : St} {H : Hp} {s : Shared} {R : It → Hp → Prop} {J : It} {tn : Nat → Heap → Prop} {tk : Nat} (I : Inv X pins σ H s) (o : Obj)
    (T : Turn X.prog X.w X.K tg J [s.heap.objs.size] s.heap.objs.size tn) (st : tn 0 (s.heap.push o)) (q : R J H) : PIE X pins σ tg R (.ref s.heap.objs.size) { s with heap := s.heap.push o, toks := tk } := by
  refine ⟨s.heap.objs.size, [s.heap.objs.size], tn, J, H, rfl, I.kept fun b ob e => Heap.get?_push_of_some _ e, T, st, fun b hb => ?_, q⟩
  have e : b = s.heap.objs.size := by simpa using hb
  subst e
  exact I.fpOk (Nat.le_refl _) (I.hok.fresh (Nat.le_refl _))
end

/-! ### range with a step -/
section
variable {X : Cx} {tg : Expr}
end
/-! ### reversed(list) -/
section
variable {X : Cx} {tg : Expr}
end

/-! ### a str -/
def Its (x : Str) : It := ⟨fun i _ => i < x.cps.size, fun i H v H' => H' = H ∧ ∃ c, x.cps[i]? = some c ∧ v = .str ⟨#[c]⟩, fun i _ => x.cps.size ≤ i⟩
theorem turn_str {P : Program} {w : World} {K : PySem.W.Frag} {tg : Expr} (it : Addr) (x : Str) (t : Tok) (ty : String) (hty : ty = "str_ascii_iterator" ∨ ty = "str_iterator") :
    Turn P w K tg (Its x) [it] it (fun i h => h.IsStrIter it ty x t i) where
  mem := by simp
  obj := fun i h st b hb => by
    have e : b = it := by simpa using hb
    subst e
    obtain ⟨o, e, c, d⟩ := st
    exact ⟨o, e, fun v z => by rw [d] at z; cases z⟩
  keep := fun i h h' st k => let ⟨o, ho, r⟩ := st; ⟨o, k it (by simp) o ho, r⟩
  item := by
    intro X hP hw hK hc i pins s σ H E I hf st hg
    subst hP hw hK
    obtain ⟨f0, f1, f2, f3, f4, f5⟩ := hf it (by simp)
    have W : Walks X.prog X.w X.A it [it] [it] x.cps.size (SignAt x) (fun i h => h.IsStrIter it ty x t i) := by
      rcases hty with e | e
      · rw [e]; exact Walks.strAscii (I.ok.hd hc) it x t
      · rw [e]; exact Walks.strWide (I.ok.hd hc) it x t
    have hno : ["enumerate", "zip", "dict_itemiterator", "dict_reverseitemiterator", "odict_iterator", "itertools.zip_longest", "itertools.pairwise"].contains ty = false := by
      rcases hty with e | e
      · rw [e]; decide
      · rw [e]; decide
    refine W.item i s _ _ hg st fun v h' tk hv st' kk => ?_
    obtain ⟨c, u, hcx, rfl⟩ := hv
    have I1 : Inv X pins σ H { s with heap := h', toks := tk } := I.turned (fun b o hb e => kk b o (by simpa using hb) e) f0 f1 f3 f4 f5
    obtain ⟨oi, e, cc, dd⟩ := id st'
    exact ⟨_, rfl, go_of (s := { s with heap := h', toks := tk }) e cc dd hno ⟨.str ⟨#[c]⟩, H, I1, ⟨u, rfl⟩, ⟨rfl, c, hcx, rfl⟩, st', fun b hb => (hf b hb).1⟩⟩
  done := by
    intro X hP hw hK hc i pins s σ H E I hf st hg
    subst hP hw hK
    obtain ⟨f0, f1, f2, f3, f4, f5⟩ := hf it (by simp)
    have hx : x.cps[i]? = none := Array.getElem?_eq_none hg
    rcases hty with e | e
    · rw [e] at st
      exact wpAny_pyNext_ascii_end (I.ok.hd hc) st hx fun h' eb => ⟨rfl, I.turned (t' := s.toks) (fun b o hb e => eb b o hb e) f0 f1 f3 f4 f5⟩
    · rw [e] at st
      exact wpAny_pyNext_wide_end (I.ok.hd hc) st hx fun h' eb => ⟨rfl, I.turned (t' := s.toks) (fun b o hb e => eb b o hb e) f0 f1 f3 f4 f5⟩
  self := fun A i s Q E st h => by
    rcases hty with e | e
    · rw [e] at st; exact wpAny_pyIter_striter_ascii st h
    · rw [e] at st; exact wpAny_pyIter_striter_wide st h
def iStr (te : TE) : TI := fun σ H R => te σ H fun v H1 => ∃ x, v = .str x ∧ R (Its x) H1
theorem pi_str {X : Cx} {tg e : Expr} {te : TE} (he : PE X e te) : PI X tg e (iStr te) := by
  intro pins s σ H R I h
  refine thn (he pins s σ H _ I h) fun v s1 ⟨y, H1, I1, r1, x, ex, q⟩ => ?_
  subst ex
  obtain ⟨t, rfl⟩ := r1
  cases ha : x.cps.all (· < 128)
  · exact wpAny_pyIter_wide ha (pi_one (tk := s1.toks) I1 _ (turn_str _ x t "str_iterator" (.inr rfl)) ⟨_, Heap.get?_push_size _ rfl, rfl, rfl⟩ q)
  · exact wpAny_pyIter_ascii ha (pi_one (tk := s1.toks) I1 _ (turn_str _ x t "str_ascii_iterator" (.inl rfl)) ⟨_, Heap.get?_push_size _ rfl, rfl, rfl⟩ q)

/-! ### a dict's keys: any dict's entries -/
section
variable {prog : Program} {w : World} {A : Around} {E : Value → Shared → Prop} {s : Shared}
end

/-! ### a locked dict -/
section
variable {X : Cx} {pins : List (Addr × Obj)} {σ : St} {H : Hp} {s : Shared} {d : Addr} {o : Obj}
end

section
variable {P : Program} {w : World} {K : PySem.W.Frag} {tg : Expr} {d : Addr} {o : Obj} {es : Array DictEntry} {ep : Nat}
end

/-! ### for k in d, d.keys(), d.values(), d.items() -/
section
variable {X : Cx} {tg e : Expr} {td : TE} {apos cpos : Pos}
end

/-! ### enumerate(list) -/
/-! ### zip(list, list) -/
end L2

section 
namespace Bits
open PySem PyProof.Rows

end Bits
end 

section 
namespace TL
open PySem PySem.Builtin PySem.Builtin.Str PySem.StrLaws

abbrev tl (x : Str) : List Nat := x.cps.toList
/-! ### the list functions -/
/-- S stands at the head of l -/
def pre (S l : List Nat) : Bool := l.take S.length == S
/-- what stands before the first S, and behind it -/
def par (S : List Nat) : List Nat → List Nat → Option (List Nat × List Nat)
  | _, [] => none
  | acc, c :: r => if pre S (c :: r) = true then some (acc, (c :: r).drop S.length) else par S (acc ++ [c]) r

/-! ### the model's split and partition are these -/
/-! ### computing spl and par -/
/-! ### digits -/
/-! ### words: x.split() -/
end TL
end 

namespace L2
open PySem PySem.Spec PyProof.Rows

section
variable {X : Cx} {pins : List (Addr × Obj)} {σ : St} {H : Hp} {s : Shared} {Q : VK}
end

section
variable {X : Cx}

/-! ### of a text alone -/
/-! ### of a text and a text -/
end

section
variable {X : Cx} {o e : Expr} {to te : TE}
end
end L2

namespace L2
open PySem PySem.Spec PyProof.Rows

section
variable {X : Cx}
end

/-! ### slices of a text -/
end L2

namespace Att
open PySem PySem.W PySem.Calls PyProof.Rows

/-! ### the script -/
/-! ### the attachment: holds_open's last premise (the goal 'hc' behind k_head) from a wpAny of the law's body -/
/-! ### rules over ANY heap (no ledger) from facts about the written part K: the library's own take a ledger (News) for what they write -/
section
variable {prog : Program} {w : World} {A : Around} {E : Value → Shared → Prop} {s : Shared} {K : Frag}

/-! the whole heap as the ledger: makes every rule that writes through a ledger a rule over any heap -/
end
end Att

namespace L2
open PySem PySem.Spec PyProof.Rows

end L2

namespace L2
open PySem PySem.Spec PyProof.Rows

end L2

/- THE LAST THEOREM (shape; LID, My.* are yours):
   My.Adr: a structure of the addresses that your layer names (classes, functions); My.Txt K t: a structure (Prop) of the equations over K;
   My.txt_mk : {K} {implicit addresses ..} (e1 : nsIn K mainGlobals "law" = some (some (.ref f))) (e2 : K.lookup f = some ⟨oc, od, .func (fnOf "law" "law" params body scope dV kV doc pm an cdv ct), sl⟩) (e3 : codeIn K cdv "law" = true) .. : ∃ t, My.Txt K t

set_option maxRecDepth 100000 in
set_option maxHeartbeats 0 in
theorem PySem.Challenge.cw_LID_holds : PySem.Challenge.rw_LID.Holds := by
  w_on; o_law; k_head; (case hw => w_witness2)
  k_fill
  refine L2.walk_of (l := PySem.Challenge.rw_LID) (n := 63) (k := 40) (x := "script") (CX := fun w => ..) (sp := fun _ => My.sp_law) rfl (by decide) rfl ⟨rfl, by decide, by decide⟩ (fun w h Y => PySem.W.kIn_of Y) ?F ?S ?C
  case F =>
    intro w mg fa h KX G hmg
    have T : ∃ t, My.Txt (L2.KOf KX) t := by
      dsimp only [L2.KOf]                          -- K must stand as «<heap const> w.params» for k_is
      refine' My.txt_mk ?e1 ?e2 ?e3 ..
      (case e1 => PySem.W.k_is)                    -- in the order: a name -> its address -> its object -> its parts
      (case e2 => PySem.W.k_is)
      ..
    obtain ⟨t, T⟩ := T
    have e0 := hmg.symm.trans (PySem.W.mg_of KX G T.law)
    cases e0                                       -- fa is the law's own address
    exact ⟨_, fun s u => .of_eq rfl, fun base kb nb => My.law_fn T kb nb⟩     -- if «.of_eq rfl» comes too early: refine' ⟨_, ?b, fun base kb nb => My.law_fn T kb nb⟩; exact fun s u => .of_eq rfl
  case S => exact fun w H a ns hl hO hS => ..
  case C => exact ..
(the tactic k_is has no namespace: write k_is) -/

/-! SHORT WORDS over the layer: a def of the text, its body, what a loop and a test want. -/
namespace L2
open PySem PySem.Spec PyProof.Rows

/-! ### the text by places -/
/-- the j-th statement of a class's body -/
def inClass (s : Stmt) (j : Nat) : Stmt := match s with
  | .ClassDef _ _ _ body _ _ _ _ _ _ _ => body.getD j (.Pass ⟨0, 0, 0, 0⟩)
  | _ => .Pass ⟨0, 0, 0, 0⟩
def defArgs (s : Stmt) : Arguments := match s with
  | .FunctionDef _ a _ _ _ _ _ _ _ _ => a
  | _ => { posonlyargs := [], args := [], vararg := none, kwonlyargs := [], kw_defaults := [], kwarg := none, defaults := [] }
def defBody (s : Stmt) : List Stmt := match s with
  | .FunctionDef _ _ b _ _ _ _ _ _ _ => b
  | _ => []
def defScope (s : Stmt) : Scope := match s with
  | .FunctionDef _ _ _ _ _ _ sc _ _ _ => sc
  | _ => { kind := .function, names := [], isGenerator := false, isCoroutine := false }

/-! ### no exception leaves a def -/
abbrev CX0 : CXT := fun _ _ _ _ _ _ => False
abbrev E0 : XK := fun _ _ _ => False
theorem pass0 {X : Cx} : Passes CX0 X E0 := fun _ _ _ _ _ _ _ h => h.elim

/-! ### a def (or method) of the text as it stands behind the top -/
structure Fun (K : PySem.W.Frag) (x qual : Str) (st : Stmt) (f : Addr) (fd : FuncData) : Prop where
  ex : ∃ (oc : Value) (od : Option Addr) (kV doc pm : Value) (an : Option Addr) (cdv ct : Value) (osl : Array (Option Value)),
    fd = PySem.W.fnOf x qual (defArgs st) (defBody st) (defScope st) .none kV doc pm an cdv ct ∧ K.lookup f = some ⟨oc, od, .func fd, osl⟩ ∧ PySem.W.codeIn K cdv qual = true
  kp : PySem.W.keepIn K (.ref f) = true
section
variable {P : Program} {w : World} {K : PySem.W.Frag} {mg : Str → Option Value} {base : Heap}
/-- THE RULE for a def: its body as a term of rules, and the reading of that term -/
theorem Fun.ok {x qual : Str} {st : Stmt} {f : Addr} {fd : FuncData} {N ps : List Str} {k : Nat} {sp : Sp} (F : Fun K x qual st f fd) (S : FnScope N ps (defScope st)) (len : ∀ vs H Q E, sp vs H Q E → vs.length = ps.length)
    (hbody : ∀ (cdv : Value) (A : Around) (outer : List Env) (s : Shared) (H : Hp) (vs : List V) (Q : VK) (E : XK), Room k (A.deeper (envOfC qual (defScope st) s.heap.objs.size f cdv)) → sp vs H Q E →
      ∃ t, PSs (cxOf CX0 P w K mg base N qual (defScope st) f cdv A outer s H E).nox (defBody st) t ∧ t { nx := fun _ H' => Q .non H', rt := Q } (start N vs) H) : FnOk P w K mg base CX0 (k + 1) f fd ps sp := by
  obtain ⟨oc, od, kV, doc, pm, an, cdv, ct, osl, rfl, lk, hcd⟩ := F.ex
  refine fn_of lk hcd S len fun A outer s H vs Q E hr hsp => ?_
  obtain ⟨t, h, q⟩ := hbody cdv A outer s H vs Q E hr hsp
  exact ⟨t, h.nox, q⟩
/-- how its arguments bind (no defaults): h is «fun _ _ _ _ _ _ us hl => match us, hl with | [_, _], _ => rfl», one _ a parameter -/
theorem Fun.binds {x qual : Str} {st : Stmt} {f : Addr} {fd : FuncData} {ps : List Str} (F : Fun K x qual st f fd)
    (h : ∀ (kV doc pm : Value) (an : Option Addr) (cdv ct : Value) (us : List Value), us.length = ps.length → bindArgs (PySem.W.fnOf x qual (defArgs st) (defBody st) (defScope st) .none kV doc pm an cdv ct) ⟨us, []⟩ = pure (ps.zip us)) : Binds K fd ps [] := by
  obtain ⟨oc, od, kV, doc, pm, an, cdv, ct, osl, rfl, lk, hcd⟩ := F.ex
  exact .all (h kV doc pm an cdv ct)
theorem fun_mk {x qual : Str} {st : Stmt} {f : Addr} {oc : Value} {od an : Option Addr} {osl : Array (Option Value)} {kV doc pm cdv ct : Value} (l : K.lookup f = some ⟨oc, od, .func (PySem.W.fnOf x qual (defArgs st) (defBody st) (defScope st) .none kV doc pm an cdv ct), osl⟩)
    (c : PySem.W.codeIn K cdv qual = true) (k : PySem.W.keepIn K (.ref f) = true) : Fun K x qual st f (PySem.W.fnOf x qual (defArgs st) (defBody st) (defScope st) .none kV doc pm an cdv ct) := ⟨⟨oc, od, kV, doc, pm, an, cdv, ct, osl, rfl, l, c⟩, k⟩
end
theorem hu_of {A : Around} {k : Nat} (hr : Room k A) : A.units + 1 < cLine := Nat.lt_of_le_of_lt (Nat.add_le_add_left (by decide : 1 ≤ 64) _) hr.units
/-! ### expressions in short: the name that stands in the i-th slot -/
section
variable {X : Cx}
theorem pv (i : Nat) {x : Str} {pos : Pos} (hN : X.N[i]? = some x := by rfl) (hv : Vis X.env.scope x := by first | exact Or.inl rfl | exact Or.inr (Or.inl rfl) | exact Or.inr (Or.inr rfl)) (hd : (x == ("__debug__" : Str)) = false := by decide)
    (hcd : (x == ("__classdict__" : Str)) = false := by decide) : PE X (.Name x pos) (tVar i) := pe_var hN hv hd hcd
/-- len of a dict -/
theorem call_lenD : CallR X (.builtin "len") (fun xs H Q => ∃ a kvs, xs = [V.ref a] ∧ H a = some (.dK kvs) ∧ Q (.int kvs.length) H) := by
  intro pins s σ H xs us Q I r h
  obtain ⟨a, kvs, rfl, ha, q⟩ := h
  obtain ⟨u, rfl, ru⟩ := vals1 r
  cases ru
  exact d_len I (.inl ha) fun t s' I' => ⟨.int kvs.length, H, I', ⟨t, rfl⟩, q⟩
end

/-! ### tests -/
theorem iteF {A B : Prop} (h : B) : if false = true then A else B := by
  rw [if_neg Bool.false_ne_true]
  exact h
theorem iteT {A B : Prop} (h : A) : if true = true then A else B := by
  rw [if_pos rfl]
  exact h
theorem ite2 {c A B : Prop} [Decidable c] (h1 : c → A) (h2 : ¬ c → B) : if c then A else B := by
  by_cases h : c
  · rw [if_pos h]
    exact h1 h
  · rw [if_neg h]
    exact h2 h
/-! ### heaps -/
/-- all that was tracked is as it was -/
def Same (H H' : Hp) : Prop := ∀ b o, H b = some o → H' b = some o
theorem Same.trans {H H1 H2 : Hp} (a : Same H H1) (b : Same H1 H2) : Same H H2 := fun c o h => b c o (a c o h)
theorem Same.free {H H' : Hp} (e : Same H H') {l : Addr} (h : H' l = Option.none) : H l = Option.none := by
  cases q : H l with
  | none => rfl
  | some o =>
    rw [e l o q] at h
    cases h
theorem Same.seq {K : PySem.W.Frag} {H H' : Hp} {a : Addr} {xs : List V} (e : Same H H') (h : SqL K H a xs) : SqL K H' a xs := by
  rcases h with (h | ⟨o, h⟩) | h
  · exact .inl (.inl (e _ _ h))
  · exact .inl (.inr ⟨o, e _ _ h⟩)
  · exact .inr h

/-! ### a dict's pairs: keys that differ -/
section
variable {κ : Type} [DecidableEq κ]
end
/-! ### lists -/
theorem at_of {xs : List V} {z : Int} {j : Nat} {v : V} (e : z = (j : Int)) (h : xs[j]? = some v) : atI xs z = some v := by
  rw [e]
  exact atI_nat h
end L2

namespace Fly
open PySem

/-- an exception with a dict of its own, on its way: B stays, l are the frames above -/
structure Fl (B : Heap) (l : List Env) (x : Addr) (cls : Value) (dx : Addr) (cn : Bool) (fl : Value) (h : Heap) : Prop where
  st : B.StaysIn h
  out : B.get? x = none
  frs : h.FunFrames B l
  tr : ∃ ox vs T oT ts, h.get? x = some ox ∧ ox.cls = cls ∧ ox.dict = some dx ∧ ox.data = .fields vs ∧ vs[1]? = some (.ref T) ∧ B.get? T = none ∧ T ≠ x ∧ h.get? T = some oT ∧ oT.data = .fields ts ∧ ts[3]? = some fl ∧ (cn = true → vs[2]? = some .none)

theorem mapF_cls (f : Array Value → Array Value) (o : Obj) : (Obj.mapFields f o).cls = o.cls ∧ (Obj.mapFields f o).dict = o.dict := by
  obtain ⟨c, d, dt, sl⟩ := o
  cases dt <;> exact ⟨rfl, rfl⟩

section
variable {M : Model} {A : Around} {E : Value → Shared → Prop} {s : Shared} {B : Heap} {env : Env} {outer : List Env} {L x dx : Addr} {cls : Value} {cn : Bool}

/-- a new entry is laid ahead of what there is -/
theorem entry_new {ox : Obj} {vs : Array Value} {hd : Value} {more : Bool} {Q : Unit → Shared → Prop} (fr : A.frames = some (env :: outer)) (ff : s.heap.FunFrames B (env :: outer)) (el : env.frame = some L)
    (gx : s.heap.get? x = some ox) (st : B.StaysIn s.heap) (out : B.get? x = none) (ed : ox.data = .fields vs) (sz : 1 < vs.size) (c2 : cn = true → vs[2]? = some .none) (ec : ox.cls = cls) (edx : ox.dict = some dx)
    (k : ∀ h2, Fl B (env :: outer) x cls dx cn (rawInt L) h2 → s.heap.UpToSlots h2 → Q () { s with heap := h2 }) :
    wpAny M A (do let fo ← frameOf env; let place ← entryPlaceOf L more; let en ← EntryCells.newEntry hd fo .none (rawInt L) .none place; setField (.ref x) 1 en) Q E s := by
  have nfr : x ∉ (env :: outer).filterMap (·.frame) := fun z => by
    obtain ⟨_, o1, g1, n1⟩ := ff.mem z
    rw [gx] at g1
    cases g1
    exact n1 vs ed
  refine wpAny_bind (wpAny_frameOf_fun fr ff el fun h1 so => ?_)
  refine wpAny_bind (wpAny_entryPlaceOf fun place isp => ?_)
  unfold EntryCells.newEntry; unfold newFields
  refine wpAny_bind (wpAny_newObj_type ?_ (isp.sizeOk5 _ _ _ _ _))
  have gx1 : h1.get? x = some ox := (so.2.1 x nfr).trans gx
  have st1 : B.StaysIn h1 := fun b o q => (so.2.1 b fun z => by rw [(ff.mem z).1] at q; cases q).trans (st b o q)
  generalize eTO : ({ cls := .type "traceback", dict := none, data := .fields ([hd, .ref L, .none, rawInt L, .none] ++ (if place.isEmpty then List.replicate 6 Value.none else place)).toArray } : Obj) = TO
  have gx2 : (h1.push TO).get? x = some ox := Heap.get?_push_of_some _ gx1
  have nTx : h1.objs.size ≠ x := Nat.ne_of_gt (Heap.lt_size gx1)
  have ed3 := Obj.data_mapFields ed (·.setIfInBounds 1 (Value.ref h1.objs.size))
  have gx3 := Heap.get?_update_self (Obj.mapFields (·.setIfInBounds 1 (Value.ref h1.objs.size))) gx2 (Obj.isFreed_of_fields ed3)
  have fTO : TO.isFreed = false := by rw [← eTO]; rfl
  have gT3 := (Heap.get?_update_other (h1.push TO) (Obj.mapFields (·.setIfInBounds 1 (Value.ref h1.objs.size))) (Ne.symm nTx)).trans (Heap.get?_push_size h1 fTO)
  have kp : ∀ b o, b ≠ x → h1.get? b = some o → ((h1.push TO).update x (Obj.mapFields (·.setIfInBounds 1 (Value.ref h1.objs.size)))).get? b = some o := fun b o nb q => by
    rw [Heap.get?_update_other _ _ (Ne.symm nb)]
    exact Heap.get?_push_of_some _ q
  have nrec : ∀ b o, s.heap.get? b = some o → (∀ ws, o.data ≠ .fields ws) → b ≠ x := fun b o q nf z => by
    rw [z, gx] at q
    cases q
    exact nf vs ed
  refine wpAny_setField gx2 ed sz (k _ ?_ ?_)
  · refine ⟨fun b o q => kp b o (fun z => by rw [z, out] at q; cases q) (st1 b o q), out, ff.of_keeps fun b o q nf => ?_, ?_⟩
    · obtain ⟨sl, e⟩ := so.2.2 b o q
      exact ⟨_, kp b _ (nrec b o q nf) e, rfl⟩
    · have mc := mapF_cls (·.setIfInBounds 1 (Value.ref h1.objs.size)) ox
      refine ⟨_, _, h1.objs.size, _, _, gx3, mc.1.trans ec, mc.2.trans edx, ed3, by simp [sz], st1.fresh, nTx, gT3, by rw [← eTO], ?_, fun z => by rw [Array.getElem?_setIfInBounds_ne (by decide)]; exact c2 z⟩
      first | (simp; done) | (rcases isp with rfl | ⟨_, _, _, _, _, _, _, rfl⟩ <;> simp)
  · intro b o q nf
    obtain ⟨sl, e⟩ := so.2.2 b o q
    exact ⟨sl, kp b _ (nrec b o q nf) e⟩

/-- the first frame that it meets -/
theorem note_first {ox : Obj} {vs : Array Value} {Q : Unit → Shared → Prop} (fr : A.frames = some (env :: outer)) (ff : s.heap.FunFrames B (env :: outer)) (el : env.frame = some L)
    (gx : s.heap.get? x = some ox) (st : B.StaysIn s.heap) (out : B.get? x = none) (ed : ox.data = .fields vs) (e1 : vs[1]? = some .none) (c2 : cn = true → vs[2]? = some .none) (ec : ox.cls = cls) (edx : ox.dict = some dx)
    (k : ∀ h2, Fl B (env :: outer) x cls dx cn (rawInt L) h2 → s.heap.UpToSlots h2 → Q () { s with heap := h2 }) : wpAny M A (noteFrame (.ref x) env) Q E s := by
  unfold noteFrame
  simp only [el]
  refine wpAny_bind (wpAny_field gx ed e1 ?_)
  rw [if_neg (by decide)]
  exact entry_new fr ff el gx st out ed (Array.getElem?_eq_some_iff.mp e1).1 c2 ec edx k
/-- a further frame -/
theorem note_next {Q : Unit → Shared → Prop} (fr : A.frames = some (env :: outer)) (el : env.frame = some L) (F : Fl B (env :: outer) x cls dx cn .none s.heap)
    (k : ∀ h2, Fl B (env :: outer) x cls dx cn (rawInt L) h2 → s.heap.UpToSlots h2 → Q () { s with heap := h2 }) : wpAny M A (noteFrame (.ref x) env) Q E s := by
  obtain ⟨st, out, ff, ox, vs, T, oT, ts, gx, ec, edx, ed, e1, nT, nTx, gT, eT, e3, c2⟩ := F
  unfold noteFrame
  simp only [el]
  refine wpAny_bind (wpAny_field gx ed e1 ?_)
  rw [if_pos (show (Value.ref T != Value.none) = true by simp)]
  refine wpAny_bind (wpAny_field gT eT e3 ?_)
  rw [if_neg (show ¬ ((Value.none == rawInt L) = true) by simp [rawInt])]
  refine wpAny_bind (wpAny_setField gT eT (Array.getElem?_eq_some_iff.mp e3).1 ?_)
  have oth : ∀ b, b ≠ T → (s.heap.update T (Obj.mapFields (·.setIfInBounds 3 Value.none))).get? b = s.heap.get? b := fun b nb => Heap.get?_update_other _ _ (Ne.symm nb)
  have nrec : ∀ b o, s.heap.get? b = some o → (∀ ws, o.data ≠ .fields ws) → b ≠ T := fun b o q nf z => by
    rw [z, gT] at q
    cases q
    exact nf ts eT
  refine entry_new fr (ff.of_keeps fun b o q nf => ⟨o, (oth b (nrec b o q nf)).trans q, rfl⟩) el ((oth x (Ne.symm nTx)).trans gx) (fun b o q => (oth b fun z => by rw [z, nT] at q; cases q).trans (st b o q)) out ed
    (Array.getElem?_eq_some_iff.mp e1).1 c2 ec edx fun h2 F2 u2 => k h2 F2 fun b o q nf => u2 b o ((oth b (nrec b o q nf)).trans q) nf
/-- it is in nobody's hands -/
theorem flight_none {l : List Env} {fl : Value} {Q : Unit → Shared → Prop} (F : Fl B l x cls dx cn fl s.heap)
    (k : ∀ h2, Fl B l x cls dx cn .none h2 → s.heap.UpToSlots h2 → Q () { s with heap := h2 }) : wpAny M A (setFlight (.ref x) none) Q E s := by
  obtain ⟨st, out, ff, ox, vs, T, oT, ts, gx, ec, edx, ed, e1, nT, nTx, gT, eT, e3, c2⟩ := F
  have z3 : 3 < ts.size := (Array.getElem?_eq_some_iff.mp e3).1
  have oth : ∀ b, b ≠ T → (s.heap.update T (Obj.mapFields (·.setIfInBounds 3 ((none : Option Addr).elim Value.none fun f => rawInt f)))).get? b = s.heap.get? b := fun b nb => Heap.get?_update_other _ _ (Ne.symm nb)
  have nrec : ∀ b o, s.heap.get? b = some o → (∀ ws, o.data ≠ .fields ws) → b ≠ T := fun b o q nf z => by
    rw [z, gT] at q
    cases q
    exact nf ts eT
  unfold setFlight
  refine wpAny_bind (wpAny_field gx ed e1 ?_)
  rw [if_pos (show (Value.ref T != Value.none) = true by simp)]
  refine wpAny_setField gT eT z3 (k _ ⟨fun b o q => (oth b fun z => by rw [z, nT] at q; cases q).trans (st b o q), out, ff.of_keeps fun b o q nf => ⟨o, (oth b (nrec b o q nf)).trans q, rfl⟩, ?_⟩
    fun b o q nf => ⟨o.slots, (oth b (nrec b o q nf)).trans q⟩)
  exact ⟨ox, vs, T, _, _, (oth x (Ne.symm nTx)).trans gx, ec, edx, ed, e1, nT, nTx, Heap.get?_update_self _ gT (Obj.isFreed_of_fields (Obj.data_mapFields eT _)), Obj.data_mapFields eT _, by simp [z3], c2⟩
theorem leave_first {ox : Obj} {vs : Array Value} {Q : Unit → Shared → Prop} (fr : A.frames = some (env :: outer)) (ff : s.heap.FunFrames B (env :: outer)) (el : env.frame = some L)
    (gx : s.heap.get? x = some ox) (st : B.StaysIn s.heap) (out : B.get? x = none) (ed : ox.data = .fields vs) (e1 : vs[1]? = some .none) (c2 : cn = true → vs[2]? = some .none) (ec : ox.cls = cls) (edx : ox.dict = some dx)
    (k : ∀ h2, Fl B outer x cls dx cn .none h2 → s.heap.UpToSlots h2 → Q () { s with heap := h2 }) : wpAny M A (leaving env (.ref x)) Q E s := by
  unfold leaving
  refine wpAny_bind (note_first fr ff el gx st out ed e1 c2 ec edx fun h2 F2 u2 => ?_)
  refine flight_none F2 fun h3 F3 u3 => k h3 ⟨F3.st, F3.out, F3.frs.2.2, F3.tr⟩ (u2.trans u3)
theorem leave_next {Q : Unit → Shared → Prop} (fr : A.frames = some (env :: outer)) (el : env.frame = some L) (F : Fl B (env :: outer) x cls dx cn .none s.heap)
    (k : ∀ h2, Fl B outer x cls dx cn .none h2 → s.heap.UpToSlots h2 → Q () { s with heap := h2 }) : wpAny M A (leaving env (.ref x)) Q E s := by
  unfold leaving
  refine wpAny_bind (note_next fr el F fun h2 F2 u2 => ?_)
  refine flight_none F2 fun h3 F3 u3 => k h3 ⟨F3.st, F3.out, F3.frs.2.2, F3.tr⟩ (u2.trans u3)
end
end Fly

namespace Fly
open PySem
open Builtin
open Builtin.ObjectAttr

section
variable {os : OsState} {t : Nat} {prog : Program} {w : World} {A : Around} {E : Value → Shared → Prop} {h : Heap} {g : Array GenState} {d : Drawn}
variable {C N x : Addr} {nm q : Str} {bm bs : List Value} {sn : List Str} {sub : List Value} {ab : Bool} {col : Option Bool} {dd : Option Addr} {k0 k1 k2 k3 k5 : Option Value} {B newId sa owner : String}
  {mN : Str → Option Value} {f : Str} {v : Value} {ox : Obj}

/-- the object with a dict -/
abbrev withD (o : Obj) (p : Addr) : Obj := { cls := o.cls, dict := some p, data := o.data, slots := o.slots }

theorem put_entry {tk : Tok} {Q : Fin → Shared → Prop} (SF : StoreFacts B bm sa owner)
    (gC : h.get? C = some (excClassObj nm q C N bs bm true sn sub ab col dd k0 k1 k2 k3 k5 newId)) (nN : h.Ns N mN) (nf : mN f = none)
    (lB : typeLookup (.type B) f = pure none) (gx : h.get? x = some ox) (ec : ox.cls = .ref C) (nc : ∀ c, ox.data ≠ .cls c) (ed : ox.dict = none)
    (k : ∀ h2 tk2, h2.get? x = some (withD ox h.objs.size) → h2.Ns1 h.objs.size (fun y => if y = f then some v else none) → (∀ b o, b ≠ x → h.get? b = some o → h2.get? b = some o) → Q (.done (.ret .none)) ⟨h2, g, d, tk2, os⟩) :
    wpAny (model prog w) A (Builtin.«object.__setattr__» ⟨[.ref x, .str f tk, v], []⟩) Q E ⟨h, g, d, t, os⟩ := by
  have passes := SF.passes (.ref x)
  (unfold Builtin.«object.__setattr__»)
  repeat (first | rw [refuse_eq] | (rw [refuseLoop_ref, passes]) | (with_reducible refine wpAny_loadPart_at gx ?_; rw [ec]) | with_reducible refine wpAny_mroOf_exc gC ?_ | (with_reducible refine wpAny_typeLookup_exc gC nN SF.mro lB ?_; rw [nf]) | wp_step)
  rw [ed, if_neg (by simp [typeHasDict])]
  split
  · rename_i zz
    cases zz
  split
  · rename_i c zz
    exact absurd zz (nc c)
  · have gx1 : (h.push { cls := .type "dict", data := .dict #[] }).get? x = some ox := Heap.get?_push_of_some _ gx
    have nxs : x ≠ h.objs.size := Nat.ne_of_lt (Heap.lt_size gx)
    refine (wpAny_bind (wpAny_alloc' ?_))
    refine wpAny_bind (wpAny_update' gx1 ?_)
    refine wpAny_pure ?_
    have gd : ((h.push { cls := .type "dict", data := .dict #[] }).update x fun o => { cls := o.cls, dict := some h.objs.size, data := o.data, slots := o.slots }).get? h.objs.size
        = some { cls := .type "dict", data := .dict #[] } := (Heap.get?_update_ne _ _ _ _ nxs.symm).trans (Heap.get?_push_at rfl rfl)
    have nd : ((h.push { cls := .type "dict", data := .dict #[] }).update x fun o => { cls := o.cls, dict := some h.objs.size, data := o.data, slots := o.slots }).Ns h.objs.size (fun _ => none) :=
      ⟨_, #[], _, gd, rfl, fun e he => absurd he (by simp), fun _ => rfl⟩
    show wpAny _ _ (storeInDict h.objs.size (.str f tk) f v) _ _ _
    unfold storeInDict; unfold newKeyGuard
    refine wpAny_bind (wpAny_pure (wpAny_bind (wpAny_nsSet1 (Heap.Ns1.of_empty nd) fun h2 n2 sb => ?_)))
    obtain ⟨oD, esD, epD, gD, edD, ecD⟩ := n2.count (Within.cons f v Within.nil)
    refine wpAny_bind (wpAny_lookBehind gD (by rw [edD]; exact pastItsLine_dict (Nat.le_trans ecD (by rw [List.length_cons, List.length_nil, sizeLine_eq]; omega))) ?_)
    wp_walk
    refine k h2 _ ?_ ?_ fun b o nb gb => ?_
    · refine (sb.2 x nxs).trans (Heap.get?_update_self _ gx1 ?_)
      have fr := (Heap.get?_some_iff.mp gx).2
      obtain ⟨oc, od, odt, oslt⟩ := ox
      cases odt <;> first | rfl | exact fr
    · exact n2
    · exact (sb.2 b (Nat.ne_of_lt (Heap.lt_size gb))).trans ((Heap.get?_update_ne _ _ _ _ nb).trans (Heap.get?_push_of_some _ gb))

/-- x.f = v, the exception having no dict yet -/
theorem put_attr {Q : Unit → Shared → Prop} (SF : StoreFacts B bm sa owner)
    (gC : h.get? C = some (excClassObj nm q C N bs bm true sn sub ab col dd k0 k1 k2 k3 k5 newId)) (nN : h.Ns N mN) (ns : mN "__setattr__" = none) (nf : mN f = none)
    (lB : typeLookup (.type B) f = pure none) (gx : h.get? x = some ox) (ec : ox.cls = .ref C) (nc : ∀ c, ox.data ≠ .cls c) (ed : ox.dict = none)
    (k : ∀ h2 tk2, h2.get? x = some (withD ox h.objs.size) → h2.Ns1 h.objs.size (fun y => if y = f then some v else none) → (∀ b o, b ≠ x → h.get? b = some o → h2.get? b = some o) → Q () ⟨h2, g, d, tk2, os⟩) :
    wpAny (model prog w) A (setAttr (.ref x) f v) Q E ⟨h, g, d, t, os⟩ := by
  have sbind := SF.slot.bind (.ref x)
  unfold setAttr; unfold callSpecial?; unfold specialOf
  repeat (any_goals (first | assumption | (with_reducible refine wpAny_loadPart_at gx ?_; rw [ec]) | (with_reducible refine wpAny_typeLookup_exc gC nN SF.mro SF.slot.lookup ?_; rw [ns]) | wp_step))
  refine codeAny_call_builtin SF.slot.plain SF.entry (wpAny_check_sa SF gC gx ec (put_entry SF gC nN nf lB gx ec nc ed fun h2 tk2 c1 c2 c3 => ?_))
  repeat (any_goals (first | assumption | wp_step))
  exact k h2 tk2 c1 c2 c3

/-- x.f, from its dict -/
theorem get_entry {dx : Addr} {mA : Str → Option Value} {tk : Tok} {Q : Fin → Shared → Prop} (mro : mroOf (.type B) = pure bm)
    (gC : h.get? C = some (excClassObj nm q C N bs bm true sn sub ab col dd k0 k1 k2 k3 k5 newId)) (nN : h.Ns N mN) (nf : mN f = none)
    (lB : typeLookup (.type B) f = pure none) (gx : h.get? x = some ox) (ec : ox.cls = .ref C) (nc : ∀ c, ox.data ≠ .cls c) (ed : ox.dict = some dx) (nd : h.Ns1 dx mA) (ev : mA f = some v)
    (k : Q (.done (.ret v)) ⟨h, g, d, t, os⟩) :
    wpAny (model prog w) A (Builtin.«object.__getattribute__» ⟨[.ref x, .str f tk], []⟩) Q E ⟨h, g, d, t, os⟩ := by
  (unfold Builtin.«object.__getattribute__»)
  repeat (first | (with_reducible refine wpAny_loadPart_at gx ?_; rw [ec]) | (with_reducible refine wpAny_typeLookup_exc gC nN mro lB ?_; rw [nf]) | wp_step)
  split
  · rename_i c zz
    exact absurd zz (nc c)
  unfold instanceDict
  repeat (first | (with_reducible refine wpAny_loadPart_at gx ?_; rw [ec]) | with_reducible refine wpAny_loadPart_at gC ?_ | wp_step)
  rw [ed]
  repeat (first | (with_reducible refine wpAny_nsGet nd.ns ?_; rw [ev]) | wp_step)
  exact k

theorem get_attr {dx : Addr} {mA : Str → Option Value} {expr : Bool} {Q : Value → Shared → Prop} {bmB : List Value} (FB : ExcAttrBase B bm)
    (gC : h.get? C = some (excClassObj nm q C N bs bm true sn sub ab col dd k0 k1 k2 k3 k5 newId)) (nN : h.Ns N mN) (ng : mN "__getattribute__" = none) (ng2 : mN "__getattr__" = none) (nf : mN f = none)
    (lB : typeLookup (.type B) f = pure none) (gx : h.get? x = some ox) (ec : ox.cls = .ref C) (nc : ∀ c, ox.data ≠ .cls c) (ed : ox.dict = some dx) (nd : h.Ns1 dx mA) (ev : mA f = some v) (hh : handedOut v = pure v)
    (k : Q v ⟨h, g, d, t + 1, os⟩) :
    wpAny (model prog w) A (getAttr (.ref x) f expr) Q E ⟨h, g, d, t, os⟩ := by
  have gb := FB.ga.bind (.ref x)
  have x0 : (expr && onTheHeap (Value.builtin "BaseException.__getattribute__")) = false := by cases expr <;> rfl
  have x2 : (Value.builtin "BaseException.__getattribute__" == Value.builtin "object.__getattribute__") = false := by decide +kernel
  have x1 : (onTheHeap (Value.ref C) && Value.builtin "BaseException.__getattribute__" == Value.builtin "object.__getattribute__") = false := by rw [x2]; rfl
  have T : OwnTailQ h bm bm := .base
  unfold getAttr
  repeat (any_goals (first | assumption | (with_reducible refine wpAny_loadPart_at gx ?_; rw [ec]) | (with_reducible refine wpAny_typeLookup_exc gC nN FB.mro FB.ga.lookup ?_; rw [ng]) | (with_reducible refine wpAny_typeLookup_exc gC nN FB.mro FB.noGetattr ?_; rw [ng2]) | wp_step))
  refine codeAny_call_builtin FB.ga.plain F.entry_bexc_ga (wpAny_check_ga_own FB gC T gx ec (get_entry FB.mro gC nN nf lB gx ec nc ed nd ev ?_))
  repeat (any_goals (first | assumption | wp_step))
end
end Fly

/-! EXCEPTIONS of an own class with a def __init__ and a dict, over the layer -/
namespace L2
open PySem PySem.Spec PyProof.Rows

theorem ns_some_in {K : PySem.W.Frag} {h : Heap} {N : Addr} {m : Str → Option Value} {f : Str} {v : Value} (X : K.In h) (G : h.Ns N m) (e : PySem.W.nsIn K N f = some (some v)) : m f = some v := by
  obtain ⟨ob, es, ep, g1, d1, _, fd⟩ := G
  unfold PySem.W.nsIn at e
  split at e
  · rename_i c d es' n' sl q
    have z := X _ _ q
    rw [g1] at z
    cases z
    cases d1
    split at e
    · rename_i en he
      cases e
      rw [← fd]
      unfold nsFind findBy
      rw [← Array.find?_toList, he]
      rfl
    · split at e <;> cases e
  · cases e

abbrev mroE : List Value := [.type "Exception", .type "BaseException", .type "object"]
/-- what of the text the exception's class must have -/
structure Exc (K : PySem.W.Frag) (C N fI : Addr) : Prop where
  cls : ∃ (nm q : Str) (bs : List Value) (sn : List Str) (sub : List Value) (ab : Bool) (col : Option Bool) (dd : Option Addr) (k0 k1 k2 k3 k5 : Option Value),
    K.lookup C = some (excClassObj nm q C N bs mroE true sn sub ab col dd k0 k1 k2 k3 k5 "Exception.__new__")
  ok : PySem.W.nsOkIn K N = true
  init : PySem.W.nsIn K N "__init__" = some (some (.ref fI))
  sa : PySem.W.nsIn K N "__setattr__" = some none
  ga : PySem.W.nsIn K N "__getattribute__" = some none
  gb : PySem.W.nsIn K N "__getattr__" = some none
  kp : PySem.W.keepIn K (.ref C) = true
  fn : ∃ oI, K.lookup fI = some oI ∧ oI.cls = .type "function"
/-- an attribute that no class of it has -/
structure NoX (K : PySem.W.Frag) (N : Addr) (f : Str) : Prop where
  own : PySem.W.nsIn K N f = some none
  up : typeLookup (.type "Exception") f = pure none

abbrev xFields (t : Addr) : Data := .fields #[.ref t, .none, .none, .none, .bool false, .none]
/-- an exception as it is made; one with its dict -/
def xNew (C t x : Addr) : HO := .ext fun h => h.get? x = some { cls := .ref C, data := xFields t }
def xDic (C t dx x : Addr) : HO := .ext fun h => h.get? x = some { cls := .ref C, dict := some dx, data := xFields t }
theorem xNew_ok {P : Program} {w : World} {H : Hp} {h : Heap} {C t x : Addr} (e : h.get? x = some { cls := .ref C, data := xFields t }) : ObjOk P w H h x (xNew C t x) :=
  ⟨e, ⟨_, e⟩, fun _ _ p k => k _ p⟩
theorem xDic_ok {P : Program} {w : World} {H : Hp} {h : Heap} {C t dx x : Addr} (e : h.get? x = some { cls := .ref C, dict := some dx, data := xFields t }) : ObjOk P w H h x (xDic C t dx x) :=
  ⟨e, ⟨_, e⟩, fun _ _ p k => k _ p⟩
/-- not tracked any more -/
def del (H : Hp) (a : Addr) : Hp := fun b => if b = a then none else H b
theorem del_same {H : Hp} {a : Addr} : del H a a = none := by unfold del; rw [if_pos rfl]
theorem del_ne {H : Hp} {a b : Addr} (h : b ≠ a) : del H a b = H b := by unfold del; rw [if_neg h]
theorem ObjOk.there {P : Program} {w : World} {H : Hp} {h : Heap} {a : Addr} : ∀ {o : HO}, ObjOk P w H h a o → ∃ ob, h.get? a = some ob
  | .lst xs, x => by obtain ⟨_, _, _, _, e⟩ := x; exact ⟨_, e⟩
  | .tup xs, x => by obtain ⟨_, _, _, ob, e, _⟩ := x; exact ⟨ob, e⟩
  | .dK kvs, x => by obtain ⟨_, _, _, _, o, _, _, e, _⟩ := x; exact ⟨o, e⟩
  | .dT kvs, x => by obtain ⟨_, _, _, _, o, _, _, e, _⟩ := x; exact ⟨o, e⟩
  | .set S n, x => by obtain ⟨o, _, _, _, e, _⟩ := x; exact ⟨o, e⟩
  | .ins C dx fs, x => by obtain ⟨_, _, _, e, _⟩ := x; exact ⟨_, e⟩
  | .own y, x => x
  | .xd fs, x => by obtain ⟨_, ⟨o, _, _, e, _⟩, _⟩ := x; exact ⟨o, e⟩
  | .rng lo hi, x => by obtain ⟨_, _, _, e⟩ := x; exact ⟨_, e⟩
  | .frz ob u, x => ⟨ob, x.1⟩
  | .tbl ps, x => ⟨_, (show h.get? a = some _ from x)⟩
  | .met f y, x => ⟨_, (show h.get? a = some _ from x)⟩
  | .ext φ, x => x.2.1
theorem HOk.out {P : Program} {w : World} {H : Hp} {h : Heap} {a : Addr} (x : HOk P w H h) (e : h.get? a = none) : H a = none := by
  cases q : H a with
  | none => rfl
  | some u =>
    obtain ⟨ob, z⟩ := (x a u q).there
    rw [e] at z
    cases z

section
variable {X : Cx} {pins : List (Addr × Obj)} {σ : St} {H : Hp} {s : Shared}
/-- a new object, wherever it stands, is tracked -/
theorem Inv.laidAt {a : Addr} {o : HO} {h' : Heap} {t' : Nat} (I : Inv X pins σ H s) (k : ∀ b u, s.heap.get? b = some u → h'.get? b = some u) (ha : s.heap.get? a = none) (new : ObjOk X.prog X.w (upd H a o) h' a o) :
    Inv X pins σ (upd H a o) { s with heap := h', toks := t' } := by
  have hn : H a = none := I.hok.out ha
  have nb : ∀ b u, s.heap.get? b = some u → b ≠ a := fun b u q z => by rw [z, ha] at q; cases q
  refine I.un ⟨fun b u q _ _ _ => k b u q, fun b u q _ _ _ => ⟨u.slots, k b u q⟩, fun b u q n _ => by rw [upd_ne (nb b u q)]; exact n, fun b u q _ => ⟨u, k b u q⟩,
    fun b xs q => by rw [upd_ne (ne_of_none q hn)]; exact q, fun b u xs q => by rw [upd_ne (ne_of_none q hn)]; exact q, fun b ps q => ⟨#[], by rw [upd_ne (ne_of_none q hn), q]; simp⟩⟩ fun b u e => ?_
  by_cases hb : b = a
  · subst hb
    rw [upd_same] at e
    cases e
    exact new
  · rw [upd_ne hb] at e
    exact (I.hok b u e).stay (fun c v _ q => k c v q) (fun c q => by rw [upd_ne (ne_of_none q hn)]; exact q) fun c xs q => by rw [upd_ne (ne_of_none q hn)]; exact q

/-- x.f = y, x a new exception -/
theorem setx_ok {C N fI a t : Addr} {f : Str} {y : V} {u : Value} {A : Around} {E : Value → Shared → Prop} {Q : Unit → Shared → Prop} (I : Inv X pins σ H s) (e : H a = some (xNew C t a)) (c : Exc X.K C N fI) (n : NoX X.K N f) (ry : RelV y u)
    (k : ∀ dx s', H dx = none → dx ≠ a → Inv X pins σ (upd (upd H dx (.xd [(f, y)])) a (xDic C t dx a)) s' → Q () s') : wpAny (model X.prog X.w) A (setAttr (.ref a) f u) Q E s := by
  obtain ⟨nm, q, bs, sn, sub, ab, col, dd, k0, k1, k2, k3, k5, lc⟩ := c.cls
  have gx : s.heap.get? a = some { cls := .ref C, data := xFields t } := (I.hok a _ e).1
  have KX := I.kIn
  have isn := PySem.W.isNs_of_in KX c.ok
  have nN : s.heap.Ns N (s.heap.nsMap N) := .of_isNs isn
  obtain ⟨hp, gg, dw, tk, os⟩ := s
  refine Fly.put_attr PySem.F.store_Exception (KX _ _ lc) nN (PySem.W.nsMap_none_of_in KX c.ok c.sa) (PySem.W.nsMap_none_of_in KX c.ok n.own) n.up gx rfl (fun _ z => (by cases z)) rfl fun h2 tk2 g1 g2 g3 => ?_
  have fr : H hp.objs.size = none := I.hok.fresh (Nat.le_refl _)
  have ne : hp.objs.size ≠ a := Nat.ne_of_gt (Heap.lt_size gx)
  refine k hp.objs.size _ fr ne ?_
  have nta : ∀ b u, H b = some u → (∀ φ, u ≠ .ext φ) → b ≠ a := fun b u q nu z => by
    rw [z, e] at q
    cases q
    exact nu _ rfl
  have sm : ∀ b u, H b = some u → (∀ φ, u ≠ .ext φ) → upd (upd H hp.objs.size (.xd [(f, y)])) a (xDic C t hp.objs.size a) b = some u := fun b u q nu => by
    rw [upd_ne (nta b u q nu), upd_ne (ne_of_none q fr)]
    exact q
  refine I.un (h' := h2) (t' := tk2) ⟨fun b o q nb _ _ => g3 b o (fun z => by rw [z, e] at nb; cases nb) q, fun b o q nb _ _ => ⟨o.slots, g3 b o (fun z => by rw [z, e] at nb; cases nb) q⟩, fun b o q nb _ => ?_, fun b o q _ => ?_,
    fun b xs q => sm b _ q fun _ z => (by cases z), fun b o xs q => sm b _ q fun _ z => (by cases z), fun b ps q => ⟨#[], by rw [sm b _ q fun _ z => (by cases z)]; simp⟩⟩ fun b o q => ?_
  · rw [upd_ne (fun z => by rw [z, e] at nb; cases nb), upd_ne (Nat.ne_of_lt (Heap.lt_size q))]
    exact nb
  · by_cases z : b = a
    · rw [z]
      exact ⟨_, g1⟩
    · exact ⟨o, g3 b o z q⟩
  · by_cases z : b = a
    · subst z
      rw [upd_same] at q
      cases q
      exact xDic_ok g1
    · rw [upd_ne z] at q
      by_cases z2 : b = hp.objs.size
      · subst z2
        rw [upd_same] at q
        cases q
        refine ⟨_, g2, fun g => ?_⟩
        by_cases zz : g = f
        · subst zz
          rw [List.lookup_cons_self, if_pos rfl]
          exact ry
        · rw [if_neg zz, List.lookup_cons, beq_false_of_ne zz]
          exact True.intro
      · rw [upd_ne z2] at q
        have own : ∀ c, H c = some (.own b) → upd (upd H hp.objs.size (.xd [(f, y)])) a (xDic C t hp.objs.size a) c = some (.own b) := fun c qc => sm c _ qc fun _ z => by cases z
        refine (I.hok b o q).stay (fun c v hc qc => g3 c v ?_ qc) own fun c xs qc => sm c _ qc fun _ z => by cases z
        rcases hc with rfl | hc
        · exact z
        · exact nta c _ hc fun _ z => by cases z
/-- x.f, x a caught exception that is pinned -/
theorem getx_ok {C N fI a dx : Addr} {ox : Obj} {vs : Array Value} {fs : List (Str × V)} {f : Str} {v : V} {b : Bool} {A : Around} {E : Value → Shared → Prop} {Q : Value → Shared → Prop} (I : Inv X pins σ H s) (hp : (a, ox) ∈ X.pn) (ec : ox.cls = .ref C) (ed : ox.dict = some dx) (ef : ox.data = .fields vs)
    (e : H dx = some (.xd fs)) (c : Exc X.K C N fI) (n : NoX X.K N f) (l : fs.lookup f = some v)
    (k : ∀ u s', Inv X pins σ H s' → RelV v u → Q u s') : wpAny (model X.prog X.w) A (getAttr (.ref a) f b) Q E s := by
  obtain ⟨nm, q, bs, sn, sub, ab, col, dd, k0, k1, k2, k3, k5, lc⟩ := c.cls
  have gx : s.heap.get? a = some ox := (I.pin (a, ox) (List.mem_append_left _ hp)).1
  have KX := I.kIn
  have isn := PySem.W.isNs_of_in KX c.ok
  have nN : s.heap.Ns N (s.heap.nsMap N) := .of_isNs isn
  obtain ⟨mA, n1, rel⟩ := (show ObjOk X.prog X.w H s.heap dx (.xd fs) from I.hok dx _ e)
  obtain ⟨u, hu, ru⟩ := RelO.some_of (v := v) (o := mA f) (by rw [← l]; exact rel f)
  have fin := k u _ (I.tok (s.toks + 1)) ru
  obtain ⟨hp, gg, dw, tk, os⟩ := s
  exact Fly.get_attr (bmB := mroE) PySem.F.attrBase_Exception (KX _ _ lc) nN (PySem.W.nsMap_none_of_in KX c.ok c.ga) (PySem.W.nsMap_none_of_in KX c.ok c.gb) (PySem.W.nsMap_none_of_in KX c.ok n.own) n.up gx ec (fun _ z => by rw [ef] at z; cases z) ed n1 hu
    (PySem.W.handedOut_of (handed_of ru)) fin
end

/-! ### readings and rules -/
def sXFld (C : Addr) (ta tv : TE) (f : Str) : TS := fun D σ H => tv σ H fun y H1 => ta σ H1 fun x H2 => ∃ a t, x = .ref a ∧ H2 a = some (xNew C t a) ∧ ∀ dx, H2 dx = none → dx ≠ a → D.nx σ (upd (upd H2 dx (.xd [(f, y)])) a (xDic C t dx a))
def tXGet (a dx : Addr) (ta : TE) (f : Str) : TE := fun σ H Q => ta σ H fun x H1 => ∃ fs v, x = .ref a ∧ H1 dx = some (.xd fs) ∧ fs.lookup f = some v ∧ Q v H1
section
variable {X : Cx} {o e value : Expr} {f : Str} {pos pos' : Pos} {ta tv : TE} {C N fI : Addr}
theorem ps_xfld (c : Exc X.K C N fI) (n : NoX X.K N f) (ha : PE X o ta) (hv : PE X value tv) (hs : swapsWith value (some (.Attribute o f pos')) pos.line X.env = pure false) : PS X (.Assign [.Attribute o f pos'] value pos) (sXFld C ta tv f) := by
  intro pins s σ H D I h
  refine plainObj_wpAny_Assign_Attribute (thn (hv pins s σ H _ I h) fun u s1 ⟨y, H1, I1, ry, q⟩ => thn (ha pins s1 σ H1 _ I1 q) fun ov s2 ⟨x, H2, I2, rx, a, t, ex, ea, q2⟩ => ?_) hs
  subst ex
  obtain rfl : ov = Value.ref a := rx
  exact setx_ok I2 ea c n ry fun dx s3 h1 h2 I3 => ⟨σ, _, I3, q2 dx h1 h2⟩
theorem pe_xget {a dx : Addr} {ox : Obj} {vs : Array Value} (c : Exc X.K C N fI) (n : NoX X.K N f) (hp : (a, ox) ∈ X.pn) (ec : ox.cls = .ref C) (ed : ox.dict = some dx) (ef : ox.data = .fields vs) (he : PE X e ta)
    (hb : attributeBase e f X.env (eval e X.env) = eval e X.env) : PE X (.Attribute e f pos) (tXGet a dx ta f) := by
  intro pins s σ H Q I h
  refine attr_of hb (thn (he pins s σ H _ I h) fun u s1 ⟨x, H1, I1, rx, fs, v, ex, ea, l, q⟩ => ?_)
  subst ex
  obtain rfl : u = Value.ref a := rx
  exact getx_ok I1 hp ec ed ef ea c n l fun u' s2 I2 ru => ⟨v, H1, I2, ru, q⟩
end

/-! ### an exception on its way -/
structure UnB (fs : List Addr) (H H' : Hp) (h B h' : Heap) : Prop where
  keep : ∀ b o, h.get? b = some o → b ∉ fs → ∃ o', B.get? b = some o' ∧ (H b = none → o' = o)
  slot : ∀ b o, h.get? b = some o → H b = none → b ∈ fs → ∃ sl, h'.get? b = some { o with slots := sl }
  free : ∀ b o, h.get? b = some o → H b = none → H' b = none
  fsf : ∀ b ∈ fs, H b = none
  tups : ∀ b xs, H b = some (.tup xs) → H' b = some (.tup xs)
  frzs : ∀ b o u, H b = some (.frz o u) → H' b = some (.frz o u)
  tbls : ∀ b ps, H b = some (.tbl ps) → ∃ more, H' b = some (.tbl (ps ++ more))
theorem UnB.un {fs : List Addr} {H H' : Hp} {h B h' : Heap} (U : UnB fs H H' h B h') (st : B.StaysIn h') : Un fs [] H H' h h' where
  keep := fun b o q n hb _ => by
    obtain ⟨o', e1, e2⟩ := U.keep b o q hb
    rw [e2 n] at e1
    exact st b o e1
  slot := fun b o q n hb _ => U.slot b o q n hb
  free := fun b o q n _ => U.free b o q n
  there := fun b o q _ => by
    by_cases hb : b ∈ fs
    · obtain ⟨sl, e⟩ := U.slot b o q (U.fsf b hb) hb
      exact ⟨_, e⟩
    · obtain ⟨o', e1, _⟩ := U.keep b o q hb
      exact ⟨o', st b o' e1⟩
  tups := U.tups
  frzs := U.frzs
  tbls := U.tbls
theorem UnB.onto {fs : List Addr} {H H' : Hp} {h B h1 h2 : Heap} (U : UnB fs H H' h B h1) (up : h1.UpToSlots h2) (nf : ∀ b ∈ fs, ∀ o, h1.get? b = some o → ∀ vs, o.data ≠ .fields vs) : UnB fs H H' h B h2 :=
  ⟨U.keep, fun b o q n hb => (by
    obtain ⟨sl, e⟩ := U.slot b o q n hb
    obtain ⟨sl', e'⟩ := up b _ e (nf b hb _ e)
    exact ⟨sl', e'⟩), U.free, U.fsf, U.tups, U.frzs, U.tbls⟩
theorem frames_nf {h B : Heap} {l : List Env} (F : h.FunFrames B l) : ∀ b ∈ frs l, ∀ o, h.get? b = some o → ∀ vs, o.data ≠ .fields vs := fun b hb o e => by
  obtain ⟨_, o', e', nf⟩ := F.mem hb
  rw [e] at e'
  cases e'
  exact nf
/-- how an exception of the class at C lies behind a call -/
def CXG (cn : Bool) (P : Program) (w : World) (C : Addr) : CXT := fun outer H s E e s' => ∃ (x dx : Addr) (H' : Hp) (B : Heap), e = .ref x ∧ Fly.Fl B outer x (.ref C) dx cn .none s'.heap ∧ H' x = none ∧ s'.os = s.os ∧ AllBare s'.gens ∧ HOk P w H' B ∧
  UnB (frs outer) H H' s.heap B s'.heap ∧ E (.ref C) (some dx) H'
abbrev CXF (P : Program) (w : World) (C : Addr) : CXT := CXG true P w C
/-- an exception that is made here reaches what this body wants of it -/
def RaisesTo (X : Cx) (C : Addr) (E : XK) : Prop := ∀ (pins : List (Addr × Obj)) (σ : St) (H : Hp) (s : Shared) (x t dx : Addr), Inv X pins σ H s → X.s_0.heap.get? x = none → H x = some (xDic C t dx x) → E (.ref C) (some dx) (del H x) → X.xe (.ref x) s

section
variable {P : Program} {w : World} {K : PySem.W.Frag} {mg : Str → Option Value} {base : Heap} {N : List Str} {qual : Str} {scope : Scope} {f : Addr} {cd : Value} {A : Around} {outer : List Env} {s_0 : Shared} {H_0 : Hp} {C : Addr} {E E_0 : XK}
theorem stk_nl {X : Cx} {pins : List (Addr × Obj)} {σ : St} {H : Hp} {s : Shared} (I : Inv X pins σ H s) {b : Addr} {o : Obj} (q : X.s_0.heap.get? b = some o) (hb : b ∉ frs X.outer) : b ∉ frs X.stack := fun z => by
  rcases List.mem_cons.mp (I.stkSub b z) with e | e
  · exact absurd (Nat.lt_of_lt_of_le (Heap.lt_size q) I.ok.above) (by rw [e]; exact Nat.lt_irrefl _)
  · exact hb e
/-- a callee's exception passes this def's frame -/
theorem CXF.passes {cn : Bool} (hE : ∀ c d H, E c d H → E_0 c d H) : Passes (CXG cn P w C) (cxOf (CXG cn P w C) P w K mg base N qual scope f cd A outer s_0 H_0 E_0) E := by
  intro pins σ H s e s' I ⟨x, dx, H', B, ee, F, hx, os, bare, hok, U, q⟩
  subst ee
  have fr := I.ok.frames
  have bs := I.base
  refine Fly.leave_next (L := s_0.heap.objs.size) fr rfl F fun h2 F2 up => ?_
  have U1 := U.onto up (frames_nf F.frs)
  refine ⟨x, dx, H', B, rfl, F2, hx, os.trans I.os, bare, hok, ⟨fun b o g hb => ?_, fun b o g n hb => ?_, fun b o g n => ?_, I.ok.frf, fun b xs g => U.tups b xs (bs.tups b xs g), fun b o u g => U.frzs b o u (bs.frzs b o u g), fun b ps g => ?_⟩, hE _ _ _ q⟩
  · have nst : b ∉ frs _ := stk_nl I g hb
    obtain ⟨o1, g1⟩ := bs.there b o g (by intro z; cases z)
    obtain ⟨o2, g2, e2⟩ := U.keep b o1 g1 nst
    refine ⟨o2, g2, fun n => ?_⟩
    have g3 := bs.keep b o g n hb (by intro z; cases z)
    rw [g1] at g3
    cases g3
    exact e2 (bs.free b o g n (by intro z; cases z))
  · obtain ⟨sl, g1⟩ := bs.slot b o g n hb (by intro z; cases z)
    obtain ⟨sl2, g2⟩ := U1.slot b _ g1 (bs.free b o g n (by intro z; cases z)) (List.mem_cons_of_mem _ hb)
    exact ⟨sl2, g2⟩
  · obtain ⟨o1, g1⟩ := bs.there b o g (by intro z; cases z)
    exact U.free b o1 g1 (bs.free b o g n (by intro z; cases z))
  · obtain ⟨m1, g1⟩ := bs.tbls b ps g
    obtain ⟨m2, g2⟩ := U.tbls b _ g1
    exact ⟨m1 ++ m2, by rw [g2, Array.append_assoc]⟩
/-- an exception made here leaves this def's frame -/
theorem CXF.raises {cn : Bool} : RaisesTo (cxOf (CXG cn P w C) P w K mg base N qual scope f cd A outer s_0 H_0 E) C E := by
  intro pins σ H s x t dx I gx0 ex q
  have fr := I.ok.frames
  have bs := I.base
  have gx : s.heap.get? x = some { cls := .ref C, dict := some dx, data := xFields t } := (I.hok x _ ex).1
  have stf := I.stkFree
  have nxf : x ∉ frs (cxOf (CXG cn P w C) P w K mg base N qual scope f cd A outer s_0 H_0 E).stack := fun z => by rw [stf x z] at ex; cases ex
  generalize eB : PySem.W.hideAll s.heap (x :: frs (cxOf (CXG cn P w C) P w K mg base N qual scope f cd A outer s_0 H_0 E).stack) = B
  have inB : ∀ b o, s.heap.get? b = some o → b ≠ x → b ∉ frs (cxOf (CXG cn P w C) P w K mg base N qual scope f cd A outer s_0 H_0 E).stack → B.get? b = some o := fun b o g h1 h2 => by
    rw [← eB]
    exact PySem.W.hideAll_get _ g fun z => (List.mem_cons.mp z).elim h1 h2
  have st : B.StaysIn s.heap := fun b o g => by
    rw [← eB] at g
    exact PySem.W.of_hideAll _ g
  have ff : s.heap.FunFrames B (cxOf (CXG cn P w C) P w K mg base N qual scope f cd A outer s_0 H_0 E).stack := by
    rw [← eB]
    exact PySem.W.funFrames_hide I.stack fun en he a ha => List.mem_cons_of_mem _ (List.mem_filterMap.mpr ⟨en, he, ha⟩)
  refine Fly.leave_first (cn := cn) (L := s_0.heap.objs.size) (B := B) (cls := .ref C) (dx := dx) fr ff rfl gx st (by rw [← eB]; exact PySem.W.hideAll_none _ List.mem_cons_self) rfl rfl (fun _ => rfl) rfl rfl fun h2 F2 up => ?_
  have nx : ∀ b o, s_0.heap.get? b = some o → b ≠ x := fun b o g z => by
    rw [z] at g
    exact absurd (gx0.symm.trans g) (by intro z; cases z)
  have dsm : ∀ b u, H b = some u → (∀ φ, u ≠ .ext φ) → del H x b = some u := fun b u g nu => by
    rw [del_ne]
    · exact g
    · intro z
      rw [z, ex] at g
      cases g
      exact nu _ rfl
  refine ⟨x, dx, del H x, B, rfl, F2, del_same, I.os, I.bare, fun b o g => ?_, ⟨fun b o g hb => ?_, fun b o g n hb => ?_, fun b o g n => ?_, I.ok.frf, fun b xs g => dsm b _ (bs.tups b xs g) fun _ z => (by cases z), fun b o u g => dsm b _ (bs.frzs b o u g) fun _ z => (by cases z), fun b ps g => ?_⟩, q⟩
  · have nb : b ≠ x := fun z => by rw [z, del_same] at g; cases g
    rw [del_ne nb] at g
    refine (I.hok b o g).stay (fun c v hc gc => inB c v gc ?_ ?_) (fun c gc => dsm c _ gc fun _ z => (by cases z)) fun c xs gc => dsm c _ gc fun _ z => by cases z
    · rcases hc with rfl | hc
      · exact nb
      · intro z
        rw [z, ex] at hc
        cases hc
    · intro z
      rcases hc with rfl | hc
      · rw [stf _ z] at g; cases g
      · rw [stf _ z] at hc; cases hc
  · obtain ⟨o1, g1⟩ := bs.there b o g (by intro z; cases z)
    refine ⟨o1, inB b o1 g1 (nx b o g) (stk_nl I g hb), fun n => ?_⟩
    have g3 := bs.keep b o g n hb (by intro z; cases z)
    rw [g1] at g3
    cases g3
    rfl
  · obtain ⟨sl, g1⟩ := bs.slot b o g n hb (by intro z; cases z)
    obtain ⟨sl2, g2⟩ := up b _ g1 (frames_nf ff b (List.mem_cons_of_mem _ hb) _ g1)
    exact ⟨sl2, g2⟩
  · rw [del_ne (nx b o g)]
    exact bs.free b o g n (by intro z; cases z)
  · obtain ⟨m1, g1⟩ := bs.tbls b ps g
    exact ⟨m1, dsm b _ g1 fun _ z => by cases z⟩
end

/-! ### raise C(e, ..) -/
def tRaise (C : Addr) (sp : Sp) (E : XK) (ta : TA) : TS := fun _ σ H => ta σ H fun vs H1 => ∀ a t, H1 a = none →
  sp (.ref a :: vs) (upd H1 a (xNew C t a)) (fun v H2 => v = .non ∧ ∃ dx, H2 a = some (xDic C t dx a) ∧ E (.ref C) (some dx) (del H2 a)) (fun _ _ _ => False)
theorem raise_made {M : Model} {A : Around} {env : Env} {Ex : Value → Shared → Prop} {nm q : Str} {C N : Addr} {bs bm : List Value} {sn : List Str} {sub : List Value} {ab : Bool} {col : Option Bool} {dd : Option Addr} {k0 k1 k2 k3 k5 : Option Value} {newId : String} {hdc : Bool}
    {s : Shared} {y : Sem Value} {Q : Flow → Shared → Prop} (hb : bm.contains (.type "BaseException") = true) (hh : A.handled = none)
    (h : wpAny M A y (fun v s1 => ∃ x t dx, v = .ref x ∧ s1.heap.get? C = some (excClassObj nm q C N bs bm hdc sn sub ab col dd k0 k1 k2 k3 k5 newId) ∧
      s1.heap.get? x = some { cls := .ref C, dict := some dx, data := xFields t } ∧ Ex (.ref x) s1) Ex s) : wpAny M A (raiseStmt env (some y) none) Q Ex s := by
  have hcB : (Value.ref C :: bm).contains (.type "BaseException") = true := by rw [List.contains_cons, hb, Bool.or_true]
  unfold raiseStmt
  refine wpAny_bind (wpAny_mono h (fun v s1 h1 => ?_) fun _ _ z => z)
  obtain ⟨x, t, dx, rfl, gC, gx, fin⟩ := h1
  obtain ⟨hp, g, d, tk, os⟩ := s1
  repeat (first | with_reducible refine wpAny_loadPart_at gx ?_ | with_reducible refine wpAny_loadPart_at gC ?_ | (with_reducible refine wpAny_isSubtype_exc gC ?_; rw [hcB]) | wp_step)
  exact wpAny_raiseNew_none hh fin
theorem ps_raise {X : Cx} {C N fI : Addr} {fd : FuncData} {ps : List Str} {sp : Sp} {k : Nat} {x : Str} {np cpos pos : Pos} {e : Expr} {es : List Expr} {ta : TA} {E : XK} (c : Exc X.K C N fI) (F : FnOk X.prog X.w X.K X.mg X.base (fun _ _ _ _ _ _ => False) k fI fd ps sp) (hr : Room (k + 1) X.A)
    (hg : Gl X x) (hm : X.mg x = some (.ref C)) (hb : Binds X.K fd ps []) (hX : RaisesTo X C E) (ha : PA X (e :: es) ta) (hex : X.ex = [] := by rfl) (hps : ps.length ≤ 100 := by decide) (hdb : (x == ("__debug__" : Str)) = false := by decide)
    (he : starEach (e :: es) X.env = (false, eval e X.env) :: starEach es X.env := by rfl) (hpl : (backTo cpos (starEach es X.env)).any (·.1) = false := by rfl) :
    PS X (.Raise (some (.Call (.Name x np) (e :: es) [] cpos)) none pos) (tRaise C sp E ta) := by
  intro pins s σ H D I h
  obtain ⟨nm, q, bs, sn, sub, ab, col, dd, k0, k1, k2, k3, k5, lc⟩ := c.cls
  have isB : mroE.contains (.type "BaseException") = true := PySem.F.excBase_Exception.hasBase
  rw [arm_exec_Raise]
  simp only [evalOpt, Option.map]
  refine wpAny_bind (wpAny_standAt (raise_made (C := C) (N := N) (nm := nm) (q := q) (bs := bs) (bm := mroE) (sn := sn) (sub := sub) (ab := ab) (col := col) (dd := dd) (k0 := k0) (k1 := k1) (k2 := k2) (k3 := k3) (k5 := k5) (newId := "Exception.__new__") (hdc := true) isB hr.hd ?_))
  refine wpAny_bind (thn (Q := fun v s1 => ∃ x t dx, v = .ref x ∧ s1.heap.get? C = some (excClassObj nm q C N bs mroE true sn sub ab col dd k0 k1 k2 k3 k5 "Exception.__new__") ∧
      s1.heap.get? x = some { cls := .ref C, dict := some dx, data := xFields t } ∧ X.xe (.ref x) s1) ?_ fun v s1 q1 => wpAny_bind (wpAny_standAt (wpAny_pure q1)))
  refine wpAny_Call_Name_kw (ld_glob I hg hm ?_ hdb)
  refine PySem.W.callWith_K (h₀ := X.base) I.ok.mod.kin c.kp (thn (ha cpos pins s σ H _ I h) fun us s1 ⟨vs, H1, I1, r, q1⟩ => ⟨I1.kIn, ?_⟩) he hpl
  obtain ⟨oI, lI, cI⟩ := c.fn
  have KX := I1.kIn
  have isn := PySem.W.isNs_of_in KX c.ok
  have nN : s1.heap.Ns N (s1.heap.nsMap N) := .of_isNs isn
  have ini : s1.heap.nsMap N "__init__" = some (.ref fI) := ns_some_in KX nN c.init
  have fl := F.len
  obtain ⟨hp, g, d, tk, os⟩ := s1
  refine wpAny_call_exc_init PySem.F.excBase_Exception (KX _ _ lc) nN ini (KX _ _ lI) cI (fun h2 a mk => ?_) ?_
  · obtain ⟨t, gx, gt, gt2⟩ := mk.there
    have I2 := I1.laidAt (o := xNew C t a) (t' := tk) mk.keeps mk.new (xNew_ok gx)
    have an : H1 a = none := I1.hok.out mk.new
    have q2 := q1 a t an
    have r2 : Vals (V.ref a :: vs) (Value.ref a :: us) := .cons rfl r
    have hl : (Value.ref a :: us ++ []).length = ps.length := by
      rw [List.append_nil, ← r2.length]
      exact fl _ _ _ _ q2
    refine wpAny_call (codeAny_mono (F.run _ X.stack _ _ ⟨Value.ref a :: us, []⟩ (Value.ref a :: us ++ []) (V.ref a :: vs) _ (fun _ _ _ => False) (hr.make C us []) (I2.env0.make C us []) (hb _ (Value.ref a :: us) I2.kIn hl) (by rw [List.append_nil]; exact r2) q2) fun r s' hq => ?_)
    cases r with
    | error e => exact False.elim hq
    | ok flw =>
      cases flw with
      | ret u =>
        obtain ⟨v, H', I3, rv, ev, dx, ex, fin⟩ := I2.after hq
        subst ev
        refine ⟨rv, a, t, dx, rfl, I3.kIn _ _ lc, (I3.hok a _ ex).1, hX pins σ H' s' a t dx I3 ?_ ex fin⟩
        cases z : X.s_0.heap.get? a with
        | none => rfl
        | some o =>
          obtain ⟨o', g'⟩ := I1.base.there a o z (by rw [hex]; intro zz; cases zz)
          exact absurd (mk.new.symm.trans g') (by intro z; cases z)
      | next => exact False.elim hq
      | brk => exact False.elim hq
      | cont => exact False.elim hq
  · have q2 := q1 hp.objs.size 0 (I1.hok.fresh (Nat.le_refl _))
    have e1 := fl _ _ _ _ q2
    have e2 := r.length
    rw [List.length_cons] at e1
    show us.length ≤ _
    rw [sizeLine_eq]
    omega

/-! ### try: .. except C as n: .. -/
/-- the body of a try: an exception of the class lies as CXF says -/
abbrev Cx.tryCx (X : Cx) (pins : List (Addr × Obj)) (C : Addr) (E : XK) (cn : Bool := true) : Cx :=
  { X with pn := X.pn ++ pins, xe := fun e s' => ∃ (pins' : List (Addr × Obj)) (σ' : St) (H : Hp) (s1 : Shared), Inv { X with pn := X.pn ++ pins } pins' σ' H s1 ∧ CXG cn X.prog X.w C X.stack H s1 E e s' }
/-- the suite of its handler: the exception is pinned, nothing is raised -/
abbrev Cx.hndCx (X : Cx) (pins : List (Addr × Obj)) (x : Addr) (ox : Obj) : Cx :=
  { X with A := X.A.mark (some (.ref x)), calm := false, pn := X.pn ++ pins ++ [(x, ox)], xe := fun _ _ => False }
theorem Cx.Ok.pnd {X : Cx} (ok : X.Ok) (pn : List (Addr × Obj)) (xe : Value → Shared → Prop) : ({ X with pn := pn, xe := xe } : Cx).Ok :=
  ⟨ok.mod, ok.kind, ok.glob, ok.blt, ok.above, ok.inj, ok.has, ok.cab, ok.hd, ok.frames, ok.stk, ok.exf, ok.bs, ok.bsz, ok.noex, ok.exfs, ok.funs, ok.frf⟩
theorem Cx.Ok.hnd {X : Cx} (ok : X.Ok) (pins : List (Addr × Obj)) (x : Addr) (ox : Obj) : (X.hndCx pins x ox).Ok :=
  ⟨ok.mod, ok.kind, ok.glob, ok.blt, ok.above, ok.inj, ok.has, ok.cab, (fun z => by cases z), ok.frames, ok.stk, ok.exf, ok.bs, ok.bsz, ok.noex, ok.exfs, ok.funs, ok.frf⟩
theorem CXF.tries {X : Cx} {pins : List (Addr × Obj)} {C : Addr} {E : XK} {cn : Bool} : Passes (CXG cn X.prog X.w C) (X.tryCx pins C E cn) E := fun pins' σ H s e s' I h =>
  ⟨pins', σ, H, s, ⟨I.ok.pnd _ _, I.os, I.bare, I.base, I.loc, I.cell, I.free, I.freeC, I.pin, I.hok, I.len⟩, h⟩
def nones (N : List Str) : St := List.replicate N.length none
def tTry (N : List Str) (i : Nat) (C : Addr) (E : XK) (tb : TS) (ts : Addr → Addr → TS) : TS := fun D σ H => tb D σ H ∧ ∀ (x dx : Addr) (H' : Hp), H' x = none → E (.ref C) (some dx) H' →
  ts x dx { nx := fun _ H2 => D.nx (nones N) H2, rt := D.rt, bk := fun _ H2 => D.bk (nones N) H2, ct := fun _ H2 => D.ct (nones N) H2 } ((nones N).set i (some (.ref x))) H'
theorem ps_try {cn : Bool} {X : Cx} {C N fI : Addr} {E : XK} {i : Nat} {xn n : Str} {body : List Stmt} {b0 : Stmt} {suite : List Stmt} {np hpos pos : Pos} {tb : TS} {ts : Addr → Addr → TS} (c : Exc X.K C N fI) (hg : Gl X xn) (hm : X.mg xn = some (.ref C)) (hN : X.N.Nodup) (hi : X.N[i]? = some n)
    (hl : X.env.scope.names.lookup n = some .local) (hst : X.stack = X.env :: X.outer) (hfr : X.env.frame = some X.env.locals)
    (hb : ∀ pins, PSs (X.tryCx pins C E cn) body tb) (hs : ∀ pins x dx ox vs, ox.cls = .ref C → ox.dict = some dx → ox.data = .fields vs → PSs (X.hndCx pins x ox) (b0 :: suite) (ts x dx)) (hdb : (xn == ("__debug__" : Str)) = false := by decide) :
    PS X (.Try body [.ExceptHandler (some (.Name xn np)) (some n) (b0 :: suite) hpos] [] [] pos) (tTry X.N i C E tb ts) := by
  intro pins s σ H D I ⟨h1, h2⟩
  obtain ⟨nm, q, bs, sn, sub, ab, col, dd, k0, k1, k2, k3, k5, lc⟩ := c.cls
  have I0 : Inv (X.tryCx pins C E cn) [] σ H s := ⟨I.ok.pnd _ _, I.os, I.bare, I.base, I.loc, I.cell, I.free, I.freeC, fun p hp => I.pin p (by rw [List.append_nil] at hp; exact hp), I.hok, I.len⟩
  have back : ∀ {xe pins' σ' H' s'}, Inv { X with pn := X.pn ++ pins, xe := xe } pins' σ' H' s' → Inv X pins σ' H' s' := fun {xe pins' σ' H' s'} J => ⟨I.ok, J.os, J.bare, J.base, J.loc, J.cell, J.free, J.freeC, fun p hp => J.pin p (List.mem_append_left _ hp), J.hok, J.len⟩
  refine wpAny_Try_except (wpAny_mono (hb pins [] s σ H D I0 h1) (fun fl s1 q1 => ?_) fun e s1 q1 => ?_)
  · cases fl with
    | next =>
      obtain ⟨σ', H', J, q2⟩ := q1
      exact wpAny_execs_nil ⟨σ', H', back J, q2⟩
    | brk => obtain ⟨σ', H', J, q2⟩ := q1; exact ⟨σ', H', back J, q2⟩
    | cont => obtain ⟨σ', H', J, q2⟩ := q1; exact ⟨σ', H', back J, q2⟩
    | ret u => obtain ⟨v, σ', H', J, r, q2⟩ := q1; exact ⟨v, σ', H', back J, r, q2⟩
  · obtain ⟨pins', σ', H1, s2, J, x, dx, H', B, ee, F, hx, os, bare, hok, U, hE⟩ := q1
    subst ee
    have JX := back J
    have fr : X.A.frames = some (X.env :: X.outer) := I.ok.frames.trans (by rw [hst])
    rw [hst] at F
    refine Fly.note_next fr hfr F fun h3 F3 u3 => Fly.flight_none F3 fun h4 F4 u4 => ?_
    have after : ∀ h5, Fly.Fl B (X.env :: X.outer) x (.ref C) dx cn .none h5 → s1.heap.UpToSlots h5 → Inv X pins (nones X.N) H' { s1 with heap := h5 } ∧ ∃ ox vs, h5.get? x = some ox ∧ ox.cls = .ref C ∧ ox.dict = some dx ∧ ox.data = .fields vs ∧ (∀ xe, Inv { X.hndCx pins x ox with xe := xe } [] (nones X.N) H' { s1 with heap := h5 }) := fun h5 F5 u5 => by
      have U5 := U.onto u5 (by rw [hst]; exact frames_nf F.frs)
      have J5 : Inv X pins (nones X.N) H' { s1 with heap := h5 } := by
        have z := JX.call' (s' := { s1 with heap := h5 }) (ch := []) os (U5.un F5.st) (hok.kept fun b u e => F5.st b u e) bare (fun b z => nomatch z)
        refine z.weak ?_ fun j v e => ?_
        · unfold nones
          rw [List.length_replicate]
          exact z.len.symm
        · unfold nones at e
          rw [List.getElem?_replicate] at e
          split at e <;> cases e
      obtain ⟨ox, vs, T, oT, ts', gx, ec, ed, ef, _⟩ := F5.tr
      refine ⟨J5, ox, vs, gx, ec, ed, ef, fun xe => ⟨(I.ok.hnd pins x ox).wish xe, J5.os, J5.bare, J5.base, J5.loc, J5.cell, J5.free, J5.freeC, fun p hp => ?_, J5.hok, J5.len⟩⟩
      rw [List.append_nil] at hp
      rcases (List.mem_append.mp hp) with z | z
      · exact J5.pin p z
      · have zz : p = (x, ox) := by simpa using z
        subst zz
        refine ⟨gx, hx, fun z => ?_, fun z => ?_, fun v z => by rw [ef] at z; cases z⟩
        · obtain ⟨m, ⟨ol, es, ep, gl, dl, _⟩, _⟩ := J5.loc
          have z : x = X.env.locals := z
          have gx' : h5.get? x = some ox := gx
          rw [z] at gx'
          have gl' : h5.get? X.env.locals = some ol := gl
          rw [gl'] at gx'
          cases gx'
          rw [dl] at ef
          cases ef
        · exact frames_nf F5.frs x (by rw [show frs (X.env :: X.outer) = X.env.locals :: frs X.outer by unfold frs; rw [List.filterMap_cons, hfr]]; exact List.mem_cons_of_mem _ z) ox gx vs ef
    obtain ⟨J4, ox4, vs4, gx4, ec4, _, _, _⟩ := after h4 F4 (u3.trans u4)
    have J4n := J4.wish (fun _ _ => False)
    refine wpAny_handleBy_cons (codeAny_handlers_test ?_) (by intro z; cases z)
    refine Calls.Name_function_global I.ok.kind hg (Calls.loadGlobal_global (by rw [I.ok.glob]; exact J4.mod.glob.keeps J4.bk) hm ?_) hdb
    refine wpAny_excMatches_sub_self (C := C) (J4.kIn _ _ lc) gx4 ec4 PySem.F.excBase_Exception.hasBase (codeAny_handlers_suite_as ?_)
    refine Fly.flight_none F4 fun h5 F5 u5 => ?_
    obtain ⟨J5, ox, vs, gx, ec, ed, ef, K5⟩ := after h5 F5 ((u3.trans u4).trans u5)
    refine store_ok (X := X.hndCx pins x ox) (v := .ref x) (K5 _) hN hi (Or.inl hl) rfl (fun s6 J6 => ?_) (Or.inr hl)
    refine wpAny_mono (hs pins x dx ox vs ec ed ef [] s6 _ H' _ J6 (h2 x dx H' hx hE)) (fun fl s7 q7 => ?_) fun _ _ z => False.elim z
    have drop : ∀ {σ7 H7} {Q : Unit → Shared → Prop}, Inv (X.hndCx pins x ox) [] σ7 H7 s7 → (∀ s8, Inv X pins (nones X.N) H7 s8 → Q () s8) → wpAny (model X.prog X.w) X.A (do bindName X.env n .none; unbindBehindTheSuite X.env n hpos) Q X.xe s7 := fun {σ7 H7 Q} J7 kk => by
      obtain ⟨m7, n7, _⟩ := J7.loc
      refine wpAny_nameGoes hl n7 (by rw [I.ok.kind]; rfl) fun h8 m8 n8 sb => kk _ ?_
      have fl7 := J7.free
      obtain ⟨oL, _, _, gL, _⟩ := id n7
      refine ⟨I.ok, J7.os, J7.bare, ⟨fun b o e nn hb hx => ?_, fun b o e nn hb hx => ?_, J7.base.free, fun b o e hx => ?_, J7.base.tups, J7.base.frzs, J7.base.tbls⟩, ⟨m8, n8, fun j y v e1 e2 => ?_⟩, fun y cc e => ?_, J7.free, J7.freeC, fun p hp => ?_, fun b ob e => ?_, ?_⟩
      · exact (sb.2 b (Nat.ne_of_lt (Nat.lt_of_lt_of_le (Heap.lt_size e) I.ok.above))).trans (J7.base.keep b o e nn hb hx)
      · obtain ⟨sl, e1⟩ := J7.base.slot b o e nn hb hx
        exact ⟨sl, (sb.2 b (Nat.ne_of_lt (Nat.lt_of_lt_of_le (Heap.lt_size e) I.ok.above))).trans e1⟩
      · obtain ⟨o', e1⟩ := J7.base.there b o e hx
        exact ⟨o', (sb.2 b (Nat.ne_of_lt (Nat.lt_of_lt_of_le (Heap.lt_size e) I.ok.above))).trans e1⟩
      · unfold nones at e2
        rw [List.getElem?_replicate] at e2
        split at e2 <;> cases e2
      · obtain ⟨w', z⟩ := J7.cell y cc e
        exact ⟨w', z.sameBut sb (J7.cne y cc e)⟩
      · obtain ⟨e, nn, ne, nf, dd'⟩ := J7.pin p (by rw [List.append_nil]; exact List.mem_append_left _ hp)
        exact ⟨(sb.2 p.1 ne).trans e, nn, ne, nf, dd'⟩
      · refine (J7.hok b ob e).stay (fun cc w' hc qq => (sb.2 cc ?_).trans qq) (fun _ qq => qq) fun _ _ qq => qq
        rintro rfl
        rcases hc with rfl | hc
        · rw [fl7] at e; cases e
        · rw [fl7] at hc; cases hc
      · unfold nones
        rw [List.length_replicate]
    cases fl with
    | next => obtain ⟨σ7, H7, J7, q8⟩ := q7; exact drop J7 fun s8 J8 => ⟨_, H7, J8, q8⟩
    | brk => obtain ⟨σ7, H7, J7, q8⟩ := q7; exact drop J7 fun s8 J8 => ⟨_, H7, J8, q8⟩
    | cont => obtain ⟨σ7, H7, J7, q8⟩ := q7; exact drop J7 fun s8 J8 => ⟨_, H7, J8, q8⟩
    | ret u => obtain ⟨v, σ7, H7, J7, r, q8⟩ := q7; exact drop J7 fun s8 J8 => ⟨v, _, H7, J8, r, q8⟩
end L2

/-! DEFS THAT ARE CALLED WHILE AN EXCEPTION IS HANDLED; defs that raise; dicts of the text's top -/
namespace L2
open PySem PySem.Spec PyProof.Rows
structure RoomH (k : Nat) (A : Around) : Prop where
  dp : A.depth + 3 * k + 5 < recursionLimit
  un : A.units + 16 * k + 200 < cLine
theorem Room.toH {k : Nat} {A : Around} (r : Room k A) : RoomH k A := ⟨r.dp, r.un⟩
theorem RoomH.mark {k : Nat} {A : Around} (r : RoomH k A) (v : Option Value) : RoomH k (A.mark v) := ⟨r.dp, r.un⟩
theorem RoomH.deeper {k : Nat} {A : Around} (r : RoomH (k + 1) A) (env : Env) : RoomH k (A.deeper env) :=
  ⟨by have := r.dp; show A.depth + 1 + 3 * k + 5 < _; omega, by have := r.un; show A.units + 3 + 16 * k + 200 < _; omega⟩
theorem RoomH.make {k : Nat} {A : Around} (r : RoomH (k + 1) A) (C : Addr) (us : List Value) (kw : List (Str × Value)) : RoomH k (A.under (.builtin "type.__call__" ⟨.ref C :: us, kw⟩)) :=
  ⟨by have := r.dp; rw [make_depth]; omega, by have := r.un; rw [make_units]; omega⟩
theorem RoomH.depth {k : Nat} {A : Around} (r : RoomH k A) : A.depth < recursionLimit := by have := r.dp; omega
structure FnOkH (P : Program) (w : World) (K : PySem.W.Frag) (mg : Str → Option Value) (base : Heap) (CX : CXT) (k : Nat) (f : Addr) (fd : FuncData) (ps : List Str) (sp : Sp) : Prop where
  len : ∀ vs H Q E, sp vs H Q E → vs.length = ps.length
  run : ∀ (A : Around) (outer : List Env) (s : Shared) (H : Hp) (args : Args) (us : List Value) (vs : List V) (Q : VK) (E : XK), RoomH k A → Env0 P w K mg base A outer s H → BindsTo s fd args (ps.zip us) → Vals vs us → sp vs H Q E →
    codeAny (model P w) A (.call (.ref f) args) (CR CX outer P w H s Q E) s
theorem FnOkH.ok {P : Program} {w : World} {K : PySem.W.Frag} {mg : Str → Option Value} {base : Heap} {CX : CXT} {k : Nat} {f : Addr} {fd : FuncData} {ps : List Str} {sp : Sp} (F : FnOkH P w K mg base CX k f fd ps sp) : FnOk P w K mg base CX k f fd ps sp :=
  ⟨F.len, fun A outer s H args us vs Q E hr => F.run A outer s H args us vs Q E hr.toH⟩
/-- a def's context while an exception is handled -/
abbrev cxOfH (CX : CXT) (P : Program) (w : World) (K : PySem.W.Frag) (mg : Str → Option Value) (base : Heap) (N : List Str) (qual : Str) (scope : Scope) (f : Addr) (cd : Value) (A : Around) (outer : List Env) (s : Shared) (H : Hp) (E : XK) : Cx :=
  { cxOf CX P w K mg base N qual scope f cd A outer s H E with calm := false }
theorem inv_startH {CX : CXT} {P : Program} {w : World} {K : PySem.W.Frag} {mg : Str → Option Value} {base : Heap} {N ps : List Str} {qual : Str} {scope : Scope} {f : Addr} {cd : Value} {A : Around} {outer : List Env} {s s1 : Shared} {H : Hp} {E : XK} {us : List Value} {vs : List V}
    (S : FnScope N ps scope) (e0 : Env0 P w K mg base A outer s H) (hl : vs.length = ps.length) (r : Vals vs us)
    (x : InCallC s s.heap.objs.size (bindL (envOfC qual scope s.heap.objs.size f cd).kindOf (ps.zip us) fun _ => none) (cellsFrom (s.heap.objs.size + 1) scope.names []) (bindC (envOfC qual scope s.heap.objs.size f cd).kindOf (ps.zip us) fun _ => none) s1) :
    Inv (cxOfH CX P w K mg base N qual scope f cd A outer s H E) [] (start N vs) H s1 := by
  have hpl : ps.length ≤ N.length := by have := congrArg List.length S.pre; rw [List.length_take] at this; omega
  obtain ⟨h1, tk, rfl, hk⟩ := x.done
  have noA : ∀ b : Addr, b ∉ (cxOfH CX P w K mg base N qual scope f cd A outer s H E).ex := fun b z => absurd (show b ∈ ([] : List Addr) from z) (by simp)
  refine ⟨⟨e0.mod, S.kind, rfl, rfl, Nat.le_refl _, fun y z c h1 h2 => ?_, fun y hy => ?_, fun y c _ h => ?_, (fun z => by cases z), Around.frames_deeper e0.frames, .inr ⟨rfl, rfl⟩, fun b z => absurd z (noA b), e0.bs, e0.bsz, fun b _ _ => noA b, fun b z => absurd z (noA b), e0.funs, e0.frf⟩,
    rfl, e0.bare, Un.kept hk, ⟨_, x.toInCall.ns, fun i y v h1 h2 h3 => ?_⟩, fun y c h => ⟨_, x.cell y c h⟩, e0.hok.fresh (Nat.le_refl _), fun y c h => ?_, fun p hp => absurd (show p ∈ ([] : List (Addr × Obj)) from hp) (by simp), e0.hok.kept hk, ?_⟩
  · exact name_of_addr x.apart (PySem.mem_of_lookup h1) (PySem.mem_of_lookup h2)
  · have hy : scope.names.lookup y = some .cell ∨ scope.names.lookup y = some .free := hy
    rcases hy with hy | hy
    · exact cell_has hy
    · exact absurd rfl (S.nofree _ (PySem.mem_of_lookup hy))
  · exact Nat.le_of_lt (x.above y c (PySem.mem_of_lookup h))
  · have hi : i < vs.length := by
      unfold start at h2
      by_cases hi : i < vs.length
      · exact hi
      · rw [List.getElem?_append_right (by simpa using hi)] at h2
        rw [List.getElem?_replicate] at h2
        split at h2 <;> cases h2
    have ha : vs[i]? = some v := by
      unfold start at h2
      rw [List.getElem?_append_left (by simpa using hi), List.getElem?_map] at h2
      cases e : vs[i]? with
      | none => rw [e] at h2; cases h2
      | some a => rw [e] at h2; cases h2; rfl
    obtain ⟨u, hu, rv⟩ := r.get ha
    have hp : ps[i]? = some y := by
      rw [← S.pre, List.getElem?_take_of_lt (by omega)]; exact h1
    have ndP : ps.Nodup := by rw [← S.pre]; exact S.nd.sublist (List.take_sublist _ _)
    refine ⟨u, rv, ?_⟩
    rcases S.par y (List.mem_of_getElem? hp) with k | k
    · exact .inl ⟨k, bindL_get ndP hp hu k⟩
    · obtain ⟨c, e⟩ := cell_has (n := s.heap.objs.size + 1) k
      refine .inr ⟨.inl k, c, e, ?_⟩
      have q := x.cell y c e
      rw [bindC_get ndP hp hu (by show scope.names.lookup y ≠ _; rw [k]; decide)] at q
      exact q
  · exact e0.hok.fresh (Nat.le_of_lt (x.above y c (PySem.mem_of_lookup h)))
  · unfold start
    show _ = N.length
    rw [List.length_append, List.length_map, List.length_replicate]
    omega

theorem fn_ofH {CX : CXT} {P : Program} {w : World} {K : PySem.W.Frag} {mg : Str → Option Value} {base : Heap} {k : Nat} {f : Addr} {name qual : Str} {params : Arguments} {body : List Stmt} {scope : Scope} {dV kV doc pm cdv ct oc : Value} {an od : Option Addr}
    {osl : Array (Option Value)} {N ps : List Str} {sp : Sp} (lk : K.lookup f = some ⟨oc, od, .func (PySem.W.fnOf name qual params body scope dV kV doc pm an cdv ct), osl⟩) (hcd : PySem.W.codeIn K cdv qual = true) (S : FnScope N ps scope)
    (len : ∀ vs H Q E, sp vs H Q E → vs.length = ps.length)
    (hbody : ∀ (A : Around) (outer : List Env) (s : Shared) (H : Hp) (vs : List V) (Q : VK) (E : XK), RoomH k (A.deeper (envOfC qual scope s.heap.objs.size f cdv)) → sp vs H Q E →
      ∃ t, PSs (cxOfH CX P w K mg base N qual scope f cdv A outer s H E) body t ∧ t { nx := fun _ H' => Q .non H', rt := Q } (start N vs) H) :
    FnOkH P w K mg base CX (k + 1) f (PySem.W.fnOf name qual params body scope dV kV doc pm an cdv ct) ps sp := by
  refine ⟨len, fun A outer s H args us vs Q E hr e0 hb r hsp => ?_⟩
  have hl := len _ _ _ _ hsp
  have KX : K.In s.heap := e0.mod.kin.keeps fun b o e => (e0.bs b o e).1
  have lim : s.heap.NoLimit := e0.mod.nolimit.keeps fun b o e => (e0.bs b o e).1
  have hkind : ∀ y ∈ ps.zip us, scope.names.lookup y.1 = some .local ∨ (scope.names.lookup y.1 = some .cell ∧ ((cellsFrom (s.heap.objs.size + 1) scope.names []).lookup y.1).isSome = true) := fun ⟨n, v⟩ hy => by
    rcases S.par n (List.of_mem_zip hy).1 with q | q
    · exact .inl q
    · exact .inr ⟨q, PySem.W.cellsFrom_some _ _ _ (.inl q)⟩
  refine codeAny_call_function hr.depth (KX _ _ lk) rfl S.co S.gen rfl (PySem.W.codeRec_of KX hcd) (hb _ _ _ _ ?_)
  refine wpAny_newFunctionEnv_cells S.kind hkind fun env he s1 x => ?_
  subst he
  refine ⟨lim.keeps x.toInCall.keep, codeAny_func ?_⟩
  obtain ⟨t, ht, hq⟩ := hbody A outer s H vs Q E (hr.deeper _) hsp
  have I : Inv (cxOfH CX P w K mg base N qual scope f cdv A outer s H E) [] (start N vs) H s1 := inv_startH S e0 hl r x
  refine wpAny_mono (ht [] s1 (start N vs) H _ I hq) (fun fl s' hs => ?_) fun e s' hs => hs
  have fin : ∀ {σ' : St} {H' : Hp} {v : V} {u : Value}, Inv (cxOfH CX P w K mg base N qual scope f cdv A outer s H E) [] σ' H' s' → RelV v u → Q v H' → CE outer P w H s Q u s' :=
    fun {σ' H' v u} J rv q => ⟨v, H', J.os, J.bare, J.base, J.hok, rv, q⟩
  cases fl with
  | ret u =>
    obtain ⟨v, σ', H', J, rv, q⟩ := hs
    exact fin J rv q
  | next =>
    obtain ⟨σ', H', J, q⟩ := hs
    exact fin (v := V.non) (u := Value.none) J rfl q
  | brk =>
    obtain ⟨_, _, _, q⟩ := hs
    exact False.elim q
  | cont =>
    obtain ⟨_, _, _, q⟩ := hs
    exact False.elim q
section
variable {X : Cx} {CX : CXT} {k : Nat} {f C : Addr} {fd : FuncData} {ps : List Str} {sp : Sp} {dvs : List V} {ds : List Value} {E : XK} {x m : Str} {p pos apos : Pos} {e o : Expr} {es : List Expr} {ta : TE} {t : TA}
theorem run_makeH {pins : List (Addr × Obj)} {σ : St} {H : Hp} {s : Shared} {Q : VK} {us : List Value} {vs : List V} (M : Mk X.K C f) (F : FnOkH X.prog X.w X.K X.mg X.base CX k f fd ps sp) (hr : RoomH (k + 1) X.A) (hb : Binds X.K fd ps ds) (hd : Vals dvs ds)
    (hx : Passes CX X E) (I : Inv X pins σ H s) (r : Vals vs us)
    (h : ∀ x dx, H x = none → H dx = none → dx ≠ x → sp (.ref x :: (vs ++ dvs)) (upd (upd H dx (.own x)) x (.ins C dx [])) (fun v H2 => v = .non ∧ Q (.ref x) H2) E) :
    wpAny (model X.prog X.w) X.A (call (.ref C) us) (EP X pins σ Q) X.xe s := by
  have hq := h (s.heap.objs.size + 1) s.heap.objs.size (I.hok.fresh (Nat.le_succ _)) (I.hok.fresh (Nat.le_refl _)) (Nat.ne_of_lt (Nat.lt_succ_self _))
  have I2 := Inv.made (C := C) I
  have r2 : Vals (V.ref (s.heap.objs.size + 1) :: (vs ++ dvs)) (Value.ref (s.heap.objs.size + 1) :: (us ++ ds)) := .cons rfl (r.append hd)
  have hl : (Value.ref (s.heap.objs.size + 1) :: us ++ ds).length = ps.length := by
    have e := r2.length
    rw [F.len _ _ _ _ hq] at e
    exact e.symm
  refine wpAny_call (make_map (f := f) I.kIn M.makes M.init (beq_iff_eq.mp M.fn) (codeAny_mono (F.run _ X.stack _ _ ⟨Value.ref (s.heap.objs.size + 1) :: us, []⟩ (Value.ref (s.heap.objs.size + 1) :: (us ++ ds)) _ _ E (hr.make C us [])
    (I2.env0.make C us []) (hb _ (Value.ref (s.heap.objs.size + 1) :: us) I2.kIn hl) r2 hq) fun r s' hq' => ?_))
  cases r with
  | error e => exact hx pins σ _ _ e s' I2 hq'
  | ok fl =>
    cases fl with
    | ret u =>
      obtain ⟨v, H', I3, rv, ev, q3⟩ := I2.after hq'
      subst ev
      exact ⟨rv, ⟨V.ref (s.heap.objs.size + 1), H', I3, rfl, q3⟩⟩
    | next => exact False.elim hq'
    | brk => exact False.elim hq'
    | cont => exact False.elim hq'
theorem pe_makeH (M : Mk X.K C f) (F : FnOkH X.prog X.w X.K X.mg X.base CX k f fd ps sp) (hr : RoomH (k + 1) X.A) (hg : Gl X x) (hm : X.mg x = some (.ref C)) (hb : Binds X.K fd ps ds) (hd : Vals dvs ds) (hx : Passes CX X E)
    (ha : PA X (e :: es) t) (hdb : (x == ("__debug__" : Str)) = false := by decide) (he : starEach (e :: es) X.env = (false, eval e X.env) :: starEach es X.env := by rfl) (hpl : (backTo pos (starEach es X.env)).any (·.1) = false := by rfl) :
    PE X (.Call (.Name x p) (e :: es) [] pos) (tMake C sp dvs E t) := by
  intro pins s σ H Q I h
  refine wpAny_Call_Name_kw (ld_glob I hg hm ?_ hdb)
  refine PySem.W.callWith_K (h₀ := X.base) I.ok.mod.kin M.kp (thn (ha pos pins s σ H _ I h) fun us s1 ⟨vs, H1, I1, r, q⟩ => ⟨I1.kIn, ?_⟩) he hpl
  exact run_makeH M F hr hb hd hx I1 r q
end
section
variable {P : Program} {w : World} {K : PySem.W.Frag} {mg : Str → Option Value} {base : Heap}
theorem Fun.okH {x qual : Str} {st : Stmt} {f : Addr} {fd : FuncData} {N ps : List Str} {k : Nat} {sp : Sp} (F : Fun K x qual st f fd) (S : FnScope N ps (defScope st)) (len : ∀ vs H Q E, sp vs H Q E → vs.length = ps.length)
    (hbody : ∀ (cdv : Value) (A : Around) (outer : List Env) (s : Shared) (H : Hp) (vs : List V) (Q : VK) (E : XK), RoomH k (A.deeper (envOfC qual (defScope st) s.heap.objs.size f cdv)) → sp vs H Q E →
      ∃ t, PSs (cxOfH CX0 P w K mg base N qual (defScope st) f cdv A outer s H E).nox (defBody st) t ∧ t { nx := fun _ H' => Q .non H', rt := Q } (start N vs) H) : FnOkH P w K mg base CX0 (k + 1) f fd ps sp := by
  obtain ⟨oc, od, kV, doc, pm, an, cdv, ct, osl, rfl, lk, hcd⟩ := F.ex
  refine fn_ofH lk hcd S len fun A outer s H vs Q E hr hsp => ?_
  obtain ⟨t, h, q⟩ := hbody cdv A outer s H vs Q E hr hsp
  exact ⟨t, h.nox, q⟩
/-- a def out of which exceptions may come -/
theorem Fun.okX {CX : CXT} {x qual : Str} {st : Stmt} {f : Addr} {fd : FuncData} {N ps : List Str} {k : Nat} {sp : Sp} (F : Fun K x qual st f fd) (S : FnScope N ps (defScope st)) (len : ∀ vs H Q E, sp vs H Q E → vs.length = ps.length)
    (hbody : ∀ (cdv : Value) (A : Around) (outer : List Env) (s : Shared) (H : Hp) (vs : List V) (Q : VK) (E : XK), Room k (A.deeper (envOfC qual (defScope st) s.heap.objs.size f cdv)) → sp vs H Q E →
      ∃ t, PSs (cxOf CX P w K mg base N qual (defScope st) f cdv A outer s H E) (defBody st) t ∧ t { nx := fun _ H' => Q .non H', rt := Q } (start N vs) H) : FnOk P w K mg base CX (k + 1) f fd ps sp := by
  obtain ⟨oc, od, kV, doc, pm, an, cdv, ct, osl, rfl, lk, hcd⟩ := F.ex
  exact fn_of lk hcd S len fun A outer s H vs Q E hr hsp => hbody cdv A outer s H vs Q E hr hsp
end
/-! ### a dict of the text's top -/
def KDict (P : Program) (w : World) (K : PySem.W.Frag) (a : Addr) (kvs : List (Key × V)) : Prop := (a == sysModules) = false ∧ ∃ (o : Obj) (es : Array DictEntry) (ep : Nat) (vs : List (Key × Value)), K.lookup a = some o ∧ o.ExactDict ∧ o.data = .dict es ep ∧ KeysOf (mixKind P w) es ∧
  Pairs (mixKind P w) es.toList vs ∧ (vs.map (·.1)).Nodup ∧ KV kvs vs
theorem KDict.at {P : Program} {w : World} {K : PySem.W.Frag} {a : Addr} {kvs : List (Key × V)} {h : Heap} (D : KDict P w K a kvs) (KX : K.In h) : (a == sysModules) = false ∧ ∃ vs, KV kvs vs ∧ h.DictOf (mixKind P w) a vs := by
  obtain ⟨n, o, es, ep, vs, l, x, d, k1, k2, k3, rel⟩ := D
  exact ⟨n, vs, rel, o, es, ep, KX _ _ l, x, d, k1, k2, k3⟩
def tKGet2 (kvs : List (Key × V)) (ty tx : TE) : TE := fun σ H Q => ty σ H fun y H2 => tx σ H2 fun z H3 => ∃ k, y = kV k ∧ Q ((valV kvs k).getD z) H3
theorem pe_kget2 {X : Cx} {x : Str} {e f : Expr} {np apos cpos : Pos} {ty tx : TE} {a : Addr} {kvs : List (Key × V)} (D : KDict X.prog X.w X.K a kvs) (hg : Gl X x) (hm : X.mg x = some (.ref a)) (he : PE X e ty) (hf : PE X f tx) (m : M2 X (.Name x np) "get" apos e f cpos) (hdb : (x == ("__debug__" : Str)) = false := by decide) :
    PE X (.Call (.Attribute (.Name x np) "get" apos) [e, f] [] cpos) (tKGet2 kvs ty tx) := by
  intro pins s σ H Q I h
  refine wpAny_Call_method m.base m.few m.line PySem.F.plainAttrs_dict PySem.F.slot_dict_get PySem.F.type_dict_get (ld_glob I hg hm ?_ hdb)
  obtain ⟨hd, vs, rel, dd⟩ := D.at I.kIn
  refine ⟨dd.typeIs, (fun b q => by
    cases q
    obtain ⟨ob, _, _, h1, h2, _⟩ := dd
    exact ⟨ob, h1, h2.2.1⟩), ?_⟩
  rw [m.trees]
  refine Calls.callWith_builtin rfl (Calls.evalArgs_plain (Calls.spliced_cons (thn (he pins s σ H _ I h) fun iv s2 ⟨y, H2, I2, ry, q2⟩ =>
    Calls.spliced_cons (thn (hf pins s2 σ H2 _ I2 q2) fun fv s3 ⟨z, H3, I3, rz, k, ey, q3⟩ => Calls.spliced_nil ?_))))
  subst ey
  obtain ⟨_, vs3, rel3, dd3⟩ := D.at I3.kIn
  refine call_meetsIn PySem.F.slot_dict_get dd3.typeIs PySem.F.entry_dict_get (PySem.F.args_dict_get_3 _ _ _) (meets_dict_get_default (mixKind X.prog X.w) a (kV_is ry) hd fv) ⟨_, dd3.mapOf, ?_⟩
  exact ⟨_, H3, I3.tok _, (rel3.val k).getD rz, q3⟩
end L2

section
namespace L2
open PySem PySem.Spec PyProof.Rows
open PySem.W (WData Codec OpenSpec Well WellAll ReadsW ReadsAllW)
/-! ### an answer as data -/
mutual
/-- x stands for the datum d, lists and tuples all the way -/
inductive Dw (K : PySem.W.Frag) (H : Hp) : V → WData → Prop
  | non : Dw K H .non .none
  | bl (b : Bool) : Dw K H (.bl b) (.bool b)
  | int (i : Int) : Dw K H (.int i) (.int i)
  | str (x : Str) : Dw K H (.str x) (.str x)
  | byt (b : Array UInt8) : Dw K H (.byt b) (.bytes b.toList)
  | lst {a : Addr} {xs : List V} {ds : List WData} : SqL K H a xs → DwAll K H xs ds → Dw K H (.ref a) (.list ds)
  | tup {a : Addr} {xs : List V} {ds : List WData} : SqT K H a xs → DwAll K H xs ds → Dw K H (.ref a) (.tuple ds)
inductive DwAll (K : PySem.W.Frag) (H : Hp) : List V → List WData → Prop
  | nil : DwAll K H [] []
  | cons {v : V} {vs : List V} {d : WData} {ds : List WData} : Dw K H v d → DwAll K H vs ds → DwAll K H (v :: vs) (d :: ds)
end
theorem dw_ints {K : PySem.W.Frag} {H : Hp} : ∀ ns : List Int, DwAll K H (ns.map V.int) (ns.map WData.int)
  | [] => .nil
  | n :: r => .cons (.int n) (dw_ints r)
theorem ints_dw {K : PySem.W.Frag} {H : Hp} : ∀ (ns : List Int) (xs : List V), DwAll K H xs (ns.map WData.int) → xs = ns.map V.int
  | [], xs, h => by
    cases h
    rfl
  | n :: r, xs, h => by
    cases h with
    | cons h1 h2 =>
      cases h1
      rw [ints_dw r _ h2] <;> rfl
section
variable {P : Program} {w : World} {K : PySem.W.Frag} {H : Hp} {h : Heap} {R : PySem.W.WRecords} {cl : Str → Option Addr}
theorem sqL_at {a : Addr} {xs : List V} (hok : HOk P w H h) (KX : K.In h) (q : SqL K H a xs) : ∃ (its : List Value) (o : Obj) (n : Nat), Vals xs its ∧ h.get? a = some o ∧ o.cls = .type "list" ∧ o.data = .seq its.toArray n := by
  rcases q with q | ⟨o, its, n, e, hc, _, hd, _, hv⟩
  · obtain ⟨_, its, n, hv, e⟩ := (show ObjOk P w H h a (.lst xs) from q.ok hok)
    exact ⟨its, _, n, hv, e, rfl, rfl⟩
  · exact ⟨its.toList, o, n, hv, KX _ _ e, hc, by simp [hd]⟩
theorem sqT_at {a : Addr} {xs : List V} (hok : HOk P w H h) (KX : K.In h) (q : SqT K H a xs) : ∃ (its : List Value) (o : Obj) (n : Nat), Vals xs its ∧ h.get? a = some o ∧ o.cls = .type "tuple" ∧ o.data = .seq its.toArray n := by
  rcases q with q | ⟨o, its, n, e, hc, hd, _, hv⟩
  · obtain ⟨_, its, hv, o, e, hc, n, hd⟩ := (show ObjOk P w H h a (.tup xs) from q.ok hok)
    exact ⟨its, o, n, hv, e, hc, hd⟩
  · exact ⟨its.toList, o, n, hv, KX _ _ e, hc, by simp [hd]⟩
mutual
theorem Dw.reads (hok : HOk P w H h) (KX : K.In h) : ∀ (d : WData) (v : V) (u : Value), Dw K H v d → RelV v u → ∃ as, ReadsW R cl h u d as
  | .none, _, _, x, r => by
    cases x
    cases r
    exact ⟨_, ReadsW.none⟩
  | .bool b, _, _, x, r => by
    cases x
    cases r
    exact ⟨_, ReadsW.bool b⟩
  | .int i, _, _, x, r => by
    cases x
    obtain ⟨t, rfl⟩ := r
    exact ⟨_, ReadsW.int i t⟩
  | .str s, _, _, x, r => by
    cases x
    obtain ⟨t, rfl⟩ := r
    exact ⟨_, ReadsW.str s t⟩
  | .bytes b, _, _, x, r => by
    cases x
    obtain ⟨t, rfl⟩ := r
    exact ⟨_, ReadsW.bytes _ t⟩
  | .list ds, _, _, x, r => by
    cases x with
    | lst hs ha =>
      cases r
      obtain ⟨its, o, n, rv, ho, hc, hd⟩ := sqL_at hok KX hs
      obtain ⟨as, hr⟩ := Dw.readsAll hok KX ds _ its ha rv
      exact ⟨_, ReadsW.list ho hc hd hr⟩
  | .tuple ds, _, _, x, r => by
    cases x with
    | tup hs ha =>
      cases r
      obtain ⟨its, o, n, rv, ho, hc, hd⟩ := sqT_at hok KX hs
      obtain ⟨as, hr⟩ := Dw.readsAll hok KX ds _ its ha rv
      exact ⟨_, ReadsW.tuple ho hc hd hr⟩
  | .float _, _, _, x, _ => by cases x
  | .dict _, _, _, x, _ => by cases x
  | .bytearray _, _, _, x, _ => by cases x
  | .set _, _, _, x, _ => by cases x
  | .frozenset _, _, _, x, _ => by cases x
  | .obj _ _, _, _, x, _ => by cases x
theorem Dw.readsAll (hok : HOk P w H h) (KX : K.In h) : ∀ (ds : List WData) (vs : List V) (us : List Value), DwAll K H vs ds → Vals vs us → ∃ as, ReadsAllW R cl h us ds as
  | [], _, _, x, r => by
    cases x
    cases r
    exact ⟨_, ReadsAllW.nil⟩
  | d :: ds, _, _, x, r => by
    cases x with
    | cons h1 h2 =>
      cases r with
      | cons r1 r2 =>
        obtain ⟨as, q1⟩ := Dw.reads hok KX d _ _ h1 r1
        obtain ⟨bs, q2⟩ := Dw.readsAll hok KX ds _ _ h2 r2
        exact ⟨_, ReadsAllW.cons q1 q2⟩
end
end
/-! ### the arguments -/
mutual
/-- data that a codec tells -/
def plW : WData → Bool
  | .none => true
  | .bool _ => true
  | .int _ => true
  | .str _ => true
  | .bytes _ => true
  | .list xs => plWs xs
  | .tuple xs => plWs xs
  | _ => false
def plWs : List WData → Bool
  | [] => true
  | x :: r => plW x && plWs r
end
theorem plWs_map {α : Type} {f : α → WData} (h : ∀ a, plW (f a) = true) : ∀ l : List α, plWs (l.map f) = true
  | [] => rfl
  | x :: r => by
    show (plW (f x) && plWs (r.map f)) = true
    rw [h x, plWs_map h r] <;> rfl
theorem pl_enc : ∀ (c : Codec) (a : c.denote), plW (c.enc a) = true
  | .unit, _ => rfl
  | .bool, _ => rfl
  | .int _ _, _ => rfl
  | .nat _ _, _ => rfl
  | .u8, _ => rfl
  | .bytes _ _, _ => rfl
  | .text _ _ _ _, _ => rfl
  | .list _ _ c, a => plWs_map (fun x => pl_enc c x) a
  | .pair c d, a => by
    show (plW (c.enc a.1) && (plW (d.enc a.2) && true)) = true
    rw [pl_enc c a.1, pl_enc d a.2] <;> rfl
  | .triple c d e, a => by
    show (plW (c.enc a.1) && (plW (d.enc a.2.1) && (plW (e.enc a.2.2) && true))) = true
    rw [pl_enc c a.1, pl_enc d a.2.1, pl_enc e a.2.2] <;> rfl
  | .option c, none => rfl
  | .option c, some x => pl_enc c x
theorem pl_encAll : ∀ (cs : List Codec) (a : Codec.denoteAll cs), plWs (Codec.encAll cs a) = true
  | [], _ => rfl
  | c :: cs, a => by
    show (plW (c.enc a.1) && plWs (Codec.encAll cs a.2)) = true
    rw [pl_enc c a.1, pl_encAll cs a.2] <;> rfl
theorem weight_mem : ∀ {xs : List WData} {d : WData}, d ∈ xs → d.weight ≤ WData.weightAll xs
  | [], d, h => absurd h (by simp)
  | x :: r, d, h => by
    show d.weight ≤ x.weight + 1 + WData.weightAll r
    rcases List.mem_cons.mp h with e | m
    · rw [e]
      omega
    · have z := weight_mem m
      omega
def toV : Value → V
  | .none => .non
  | .bool b => .bl b
  | .int i _ => .int i
  | .str x _ => .str x
  | .bytes b _ => .byt b
  | .ref a => .ref a
  | _ => .non
/-- a value of the arguments, its objects among A -/
def OkU (A : List Addr) : Value → Prop
  | .none => True
  | .bool _ => True
  | .int _ _ => True
  | .str _ _ => True
  | .bytes _ _ => True
  | .ref a => a ∈ A
  | _ => False
theorem OkU.mono {A B : List Addr} (h : ∀ a ∈ A, a ∈ B) : ∀ {u : Value}, OkU A u → OkU B u := fun {u} x => by
  cases u with
  | ref a => exact h a x
  | none => trivial
  | bool b => trivial
  | int i t => trivial
  | str s t => trivial
  | bytes b t => trivial
  | _ => exact False.elim x
theorem relV_toV {A : List Addr} {u : Value} (x : OkU A u) : RelV (toV u) u := by
  cases u with
  | ref a => rfl
  | none => rfl
  | bool b => rfl
  | int i t => exact ⟨t, rfl⟩
  | str s t => exact ⟨t, rfl⟩
  | bytes b t => exact ⟨t, rfl⟩
  | _ => exact False.elim x
theorem vals_toV {A : List Addr} : ∀ {vs : List Value}, (∀ u ∈ vs, OkU A u) → Vals (vs.map toV) vs
  | [], _ => .nil
  | u :: r, h => .cons (relV_toV (h u (List.mem_cons_self ..))) (vals_toV fun x hx => h x (List.mem_cons_of_mem _ hx))
/-- an object of the arguments -/
def ArgOb (h : Heap) (A : List Addr) (a : Addr) : Prop := ∃ vs : List Value, vs.length ≤ sizeLine ∧ (∀ u ∈ vs, OkU A u) ∧
  (h.get? a = some { cls := .type "list", data := .seq vs.toArray } ∨ h.get? a = some { cls := .type "tuple", data := .seq vs.toArray })
theorem ArgOb.mono {h : Heap} {A B : List Addr} {a : Addr} (k : ∀ a ∈ A, a ∈ B) (x : ArgOb h A a) : ArgOb h B a := by
  obtain ⟨vs, h1, h2, h3⟩ := x
  exact ⟨vs, h1, fun u hu => (h2 u hu).mono k, h3⟩
theorem wellAll_len {P : Params} {h : Heap} : ∀ {vs : List Value} {ds : List WData}, WellAll P h vs ds → vs.length = ds.length
  | _, _, .nil => rfl
  | _, _, .cons _ b => by
    show _ + 1 = _ + 1
    rw [wellAll_len b]
theorem well_list {P : Params} {h : Heap} {v : Value} {ds : List WData} (x : Well P h v (.list ds)) : ∃ (a : Addr) (vs : List Value), v = .ref a ∧ h.get? a = some { cls := .type "list", data := .seq vs.toArray } ∧ WellAll P h vs ds := by
  cases x with
  | list ho hall => exact ⟨_, _, rfl, ho, hall⟩
theorem well_tuple {P : Params} {h : Heap} {v : Value} {ds : List WData} (x : Well P h v (.tuple ds)) : ∃ (a : Addr) (vs : List Value), v = .ref a ∧ h.get? a = some { cls := .type "tuple", data := .seq vs.toArray } ∧ WellAll P h vs ds := by
  cases x with
  | tuple ho hall => exact ⟨_, _, rfl, ho, hall⟩
theorem well_cons {P : Params} {h : Heap} {us : List Value} {d : WData} {ds : List WData} (x : WellAll P h us (d :: ds)) : ∃ (v : Value) (vs : List Value), us = v :: vs ∧ Well P h v d ∧ WellAll P h vs ds := by
  cases x with
  | cons a b => exact ⟨_, _, rfl, a, b⟩
theorem line_of {n : Nat} (h : n ≤ 1048576) : n ≤ sizeLine := Nat.le_trans h (by decide)
section
variable {P : Params} {h : Heap}
mutual
theorem area_one : ∀ (d : WData) (v : Value), Well P h v d → plW d = true → d.weight ≤ 1048576 → ∃ A : List Addr, OkU A v ∧ ∀ a ∈ A, ArgOb h A a
  | .none, _, x, _, _ => by
    cases x
    exact ⟨[], trivial, fun a m => absurd m (by simp)⟩
  | .bool b, _, x, _, _ => by
    cases x
    exact ⟨[], trivial, fun a m => absurd m (by simp)⟩
  | .int i, _, x, _, _ => by
    cases x
    exact ⟨[], trivial, fun a m => absurd m (by simp)⟩
  | .str s, _, x, _, _ => by
    cases x
    exact ⟨[], trivial, fun a m => absurd m (by simp)⟩
  | .bytes b, _, x, _, _ => by
    cases x
    exact ⟨[], trivial, fun a m => absurd m (by simp)⟩
  | .list ds, _, x, p, z => by
    obtain ⟨a, vs, rfl, ho, hall⟩ := well_list x
    have z2 : WData.weightAll ds ≤ 1048576 := z
    obtain ⟨A, h1, h2⟩ := area_all ds _ hall p fun d hd => Nat.le_trans (weight_mem hd) z2
    have k : ∀ b ∈ A, b ∈ a :: A := fun b hb => List.mem_cons_of_mem _ hb
    refine ⟨a :: A, List.mem_cons_self .., fun b hb => ?_⟩
    rcases List.mem_cons.mp hb with e | m
    · rw [e]
      exact ⟨vs, line_of (by rw [wellAll_len hall]; exact Nat.le_trans (PySem.W.length_le_weightAllW ds) z2), fun u hu => (h1 u hu).mono k, .inl ho⟩
    · exact (h2 b m).mono k
  | .tuple ds, _, x, p, z => by
    obtain ⟨a, vs, rfl, ho, hall⟩ := well_tuple x
    have z2 : WData.weightAll ds ≤ 1048576 := z
    obtain ⟨A, h1, h2⟩ := area_all ds _ hall p fun d hd => Nat.le_trans (weight_mem hd) z2
    have k : ∀ b ∈ A, b ∈ a :: A := fun b hb => List.mem_cons_of_mem _ hb
    refine ⟨a :: A, List.mem_cons_self .., fun b hb => ?_⟩
    rcases List.mem_cons.mp hb with e | m
    · rw [e]
      exact ⟨vs, line_of (by rw [wellAll_len hall]; exact Nat.le_trans (PySem.W.length_le_weightAllW ds) z2), fun u hu => (h1 u hu).mono k, .inr ho⟩
    · exact (h2 b m).mono k
  | .float _, _, _, p, _ => Bool.noConfusion (show false = true from p)
  | .dict _, _, _, p, _ => Bool.noConfusion (show false = true from p)
  | .bytearray _, _, _, p, _ => Bool.noConfusion (show false = true from p)
  | .set _, _, _, p, _ => Bool.noConfusion (show false = true from p)
  | .frozenset _, _, _, p, _ => Bool.noConfusion (show false = true from p)
  | .obj _ _, _, _, p, _ => Bool.noConfusion (show false = true from p)
theorem area_all : ∀ (ds : List WData) (vs : List Value), WellAll P h vs ds → plWs ds = true → (∀ d ∈ ds, d.weight ≤ 1048576) → ∃ A : List Addr, (∀ u ∈ vs, OkU A u) ∧ ∀ a ∈ A, ArgOb h A a
  | [], _, x, _, _ => by
    cases x
    exact ⟨[], fun u m => absurd m (by simp), fun a m => absurd m (by simp)⟩
  | d :: ds, _, x, p, z => by
    obtain ⟨v, vs, rfl, x1, x2⟩ := well_cons x
    have q : plW d = true ∧ plWs ds = true := Bool.and_eq_true_iff.mp p
    obtain ⟨A, a1, a2⟩ := area_one d v x1 q.1 (z d (List.mem_cons_self ..))
    obtain ⟨B, b1, b2⟩ := area_all ds vs x2 q.2 fun e he => z e (List.mem_cons_of_mem _ he)
    have kA : ∀ b ∈ A, b ∈ A ++ B := fun b hb => List.mem_append.mpr (.inl hb)
    have kB : ∀ b ∈ B, b ∈ A ++ B := fun b hb => List.mem_append.mpr (.inr hb)
    refine ⟨A ++ B, fun u hu => ?_, fun b hb => ?_⟩
    · rcases List.mem_cons.mp hu with e | m
      · rw [e]
        exact a1.mono kA
      · exact (b1 u m).mono kB
    · rcases List.mem_append.mp hb with m | m
      · exact (a2 b m).mono kA
      · exact (b2 b m).mono kB
end
end
/-- what is tracked of an argument's object -/
def hoOf (o : Obj) : Option HO := match o.data with
  | .seq vs _ => if (o.cls == Value.type "list") = true then some (.frz o (.lst (vs.toList.map toV))) else some (.frz o (.tup (vs.toList.map toV)))
  | _ => none
def argH (K : PySem.W.Frag) (h : Heap) (A : List Addr) : Hp := fun b => if b ∈ A then (if (K.lookup b).isNone = true then (h.get? b).bind hoOf else none) else none
/-- nothing is tracked but what is known to the object -/
def OnlyF (H : Hp) : Prop := ∀ b, H b = none ∨ ∃ o u, H b = some (.frz o u)
theorem hoOf_lst (vs : List Value) : hoOf { cls := .type "list", data := .seq vs.toArray } = some (.frz { cls := .type "list", data := .seq vs.toArray } (.lst (vs.map toV))) := by
  show (if (Value.type "list" == Value.type "list") = true then some (HO.frz { cls := .type "list", data := .seq vs.toArray } (.lst (vs.toArray.toList.map toV))) else some (HO.frz { cls := .type "list", data := .seq vs.toArray } (.tup (vs.toArray.toList.map toV)))) = _
  rw [if_pos (beq_self_eq_true _)]
theorem hoOf_tup (vs : List Value) : hoOf { cls := .type "tuple", data := .seq vs.toArray } = some (.frz { cls := .type "tuple", data := .seq vs.toArray } (.tup (vs.map toV))) := by
  show (if (Value.type "tuple" == Value.type "list") = true then some (HO.frz { cls := .type "tuple", data := .seq vs.toArray } (.lst (vs.toArray.toList.map toV))) else some (HO.frz { cls := .type "tuple", data := .seq vs.toArray } (.tup (vs.toArray.toList.map toV)))) = _
  rw [if_neg (by decide)]
section
variable {P : Program} {w : World} {K : PySem.W.Frag} {h : Heap} {A : List Addr}
theorem argH_at {b : Addr} {o : Obj} (hb : b ∈ A) (hk : K.lookup b = none) (e : h.get? b = some o) : argH K h A b = hoOf o := by
  unfold argH
  rw [if_pos hb, hk, if_pos (show (none : Option Obj).isNone = true from rfl), e] <;> rfl
theorem of_argH {b : Addr} {u : HO} (q : argH K h A b = some u) : b ∈ A ∧ K.lookup b = none := by
  unfold argH at q
  by_cases hb : b ∈ A
  · rw [if_pos hb] at q
    cases hk : K.lookup b with
    | none => exact ⟨hb, rfl⟩
    | some o =>
      rw [hk, if_neg (by simp)] at q
      cases q
  · rw [if_neg hb] at q
    cases q
/-- what stands tracked -/
theorem argH_is (ar : ∀ a ∈ A, ArgOb h A a) {b : Addr} {u : HO} (q : argH K h A b = some u) : K.lookup b = none ∧ ∃ vs : List Value, vs.length ≤ sizeLine ∧ (∀ u ∈ vs, OkU A u) ∧
    ((h.get? b = some { cls := .type "list", data := .seq vs.toArray } ∧ u = .frz { cls := .type "list", data := .seq vs.toArray } (.lst (vs.map toV))) ∨
     (h.get? b = some { cls := .type "tuple", data := .seq vs.toArray } ∧ u = .frz { cls := .type "tuple", data := .seq vs.toArray } (.tup (vs.map toV)))) := by
  obtain ⟨hb, hk⟩ := of_argH q
  obtain ⟨vs, h1, h2, h3⟩ := ar b hb
  refine ⟨hk, vs, h1, h2, ?_⟩
  rcases h3 with e | e
  · rw [argH_at hb hk e, hoOf_lst] at q
    exact .inl ⟨e, (Option.some.inj q).symm⟩
  · rw [argH_at hb hk e, hoOf_tup] at q
    exact .inr ⟨e, (Option.some.inj q).symm⟩
theorem argH_only (ar : ∀ a ∈ A, ArgOb h A a) : OnlyF (argH K h A) := fun b => by
  cases q : argH K h A b with
  | none => exact .inl rfl
  | some u =>
    obtain ⟨_, vs, _, _, ⟨_, e⟩ | ⟨_, e⟩⟩ := argH_is ar q
    · exact .inr ⟨_, _, by rw [e]⟩
    · exact .inr ⟨_, _, by rw [e]⟩
theorem argH_ok (ar : ∀ a ∈ A, ArgOb h A a) : HOk P w (argH K h A) h := fun b u q => by
  obtain ⟨_, vs, h1, h2, ⟨e, rfl⟩ | ⟨e, rfl⟩⟩ := argH_is ar q
  · exact ⟨e, by rw [List.length_map]; exact h1, vs, _, vals_toV h2, e⟩
  · exact ⟨e, by rw [List.length_map]; exact h1, vs, vals_toV h2, _, e, rfl, _, rfl⟩
theorem seq_inj {c c' : Value} {vs us : List Value} (e : (some { cls := c, data := .seq vs.toArray } : Option Obj) = some { cls := c', data := .seq us.toArray }) : c = c' ∧ vs = us := by
  have e1 := Option.some.inj e
  have e2 : c = c' := congrArg Obj.cls e1
  have e3 : Data.seq vs.toArray = Data.seq us.toArray := congrArg Obj.data e1
  injection e3 with e4
  refine ⟨e2, ?_⟩
  have e5 := congrArg Array.toList e4
  simpa using e5
/-- a list argument -/
theorem argL (KX : K.In h) (ar : ∀ a ∈ A, ArgOb h A a) {a : Addr} {vs : List Value} (ha : a ∈ A) (e : h.get? a = some { cls := .type "list", data := .seq vs.toArray }) : (∀ u ∈ vs, OkU A u) ∧ SqL K (argH K h A) a (vs.map toV) := by
  obtain ⟨us, h1, h2, h3⟩ := ar a ha
  have hu : us = vs := by
    rcases h3 with q | q
    · rw [e] at q
      exact (seq_inj q).2.symm
    · rw [e] at q
      exact absurd (Value.type.inj (seq_inj q).1) (by decide)
  subst hu
  refine ⟨h2, ?_⟩
  cases hk : K.lookup a with
  | none => exact .inl (.inr ⟨_, by rw [argH_at ha hk e, hoOf_lst]⟩)
  | some o =>
    have e2 := KX a o hk
    rw [e] at e2
    obtain rfl := Option.some.inj e2
    exact .inr ⟨_, us.toArray, _, hk, rfl, rfl, rfl, by rw [List.size_toArray]; exact h1, by simpa using vals_toV h2⟩
theorem argT (KX : K.In h) (ar : ∀ a ∈ A, ArgOb h A a) {a : Addr} {vs : List Value} (ha : a ∈ A) (e : h.get? a = some { cls := .type "tuple", data := .seq vs.toArray }) : (∀ u ∈ vs, OkU A u) ∧ SqT K (argH K h A) a (vs.map toV) := by
  obtain ⟨us, h1, h2, h3⟩ := ar a ha
  have hu : us = vs := by
    rcases h3 with q | q
    · rw [e] at q
      exact absurd (Value.type.inj (seq_inj q).1) (by decide)
    · rw [e] at q
      exact (seq_inj q).2.symm
  subst hu
  refine ⟨h2, ?_⟩
  cases hk : K.lookup a with
  | none => exact .inl (.inr ⟨_, by rw [argH_at ha hk e, hoOf_tup]⟩)
  | some o =>
    have e2 := KX a o hk
    rw [e] at e2
    obtain rfl := Option.some.inj e2
    exact .inr ⟨_, us.toArray, _, hk, rfl, rfl, by rw [List.size_toArray]; exact h1, by simpa using vals_toV h2⟩
mutual
theorem dw_one {Pm : Params} (KX : K.In h) (ar : ∀ a ∈ A, ArgOb h A a) : ∀ (d : WData) (v : Value), Well Pm h v d → plW d = true → OkU A v → Dw K (argH K h A) (toV v) d
  | .none, _, x, _, _ => by
    cases x
    exact .non
  | .bool b, _, x, _, _ => by
    cases x
    exact .bl b
  | .int i, _, x, _, _ => by
    cases x
    exact .int i
  | .str s, _, x, _, _ => by
    cases x
    exact .str s
  | .bytes b, _, x, _, _ => by
    cases x
    have z := Dw.byt (K := K) (H := argH K h A) b.toArray
    exact z
  | .list ds, _, x, p, hu => by
    obtain ⟨a, vs, rfl, ho, hall⟩ := well_list x
    obtain ⟨h2, hs⟩ := argL KX ar hu ho
    exact .lst hs (dw_all KX ar ds _ hall p h2)
  | .tuple ds, _, x, p, hu => by
    obtain ⟨a, vs, rfl, ho, hall⟩ := well_tuple x
    obtain ⟨h2, hs⟩ := argT KX ar hu ho
    exact .tup hs (dw_all KX ar ds _ hall p h2)
  | .float _, _, _, p, _ => Bool.noConfusion (show false = true from p)
  | .dict _, _, _, p, _ => Bool.noConfusion (show false = true from p)
  | .bytearray _, _, _, p, _ => Bool.noConfusion (show false = true from p)
  | .set _, _, _, p, _ => Bool.noConfusion (show false = true from p)
  | .frozenset _, _, _, p, _ => Bool.noConfusion (show false = true from p)
  | .obj _ _, _, _, p, _ => Bool.noConfusion (show false = true from p)
theorem dw_all {Pm : Params} (KX : K.In h) (ar : ∀ a ∈ A, ArgOb h A a) : ∀ (ds : List WData) (vs : List Value), WellAll Pm h vs ds → plWs ds = true → (∀ u ∈ vs, OkU A u) → DwAll K (argH K h A) (vs.map toV) ds
  | [], _, x, _, _ => by
    cases x
    exact .nil
  | d :: ds, _, x, p, hu => by
    obtain ⟨v, vs, rfl, x1, x2⟩ := well_cons x
    have q : plW d = true ∧ plWs ds = true := Bool.and_eq_true_iff.mp p
    exact .cons (dw_one KX ar d v x1 q.1 (hu _ (List.mem_cons_self ..))) (dw_all KX ar ds vs x2 q.2 fun u m => hu u (List.mem_cons_of_mem _ m))
end
end
/-! ### the call -/
theorem spec_call {P : Program} {w : World} {K : PySem.W.Frag} {mg mb : Str → Option Value} {CX : CXT} {k : Nat} {fa : Addr} {fd : FuncData} {ps : List Str} {sp : Sp} {s₁ : Shared} {vals : List Value} {ds : List WData} {R : PySem.W.WRecords} {cl : Str → Option Addr} {d0 : WData}
    (KX : K.In s₁.heap) (hns : s₁.heap.Ns mainGlobals mg) (hb : s₁.heap.Ns builtinsNs mb) (hbb : ∀ x : Str, x ≠ "__name__" → mb x = bootBuiltins x) (hlim : s₁.heap.NoLimit) (hg : s₁.gens = #[])
    (hwl : WellAll w.params s₁.heap vals ds) (hpl : plWs ds = true) (hwt : ∀ d ∈ ds, d.weight ≤ 1048576) (hr : Room k callerA)
    (F : ∀ base : Heap, K.In base → base.Ns mainGlobals mg → FnOk P w K mg base CX k fa fd ps sp) (hbind : ∀ (s : Shared) (us : List Value), us.length = ps.length → BindsTo s fd ⟨us, []⟩ (ps.zip us)) (hlen : ds.length = ps.length)
    (hsp : ∀ (H : Hp) (xs : List V), OnlyF H → DwAll K H xs ds → sp xs H (fun v H' => Dw K H' v d0) fun _ _ _ => False)
    (hCX : ∀ H e s', CX [] H s₁ (fun _ _ _ => False) e s' → False) :
    codeAny (model P w) callerA (.call (.ref fa) ⟨vals, []⟩) (fun r s' => ∃ u as, r = .ok (.ret u) ∧ ReadsW R cl s'.heap u d0 as ∧ OldK s₁.heap s'.heap ∧ s'.os = s₁.os ∧ AllBare s'.gens) s₁ := by
  obtain ⟨A, ho, ar⟩ := area_all ds vals hwl hpl hwt
  have hO : OnlyF (argH K s₁.heap A) := argH_only ar
  have hok : HOk P w (argH K s₁.heap A) s₁.heap := argH_ok ar
  have hS := dw_all KX ar ds vals hwl hpl ho
  have hV := vals_toV ho
  have hK : ∀ b u, argH K s₁.heap A b = some u → K.lookup b = none := fun b u q => (argH_is ar q).1
  have noA : ∀ {b : Addr} {o : Obj} {es : Array DictEntry} {ep : Nat}, s₁.heap.get? b = some o → o.data = .dict es ep → argH K s₁.heap A b = none := fun {b o es ep} e d => by
    cases q : argH K s₁.heap A b with
    | none => rfl
    | some u =>
      obtain ⟨_, vs, _, _, ⟨e2, _⟩ | ⟨e2, _⟩⟩ := argH_is ar q
      · rw [e2] at e
        cases e
        have d' : Data.seq vs.toArray _ = Data.dict es ep := d
        cases d'
      · rw [e2] at e
        cases e
        have d' : Data.seq vs.toArray _ = Data.dict es ep := d
        cases d'
  generalize argH K s₁.heap A = H at hO hok hS hK noA
  have base_of : ∀ {b : Addr} {o : Obj}, s₁.heap.get? b = some o → H b = none → (hidT s₁.heap H).get? b = some o := fun e n => hidT_get e n
  have nsK : ∀ {b : Addr} {m : Str → Option Value}, s₁.heap.Ns b m → (hidT s₁.heap H).Ns b m := fun {b m} ⟨o, es, ep, e, d, r⟩ => ⟨o, es, ep, base_of e (noA e d), d, r⟩
  have nK : ∀ b o, K.lookup b = some o → H b = none := fun b o e => by
    cases q : H b with
    | none => rfl
    | some u =>
      rw [hK b u q] at e
      cases e
  have hKb : K.In (hidT s₁.heap H) := fun b o e => base_of (KX b o e) (nK b o e)
  have hM : Mod K mg (hidT s₁.heap H) := ⟨hKb, nsK hns, ⟨mb, nsK hb, hbb⟩, let ⟨mc, h1, h2⟩ := hlim; ⟨mc, nsK h1, h2⟩⟩
  have e0 : Env0 P w K mg (hidT s₁.heap H) callerA [] s₁ H := ⟨rfl, hM, fun b o e => of_hidT e, Nat.le_of_eq (hidT_size _ _), trivial, fun b hb => absurd (show b ∈ ([] : List Addr) from hb) (by simp), hok, .of_eq hg⟩
  have hl : vals.length = ps.length := by rw [wellAll_len hwl]; exact hlen
  refine codeAny_mono ((F _ hKb (nsK hns)).run callerA [] s₁ H ⟨vals, []⟩ vals (vals.map toV) _ _ hr e0 (hbind s₁ vals hl) hV (hsp H _ hO hS)) fun r s' x => ?_
  cases r with
  | error e => exact (hCX H e s' x).elim
  | ok fl =>
    cases fl with
    | next => exact False.elim x
    | brk => exact False.elim x
    | cont => exact False.elim x
    | ret u =>
      obtain ⟨v, H', os, bare, un, hok', r', q⟩ := x
      have kept : ∀ b o, s₁.heap.get? b = some o → s'.heap.get? b = some o := fun b o e => by
        cases q2 : H b with
        | none => exact un.keep b o e q2 (by intro z; exact absurd (show b ∈ ([] : List Addr) from z) (by simp)) (by simp)
        | some u2 =>
          rcases hO b with z | ⟨ob, u3, z⟩
          · rw [q2] at z
            cases z
          · have z2 := un.frzs b ob _ z
            obtain ⟨e1, _⟩ := hok b _ z
            obtain ⟨e2, _⟩ := hok' b _ z2
            rw [e] at e1
            cases e1
            exact e2
      have KX' : K.In s'.heap := fun b o e => kept b o (KX b o e)
      obtain ⟨as, hrd⟩ := Dw.reads (R := R) (cl := cl) hok' KX' d0 v u q r'
      exact ⟨u, as, rfl, hrd, OldK.of_keep kept, os, bare⟩
/-! ### the row -/
theorem layable_weight {ds : List WData} (h : WData.layableAll ds = true) : ∀ d ∈ ds, d.weight ≤ 1048576 := fun d hd =>
  (PySem.W.layableW_iff.mp (List.all_eq_true.mp h d hd)).2.2
theorem encAll_len : ∀ (cs : List Codec) (a : Codec.denoteAll cs), (Codec.encAll cs a).length = cs.length
  | [], _ => rfl
  | c :: cs, a => by
    show (Codec.encAll cs a.2).length + 1 = cs.length + 1
    rw [encAll_len cs a.2]
/-- the goal that k_headS leaves (case hc), from the promise of the row's def: whatever the arguments that the codecs let and the row asks for, the def gives what stands for enc (f ..) -/
theorem walk_spec {r : OpenSpec} {k : Nat} {q : Program} {loose : List Str} {XP : (Str → Option Value) → Heap → Prop} {YP : World → Heap → Prop} {d : DefRec} {K : Params → PySem.W.Frag} {CX : World → CXT} {ps : List Str} {sp : World → Sp}
    (hwell : r.wellSaid = true) (hdf : d.params.defaults = []) (hlen : r.args.length = ps.length) (hr : Room k callerA)
    (hY : ∀ (w : World) (h : Heap), YP w h → (K w.params).In h)
    (F : ∀ (w : World) (mg : Str → Option Value) (fa : Addr) (h : Heap), YP w h → (K w.params).In h → h.Ns mainGlobals mg → mg d.name = some (.ref fa) →
      ∃ fd : FuncData, (∀ (s : Shared) (us : List Value), us.length = ps.length → BindsTo s fd ⟨us, []⟩ (ps.zip us)) ∧
        ∀ base : Heap, (K w.params).In base → base.Ns mainGlobals mg → FnOk r.prog w (K w.params) mg base (CX w) k fa fd ps (sp w))
    (hsp : ∀ (w : World) (H : Hp) (xs : List V) (a : Codec.denoteAll r.args), OnlyF H → Codec.withinAll r.args a = true → Codec.app r.args r.asked a = true → DwAll (K w.params) H xs (Codec.encAll r.args a) →
      sp w xs H (fun v H' => Dw (K w.params) H' v (r.ret.enc (Codec.app r.args r.f a))) fun _ _ _ => False)
    (hCX : ∀ (w : World) (H : Hp) (s : Shared) (e : Value) (s' : Shared), CX w [] H s (fun _ _ _ => False) e s' → False) :
    PySem.W.WalkOS q loose XP YP r d [] (fun f vs => PySem.call f vs) := by
  intro w s_0 s₁ mg mb G Y fa o pm cd doc dV kV ho hd hcd hD hmg hg args vals as hpre hlay hrd hwl hlo
  obtain ⟨a, e1, e2⟩ := PySem.W.os_pre_some hpre
  obtain ⟨e3, hwi⟩ := Codec.encAll_of_decAll r.args args a e1
  subst e3
  have KX := hY w _ Y
  obtain ⟨fd, hb, hF⟩ := F w mg fa _ Y KX G.T.g hmg
  refine PySem.W.enter_call (codeAny_mono (spec_call (R := []) (cl := classAt s_0.heap) (d0 := r.ret.enc (Codec.app r.args r.f a)) KX G.T.g G.T.b G.T.builtins G.T.nolimit hg hwl (pl_encAll _ _) (layable_weight hlay) hr hF hb (by rw [encAll_len]; exact hlen)
    (fun H xs hO hS => hsp w H xs a hO hwi e2 hS) fun H e s' => hCX w H s₁ e s') fun r' s' hq => ?_)
  obtain ⟨u, as', rfl, h1, h2, h3, h4⟩ := hq
  exact ⟨.inl ⟨u, _, as', rfl, fun _ => rfl, h1, (OpenSpec.post_iff hwell hwi _ _).mpr rfl, fun z => Bool.noConfusion (show false = true from z)⟩, h2, h3, h4⟩
/-- the same where the promise hangs on the written part alone -/
theorem walk_specK {r : OpenSpec} {k : Nat} {q : Program} {loose : List Str} {XP : (Str → Option Value) → Heap → Prop} {YP : World → Heap → Prop} {d : DefRec} {K : Params → PySem.W.Frag} {CX : CXT} {ps : List Str} {sp : PySem.W.Frag → Sp}
    (hwell : r.wellSaid = true) (hdf : d.params.defaults = []) (hlen : r.args.length = ps.length) (hr : Room k callerA)
    (hY : ∀ (w : World) (h : Heap), YP w h → (K w.params).In h)
    (F : ∀ (w : World) (mg : Str → Option Value) (fa : Addr) (h : Heap), YP w h → (K w.params).In h → h.Ns mainGlobals mg → mg d.name = some (.ref fa) →
      ∃ fd : FuncData, (∀ (s : Shared) (us : List Value), us.length = ps.length → BindsTo s fd ⟨us, []⟩ (ps.zip us)) ∧
        ∀ base : Heap, (K w.params).In base → base.Ns mainGlobals mg → FnOk r.prog w (K w.params) mg base CX k fa fd ps (sp (K w.params)))
    (hsp : ∀ (K : PySem.W.Frag) (H : Hp) (xs : List V) (a : Codec.denoteAll r.args), OnlyF H → Codec.withinAll r.args a = true → Codec.app r.args r.asked a = true → DwAll K H xs (Codec.encAll r.args a) →
      sp K xs H (fun v H' => Dw K H' v (r.ret.enc (Codec.app r.args r.f a))) fun _ _ _ => False)
    (hCX : ∀ (H : Hp) (s : Shared) (e : Value) (s' : Shared), CX [] H s (fun _ _ _ => False) e s' → False) :
    PySem.W.WalkOS q loose XP YP r d [] (fun f vs => PySem.call f vs) :=
  walk_spec (K := K) (CX := fun _ => CX) (sp := fun w => sp (K w.params)) hwell hdf hlen hr hY F (fun w H xs a h1 h2 h3 h4 => hsp (K w.params) H xs a h1 h2 h3 h4) fun _ H s e s' => hCX H s e s'
end L2
-- rests on (row put in by the clerk, for the bench that shows a file only what it spells): KE.SpHead KE.OsShapes
end

/-! A DEF THAT STANDS IN A NAME OF THE FRAME IS CALLED -/
namespace L2
open PySem PySem.Spec PyProof.Rows
def tCallV (i : Nat) (f : Addr) (sp : Sp) (dvs : List V) (E : XK) (t : TA) : TE := fun σ H Q => σ[i]? = some (some (.ref f)) ∧ tCall sp dvs E t σ H Q
theorem pe_callV {X : Cx} {CX : CXT} {k i : Nat} {f : Addr} {fd : FuncData} {ps : List Str} {sp : Sp} {dvs : List V} {ds : List Value} {E : XK} {x : Str} {p pos : Pos} {e : Expr} {es : List Expr} {t : TA}
    (F : FnOk X.prog X.w X.K X.mg X.base CX k f fd ps sp) (hr : Room k X.A) (hk : PySem.W.keepIn X.K (.ref f) = true) (hb : Binds X.K fd ps ds) (hd : Vals dvs ds) (hx : Passes CX X E)
    (ha : PA X (e :: es) t) (hN : X.N[i]? = some x := by rfl) (hv : Vis X.env.scope x := by first | exact Or.inl rfl | exact Or.inr (Or.inl rfl) | exact Or.inr (Or.inr rfl)) (hdb : (x == ("__debug__" : Str)) = false := by decide)
    (hcd : (x == ("__classdict__" : Str)) = false := by decide) (he : starEach (e :: es) X.env = (false, eval e X.env) :: starEach es X.env := by rfl) (hpl : (backTo pos (starEach es X.env)).any (·.1) = false := by rfl) :
    PE X (.Call (.Name x p) (e :: es) [] pos) (tCallV i f sp dvs E t) := by
  intro pins s σ H Q I ⟨h0, h⟩
  refine wpAny_Call_Name_kw (thn (pe_var (X := X) hN hv hdb hcd pins s σ H (fun v H' => v = .ref f ∧ H' = H) I ⟨_, h0, rfl, rfl⟩) fun u s0 ⟨v, H0, I0, r0, ev, eh⟩ => ?_)
  subst ev eh
  obtain rfl : u = Value.ref f := r0
  refine PySem.W.callWith_K (h₀ := X.base) I0.ok.mod.kin hk (thn (ha pos pins s0 σ H0 _ I0 h) fun us s1 ⟨vs, H1, I1, r, q⟩ => ⟨I1.kIn, ?_⟩) he hpl
  exact run_fn F hr hb hd hx I1 r q
/-- a comprehension over a text -/
theorem lc_str {x : Str} {g : TG} {tt : TT} {te : TE} {vs : List Nat} {σ : St} {H1 : Hp} {D : Addr} {Qd : Hp → Prop} (Pv : Nat → Hp → Prop) (h0 : Pv 0 (upd H1 D (.lst [])))
    (hs : ∀ i c H, x.cps[i]? = some c → Pv i H → g (.str ⟨#[c]⟩) (wipe σ vs) H fun σ2 H2 => wipe σ2 vs = wipe σ vs ∧ tt σ2 H2 fun b H3 =>
      if b = true then te σ2 H3 fun y H4 => ∃ acc, H4 D = some (.lst acc) ∧ acc.length < sizeLine ∧ Pv (i + 1) (upd H4 D (.lst (acc ++ [y]))) else Pv (i + 1) H3) (hd : ∀ H, Pv x.cps.size H → Qd H) :
    ∃ W : Nat → Nat → Hp → Prop, (∃ m, W 0 m (upd H1 D (.lst []))) ∧ ∀ i m H, W i m H →
      ((Its x).stop i H ∧ Qd H) ∨ ((Its x).go i H ∧ ∃ Nx : Hp → Prop, (∀ H', Nx H' → ∃ m', m' < m ∧ W (i + 1) m' H') ∧ ∀ y H', (Its x).yld i H y H' → g y (wipe σ vs) H' fun σ2 H2 => wipe σ2 vs = wipe σ vs ∧ tt σ2 H2 fun b H3 =>
        if b = true then te σ2 H3 fun y H4 => ∃ acc, H4 D = some (.lst acc) ∧ acc.length < sizeLine ∧ Nx (upd H4 D (.lst (acc ++ [y]))) else Nx H3) := by
  refine ⟨fun i m H => m = x.cps.size - i ∧ i ≤ x.cps.size ∧ Pv i H, ⟨x.cps.size, by simp, Nat.zero_le _, h0⟩, ?_⟩
  rintro i m H ⟨rfl, hi, p⟩
  by_cases hlt : i < x.cps.size
  · refine .inr ⟨hlt, Pv (i + 1), fun H' p' => ⟨x.cps.size - (i + 1), by omega, rfl, hlt, p'⟩, fun y H' z => ?_⟩
    obtain ⟨e, c, hc, ey⟩ := z
    subst e ey
    exact hs i c _ hc p
  · have e : i = x.cps.size := by omega
    subst e
    exact .inl ⟨Nat.le_refl _, hd H p⟩
end L2

/-! (a, b, c).index(x), all whole numbers -/
namespace L2
open PySem PySem.Spec PyProof.Rows
theorem tup_index3 {a b c k : Int} {t1 t2 t3 u : Tok} {p : Addr} {j : Nat} (hj : (a = k ∧ j = 0) ∨ (a ≠ k ∧ b = k ∧ j = 1) ∨ (a ≠ k ∧ b ≠ k ∧ c = k ∧ j = 2)) :
    Meets (Builtin.«tuple.index» ⟨[.ref p, .int k u], []⟩)
      (fun _ R s => (∃ o n, s.heap.get? p = some o ∧ o.data = .seq #[.int a t1, .int b t2, .int c t3] n) ∧ R (.ok (.ret (.int j s.toks))) { s with toks := s.toks + 1 }) := by
  intro prog w A R s ⟨⟨o, n, ho, hd⟩, h⟩
  (unfold Builtin.«tuple.index»)
  repeat (first | (with_reducible refine wpAny_tupleItemsOf ho hd ?_) | ((fail_if_success rw [Std.Legacy.Range.forIn_eq_forIn_range']); wp_step))
  (rw [Std.Legacy.Range.forIn_eq_forIn_range'])
  generalize hl : List.range' _ _ _ = l
  have el : l = [0, 1, 2] := by rw [← hl]; simp [Std.Legacy.Range.size, List.range']
  clear hl
  subst el
  have f1 : ∀ {x y : Int}, x ≠ y → (x == y) = false := fun h => beq_false_of_ne h
  rcases hj with ⟨e1, rfl⟩ | ⟨e1, e2, rfl⟩ | ⟨e1, e2, e3, rfl⟩
  · subst e1
    rw [List.forIn_cons]
    repeat (first | (refine wpAny_eqBool_int (a := a) (t := t1) ?_; rw [beq_self_eq_true]) | wp_step)
    exact h
  · subst e2
    simp only [List.forIn_cons]
    repeat (first | (refine wpAny_eqBool_int (a := a) (t := t1) ?_; rw [f1 e1]) | (refine wpAny_eqBool_int (a := b) (t := t2) ?_; rw [beq_self_eq_true]) | wp_step)
    exact h
  · subst e3
    simp only [List.forIn_cons]
    repeat (first | (refine wpAny_eqBool_int (a := a) (t := t1) ?_; rw [f1 e1]) | (refine wpAny_eqBool_int (a := b) (t := t2) ?_; rw [f1 e2]) | (refine wpAny_eqBool_int (a := c) (t := t3) ?_; rw [beq_self_eq_true]) | wp_step)
    exact h
def tTupIx (i : Nat) (ta : TA) : TE := fun σ H Q => ta σ H fun vs H1 => ∃ (a b c k : Int) (j : Nat), vs = [.int a, .int b, .int c] ∧ σ[i]? = some (some (.int k)) ∧ ((a = k ∧ j = 0) ∨ (a ≠ k ∧ b = k ∧ j = 1) ∨ (a ≠ k ∧ b ≠ k ∧ c = k ∧ j = 2)) ∧ Q (.int (j : Nat)) H1
theorem pe_tupIx {X : Cx} {i : Nat} {x : Str} {es : List Expr} {x1} {tpos np apos cpos : Pos} {ta : TA} (h : PA X es ta) (hN : X.N[i]? = some x := by rfl) (hv : X.env.scope.names.lookup x = some .local := by rfl) (hdb : (x == ("__debug__" : Str)) = false := by decide)
    (hbase : attributeBase (.Tuple es x1 tpos) "index" X.env (eval (.Tuple es x1 tpos) X.env) = eval (.Tuple es x1 tpos) X.env := by rfl)
    (hfew : ((backTo cpos (starEach [.Name x np] X.env)).all (fun x => !x.1) && (backToKw cpos (keywordEach [] X.env)).all (fun x => x.1.isSome)
      && decide ([Expr.Name x np].length + ([] : List Keyword).length + (if ([] : List Keyword).isEmpty then 0 else 1) < 30)) = true := by rfl)
    (hline : (apos.endLine == cpos.line) = true := by rfl) (hs : backTo cpos (starEach [.Name x np] X.env) = [(false, eval (.Name x np) X.env)] := by rfl) :
    PE X (.Call (.Attribute (.Tuple es x1 tpos) "index" apos) [.Name x np] [] cpos) (tTupIx i ta) := by
  intro pins s σ H Q I hq
  refine wpAny_Call_method_late hbase hfew hline rfl (wpAny_Tuple_spliced (thn (h tpos pins s σ H _ I hq) fun us s1 ⟨xs, H1, I1, r, a, b, c, k, j, exs, hσ, hj, q⟩ => ?_))
  subst exs
  cases r with
  | cons r1 rr =>
    cases rr with
    | cons r2 rr =>
      cases rr with
      | cons r3 rr =>
        cases rr
        obtain ⟨t1, rfl⟩ := r1
        obtain ⟨t2, rfl⟩ := r2
        obtain ⟨t3, rfl⟩ := r3
        refine ⟨(by show 3 ≤ sizeLine; decide), ?_⟩
        have I2 : Inv X pins σ H1 { s1 with heap := s1.heap.push { cls := .type "tuple", data := .seq [Value.int a t1, Value.int b t2, Value.int c t3].toArray } } := I1.kept (t' := s1.toks) fun b ob q => Heap.get?_push_of_some _ q
        have gp : (s1.heap.push { cls := .type "tuple", data := .seq [Value.int a t1, Value.int b t2, Value.int c t3].toArray }).get? s1.heap.objs.size = some { cls := .type "tuple", data := .seq [Value.int a t1, Value.int b t2, Value.int c t3].toArray } := Heap.get?_push_size _ rfl
        refine ⟨"tuple", "tuple.index", PySem.F.plainAttrs_tuple, PySem.F.slot_tuple_index, PySem.F.type_tuple_index, ⟨_, gp, rfl⟩, fun d e => (by cases e; exact ⟨_, gp, rfl⟩), ?_⟩
        rw [hs]
        obtain ⟨m, hn, hl⟩ := I2.loc
        obtain ⟨u, ru, l⟩ := hl i x _ hN hσ (Or.inl hv)
        obtain ⟨tk, rfl⟩ := ru
        refine Calls.callWith_builtin rfl (Calls.evalArgs_plain (Calls.spliced_cons ?_))
        rcases l with ⟨hk, hm⟩ | ⟨hk, cc, hc, hcell⟩
        · refine wpAny_Name (wpAny_loadName_local I2.ok.kind hk hn hm (Calls.spliced_nil ?_)) hdb
          exact call_meets PySem.F.slot_tuple_index ⟨_, gp, rfl⟩ PySem.F.entry_tuple_index (PySem.F.args_tuple_index_2 _ _) (tup_index3 hj) ⟨⟨_, _, gp, rfl⟩, ⟨.int (j : Nat), H1, I2.tok _, ⟨_, rfl⟩, q⟩⟩
        · have hk : X.env.scope.names.lookup x = some .cell ∨ X.env.scope.names.lookup x = some .free := hk
          rw [hv] at hk
          rcases hk with z | z <;> cases z
end L2

/-! sorted OVER A LIST OF PAIRS OF WHOLE NUMBERS, of any length -/
namespace L2
open PySem PySem.Spec PyProof.Rows
end L2

/-! A SECOND ATTRIBUTE OF AN EXCEPTION -/
namespace Fly
open PySem
open Builtin
open Builtin.ObjectAttr
section
variable {os : OsState} {t : Nat} {prog : Program} {w : World} {A : Around} {E : Value → Shared → Prop} {h : Heap} {g : Array GenState} {d : Drawn}
variable {C N x dx : Addr} {nm q : Str} {bm bs : List Value} {sn : List Str} {sub : List Value} {ab : Bool} {col : Option Bool} {dd : Option Addr} {k0 k1 k2 k3 k5 : Option Value} {B newId sa owner : String}
  {mN : Str → Option Value} {f f0 : Str} {v u0 : Value} {ox : Obj}
theorem put_entry2 {tk : Tok} {Q : Fin → Shared → Prop} (SF : StoreFacts B bm sa owner)
    (gC : h.get? C = some (excClassObj nm q C N bs bm true sn sub ab col dd k0 k1 k2 k3 k5 newId)) (nN : h.Ns N mN) (nf : mN f = none)
    (lB : typeLookup (.type B) f = pure none) (gx : h.get? x = some ox) (ec : ox.cls = .ref C) (nc : ∀ c, ox.data ≠ .cls c) (ed : ox.dict = some dx) (nd : h.Ns1 dx (fun y => if y = f0 then some u0 else none))
    (k : ∀ h2 tk2, h2.Ns1 dx (fun y => if y = f then some v else if y = f0 then some u0 else none) → (∀ b o, b ≠ dx → h.get? b = some o → h2.get? b = some o) → Q (.done (.ret .none)) ⟨h2, g, d, tk2, os⟩) :
    wpAny (model prog w) A (Builtin.«object.__setattr__» ⟨[.ref x, .str f tk, v], []⟩) Q E ⟨h, g, d, t, os⟩ := by
  have passes := SF.passes (.ref x)
  (unfold Builtin.«object.__setattr__»)
  repeat (first | rw [refuse_eq] | (rw [refuseLoop_ref, passes]) | (with_reducible refine wpAny_loadPart_at gx ?_; rw [ec]) | with_reducible refine wpAny_mroOf_exc gC ?_ | (with_reducible refine wpAny_typeLookup_exc gC nN SF.mro lB ?_; rw [nf]) | wp_step)
  rw [ed]
  refine wpAny_pure ?_
  show wpAny _ _ (storeInDict dx (.str f tk) f v) _ _ _
  unfold storeInDict; unfold newKeyGuard
  refine wpAny_bind (wpAny_pure (wpAny_bind (wpAny_nsSet1 nd fun h2 n2 sb => ?_)))
  obtain ⟨oD, esD, epD, gD, edD, ecD⟩ := n2.count (Within.cons f v (Within.cons f0 u0 Within.nil))
  refine wpAny_bind (wpAny_lookBehind gD (by rw [edD]; exact pastItsLine_dict (Nat.le_trans ecD (by rw [List.length_cons, List.length_cons, List.length_nil, sizeLine_eq]; omega))) ?_)
  wp_walk
  exact k h2 _ n2 fun b o nb gb => (sb.2 b nb).trans gb
theorem put_attr2 {Q : Unit → Shared → Prop} (SF : StoreFacts B bm sa owner)
    (gC : h.get? C = some (excClassObj nm q C N bs bm true sn sub ab col dd k0 k1 k2 k3 k5 newId)) (nN : h.Ns N mN) (ns : mN "__setattr__" = none) (nf : mN f = none)
    (lB : typeLookup (.type B) f = pure none) (gx : h.get? x = some ox) (ec : ox.cls = .ref C) (nc : ∀ c, ox.data ≠ .cls c) (ed : ox.dict = some dx) (nd : h.Ns1 dx (fun y => if y = f0 then some u0 else none))
    (k : ∀ h2 tk2, h2.Ns1 dx (fun y => if y = f then some v else if y = f0 then some u0 else none) → (∀ b o, b ≠ dx → h.get? b = some o → h2.get? b = some o) → Q () ⟨h2, g, d, tk2, os⟩) :
    wpAny (model prog w) A (setAttr (.ref x) f v) Q E ⟨h, g, d, t, os⟩ := by
  have sbind := SF.slot.bind (.ref x)
  unfold setAttr; unfold callSpecial?; unfold specialOf
  repeat (any_goals (first | assumption | (with_reducible refine wpAny_loadPart_at gx ?_; rw [ec]) | (with_reducible refine wpAny_typeLookup_exc gC nN SF.mro SF.slot.lookup ?_; rw [ns]) | wp_step))
  refine codeAny_call_builtin SF.slot.plain SF.entry (wpAny_check_sa SF gC gx ec (put_entry2 SF gC nN nf lB gx ec nc ed nd fun h2 tk2 c1 c2 => ?_))
  repeat (any_goals (first | assumption | wp_step))
  exact k h2 tk2 c1 c2
end
end Fly
namespace L2
open PySem PySem.Spec PyProof.Rows
section
variable {X : Cx} {pins : List (Addr × Obj)} {σ : St} {H : Hp} {s : Shared}
/-- x.f = y, x an exception with one attribute -/
theorem setx2_ok {C N fI a t dx : Addr} {f f0 : Str} {y y0 : V} {u : Value} {A : Around} {E : Value → Shared → Prop} {Q : Unit → Shared → Prop} (I : Inv X pins σ H s) (e : H a = some (xDic C t dx a)) (ed : H dx = some (.xd [(f0, y0)])) (hne : f ≠ f0) (c : Exc X.K C N fI) (n : NoX X.K N f) (ry : RelV y u)
    (k : ∀ s', Inv X pins σ (upd H dx (.xd [(f, y), (f0, y0)])) s' → Q () s') : wpAny (model X.prog X.w) A (setAttr (.ref a) f u) Q E s := by
  obtain ⟨nm, q, bs, sn, sub, ab, col, dd, k0, k1, k2, k3, k5, lc⟩ := c.cls
  have gx : s.heap.get? a = some { cls := .ref C, dict := some dx, data := xFields t } := (I.hok a _ e).1
  have KX := I.kIn
  have isn := PySem.W.isNs_of_in KX c.ok
  have nN : s.heap.Ns N (s.heap.nsMap N) := .of_isNs isn
  obtain ⟨mA, n1, rel⟩ := (show ObjOk X.prog X.w H s.heap dx (.xd [(f0, y0)]) from I.hok dx _ ed)
  obtain ⟨u0, hu0, ru0⟩ := RelO.some_of (v := y0) (o := mA f0) (by have z := rel f0; rw [List.lookup_cons_self] at z; exact z)
  have em : mA = fun y => if y = f0 then some u0 else none := by
    funext z
    by_cases hz : z = f0
    · rw [if_pos hz, hz, hu0]
    · rw [if_neg hz]
      have r := rel z
      rw [List.lookup_cons, beq_false_of_ne hz] at r
      cases em : mA z with
      | none => rfl
      | some w => rw [em] at r; exact absurd r (by intro zz; exact zz)
  rw [em] at n1
  obtain ⟨hp, gg, dw, tk, os⟩ := s
  refine Fly.put_attr2 PySem.F.store_Exception (KX _ _ lc) nN (PySem.W.nsMap_none_of_in KX c.ok c.sa) (PySem.W.nsMap_none_of_in KX c.ok n.own) n.up gx rfl (fun _ z => (by cases z)) rfl n1 fun h2 tk2 g2 g3 => k _ ?_
  have ndx : ∀ b u, H b = some u → (∀ l, u ≠ .xd l) → b ≠ dx := fun b u q nu z => by
    rw [z, ed] at q
    cases q
    exact nu _ rfl
  have sm : ∀ b u, H b = some u → (∀ l, u ≠ .xd l) → upd H dx (.xd [(f, y), (f0, y0)]) b = some u := fun b u q nu => by
    rw [upd_ne (ndx b u q nu)]
    exact q
  refine I.un (h' := h2) (t' := tk2) ⟨fun b o q nb _ _ => g3 b o (fun z => by rw [z, ed] at nb; cases nb) q, fun b o q nb _ _ => ⟨o.slots, g3 b o (fun z => by rw [z, ed] at nb; cases nb) q⟩, fun b o q nb _ => ?_, fun b o q _ => ?_,
    fun b xs q => sm b _ q fun _ z => (by cases z), fun b o xs q => sm b _ q fun _ z => (by cases z), fun b ps q => ⟨#[], by rw [sm b _ q fun _ z => (by cases z)]; simp⟩⟩ fun b o q => ?_
  · rw [upd_ne (fun z => by rw [z, ed] at nb; cases nb)]
    exact nb
  · by_cases z : b = dx
    · rw [z]
      obtain ⟨o2, _, _, e2, _⟩ := g2
      exact ⟨o2, e2⟩
    · exact ⟨o, g3 b o z q⟩
  · by_cases z : b = dx
    · subst z
      rw [upd_same] at q
      cases q
      refine ⟨_, g2, fun g => ?_⟩
      by_cases zz : g = f
      · subst zz
        rw [List.lookup_cons_self, if_pos rfl]
        exact ry
      · rw [if_neg zz, List.lookup_cons, beq_false_of_ne zz]
        by_cases z3 : g = f0
        · subst z3
          rw [List.lookup_cons_self, if_pos rfl]
          exact ru0
        · rw [if_neg z3, List.lookup_cons, beq_false_of_ne z3]
          exact True.intro
    · rw [upd_ne z] at q
      have own : ∀ c, H c = some (.own b) → upd H dx (.xd [(f, y), (f0, y0)]) c = some (.own b) := fun c qc => sm c _ qc fun _ z => by cases z
      refine (I.hok b o q).stay (fun c v hc qc => g3 c v ?_ qc) own fun c xs qc => sm c _ qc fun _ z => by cases z
      rcases hc with rfl | hc
      · exact z
      · exact ndx c _ hc fun _ z => by cases z
end
def sXFld2 (C dx : Addr) (f0 : Str) (ta tv : TE) (f : Str) : TS := fun D σ H => tv σ H fun y H1 => ta σ H1 fun x H2 => ∃ a t y0, x = .ref a ∧ H2 a = some (xDic C t dx a) ∧ H2 dx = some (.xd [(f0, y0)]) ∧ D.nx σ (upd H2 dx (.xd [(f, y), (f0, y0)]))
theorem ps_xfld2 {X : Cx} {o value : Expr} {f f0 : Str} {pos pos' : Pos} {ta tv : TE} {C N fI : Addr} (c : Exc X.K C N fI) (n : NoX X.K N f) (hne : f ≠ f0) (ha : PE X o ta) (hv : PE X value tv) (hs : swapsWith value (some (.Attribute o f pos')) pos.line X.env = pure false) :
    PS X (.Assign [.Attribute o f pos'] value pos) (fun D σ H => ∃ dx, sXFld2 C dx f0 ta tv f D σ H) := by
  intro pins s σ H D I ⟨dx, h⟩
  refine plainObj_wpAny_Assign_Attribute (thn (hv pins s σ H _ I h) fun u s1 ⟨y, H1, I1, ry, q⟩ => thn (ha pins s1 σ H1 _ I1 q) fun ov s2 ⟨x, H2, I2, rx, a, t, y0, ex, ea, ed, q2⟩ => ?_) hs
  subst ex
  obtain rfl : ov = Value.ref a := rx
  exact setx2_ok I2 ea ed hne c n ry fun s3 I3 => ⟨σ, _, I3, q2⟩
end L2

/-! A RAISE WHILE AN EXCEPTION IS HANDLED -/
namespace Fly
open PySem
open Builtin
section
variable {prog : Program} {w : World} {A : Around} {E : Value → Shared → Prop} {s : Shared} {x y : Addr} {ox oy : Obj} {vx vy : Array Value}
theorem entry_unchain : entryFor table "proto.unchain" = some Builtin.«proto.unchain» := entryFor_of_fast (by kernel_rfl)
theorem plain_unchain : plainId "proto.unchain" = true := by decide +kernel
theorem raise_in {α : Type} {Q : α → Shared → Prop} (hh : A.handled = some (.ref y)) (ne : y ≠ x) (gy : s.heap.get? y = some oy) (ey : oy.data = .fields vy) (y2 : vy[2]? = some .none) (gx : s.heap.get? x = some ox) (ex : ox.data = .fields vx) (sx : 2 < vx.size)
    (h : E (.ref x) { s with heap := s.heap.update x (Obj.mapFields (·.setIfInBounds 2 (.ref y))) }) : wpAny (model prog w) A (raiseNew (.ref x) : Sem α) Q E s := by
  unfold raiseNew
  refine wpAny_bind (wpAny_handled ?_)
  rw [hh]
  have hne : (Value.ref y != Value.ref x) = true := by simp [ne]
  simp only [hne, if_true]
  repeat wp_step
  refine codeAny_builtin entry_unchain ?_
  rw [Around.under_plainId plain_unchain _]
  (unfold Builtin.«proto.unchain»)
  repeat (first | (with_reducible refine wpAny_field gy ey y2 ?_) | wp_step)
  rw [ex]
  show wpAny _ _ (if 2 < vx.size then update x (Obj.mapFields fun z => z.setIfInBounds 2 (Value.ref y)) else unsupported "internal:no-such-field") _ _ _
  rw [if_pos sx]
  exact wpAny_update gx (wpAny_throw h)
end
end Fly
namespace Fly
open PySem
section
variable {M : Model} {A : Around} {E : Value → Shared → Prop} {s : Shared} {B : Heap} {env : Env} {outer : List Env} {L x dx : Addr} {cls : Value} {cn : Bool}
/-- its last entry is of this frame -/
theorem note_same {l : List Env} {Q : Unit → Shared → Prop} (el : env.frame = some L) (F : Fl B l x cls dx cn (rawInt L) s.heap) (k : Q () s) : wpAny M A (noteFrame (.ref x) env) Q E s := by
  obtain ⟨st, out, ff, ox, vs, T, oT, ts, gx, ec, edx, ed, e1, nT, nTx, gT, eT, e3, c2⟩ := F
  unfold noteFrame
  simp only [el]
  refine wpAny_bind (wpAny_field gx ed e1 ?_)
  rw [if_pos (show (Value.ref T != Value.none) = true by simp)]
  refine wpAny_bind (wpAny_field gT eT e3 ?_)
  rw [if_pos (beq_self_eq_true _)]
  exact wpAny_pure k
theorem flight_set {l : List Env} {fl : Value} {o : Option Addr} {Q : Unit → Shared → Prop} (F : Fl B l x cls dx cn fl s.heap)
    (k : ∀ h2, Fl B l x cls dx cn (o.elim Value.none fun f => rawInt f) h2 → s.heap.UpToSlots h2 → Q () { s with heap := h2 }) : wpAny M A (setFlight (.ref x) o) Q E s := by
  obtain ⟨st, out, ff, ox, vs, T, oT, ts, gx, ec, edx, ed, e1, nT, nTx, gT, eT, e3, c2⟩ := F
  have z3 : 3 < ts.size := (Array.getElem?_eq_some_iff.mp e3).1
  have oth : ∀ b, b ≠ T → (s.heap.update T (Obj.mapFields (·.setIfInBounds 3 (o.elim Value.none fun f => rawInt f)))).get? b = s.heap.get? b := fun b nb => Heap.get?_update_other _ _ (Ne.symm nb)
  have nrec : ∀ b ob, s.heap.get? b = some ob → (∀ ws, ob.data ≠ .fields ws) → b ≠ T := fun b ob q nf z => by
    rw [z, gT] at q
    cases q
    exact nf ts eT
  unfold setFlight
  refine wpAny_bind (wpAny_field gx ed e1 ?_)
  rw [if_pos (show (Value.ref T != Value.none) = true by simp)]
  refine wpAny_setField gT eT z3 (k _ ⟨fun b ob q => (oth b fun z => by rw [z, nT] at q; cases q).trans (st b ob q), out, ff.of_keeps fun b ob q nf => ⟨ob, (oth b (nrec b ob q nf)).trans q, rfl⟩, ?_⟩
    fun b ob q nf => ⟨ob.slots, (oth b (nrec b ob q nf)).trans q⟩)
  exact ⟨ox, vs, T, _, _, (oth x (Ne.symm nTx)).trans gx, ec, edx, ed, e1, nT, nTx, Heap.get?_update_self _ gT (Obj.isFreed_of_fields (Obj.data_mapFields eT _)), Obj.data_mapFields eT _, by simp [z3], c2⟩
theorem pass_on {l : List Env} {fl : Value} {what : String} {α : Type} {Q : α → Shared → Prop} (el : env.frame = some L) (F : Fl B l x cls dx cn fl s.heap)
    (k : ∀ h2, Fl B l x cls dx cn (rawInt L) h2 → s.heap.UpToSlots h2 → E (.ref x) { s with heap := h2 }) : wpAny M A (passOn what (.ref x) env : Sem α) Q E s := by
  have F0 := F
  obtain ⟨st, out, ff, ox, vs, T, oT, ts, gx, ec, edx, ed, e1, nT, nTx, gT, eT, e3, c2⟩ := F
  unfold passOn
  refine wpAny_bind (wpAny_field gx ed e1 ?_)
  rw [if_neg (show ¬ (Value.ref T == Value.none) = true by simp)]
  rw [el]
  exact wpAny_bind (flight_set (o := some L) F0 fun h2 F2 u2 => wpAny_throw (k h2 F2 u2))
end
end Fly
namespace L2
open PySem PySem.Spec PyProof.Rows
/-- the heap behind a raise while x0 is handled -/
abbrev ctxd (h : Heap) (y x0 : Addr) : Heap := h.update y (Obj.mapFields (·.setIfInBounds 2 (.ref x0)))
theorem raise_madeH {prog : Program} {w : World} {A : Around} {env : Env} {Ex : Value → Shared → Prop} {nm q : Str} {C N x0 : Addr} {o0 : Obj} {v0 : Array Value} {bs bm : List Value} {sn : List Str} {sub : List Value} {ab : Bool} {col : Option Bool} {dd : Option Addr} {k0 k1 k2 k3 k5 : Option Value} {newId : String} {hdc : Bool}
    {s : Shared} {y : Sem Value} {Q : Flow → Shared → Prop} (hb : bm.contains (.type "BaseException") = true) (hh : A.handled = some (.ref x0)) (e0 : o0.data = .fields v0) (c0 : v0[2]? = some .none)
    (h : wpAny (model prog w) A y (fun v s1 => ∃ x t dx, v = .ref x ∧ s1.heap.get? C = some (excClassObj nm q C N bs bm hdc sn sub ab col dd k0 k1 k2 k3 k5 newId) ∧
      s1.heap.get? x = some { cls := .ref C, dict := some dx, data := xFields t } ∧ s1.heap.get? x0 = some o0 ∧ x0 ≠ x ∧ Ex (.ref x) { s1 with heap := ctxd s1.heap x x0 }) Ex s) : wpAny (model prog w) A (raiseStmt env (some y) none) Q Ex s := by
  have hcB : (Value.ref C :: bm).contains (.type "BaseException") = true := by rw [List.contains_cons, hb, Bool.or_true]
  unfold raiseStmt
  refine wpAny_bind (wpAny_mono h (fun v s1 h1 => ?_) fun _ _ z => z)
  obtain ⟨x, t, dx, rfl, gC, gx, g0, ne, fin⟩ := h1
  obtain ⟨hp, g, d, tk, os⟩ := s1
  repeat (first | with_reducible refine wpAny_loadPart_at gx ?_ | with_reducible refine wpAny_loadPart_at gC ?_ | (with_reducible refine wpAny_isSubtype_exc gC ?_; rw [hcB]) | wp_step)
  exact Fly.raise_in hh ne g0 e0 c0 gx rfl (by show 2 < 6; decide) fin
/-- an exception that is made while x0 is handled reaches what this suite wants of it -/
def RaisesToH (X : Cx) (C x0 : Addr) (E : XK) : Prop := ∀ (pins : List (Addr × Obj)) (σ : St) (H : Hp) (s : Shared) (x t dx : Addr), Inv X pins σ H s → X.s_0.heap.get? x = none → H x = some (xDic C t dx x) → E (.ref C) (some dx) (del H x) → X.xe (.ref x) { s with heap := ctxd s.heap x x0 }
theorem ps_raiseH {X : Cx} {C N fI x0 : Addr} {o0 : Obj} {v0 : Array Value} {fd : FuncData} {ps : List Str} {sp : Sp} {k : Nat} {x : Str} {np cpos pos : Pos} {e : Expr} {es : List Expr} {ta : TA} {E : XK} (c : Exc X.K C N fI) (F : FnOkH X.prog X.w X.K X.mg X.base (fun _ _ _ _ _ _ => False) k fI fd ps sp) (hr : RoomH (k + 1) X.A)
    (hh : X.A.handled = some (.ref x0)) (hp0 : (x0, o0) ∈ X.pn) (e0 : o0.data = .fields v0) (c0 : v0[2]? = some .none)
    (hg : Gl X x) (hm : X.mg x = some (.ref C)) (hb : Binds X.K fd ps []) (hX : RaisesToH X C x0 E) (ha : PA X (e :: es) ta) (hex : X.ex = [] := by rfl) (hps : ps.length ≤ 100 := by decide) (hdb : (x == ("__debug__" : Str)) = false := by decide)
    (he : starEach (e :: es) X.env = (false, eval e X.env) :: starEach es X.env := by rfl) (hpl : (backTo cpos (starEach es X.env)).any (·.1) = false := by rfl) :
    PS X (.Raise (some (.Call (.Name x np) (e :: es) [] cpos)) none pos) (tRaise C sp E ta) := by
  intro pins s σ H D I h
  obtain ⟨nm, q, bs, sn, sub, ab, col, dd, k0, k1, k2, k3, k5, lc⟩ := c.cls
  have isB : mroE.contains (.type "BaseException") = true := PySem.F.excBase_Exception.hasBase
  rw [arm_exec_Raise]
  simp only [evalOpt, Option.map]
  refine wpAny_bind (wpAny_standAt (raise_madeH (C := C) (N := N) (nm := nm) (q := q) (bs := bs) (bm := mroE) (sn := sn) (sub := sub) (ab := ab) (col := col) (dd := dd) (k0 := k0) (k1 := k1) (k2 := k2) (k3 := k3) (k5 := k5) (newId := "Exception.__new__") (hdc := true) isB hh e0 c0 ?_))
  refine wpAny_bind (thn (Q := fun v s1 => ∃ x t dx, v = .ref x ∧ s1.heap.get? C = some (excClassObj nm q C N bs mroE true sn sub ab col dd k0 k1 k2 k3 k5 "Exception.__new__") ∧
      s1.heap.get? x = some { cls := .ref C, dict := some dx, data := xFields t } ∧ s1.heap.get? x0 = some o0 ∧ x0 ≠ x ∧ X.xe (.ref x) { s1 with heap := ctxd s1.heap x x0 }) ?_ fun v s1 q1 => wpAny_bind (wpAny_standAt (wpAny_pure q1)))
  refine wpAny_Call_Name_kw (ld_glob I hg hm ?_ hdb)
  refine PySem.W.callWith_K (h₀ := X.base) I.ok.mod.kin c.kp (thn (ha cpos pins s σ H _ I h) fun us s1 ⟨vs, H1, I1, r, q1⟩ => ⟨I1.kIn, ?_⟩) he hpl
  obtain ⟨oI, lI, cI⟩ := c.fn
  have KX := I1.kIn
  have isn := PySem.W.isNs_of_in KX c.ok
  have nN : s1.heap.Ns N (s1.heap.nsMap N) := .of_isNs isn
  have ini : s1.heap.nsMap N "__init__" = some (.ref fI) := ns_some_in KX nN c.init
  have fl := F.len
  obtain ⟨hp, g, d, tk, os⟩ := s1
  refine wpAny_call_exc_init PySem.F.excBase_Exception (KX _ _ lc) nN ini (KX _ _ lI) cI (fun h2 a mk => ?_) ?_
  · obtain ⟨t, gx, gt, gt2⟩ := mk.there
    have I2 := I1.laidAt (o := xNew C t a) (t' := tk) mk.keeps mk.new (xNew_ok gx)
    have an : H1 a = none := I1.hok.out mk.new
    have q2 := q1 a t an
    have r2 : Vals (V.ref a :: vs) (Value.ref a :: us) := .cons rfl r
    have hl : (Value.ref a :: us ++ []).length = ps.length := by
      rw [List.append_nil, ← r2.length]
      exact fl _ _ _ _ q2
    refine wpAny_call (codeAny_mono (F.run _ X.stack _ _ ⟨Value.ref a :: us, []⟩ (Value.ref a :: us ++ []) (V.ref a :: vs) _ (fun _ _ _ => False) (hr.make C us []) (I2.env0.make C us []) (hb _ (Value.ref a :: us) I2.kIn hl) (by rw [List.append_nil]; exact r2) q2) fun r s' hq => ?_)
    cases r with
    | error e => exact False.elim hq
    | ok flw =>
      cases flw with
      | ret u =>
        obtain ⟨v, H', I3, rv, ev, dx, ex, fin⟩ := I2.after hq
        subst ev
        have g0 : hp.get? x0 = some o0 := (I1.pin (x0, o0) (List.mem_append_left _ hp0)).1
        have ne : x0 ≠ a := fun z => by
          rw [z] at g0
          exact absurd (mk.new.symm.trans g0) (by intro z; cases z)
        refine ⟨rv, a, t, dx, rfl, I3.kIn _ _ lc, (I3.hok a _ ex).1, (I3.pin (x0, o0) (List.mem_append_left _ hp0)).1, ne, hX pins σ H' s' a t dx I3 ?_ ex fin⟩
        cases z : X.s_0.heap.get? a with
        | none => rfl
        | some o =>
          obtain ⟨o', g'⟩ := I1.base.there a o z (by rw [hex]; intro zz; cases zz)
          exact absurd (mk.new.symm.trans g') (by intro z; cases z)
      | next => exact False.elim hq
      | brk => exact False.elim hq
      | cont => exact False.elim hq
  · have q2 := q1 hp.objs.size 0 (I1.hok.fresh (Nat.le_refl _))
    have e1 := fl _ _ _ _ q2
    have e2 := r.length
    rw [List.length_cons] at e1
    show us.length ≤ _
    rw [sizeLine_eq]
    omega
end L2

/-! A TRY WHOSE HANDLER RAISES -/
namespace L2
open PySem PySem.Spec PyProof.Rows
section
variable {P : Program} {w : World} {K : PySem.W.Frag} {mg : Str → Option Value} {base : Heap} {N : List Str} {qual : Str} {scope : Scope} {f : Addr} {cd : Value} {A : Around} {outer : List Env} {s_0 : Shared} {H_0 : Hp} {C : Addr} {E : XK} {cn : Bool}
/-- an exception made here, behind this def's frame -/
theorem raised_as {X : Cx} {pins : List (Addr × Obj)} {σ : St} {H : Hp} {s : Shared} {x t dx : Addr} {h2 : Heap} {tk2 : Nat} (I : Inv X pins σ H s) (gx0 : X.s_0.heap.get? x = none) (ex : H x = some (xDic C t dx x)) (q : E (.ref C) (some dx) (del H x))
    (F2 : Fly.Fl (PySem.W.hideAll s.heap (x :: frs X.stack)) X.outer x (.ref C) dx cn .none h2) (up : ∀ b ∈ frs X.outer, ∀ o, s.heap.get? b = some o → ∃ sl, h2.get? b = some { o with slots := sl }) (hex : X.ex = []) (hfs : X.fs = frs X.outer) :
    CXG cn X.prog X.w C X.outer X.H_0 X.s_0 E (.ref x) { s with heap := h2, toks := tk2 } := by
  have bs := I.base
  have stf := I.stkFree
  have inB : ∀ b o, s.heap.get? b = some o → b ≠ x → b ∉ frs X.stack → (PySem.W.hideAll s.heap (x :: frs X.stack)).get? b = some o := fun b o g h1 h2 => PySem.W.hideAll_get _ g fun z => (List.mem_cons.mp z).elim h1 h2
  have nx : ∀ b o, X.s_0.heap.get? b = some o → b ≠ x := fun b o g z => by
    rw [z] at g
    exact absurd (gx0.symm.trans g) (by intro z; cases z)
  have dsm : ∀ b u, H b = some u → (∀ φ, u ≠ .ext φ) → del H x b = some u := fun b u g nu => by
    rw [del_ne]
    · exact g
    · intro z
      rw [z, ex] at g
      cases g
      exact nu _ rfl
  have noex : ∀ b : Addr, b ∉ X.ex := fun b z => by rw [hex] at z; cases z
  rw [hfs] at bs
  refine ⟨x, dx, del H x, _, rfl, F2, del_same, I.os, I.bare, fun b o g => ?_, ⟨fun b o g hb => ?_, fun b o g n hb => ?_, fun b o g n => ?_, (by have z := I.ok.frf; exact z), fun b xs g => dsm b _ (bs.tups b xs g) fun _ z => (by cases z), fun b o u g => dsm b _ (bs.frzs b o u g) fun _ z => (by cases z), fun b ps g => ?_⟩, q⟩
  · have nb : b ≠ x := fun z => by rw [z, del_same] at g; cases g
    rw [del_ne nb] at g
    refine (I.hok b o g).stay (fun c v hc gc => inB c v gc ?_ ?_) (fun c gc => dsm c _ gc fun _ z => (by cases z)) fun c xs gc => dsm c _ gc fun _ z => by cases z
    · rcases hc with rfl | hc
      · exact nb
      · intro z
        rw [z, ex] at hc
        cases hc
    · intro z
      rcases hc with rfl | hc
      · rw [stf _ z] at g; cases g
      · rw [stf _ z] at hc; cases hc
  · obtain ⟨o1, g1⟩ := bs.there b o g (noex b)
    refine ⟨o1, inB b o1 g1 (nx b o g) (stk_nl I g hb), fun n => ?_⟩
    have g3 := bs.keep b o g n hb (noex b)
    rw [g1] at g3
    cases g3
    rfl
  · obtain ⟨sl, g1⟩ := bs.slot b o g n hb (noex b)
    obtain ⟨sl2, g2⟩ := up b hb _ g1
    exact ⟨sl2, g2⟩
  · rw [del_ne (nx b o g)]
    exact bs.free b o g n (noex b)
  · obtain ⟨m1, g1⟩ := bs.tbls b ps g
    exact ⟨m1, dsm b _ g1 fun _ z => by cases z⟩
end
end L2

namespace Fly
open PySem
theorem frames_nfk {h h' base : Heap} (k : ∀ b o, h.get? b = some o → (∀ vs, o.data ≠ .fields vs) → ∃ o', h'.get? b = some o' ∧ ∀ vs, o'.data ≠ .fields vs) : ∀ {l : List Env}, h.FunFrames base l → h'.FunFrames base l
  | [], _ => trivial
  | env :: rest, ⟨h1, ⟨L, o, e1, e2, e3, e4⟩, h3⟩ => by
    obtain ⟨o', g, n⟩ := k L o e3 e4
    exact ⟨h1, ⟨L, o', e1, e2, g, n⟩, frames_nfk k h3⟩
end Fly
namespace L2
open PySem PySem.Spec PyProof.Rows
/-- the suite of a handler that raises C2 -/
abbrev Cx.hndR (X : Cx) (pins : List (Addr × Obj)) (x : Addr) (ox : Obj) (C2 : Addr) (E : XK) : Cx :=
  { X.hndCx pins x ox with xe := fun e s3 => ∃ (pins' : List (Addr × Obj)) (σ : St) (H : Hp) (s1 : Shared) (y t dy : Addr), e = .ref y ∧ s3 = { s1 with heap := ctxd s1.heap y x } ∧ Inv (X.hndCx pins x ox) pins' σ H s1 ∧ X.s_0.heap.get? y = none ∧ H y = some (xDic C2 t dy y) ∧ E (.ref C2) (some dy) (del H y) }
theorem hndR_raises {X : Cx} {pins : List (Addr × Obj)} {x : Addr} {ox : Obj} {C2 : Addr} {E : XK} : RaisesToH (X.hndR pins x ox C2 E) C2 x E := fun pins' σ H s y t dy I g e q => ⟨pins', σ, H, s, y, t, dy, rfl, rfl, I.wish _, g, e, q⟩
/-- what a handler's own exception goes through -/
theorem out_of_handler {X : Cx} {pins pins' : List (Addr × Obj)} {σ : St} {H : Hp} {s1 : Shared} {x y t dy C2 : Addr} {ox : Obj} {E : XK} {n : Str} {hpos : Pos} {W : Value → Shared → Prop} (hst : X.stack = X.env :: X.outer) (hfr : X.env.frame = some X.env.locals) (hex : X.ex = []) (hl : X.env.scope.names.lookup n = some .local)
    (J : Inv (X.hndCx pins x ox) pins' σ H s1) (g0 : X.s_0.heap.get? y = none) (ey : H y = some (xDic C2 t dy y)) (q : E (.ref C2) (some dy) (del H y))
    (hW : ∀ e s', wpAny (model X.prog X.w) X.A (leaving X.env e) (fun _ s'' => CXG false X.prog X.w C2 X.outer X.H_0 X.s_0 E e s'') (fun e' s'' => CXG false X.prog X.w C2 X.outer X.H_0 X.s_0 E e' s'') s' → W e s') {A2 : Around} (hA : A2.frames = X.A.frames) {E1 E2 : Value → Shared → Prop} :
    wpAny (model X.prog X.w) A2 (noteFrame (.ref y) X.env) (fun _ s3' => wpAny (model X.prog X.w) A2 (do bindName X.env n Value.none; unbindBehindTheSuite X.env n hpos)
      (fun _ s4 => wpAny (model X.prog X.w) A2 (PySem.passOn "try.except-as" (.ref y) X.env : Sem Flow) (fun _ _ => False) (notedBy (model X.prog X.w) A2 X.env fun z s' => cameBackBy (model X.prog X.w) X.A X.env W z s') s4) E1 s3') E2 { s1 with heap := ctxd s1.heap y x } := by
  have gy : s1.heap.get? y = some { cls := .ref C2, dict := some dy, data := xFields t } := (J.hok y _ ey).1
  generalize eB : PySem.W.hideAll s1.heap (y :: frs X.stack) = B
  have st : B.StaysIn s1.heap := fun b o g => by
    rw [← eB] at g
    exact PySem.W.of_hideAll _ g
  have ny : B.get? y = none := by rw [← eB]; exact PySem.W.hideAll_none _ List.mem_cons_self
  have nL : B.get? X.env.locals = none := by
    rw [← eB]
    refine PySem.W.hideAll_none _ (List.mem_cons_of_mem _ ?_)
    rw [hst]
    show X.env.locals ∈ frs (X.env :: X.outer)
    unfold frs
    rw [List.filterMap_cons, hfr]
    exact List.mem_cons_self
  have ff : s1.heap.FunFrames B (X.env :: X.outer) := by
    rw [← eB, ← hst]
    exact PySem.W.funFrames_hide J.stack fun en he a ha => List.mem_cons_of_mem _ (List.mem_filterMap.mpr ⟨en, he, ha⟩)
  have fr : A2.frames = some (X.env :: X.outer) := by
    rw [hA, ← hst]
    exact J.ok.frames
  have oU : ∀ b, b ≠ y → (ctxd s1.heap y x).get? b = s1.heap.get? b := fun b nb => Heap.get?_update_other _ _ (Ne.symm nb)
  have dU := Obj.data_mapFields (o := { cls := .ref C2, dict := some dy, data := xFields t }) rfl (·.setIfInBounds 2 (Value.ref x))
  have gU : (ctxd s1.heap y x).get? y = some (Obj.mapFields (·.setIfInBounds 2 (Value.ref x)) { cls := .ref C2, dict := some dy, data := xFields t }) := Heap.get?_update_self _ gy (Obj.isFreed_of_fields dU)
  have nyr : ∀ b o, s1.heap.get? b = some o → (∀ vs, o.data ≠ .fields vs) → b ≠ y := fun b o g nf z => by
    rw [z, gy] at g
    cases g
    exact nf _ rfl
  obtain ⟨m7, ⟨ol, es, ep, gl, dl, r1, r2⟩, _⟩ := J.loc
  have gl : s1.heap.get? X.env.locals = some ol := gl
  have nfl : ∀ vs, ol.data ≠ .fields vs := fun vs z => by rw [dl] at z; cases z
  refine Fly.note_first (s := { s1 with heap := ctxd s1.heap y x }) (B := B) (cls := .ref C2) (dx := dy) (cn := false) (outer := X.outer) fr (ff.of_keeps fun b o g nf => ⟨o, (oU b (nyr b o g nf)).trans g, rfl⟩) hfr gU (fun b o g => (oU b (fun z => by rw [z, ny] at g; cases g)).trans (st b o g)) ny dU rfl (fun z => nomatch z) rfl rfl fun h2 F2 up2 => ?_
  obtain ⟨sl, gl2⟩ := up2 _ _ ((oU _ (nyr _ _ gl nfl)).trans gl) nfl
  refine wpAny_nameGoes (s := { s1 with heap := h2 }) hl ⟨_, es, ep, gl2, dl, r1, r2⟩ (by rw [J.ok.kind]; rfl) fun h8 m8 n8 sb => ?_
  have F8 : Fly.Fl B (X.env :: X.outer) y (.ref C2) dy false (rawInt X.env.locals) h8 := by
    obtain ⟨a1, a2, a3, o1, v1, T, oT, ts, b1, b2, b3, b4, b5, b6, b7, b8, b9, b10, b11⟩ := F2
    have nyL : y ≠ X.env.locals := fun z => by
      rw [z] at b1
      have gl2 : h2.get? X.env.locals = _ := gl2
      rw [gl2] at b1
      cases b1
      have b4 : ol.data = _ := b4
      rw [dl] at b4
      cases b4
    have nTL : T ≠ X.env.locals := fun z => by
      rw [z] at b8
      have gl2 : h2.get? X.env.locals = _ := gl2
      rw [gl2] at b8
      cases b8
      have b9 : ol.data = _ := b9
      rw [dl] at b9
      cases b9
    refine ⟨fun b o g => (sb.2 b fun z => by rw [z, nL] at g; cases g).trans (a1 b o g), a2, Fly.frames_nfk (fun b o g nf => ?_) a3, o1, v1, T, oT, ts, (sb.2 y nyL).trans b1, b2, b3, b4, b5, b6, b7, (sb.2 T nTL).trans b8, b9, b10, b11⟩
    by_cases z : b = X.env.locals
    · obtain ⟨o8, es8, ep8, g8, d8, _⟩ := n8
      rw [z]
      exact ⟨o8, g8, fun vs zz => by rw [d8] at zz; cases zz⟩
    · exact ⟨o, (sb.2 b z).trans g, nf⟩
  refine Fly.pass_on (s := { s1 with heap := h8, toks := s1.toks + 1 }) hfr F8 fun h9 F9 u9 => ?_
  show wpAny _ _ (noteFrame (.ref y) X.env) _ _ _
  refine Fly.note_same (s := { s1 with heap := h9, toks := s1.toks + 1 }) hfr F9 ?_
  show wpAny _ _ _ _ _ _
  obtain ⟨a1, a2, a3, o1, v1, T, oT, ts, b1, b2, b3, b4, b5, b6, b7, b8, b9, b10, b11⟩ := id F9
  refine wpAny_bind (wpAny_field (s := { s1 with heap := h9, toks := s1.toks + 1 }) b1 b4 b5 ?_)
  rw [if_neg (show ¬ (Value.ref T == Value.none) = true by simp), hfr]
  refine Fly.flight_set (s := { s1 with heap := h9, toks := s1.toks + 1 }) (o := some X.env.locals) F9 fun h10 F10 u10 => hW _ _ ?_
  unfold leaving
  refine wpAny_bind (Fly.note_same (s := { s1 with heap := h10, toks := s1.toks + 1 }) hfr F10 ?_)
  refine Fly.flight_none (s := { s1 with heap := h10, toks := s1.toks + 1 }) F10 fun h11 F11 u11 => ?_
  have F12 : Fly.Fl (PySem.W.hideAll s1.heap (y :: frs X.stack)) X.outer y (.ref C2) dy false .none h11 := by
    rw [eB]
    exact ⟨F11.st, F11.out, F11.frs.2.2, F11.tr⟩
  have hm : ∀ b ∈ frs X.outer, b ∈ frs X.stack := fun b hb => by
    rw [hst]
    unfold frs
    rw [List.filterMap_cons, hfr]
    exact List.mem_cons_of_mem _ hb
  refine raised_as (X := X.hndCx pins x ox) (s := s1) (h2 := h11) (tk2 := s1.toks + 1) J g0 ey q F12 (fun b hb o g => ?_) hex rfl
  have nf := frames_nf ff b (by rw [← hst]; exact hm b hb) o g
  have nbL : b ≠ X.env.locals := fun z => by
    obtain ⟨_, o', g', _⟩ := J.ok.funs.mem hb
    have lt := Heap.lt_size g'
    have ab : X.s_0.heap.objs.size ≤ X.env.locals := J.ok.above
    rw [z] at lt
    exact absurd (Nat.lt_of_lt_of_le lt ab) (Nat.lt_irrefl _)
  obtain ⟨l2, e2⟩ := up2 b o ((oU b (nyr b o g nf)).trans g) nf
  have e8 : h8.get? b = _ := (sb.2 b nbL).trans e2
  obtain ⟨l9, e9⟩ := u9 b _ e8 nf
  obtain ⟨l10, e10⟩ := u10 b _ e9 nf
  obtain ⟨l11, e11⟩ := u11 b _ e10 nf
  exact ⟨l11, e11⟩
end L2

/-! THE SAME, THE NAMES OF THE FRAME KEPT: the body is one return -/
namespace L2
open PySem PySem.Spec PyProof.Rows
def PEa (X : Cx) (σ : St) (e : Expr) (t : TE) : Prop := ∀ (pins : List (Addr × Obj)) (s : Shared) (H : Hp) (Q : VK), Inv X pins σ H s → t σ H Q → wpAny (model X.prog X.w) X.A (eval e X.env) (EP X pins σ Q) X.xe s
def PassesAt (CX : CXT) (X : Cx) (E : XK) (σ : St) : Prop := ∀ (pins : List (Addr × Obj)) (H : Hp) (s : Shared) (e : Value) (s' : Shared), Inv X pins σ H s → CX X.stack H s E e s' → X.xe e s'
def PSsa (X : Cx) (σ : St) (st : List Stmt) (t : TS) : Prop := ∀ (pins : List (Addr × Obj)) (s : Shared) (H : Hp) (D : Ends), Inv X pins σ H s → t D σ H → wpAny (model X.prog X.w) X.A (execs st X.env) (SP X pins D) X.xe s
section
variable {X : Cx} {σ : St} {CX : CXT} {k : Nat} {f : Addr} {fd : FuncData} {ps : List Str} {sp : Sp} {dvs : List V} {ds : List Value} {E : XK} {x : Str} {p pos : Pos} {e : Expr} {es : List Expr} {t : TA}
theorem pa_callA (F : FnOk X.prog X.w X.K X.mg X.base CX k f fd ps sp) (hr : Room k X.A) (hg : Gl X x) (hm : X.mg x = some (.ref f)) (hk : PySem.W.keepIn X.K (.ref f) = true) (hb : Binds X.K fd ps ds) (hd : Vals dvs ds) (hx : PassesAt CX X E σ)
    (ha : PA X (e :: es) t) (hdb : (x == ("__debug__" : Str)) = false := by decide) (he : starEach (e :: es) X.env = (false, eval e X.env) :: starEach es X.env := by rfl) (hpl : (backTo pos (starEach es X.env)).any (·.1) = false := by rfl) :
    PEa X σ (.Call (.Name x p) (e :: es) [] pos) (tCall sp dvs E t) := by
  intro pins s H Q I h
  refine wpAny_Call_Name_kw (ld_glob I hg hm ?_ hdb)
  refine PySem.W.callWith_K (h₀ := X.base) I.ok.mod.kin hk (thn (ha pos pins s σ H _ I h) fun us s1 ⟨vs, H1, I1, r, q⟩ => ⟨I1.kIn, ?_⟩) he hpl
  have r2 : Vals (vs ++ dvs) (us ++ ds) := r.append hd
  have hl : (us ++ ds).length = ps.length := by rw [← r2.length]; exact F.len _ _ _ _ q
  refine wpAny_call (codeAny_mono (F.run X.A X.stack s1 H1 ⟨us, []⟩ (us ++ ds) (vs ++ dvs) Q E hr I1.env0 (hb s1 us I1.kIn hl) r2 q) fun r s' hq => ?_)
  cases r with
  | error e => exact hx pins H1 s1 e s' I1 hq
  | ok fl =>
    cases fl with
    | ret u => exact I1.after hq
    | next => exact False.elim hq
    | brk => exact False.elim hq
    | cont => exact False.elim hq
theorem pa_ifExp {c a b : Expr} {tA : TT} {ta tb : TE} (hc : PT X c tA) (ha : PEa X σ a ta) (hb : PEa X σ b tb) : PEa X σ (.IfExp c a b pos) (tIf tA ta tb) := by
  intro pins s H Q I h
  refine wpAny_IfExp (thn (hc pins s σ H _ I h) fun d s1 ⟨H1, I1, q1⟩ => ?_)
  cases d with
  | true => exact ha pins s1 H1 Q I1 q1
  | false => exact hb pins s1 H1 Q I1 q1
theorem pss_retA {te : TE} (he : PEa X σ e te) : PSsa X σ [.Return (some e) pos] (tRet te) := by
  intro pins s H D I h
  exact wpAny_execs_cons (wpAny_Return_some (thn (he pins s H _ I h) fun v s1 ⟨x, H1, I1, r1, q1⟩ => ⟨x, σ, H1, I1, r1, q1⟩))
end
abbrev Cx.tryCxS (X : Cx) (pins : List (Addr × Obj)) (C : Addr) (E : XK) (cn : Bool) (σ : St) : Cx :=
  { X with pn := X.pn ++ pins, xe := fun e s' => ∃ (pins' : List (Addr × Obj)) (H : Hp) (s1 : Shared), Inv { X with pn := X.pn ++ pins } pins' σ H s1 ∧ CXG cn X.prog X.w C X.stack H s1 E e s' }
theorem CXF.triesS {X : Cx} {pins : List (Addr × Obj)} {C : Addr} {E : XK} {cn : Bool} {σ : St} : PassesAt (CXG cn X.prog X.w C) (X.tryCxS pins C E cn σ) E σ := fun pins' H s e s' I h =>
  ⟨pins', H, s, ⟨I.ok.pnd _ _, I.os, I.bare, I.base, I.loc, I.cell, I.free, I.freeC, I.pin, I.hok, I.len⟩, h⟩
def tTryS (N : List Str) (i : Nat) (C : Addr) (E : XK) (tb : TS) (ts : Addr → Addr → TS) : TS := fun D σ H => tb D σ H ∧ ∀ (x dx : Addr) (H' : Hp), H' x = none → E (.ref C) (some dx) H' →
  ts x dx { nx := fun _ H2 => D.nx (nones N) H2, rt := D.rt, bk := fun _ H2 => D.bk (nones N) H2, ct := fun _ H2 => D.ct (nones N) H2 } (σ.set i (some (.ref x))) H'
theorem ps_tryRS {X : Cx} {C N fI C2 : Addr} {EF E : XK} {i : Nat} {xn n : Str} {body : List Stmt} {b0 : Stmt} {suite : List Stmt} {np hpos pos : Pos} {tb : TS} {ts : Addr → Addr → TS} (c : Exc X.K C N fI) (hg : Gl X xn) (hm : X.mg xn = some (.ref C)) (hN : X.N.Nodup) (hi : X.N[i]? = some n)
    (hl : X.env.scope.names.lookup n = some .local) (hst : X.stack = X.env :: X.outer) (hfr : X.env.frame = some X.env.locals) (hex : X.ex = [])
    (hW : ∀ e s', wpAny (model X.prog X.w) X.A (leaving X.env e) (fun _ s'' => CXG false X.prog X.w C2 X.outer X.H_0 X.s_0 E e s'') (fun e' s'' => CXG false X.prog X.w C2 X.outer X.H_0 X.s_0 E e' s'') s' → X.xe e s')
    (hb : ∀ pins σ, PSsa (X.tryCxS pins C EF true σ) σ body tb) (hs : ∀ pins x dx ox vs, ox.cls = .ref C → ox.dict = some dx → ox.data = .fields vs → vs[2]? = some .none → PSs (X.hndR pins x ox C2 E) (b0 :: suite) (ts x dx)) (hdb : (xn == ("__debug__" : Str)) = false := by decide) :
    PS X (.Try body [.ExceptHandler (some (.Name xn np)) (some n) (b0 :: suite) hpos] [] [] pos) (tTryS X.N i C EF tb ts) := by
  intro pins s σ H D I ⟨h1, h2⟩
  obtain ⟨nm, q, bs, sn, sub, ab, col, dd, k0, k1, k2, k3, k5, lc⟩ := c.cls
  have I0 : Inv (X.tryCxS pins C EF true σ) [] σ H s := ⟨I.ok.pnd _ _, I.os, I.bare, I.base, I.loc, I.cell, I.free, I.freeC, fun p hp => I.pin p (by rw [List.append_nil] at hp; exact hp), I.hok, I.len⟩
  have back : ∀ {xe pins' σ' H' s'}, Inv { X with pn := X.pn ++ pins, xe := xe } pins' σ' H' s' → Inv X pins σ' H' s' := fun {xe pins' σ' H' s'} J => ⟨I.ok, J.os, J.bare, J.base, J.loc, J.cell, J.free, J.freeC, fun p hp => J.pin p (List.mem_append_left _ hp), J.hok, J.len⟩
  refine wpAny_Try_except (wpAny_mono (hb pins σ [] s H D I0 h1) (fun fl s1 q1 => ?_) fun e s1 q1 => ?_)
  · cases fl with
    | next =>
      obtain ⟨σ', H', J, q2⟩ := q1
      exact wpAny_execs_nil ⟨σ', H', back J, q2⟩
    | brk => obtain ⟨σ', H', J, q2⟩ := q1; exact ⟨σ', H', back J, q2⟩
    | cont => obtain ⟨σ', H', J, q2⟩ := q1; exact ⟨σ', H', back J, q2⟩
    | ret u => obtain ⟨v, σ', H', J, r, q2⟩ := q1; exact ⟨v, σ', H', back J, r, q2⟩
  · obtain ⟨pins', H1, s2, J, x, dx, H', B, ee, F, hx, os, bare, hok, U, hE⟩ := q1
    subst ee
    have JX := back J
    have fr : X.A.frames = some (X.env :: X.outer) := I.ok.frames.trans (by rw [hst])
    rw [hst] at F
    refine Fly.note_next fr hfr F fun h3 F3 u3 => Fly.flight_none F3 fun h4 F4 u4 => ?_
    have after : ∀ h5, Fly.Fl B (X.env :: X.outer) x (.ref C) dx true .none h5 → s1.heap.UpToSlots h5 → Inv X pins σ H' { s1 with heap := h5 } ∧ ∃ ox vs, h5.get? x = some ox ∧ ox.cls = .ref C ∧ ox.dict = some dx ∧ ox.data = .fields vs ∧ vs[2]? = some .none ∧ (∀ xe, Inv { X.hndCx pins x ox with xe := xe } [] σ H' { s1 with heap := h5 }) := fun h5 F5 u5 => by
      have U5 := U.onto u5 (by rw [hst]; exact frames_nf F.frs)
      have J5 : Inv X pins σ H' { s1 with heap := h5 } := by
        exact JX.call' (s' := { s1 with heap := h5 }) (ch := []) os (U5.un F5.st) (hok.kept fun b u e => F5.st b u e) bare (fun b z => nomatch z)
      obtain ⟨ox, vs, T, oT, ts', gx, ec, ed, ef, _, _, _, _, _, _, c2⟩ := F5.tr
      refine ⟨J5, ox, vs, gx, ec, ed, ef, c2 rfl, fun xe => ⟨(I.ok.hnd pins x ox).wish xe, J5.os, J5.bare, J5.base, J5.loc, J5.cell, J5.free, J5.freeC, fun p hp => ?_, J5.hok, J5.len⟩⟩
      rw [List.append_nil] at hp
      rcases (List.mem_append.mp hp) with z | z
      · exact J5.pin p z
      · have zz : p = (x, ox) := by simpa using z
        subst zz
        refine ⟨gx, hx, fun z => ?_, fun z => ?_, fun v z => by rw [ef] at z; cases z⟩
        · obtain ⟨m, ⟨ol, es, ep, gl, dl, _⟩, _⟩ := J5.loc
          have z : x = X.env.locals := z
          have gx' : h5.get? x = some ox := gx
          rw [z] at gx'
          have gl' : h5.get? X.env.locals = some ol := gl
          rw [gl'] at gx'
          cases gx'
          rw [dl] at ef
          cases ef
        · exact frames_nf F5.frs x (by rw [show frs (X.env :: X.outer) = X.env.locals :: frs X.outer by unfold frs; rw [List.filterMap_cons, hfr]]; exact List.mem_cons_of_mem _ z) ox gx vs ef
    obtain ⟨J4, ox4, vs4, gx4, ec4, _, _, _, _⟩ := after h4 F4 (u3.trans u4)
    have J4n := J4.wish (fun _ _ => False)
    refine wpAny_handleBy_cons (codeAny_handlers_test ?_) (by intro z; cases z)
    refine Calls.Name_function_global I.ok.kind hg (Calls.loadGlobal_global (by rw [I.ok.glob]; exact J4.mod.glob.keeps J4.bk) hm ?_) hdb
    refine wpAny_excMatches_sub_self (C := C) (J4.kIn _ _ lc) gx4 ec4 PySem.F.excBase_Exception.hasBase (codeAny_handlers_suite_as ?_)
    refine Fly.flight_none F4 fun h5 F5 u5 => ?_
    obtain ⟨J5, ox, vs, gx, ec, ed, ef, c2, K5⟩ := after h5 F5 ((u3.trans u4).trans u5)
    refine store_ok (X := X.hndR pins x ox C2 E) (v := .ref x) (K5 _) hN hi (Or.inl hl) rfl (fun s6 J6 => ?_) (Or.inr hl)
    refine wpAny_mono (hs pins x dx ox vs ec ed ef c2 [] s6 _ H' _ J6 (h2 x dx H' hx hE)) (fun fl s7 q7 => ?_) fun e s7 q7 => ?_
    · have w7 : ∀ {σ7 H7}, Inv (X.hndR pins x ox C2 E) [] σ7 H7 s7 → Inv (X.hndCx pins x ox) [] σ7 H7 s7 := fun {σ7 H7} J => J.wish _
      have drop : ∀ {σ7 H7} {Q : Unit → Shared → Prop}, Inv (X.hndCx pins x ox) [] σ7 H7 s7 → (∀ s8, Inv X pins (nones X.N) H7 s8 → Q () s8) → wpAny (model X.prog X.w) X.A (do bindName X.env n .none; unbindBehindTheSuite X.env n hpos) Q X.xe s7 := fun {σ7 H7 Q} J7 kk => by
        obtain ⟨m7, n7, _⟩ := J7.loc
        refine wpAny_nameGoes hl n7 (by rw [I.ok.kind]; rfl) fun h8 m8 n8 sb => kk _ ?_
        have fl7 := J7.free
        obtain ⟨oL, _, _, gL, _⟩ := id n7
        refine ⟨I.ok, J7.os, J7.bare, ⟨fun b o e nn hb hx => ?_, fun b o e nn hb hx => ?_, J7.base.free, fun b o e hx => ?_, J7.base.tups, J7.base.frzs, J7.base.tbls⟩, ⟨m8, n8, fun j y v e1 e2 => ?_⟩, fun y cc e => ?_, J7.free, J7.freeC, fun p hp => ?_, fun b ob e => ?_, ?_⟩
        · exact (sb.2 b (Nat.ne_of_lt (Nat.lt_of_lt_of_le (Heap.lt_size e) I.ok.above))).trans (J7.base.keep b o e nn hb hx)
        · obtain ⟨sl, e1⟩ := J7.base.slot b o e nn hb hx
          exact ⟨sl, (sb.2 b (Nat.ne_of_lt (Nat.lt_of_lt_of_le (Heap.lt_size e) I.ok.above))).trans e1⟩
        · obtain ⟨o', e1⟩ := J7.base.there b o e hx
          exact ⟨o', (sb.2 b (Nat.ne_of_lt (Nat.lt_of_lt_of_le (Heap.lt_size e) I.ok.above))).trans e1⟩
        · unfold nones at e2
          rw [List.getElem?_replicate] at e2
          split at e2 <;> cases e2
        · obtain ⟨w', z⟩ := J7.cell y cc e
          exact ⟨w', z.sameBut sb (J7.cne y cc e)⟩
        · obtain ⟨e, nn, ne, nf, dd'⟩ := J7.pin p (by rw [List.append_nil]; exact List.mem_append_left _ hp)
          exact ⟨(sb.2 p.1 ne).trans e, nn, ne, nf, dd'⟩
        · refine (J7.hok b ob e).stay (fun cc w' hc qq => (sb.2 cc ?_).trans qq) (fun _ qq => qq) fun _ _ qq => qq
          rintro rfl
          rcases hc with rfl | hc
          · rw [fl7] at e; cases e
          · rw [fl7] at hc; cases hc
        · unfold nones
          rw [List.length_replicate]
      cases fl with
      | next => obtain ⟨σ7, H7, J7, q8⟩ := q7; exact drop (w7 J7) fun s8 J8 => ⟨_, H7, J8, q8⟩
      | brk => obtain ⟨σ7, H7, J7, q8⟩ := q7; exact drop (w7 J7) fun s8 J8 => ⟨_, H7, J8, q8⟩
      | cont => obtain ⟨σ7, H7, J7, q8⟩ := q7; exact drop (w7 J7) fun s8 J8 => ⟨_, H7, J8, q8⟩
      | ret u => obtain ⟨v, σ7, H7, J7, r, q8⟩ := q7; exact drop (w7 J7) fun s8 J8 => ⟨v, _, H7, J8, r, q8⟩
    · obtain ⟨pins7, σ7, H7, s8, y, t7, dy, ee, es, J7, g7, ey7, q8⟩ := q7
      subst ee es
      exact out_of_handler (A2 := X.A.mark (some (Value.ref x))) hst hfr hex hl J7 g7 ey7 q8 hW rfl
end L2

namespace Fr
open Fh

/-! ### the bytes handed in, by places -/
def byteAt (ns : List Int) (i : Nat) : Int := ns.getD i (-1)
def Bt (ns : List Int) (i : Nat) : Bytes := (FaNeutral.bytesOf ns).drop i
def AllB (ns : List Int) : Prop := ∀ x ∈ ns, 0 ≤ x ∧ x ≤ 255

theorem bt_len (ns : List Int) (i : Nat) : (Bt ns i).length = ns.length - i := by
  unfold Bt FaNeutral.bytesOf
  rw [List.length_drop, List.length_map]

theorem u8_of {z : Int} (h0 : 0 ≤ z) (h1 : z ≤ 255) : ((UInt8.ofNat z.toNat).toNat : Int) = z := by
  have e : (UInt8.ofNat z.toNat).toNat = z.toNat := by
    rw [UInt8.toNat_ofNat']
    exact Nat.mod_eq_of_lt (by omega)
  rw [e]
  omega

theorem at_or {ns : List Int} (hb : AllB ns) (i : Nat) :
    (ns.length ≤ i ∧ byteAt ns i = -1 ∧ Bt ns i = []) ∨
    (i < ns.length ∧ ∃ c : UInt8, byteAt ns i = (c.toNat : Int) ∧ Bt ns i = c :: Bt ns (i + 1)) := by
  by_cases hi : i < ns.length
  · right
    have hm := hb _ (List.getElem_mem hi)
    refine ⟨hi, UInt8.ofNat (ns[i]).toNat, ?_, ?_⟩
    · unfold byteAt
      rw [List.getD_eq_getElem?_getD, List.getElem?_eq_getElem hi, Option.getD_some, u8_of hm.1 hm.2]
    · unfold Bt FaNeutral.bytesOf
      rw [List.drop_eq_getElem_cons (by rw [List.length_map]; exact hi), List.getElem_map]
  · left
    have hi : ns.length ≤ i := Nat.le_of_not_lt hi
    refine ⟨hi, ?_, ?_⟩
    · unfold byteAt
      rw [List.getD_eq_getElem?_getD, List.getElem?_eq_none hi, Option.getD_none]
    · unfold Bt FaNeutral.bytesOf
      exact List.drop_eq_nil_of_le (by rw [List.length_map]; exact hi)

/-! ### one character -/
def spanOf (x : Nat) : Nat × Nat :=
  if x = 194 then (160, 191) else if x = 224 then (160, 191) else if x = 237 then (128, 159) else if x = 240 then (144, 191) else if x = 244 then (128, 143) else (128, 191)
def tailOf (x : Nat) : Nat := if x < 224 then 1 else if x < 240 then 2 else 3

theorem first_t : ∀ x, x < 256 → decide (lengthBy x = 0 ∨ mayBe (lengthBy x) 1 (headOf (lengthBy x) x) = false) = !(decide (32 ≤ x ∧ x ≤ 126) || decide (194 ≤ x ∧ x ≤ 244)) := by decide +kernel
theorem len_t : ∀ x, x < 256 → (194 ≤ x ∧ x ≤ 244) → lengthBy x = tailOf x + 1 := by decide +kernel
theorem second_t : ∀ i, i < 51 → ∀ y, y < 256 →
    decide (y / 64 = 2 ∧ mayBe (lengthBy (194 + i)) 2 (headOf (lengthBy (194 + i)) (194 + i) * 64 + y % 64) = true) = (decide ((spanOf (194 + i)).1 ≤ y) && decide (y ≤ (spanOf (194 + i)).2)) := by decide +kernel
def twoOk (x y : Nat) : Bool :=
  !(decide ((spanOf x).1 ≤ y ∧ y ≤ (spanOf x).2)) ||
    ((!decide (tailOf x = 2) || decide (32 ≤ headOf (lengthBy x) x * 64 + y % 64 ∧ headOf (lengthBy x) x * 64 + y % 64 ≤ 1023 ∧ ¬ (864 ≤ headOf (lengthBy x) x * 64 + y % 64 ∧ headOf (lengthBy x) x * 64 + y % 64 ≤ 895))) &&
     (!decide (tailOf x = 3) || decide (16 ≤ headOf (lengthBy x) x * 64 + y % 64 ∧ headOf (lengthBy x) x * 64 + y % 64 ≤ 271)))
theorem two_b : ∀ i, i < 51 → ∀ y, y < 256 → twoOk (194 + i) y = true := by decide +kernel
/-- the bounds of what two bytes tell, where three or four are due -/
theorem two_t {x y : Nat} (hx : 194 ≤ x ∧ x ≤ 244) (hy : y < 256) (h : (spanOf x).1 ≤ y ∧ y ≤ (spanOf x).2) :
    (tailOf x = 2 → 32 ≤ headOf (lengthBy x) x * 64 + y % 64 ∧ headOf (lengthBy x) x * 64 + y % 64 ≤ 1023 ∧ ¬ (864 ≤ headOf (lengthBy x) x * 64 + y % 64 ∧ headOf (lengthBy x) x * 64 + y % 64 ≤ 895)) ∧
    (tailOf x = 3 → 16 ≤ headOf (lengthBy x) x * 64 + y % 64 ∧ headOf (lengthBy x) x * 64 + y % 64 ≤ 271) := by
  obtain ⟨i, rfl⟩ : ∃ i, x = 194 + i := ⟨x - 194, by omega⟩
  have q := two_b i (by omega) y hy
  unfold twoOk at q
  rw [decide_eq_true h] at q
  simp only [Bool.not_true, Bool.false_or, Bool.and_eq_true, Bool.or_eq_true, Bool.not_eq_true', decide_eq_false_iff_not, decide_eq_true_eq] at q
  exact ⟨fun t => q.1.resolve_left fun z => z t, fun t => q.2.resolve_left fun z => z t⟩

theorem ch_ascii {c : UInt8} {r : Bytes} (h : 32 ≤ c.toNat ∧ c.toNat ≤ 126) : charHere (c :: r) = .ok (c.toNat, 1) := by
  have h1 := first_t c.toNat c.toNat_lt
  have e1 : lengthBy c.toNat = 1 := by unfold lengthBy; rw [if_pos (by omega)]
  rw [charHere]
  have hf : ¬ (lengthBy c.toNat = 0 ∨ mayBe (lengthBy c.toNat) 1 (headOf (lengthBy c.toNat) c.toNat) = false) := by
    intro q
    rw [decide_eq_true q, decide_eq_true h] at h1
    simp at h1
  rw [if_neg hf, e1]
  simp [goOn, headOf]
theorem ch_bad1 {c : UInt8} {r : Bytes} (h : ¬ (32 ≤ c.toNat ∧ c.toNat ≤ 126)) (h' : ¬ (194 ≤ c.toNat ∧ c.toNat ≤ 244)) : charHere (c :: r) = .error 0 := by
  have h1 := first_t c.toNat c.toNat_lt
  rw [charHere, if_pos]
  rw [decide_eq_false h, decide_eq_false h'] at h1
  simpa using h1
theorem ch_more {c : UInt8} {r : Bytes} (h : 194 ≤ c.toNat ∧ c.toNat ≤ 244) :
    charHere (c :: r) = match goOn 4 (tailOf c.toNat + 1) 1 (headOf (lengthBy c.toNat) c.toNat) r with
      | .ok v => .ok (v, tailOf c.toNat + 1)
      | .error k => .error k := by
  have h1 := first_t c.toNat c.toNat_lt
  rw [charHere]
  have hf : ¬ (lengthBy c.toNat = 0 ∨ mayBe (lengthBy c.toNat) 1 (headOf (lengthBy c.toNat) c.toNat) = false) := by
    intro q
    rw [decide_eq_true q, decide_eq_true h] at h1
    simp at h1
  rw [if_neg hf, len_t _ c.toNat_lt h]
  rfl

theorem go_step {f n k v : Nat} {c : UInt8} {r : Bytes} (hk : k ≠ n) :
    goOn (f + 1) n k v (c :: r) = if c.toNat / 64 = 2 ∧ mayBe n (k + 1) (v * 64 + c.toNat % 64) = true then goOn f n (k + 1) (v * 64 + c.toNat % 64) r else .error k := by
  simp only [goOn, if_neg hk]
theorem go_nil {f n k v : Nat} (hk : k ≠ n) : goOn (f + 1) n k v [] = .error k := by
  simp only [goOn, if_neg hk]
theorem go_end {f n v : Nat} {r : Bytes} : goOn (f + 1) n n v r = .ok v := by
  simp only [goOn, if_true]

theorem tail_pos (x : Nat) : 1 ≤ tailOf x ∧ tailOf x ≤ 3 := by unfold tailOf; split <;> (try split) <;> omega

/-- two bytes of the right kind -/
def c2 (x y : Nat) : Nat := headOf (lengthBy x) x * 64 + y % 64

theorem go_second {x : Nat} (hx : 194 ≤ x ∧ x ≤ 244) {d : UInt8} {r : Bytes} :
    goOn 4 (tailOf x + 1) 1 (headOf (lengthBy x) x) (d :: r) = if (spanOf x).1 ≤ d.toNat ∧ d.toNat ≤ (spanOf x).2 then goOn 3 (tailOf x + 1) 2 (c2 x d.toNat) r else .error 1 := by
  obtain ⟨i, rfl⟩ : ∃ i, x = 194 + i := ⟨x - 194, by omega⟩
  have hs := second_t i (by omega) d.toNat d.toNat_lt
  have hl := len_t (194 + i) (by omega) hx
  rw [go_step (by have := tail_pos (194 + i); omega)]
  rw [← hl]
  by_cases q : (spanOf (194 + i)).1 ≤ d.toNat ∧ d.toNat ≤ (spanOf (194 + i)).2
  · rw [if_pos q, if_pos]
    · rfl
    · rw [decide_eq_true q.1, decide_eq_true q.2] at hs
      simpa using hs
  · rw [if_neg q, if_neg]
    intro z
    rw [decide_eq_true z] at hs
    apply q
    simpa using hs.symm

theorem c2_three {x y : Nat} (hx : 194 ≤ x ∧ x ≤ 244) (hy : y < 256) (h : (spanOf x).1 ≤ y ∧ y ≤ (spanOf x).2) (ht : tailOf x = 2) : 32 ≤ c2 x y ∧ c2 x y ≤ 1023 ∧ ¬ (864 ≤ c2 x y ∧ c2 x y ≤ 895) := by
  exact (two_t hx hy h).1 ht
theorem c2_four {x y : Nat} (hx : 194 ≤ x ∧ x ≤ 244) (hy : y < 256) (h : (spanOf x).1 ≤ y ∧ y ≤ (spanOf x).2) (ht : tailOf x = 3) : 16 ≤ c2 x y ∧ c2 x y ≤ 271 := by
  exact (two_t hx hy h).2 ht

/-- the top of the span of a byte that goes on -/
def highOf (v : Nat) : Nat := if v % 1024 = 1023 then 189 else 191

theorem tail64 {y : Nat} (hy : y < 256) : y / 64 = 2 ↔ 128 ≤ y ∧ y ≤ 191 := by omega

theorem highOf_le (v : Nat) : highOf v ≤ 191 := by unfold highOf; split <;> omega
theorem nc_big {w : Nat} (h1 : 160 ≤ w) (h2 : ¬ (55296 ≤ w ∧ w ≤ 57343)) : nextChar w = if 65534 ≤ w % 65536 then (w / 65536 + 1) * 65536 else w := by
  unfold nextChar
  rw [if_neg (by omega), if_neg (by omega), if_neg h2]
theorem mb_iff (n k v : Nat) : mayBe n k v = true ↔ nextChar (max (v * 64 ^ (n - k)) (leastOf n)) ≤ min (v * 64 ^ (n - k) + (64 ^ (n - k) - 1)) (mostOf n) := decide_eq_true_iff
/-- a last byte: what it may be -/
theorem last_ok {n w lo hi : Nat} (hn : leastOf n = lo) (hm : mostOf n = hi) (h1 : 160 ≤ w) (h2 : ¬ (55296 ≤ w ∧ w ≤ 57343)) (h3 : lo ≤ w) (h4 : w ≤ hi) (h5 : hi % 65536 = 65535) : mayBe n n w = true ↔ ¬ 65534 ≤ w % 65536 := by
  rw [mb_iff, hn, hm, Nat.sub_self, Nat.pow_zero, Nat.mul_one, Nat.sub_self, Nat.add_zero, Nat.max_eq_left h3, Nat.min_eq_left h4, nc_big h1 h2]
  split
  · constructor
    · intro z
      omega
    · intro z
      exact absurd ‹_› z
  · exact ⟨fun _ => ‹_›, fun _ => Nat.le_refl _⟩
theorem high_iff {v y : Nat} (h1 : 128 ≤ y) (h2 : y ≤ 191) : ¬ 65534 ≤ (v * 64 + y % 64) % 65536 ↔ y ≤ highOf v := by
  unfold highOf
  split <;> omega
theorem last_both {n v y : Nat} (hy : y < 256) (h : 128 ≤ y → y ≤ 191 → (mayBe n n (v * 64 + y % 64) = true ↔ ¬ 65534 ≤ (v * 64 + y % 64) % 65536)) :
    (y / 64 = 2 ∧ mayBe n n (v * 64 + y % 64) = true) ↔ (128 ≤ y ∧ y ≤ highOf v) := by
  have hh := highOf_le v
  rw [tail64 hy]
  constructor
  · rintro ⟨⟨a, b⟩, c⟩
    exact ⟨a, (high_iff a b).mp ((h a b).mp c)⟩
  · rintro ⟨a, b⟩
    have b2 : y ≤ 191 := Nat.le_trans b hh
    exact ⟨⟨a, b2⟩, (h a b2).mpr ((high_iff a b2).mpr b)⟩
theorem last3 {v y : Nat} (hv : 32 ≤ v ∧ v ≤ 1023 ∧ ¬ (864 ≤ v ∧ v ≤ 895)) (hy : y < 256) :
    (y / 64 = 2 ∧ mayBe 3 3 (v * 64 + y % 64) = true) ↔ (128 ≤ y ∧ y ≤ highOf v) :=
  last_both hy fun _ _ => last_ok (lo := 2048) (hi := 65535) rfl rfl (by omega) (by omega) (by omega) (by omega) (by decide)
theorem mid4 {v y : Nat} (hv : 16 ≤ v ∧ v ≤ 271) (hy : y < 256) :
    (y / 64 = 2 ∧ mayBe 4 3 (v * 64 + y % 64) = true) ↔ (128 ≤ y ∧ y ≤ highOf v) := by
  have e1 : highOf v = 191 := by unfold highOf; rw [if_neg (by omega)]
  have e2 : mayBe 4 3 (v * 64 + y % 64) = true := by
    rw [mb_iff]
    show nextChar (max ((v * 64 + y % 64) * 64) 65536) ≤ min ((v * 64 + y % 64) * 64 + 63) 1114111
    rw [Nat.max_eq_left (by omega), nc_big (by omega) (by omega), if_neg (by omega)]
    omega
  rw [e1, tail64 hy]
  exact ⟨fun z => z.1, fun z => ⟨z, e2⟩⟩
theorem last4 {v y : Nat} (hv : 1024 ≤ v ∧ v ≤ 17407) (hy : y < 256) :
    (y / 64 = 2 ∧ mayBe 4 4 (v * 64 + y % 64) = true) ↔ (128 ≤ y ∧ y ≤ highOf v) :=
  last_both hy fun _ _ => last_ok (lo := 65536) (hi := 1114111) rfl rfl (by omega) (by omega) (by omega) (by omega) (by decide)

/-! ### the number of a tag -/
theorem dg_nil {n v : Nat} : digitsHere n v [] = .error 0 := by rw [digitsHere]
theorem dg_first {v : Nat} {c : UInt8} {r : Bytes} : digitsHere 0 v (c :: r) = if 49 ≤ c.toNat ∧ c.toNat ≤ 57 then (match digitsHere 1 (c.toNat - 48) r with
        | .ok x => .ok x
        | .error k => .error (k + 1)) else .error 0 := by
  rw [digitsHere, if_pos rfl]
  rfl
theorem dg_next {n v : Nat} {c : UInt8} {r : Bytes} (hn : n ≠ 0) : digitsHere n v (c :: r) = if c = 125 then .ok (v, n) else if n < 3 ∧ isDigit c = true then (match digitsHere (n + 1) (10 * v + (c.toNat - 48)) r with
        | .ok x => .ok x
        | .error k => .error (k + 1)) else .error 0 := by
  rw [digitsHere, if_neg hn]
  rfl
theorem isDigit_iff (c : UInt8) : isDigit c = true ↔ 48 ≤ c.toNat ∧ c.toNat ≤ 57 := by
  unfold isDigit
  rw [Bool.and_eq_true, decide_eq_true_iff, decide_eq_true_iff, UInt8.le_iff_toNat_le, UInt8.le_iff_toNat_le]
  rfl
theorem u8_eq (c : UInt8) (k : Nat) (hk : k < 256) : c = UInt8.ofNat k ↔ c.toNat = k := by
  constructor
  · rintro rfl
    rw [UInt8.toNat_ofNat']
    exact Nat.mod_eq_of_lt hk
  · intro e
    apply UInt8.toNat_inj.mp
    rw [e, UInt8.toNat_ofNat']
    exact (Nat.mod_eq_of_lt hk).symm

/-! ### a character, as it is taken -/
theorem b_nil {ns : List Int} (hb : AllB ns) {i : Nat} (h : byteAt ns i < 0) : Bt ns i = [] := by
  rcases at_or hb i with ⟨_, _, e⟩ | ⟨_, c, e, _⟩
  · exact e
  · omega
theorem b_cons {ns : List Int} (hb : AllB ns) {i : Nat} (h : 0 ≤ byteAt ns i) : i < ns.length ∧ ∃ c : UInt8, byteAt ns i = (c.toNat : Int) ∧ Bt ns i = c :: Bt ns (i + 1) := by
  rcases at_or hb i with ⟨_, e, _⟩ | q
  · omega
  · exact q
theorem b_lo {ns : List Int} (hb : AllB ns) (i : Nat) : -1 ≤ byteAt ns i ∧ byteAt ns i ≤ 255 := by
  rcases at_or hb i with ⟨_, e, _⟩ | ⟨_, c, e, _⟩
  · omega
  · have := c.toNat_lt; omega
theorem ca_ok {ns : List Int} (hb : AllB ns) {i : Nat} (h : 32 ≤ byteAt ns i ∧ byteAt ns i ≤ 126) : charHere (Bt ns i) = .ok ((byteAt ns i).toNat, 1) := by
  obtain ⟨_, c, e, e2⟩ := b_cons hb (i := i) (by omega)
  rw [e2, ch_ascii (by omega), e]
  rfl
theorem ca_bad {ns : List Int} (hb : AllB ns) {i : Nat} (h : ¬ (32 ≤ byteAt ns i ∧ byteAt ns i ≤ 126)) (h' : ¬ (194 ≤ byteAt ns i ∧ byteAt ns i ≤ 244)) : charHere (Bt ns i) = .error 0 := by
  by_cases q : byteAt ns i < 0
  · rw [b_nil hb q]
    rfl
  · obtain ⟨_, c, e, e2⟩ := b_cons hb (i := i) (by omega)
    rw [e2, ch_bad1 (by omega) (by omega)]
def fin (n : Nat) : Except Nat Nat → Except Nat (Nat × Nat)
  | .ok v => .ok (v, n)
  | .error k => .error k
theorem ca_more {ns : List Int} (hb : AllB ns) {i x : Nat} (h : byteAt ns i = (x : Int)) (hx : 194 ≤ x ∧ x ≤ 244) :
    charHere (Bt ns i) = fin (tailOf x + 1) (goOn 4 (tailOf x + 1) 1 (headOf (lengthBy x) x) (Bt ns (i + 1))) := by
  obtain ⟨_, c, e, e2⟩ := b_cons hb (i := i) (by omega)
  have ec : c.toNat = x := by omega
  subst ec
  rw [e2, ch_more hx]
  cases goOn 4 (tailOf c.toNat + 1) 1 (headOf (lengthBy c.toNat) c.toNat) (Bt ns (i + 1)) <;> rfl
theorem ca_bad2 {ns : List Int} (hb : AllB ns) {i x : Nat} (h : byteAt ns i = (x : Int)) (hx : 194 ≤ x ∧ x ≤ 244) (hy : ¬ (((spanOf x).1 : Int) ≤ byteAt ns (i + 1) ∧ byteAt ns (i + 1) ≤ ((spanOf x).2 : Int))) :
    charHere (Bt ns i) = .error 1 := by
  rw [ca_more hb h hx]
  by_cases q : byteAt ns (i + 1) < 0
  · rw [b_nil hb q, go_nil (by have := tail_pos x; omega)]
    rfl
  · obtain ⟨_, d, e, e2⟩ := b_cons hb (i := i + 1) (by omega)
    rw [e2, go_second hx, if_neg (by omega)]
    rfl
/-- behind two bytes and j more -/
structure ChI (ns : List Int) (i x j v : Nat) : Prop where
  eq : charHere (Bt ns i) = fin (tailOf x + 1) (goOn (3 - j) (tailOf x + 1) (2 + j) v (Bt ns (i + 2 + j)))
  le : j < tailOf x
  b2 : j = 0 → tailOf x = 2 → 32 ≤ v ∧ v ≤ 1023 ∧ ¬ (864 ≤ v ∧ v ≤ 895)
  b3 : j = 0 → tailOf x = 3 → 16 ≤ v ∧ v ≤ 271
  b4 : j = 1 → tailOf x = 3 → 1024 ≤ v ∧ v ≤ 17407
  small : v < 1114112
theorem ca_two {ns : List Int} (hb : AllB ns) {i x : Nat} (h : byteAt ns i = (x : Int)) (hx : 194 ≤ x ∧ x ≤ 244) (hy : ((spanOf x).1 : Int) ≤ byteAt ns (i + 1) ∧ byteAt ns (i + 1) ≤ ((spanOf x).2 : Int)) :
    ∃ y : Nat, byteAt ns (i + 1) = (y : Int) ∧ y < 256 ∧ ChI ns i x 0 (c2 x y) := by
  obtain ⟨_, d, e, e2⟩ := b_cons hb (i := i + 1) (by omega)
  have hd := d.toNat_lt
  refine ⟨d.toNat, e, hd, ?_, ?_, fun _ t => c2_three hx hd (by omega) t, fun _ t => c2_four hx hd (by omega) t, fun q => (nomatch q), ?_⟩
  · rw [ca_more hb h hx, e2, go_second hx, if_pos (by omega)]
  · exact (tail_pos x).1
  · unfold c2 headOf
    split
    · omega
    · split
      · omega
      · split <;> omega
theorem ChI.step {ns : List Int} (hb : AllB ns) {i x j v : Nat} (C : ChI ns i x j v) (hj : j + 1 < tailOf x) :
    (¬ (128 ≤ byteAt ns (i + 2 + j) ∧ byteAt ns (i + 2 + j) ≤ (highOf v : Int)) → charHere (Bt ns i) = .error (2 + j)) ∧
    (128 ≤ byteAt ns (i + 2 + j) ∧ byteAt ns (i + 2 + j) ≤ (highOf v : Int) → ∃ z : Nat, byteAt ns (i + 2 + j) = (z : Int) ∧ ChI ns i x (j + 1) (v * 64 + z % 64)) := by
  have ht := tail_pos x
  have key : ∀ d : UInt8, (d.toNat / 64 = 2 ∧ mayBe (tailOf x + 1) (2 + j + 1) (v * 64 + d.toNat % 64) = true) ↔ (128 ≤ d.toNat ∧ d.toNat ≤ highOf v) := fun d => by
    have hd := d.toNat_lt
    rcases (show (j = 0 ∧ tailOf x = 2) ∨ (j = 0 ∧ tailOf x = 3) ∨ (j = 1 ∧ tailOf x = 3) by omega) with ⟨a, b⟩ | ⟨a, b⟩ | ⟨a, b⟩
    · subst a; rw [b]; exact last3 (C.b2 rfl b) hd
    · subst a; rw [b]; exact mid4 (C.b3 rfl b) hd
    · subst a; rw [b]; exact last4 (C.b4 rfl b) hd
  obtain ⟨f, hf⟩ : ∃ f, 3 - j = f + 1 := ⟨2 - j, by omega⟩
  constructor
  · intro q
    rw [C.eq, hf]
    by_cases q2 : byteAt ns (i + 2 + j) < 0
    · rw [b_nil hb q2, go_nil (by omega)]
      rfl
    · obtain ⟨_, d, e, e2⟩ := b_cons hb (i := i + 2 + j) (by omega)
      rw [e2, go_step (by omega), if_neg]
      · rfl
      · rw [key d]
        omega
  · intro q
    obtain ⟨_, d, e, e2⟩ := b_cons hb (i := i + 2 + j) (by omega)
    have hd := d.toNat_lt
    have hh := highOf_le v
    refine ⟨d.toNat, e, ?_, hj, fun z => absurd z (by omega), fun z => absurd z (by omega), fun z t => ?_, ?_⟩
    · rw [C.eq, hf, e2, go_step (by omega), if_pos ((key d).mpr (by omega))]
      have ef : f = 3 - (j + 1) := by omega
      rw [ef]
      rfl
    · have := C.b3 (by omega) t
      omega
    · rcases (show (j = 0 ∧ tailOf x = 2) ∨ (j = 0 ∧ tailOf x = 3) ∨ (j = 1 ∧ tailOf x = 3) by omega) with ⟨a, b⟩ | ⟨a, b⟩ | ⟨a, b⟩
      · have := C.b2 a b; omega
      · have := C.b3 a b; omega
      · have := C.b4 a b; omega
theorem ChI.done {ns : List Int} {i x j v : Nat} (C : ChI ns i x j v) (hj : j + 1 = tailOf x) : charHere (Bt ns i) = .ok (v, j + 2) := by
  have ht := tail_pos x
  obtain ⟨f, hf⟩ : ∃ f, 3 - j = f + 1 := ⟨2 - j, by omega⟩
  have e : 2 + j = tailOf x + 1 := by omega
  rw [C.eq, hf, e, go_end, ← e]
  show Except.ok (v, 2 + j) = _
  rw [Nat.add_comm 2 j]

/-! ### a tag's number, as it is taken -/
def liftE (n : Nat) : Except Nat (Nat × Nat) → Except Nat (Nat × Nat)
  | .ok x => .ok x
  | .error k => .error (k + n)
theorem liftE_zero (r : Except Nat (Nat × Nat)) : liftE 0 r = r := by cases r <;> rfl
theorem liftE_succ (n : Nat) (r : Except Nat (Nat × Nat)) : liftE n (match r with | .ok x => .ok x | .error k => .error (k + 1)) = liftE (n + 1) r := by
  cases r with
  | ok x => rfl
  | error k => show Except.error (k + 1 + n) = Except.error (k + (n + 1)); rw [Nat.add_assoc, Nat.add_comm 1 n]
structure DgI (ns : List Int) (i n v : Nat) : Prop where
  eq : digitsHere 0 0 (Bt ns i) = liftE n (digitsHere n v (Bt ns (i + n)))
  n1 : 1 ≤ n
  b : (n = 1 ∧ 1 ≤ v ∧ v ≤ 9) ∨ (n = 2 ∧ 10 ≤ v ∧ v ≤ 99) ∨ (n = 3 ∧ 100 ≤ v ∧ v ≤ 999)
theorem dg_start {ns : List Int} (hb : AllB ns) {i : Nat} : (¬ (49 ≤ byteAt ns i ∧ byteAt ns i ≤ 57) → digitsHere 0 0 (Bt ns i) = .error 0) ∧
    (49 ≤ byteAt ns i ∧ byteAt ns i ≤ 57 → ∃ v : Nat, byteAt ns i - 48 = (v : Int) ∧ DgI ns i 1 v) := by
  constructor
  · intro q
    by_cases q2 : byteAt ns i < 0
    · rw [b_nil hb q2, dg_nil]
    · obtain ⟨_, d, e, e2⟩ := b_cons hb (i := i) (by omega)
      rw [e2, dg_first, if_neg (by omega)]
  · intro q
    obtain ⟨_, d, e, e2⟩ := b_cons hb (i := i) (by omega)
    refine ⟨d.toNat - 48, by omega, ?_, Nat.le_refl _, .inl ⟨rfl, by omega, by omega⟩⟩
    rw [e2, dg_first, if_pos (by omega)]
    exact (liftE_zero _).symm.trans (liftE_succ 0 _)
theorem DgI.step {ns : List Int} (hb : AllB ns) {i n v : Nat} (D : DgI ns i n v) (hv : v < 100) (hd : 48 ≤ byteAt ns (i + n) ∧ byteAt ns (i + n) ≤ 57) :
    ∃ w : Nat, (v : Int) * 10 + byteAt ns (i + n) - 48 = (w : Int) ∧ DgI ns i (n + 1) w := by
  obtain ⟨_, d, e, e2⟩ := b_cons hb (i := i + n) (by omega)
  have hn := D.b
  have hn1 := D.n1
  refine ⟨10 * v + (d.toNat - 48), by omega, ?_, by omega, by omega⟩
  rw [D.eq, e2, dg_next (by omega), if_neg, if_pos]
  · rw [liftE_succ]
    rfl
  · exact ⟨by omega, (isDigit_iff d).mpr (by omega)⟩
  · intro z
    have := (u8_eq d 125 (by decide)).mp z
    omega
theorem DgI.done {ns : List Int} (hb : AllB ns) {i n v : Nat} (D : DgI ns i n v) (hd : ¬ ((v : Int) < 100 ∧ 48 ≤ byteAt ns (i + n) ∧ byteAt ns (i + n) ≤ 57)) :
    (byteAt ns (i + n) = 125 → digitsHere 0 0 (Bt ns i) = .ok (v, n)) ∧ (byteAt ns (i + n) ≠ 125 → digitsHere 0 0 (Bt ns i) = .error n) := by
  have hn := D.b
  have hn1 := D.n1
  constructor
  · intro q
    obtain ⟨_, d, e, e2⟩ := b_cons hb (i := i + n) (by omega)
    rw [D.eq, e2, dg_next (by omega), if_pos]
    · rfl
    · exact (u8_eq d 125 (by decide)).mpr (by omega)
  · intro q
    rw [D.eq]
    by_cases q2 : byteAt ns (i + n) < 0
    · rw [b_nil hb q2, dg_nil]
      show Except.error (0 + n) = _
      rw [Nat.zero_add]
    · obtain ⟨_, d, e, e2⟩ := b_cons hb (i := i + n) (by omega)
      rw [e2, dg_next (by omega), if_neg, if_neg]
      · show Except.error (0 + n) = _
        rw [Nat.zero_add]
      · rw [isDigit_iff]
        omega
      · intro z
        have := (u8_eq d 125 (by decide)).mp z
        omega

/-! ### a piece -/
def encK : Piece → Int
  | .char _ => 0
  | .open_ _ => 43
  | .close _ => 45
  | .alone _ => 46
def encN : Piece → Int
  | .char c => (c : Nat)
  | .open_ n => (n : Nat)
  | .close n => (n : Nat)
  | .alone n => (n : Nat)
def asChar : Except Nat (Nat × Nat) → Except Nat (Piece × Nat)
  | .ok x => .ok (.char x.1, x.2)
  | .error k => .error k
theorem pc_char {ns : List Int} (hb : AllB ns) {i : Nat} (h : byteAt ns i ≠ 123) : pieceHere (Bt ns i) = asChar (charHere (Bt ns i)) := by
  by_cases q : byteAt ns i < 0
  · rw [b_nil hb q]
    rfl
  · obtain ⟨_, c, e, e2⟩ := b_cons hb (i := i) (by omega)
    have hc : ¬ c = 123 := fun z => by
      have := (u8_eq c 123 (by decide)).mp z
      omega
    rw [e2]
    simp only [pieceHere, if_neg hc]
    cases charHere (c :: Bt ns (i + 1)) <;> rfl
theorem pc_at {ns : List Int} (hb : AllB ns) {i : Nat} (h : byteAt ns i = 123) : i < ns.length ∧ Bt ns i = 123 :: Bt ns (i + 1) := by
  obtain ⟨hi, c, e, e2⟩ := b_cons hb (i := i) (by omega)
  have hc : c = 123 := (u8_eq c 123 (by decide)).mpr (by omega)
  rw [hc] at e2
  exact ⟨hi, e2⟩
theorem pc_two {ns : List Int} (hb : AllB ns) {i : Nat} (h : byteAt ns i = 123) (h2 : byteAt ns (i + 1) = 123) : pieceHere (Bt ns i) = .ok (.char 123, 2) := by
  rw [(pc_at hb h).2, (pc_at hb h2).2]
  simp [pieceHere]
theorem pc_bad {ns : List Int} (hb : AllB ns) {i : Nat} (h : byteAt ns i = 123) (h2 : byteAt ns (i + 1) ≠ 123) (h3 : byteAt ns (i + 1) ≠ 43) (h4 : byteAt ns (i + 1) ≠ 45) (h5 : byteAt ns (i + 1) ≠ 46) :
    pieceHere (Bt ns i) = .error 1 := by
  rw [(pc_at hb h).2]
  by_cases q : byteAt ns (i + 1) < 0
  · rw [b_nil hb q]
    rfl
  · obtain ⟨_, c, e, e2⟩ := b_cons hb (i := i + 1) (by omega)
    have hc : ∀ k : Nat, k < 256 → byteAt ns (i + 1) ≠ (k : Int) → ¬ c = UInt8.ofNat k := fun k hk hn z => hn (by rw [e, (u8_eq c k hk).mp z])
    rw [e2, pieceHere, if_pos rfl]
    show (if c = 123 then _ else _) = _
    rw [if_neg (show ¬ c = 123 from hc 123 (by decide) h2), if_neg]
    rintro (z | z | z)
    · exact hc 43 (by decide) h3 z
    · exact hc 45 (by decide) h4 z
    · exact hc 46 (by decide) h5 z
def tagK (k : Int) (n : Nat) : Piece := if k = 43 then .open_ n else if k = 45 then .close n else .alone n
theorem tagK_K {k : Int} (n : Nat) (h : k = 43 ∨ k = 45 ∨ k = 46) : encK (tagK k n) = k ∧ encN (tagK k n) = n := by
  rcases h with rfl | rfl | rfl <;> exact ⟨rfl, rfl⟩
def asTag (k : Int) : Except Nat (Nat × Nat) → Except Nat (Piece × Nat)
  | .ok x => .ok (tagK k x.1, x.2 + 3)
  | .error e => .error (e + 2)
theorem pc_tag {ns : List Int} (hb : AllB ns) {i : Nat} (h : byteAt ns i = 123) (hk : byteAt ns (i + 1) = 43 ∨ byteAt ns (i + 1) = 45 ∨ byteAt ns (i + 1) = 46) :
    pieceHere (Bt ns i) = asTag (byteAt ns (i + 1)) (digitsHere 0 0 (Bt ns (i + 2))) := by
  obtain ⟨_, c, e, e2⟩ := b_cons hb (i := i + 1) (by omega)
  rw [(pc_at hb h).2, e2, pieceHere, if_pos rfl]
  show (if c = 123 then _ else _) = _
  have hc : ¬ c = 123 := fun z => by
    have := (u8_eq c 123 (by decide)).mp z
    omega
  have h3 : c = 43 ∨ c = 45 ∨ c = 46 := by
    rcases hk with q | q | q
    · exact .inl ((u8_eq c 43 (by decide)).mpr (by omega))
    · exact .inr (.inl ((u8_eq c 45 (by decide)).mpr (by omega)))
    · exact .inr (.inr ((u8_eq c 46 (by decide)).mpr (by omega)))
  have ek : ∀ n, tagOf c n = tagK (byteAt ns (i + 1)) n := fun n => by
    rw [e]
    rcases h3 with rfl | rfl | rfl <;> rfl
  rw [if_neg hc, if_pos h3]
  cases digitsHere 0 0 (Bt ns (i + 2)) with
  | ok x => show Except.ok (tagOf c x.1, x.2 + 3) = _; rw [ek]; rfl
  | error k => rfl

/-! ### a row -/
theorem go_len : ∀ (f n k v : Nat) (b : Bytes) (w : Nat), goOn f n k v b = .ok w → k ≤ n → n - k ≤ f → n - k ≤ b.length
  | 0, n, k, v, b, w, _, _, hf => by omega
  | f + 1, n, k, v, b, w, h, hk, hf => by
    by_cases q : k = n
    · omega
    · cases b with
      | nil => rw [go_nil q] at h; cases h
      | cons c r =>
        rw [go_step q] at h
        split at h
        · have := go_len f n (k + 1) _ r w h (by omega) (by omega)
          rw [List.length_cons]
          omega
        · cases h
theorem ch_len {b : Bytes} {v n : Nat} (h : charHere b = .ok (v, n)) : 1 ≤ n ∧ n ≤ b.length := by
  cases b with
  | nil => cases h
  | cons c r =>
    by_cases q : 32 ≤ c.toNat ∧ c.toNat ≤ 126
    · rw [ch_ascii q] at h
      cases h
      rw [List.length_cons]
      omega
    · by_cases q2 : 194 ≤ c.toNat ∧ c.toNat ≤ 244
      · rw [ch_more q2] at h
        cases e : goOn 4 (tailOf c.toNat + 1) 1 (headOf (lengthBy c.toNat) c.toNat) r with
        | error k => rw [e] at h; cases h
        | ok w =>
          rw [e] at h
          cases h
          have ht := tail_pos c.toNat
          have := go_len _ _ _ _ _ _ e (by omega) (by omega)
          rw [List.length_cons]
          omega
      · rw [ch_bad1 q q2] at h
        cases h
theorem dg_len : ∀ (b : Bytes) (n v w m : Nat), digitsHere n v b = .ok (w, m) → n ≤ m ∧ m - n + 1 ≤ b.length
  | [], n, v, w, m, h => by rw [dg_nil] at h; cases h
  | c :: r, n, v, w, m, h => by
    rw [List.length_cons]
    by_cases hn : n = 0
    · subst hn
      rw [dg_first] at h
      split at h
      · cases e : digitsHere 1 (c.toNat - 48) r with
        | error k => rw [e] at h; cases h
        | ok x =>
          rw [e] at h
          have q := dg_len r 1 _ x.1 x.2 e
          cases h
          omega
      · cases h
    · rw [dg_next hn] at h
      split at h
      · cases h
        omega
      · split at h
        · cases e : digitsHere (n + 1) (10 * v + (c.toNat - 48)) r with
          | error k => rw [e] at h; cases h
          | ok x =>
            rw [e] at h
            have q := dg_len r (n + 1) _ x.1 x.2 e
            cases h
            omega
        · cases h
theorem pc_len {ns : List Int} (hb : AllB ns) {i n : Nat} {p : Piece} (h : pieceHere (Bt ns i) = .ok (p, n)) : 1 ≤ n ∧ n ≤ (Bt ns i).length := by
  by_cases q : byteAt ns i = 123
  · by_cases q2 : byteAt ns (i + 1) = 123
    · rw [pc_two hb q q2] at h
      cases h
      rw [(pc_at hb q).2, (pc_at hb q2).2, List.length_cons, List.length_cons]
      omega
    · by_cases q3 : byteAt ns (i + 1) = 43 ∨ byteAt ns (i + 1) = 45 ∨ byteAt ns (i + 1) = 46
      · rw [pc_tag hb q q3] at h
        obtain ⟨hi, c, e, e2⟩ := b_cons hb (i := i + 1) (by omega)
        cases ed : digitsHere 0 0 (Bt ns (i + 2)) with
        | error k => rw [ed] at h; cases h
        | ok x =>
          rw [ed] at h
          have z := dg_len _ _ _ _ _ ed
          cases h
          rw [(pc_at hb q).2, e2, List.length_cons, List.length_cons]
          have e3 : i + 1 + 1 = i + 2 := rfl
          rw [e3]
          omega
      · rw [pc_bad hb q q2 (fun z => q3 (.inl z)) (fun z => q3 (.inr (.inl z))) (fun z => q3 (.inr (.inr z)))] at h
        cases h
  · rw [pc_char hb q] at h
    cases e : charHere (Bt ns i) with
    | error k => rw [e] at h; cases h
    | ok x =>
      rw [e] at h
      cases h
      exact ch_len e
theorem rf_nil {f p : Nat} {l : Row} : rowFrom f p l [] = .ok l.reverse := by cases f <;> rw [rowFrom]
/-- so far ps has been read, and i bytes -/
structure Reads (ns : List Int) (i : Nat) (ps : Row) : Prop where
  le : i ≤ ns.length
  eq : ∃ f, ns.length - i ≤ f ∧ rowRead (FaNeutral.bytesOf ns) = rowFrom f i ps.reverse (Bt ns i)
  cnt : ps.length ≤ i
theorem bytes_len (ns : List Int) : (FaNeutral.bytesOf ns).length = ns.length := by unfold FaNeutral.bytesOf; rw [List.length_map]
/-! ### what row answers -/
end Fr

namespace Fr
open Fh
/-! ### pieces one behind the other, by a reader of one -/
def fromG (here : Bytes → Except Nat (Piece × Nat)) : Nat → Nat → Row → Bytes → Except Nat Row
  | _, _, l, [] => .ok l.reverse
  | 0, p, _, _ :: _ => .error p
  | f + 1, p, l, c :: b => match here (c :: b) with
    | .ok x => fromG here f (p + x.2) (x.1 :: l) ((c :: b).drop x.2)
    | .error k => .error (p + k)
def readG (here : Bytes → Except Nat (Piece × Nat)) (b : Bytes) : Except Nat Row := fromG here b.length 0 [] b
def charPc (b : Bytes) : Except Nat (Piece × Nat) := asChar (charHere b)
theorem fromG_row : ∀ (f p : Nat) (l : Row) (b : Bytes), fromG pieceHere f p l b = rowFrom f p l b
  | f, p, l, [] => by cases f <;> rw [fromG, rowFrom]
  | 0, p, l, c :: b => by rw [fromG, rowFrom]
  | f + 1, p, l, c :: b => by
    rw [fromG, rowFrom]
    cases pieceHere (c :: b) with
    | ok x => exact fromG_row f _ _ _
    | error k => rfl
theorem readG_row (b : Bytes) : readG pieceHere b = rowRead b := fromG_row _ _ _ _
def charsUp : Except Nat (List Nat) → Except Nat Row
  | .ok t => .ok (t.map .char)
  | .error k => .error k
theorem fromG_chars : ∀ (f p : Nat) (l : List Nat) (b : Bytes), fromG charPc f p (l.map .char) b = charsUp (charsFrom f p l b)
  | f, p, l, [] => by
    cases f <;> rw [fromG, charsFrom] <;> show _ = Except.ok (l.reverse.map Piece.char) <;> rw [List.map_reverse]
  | 0, p, l, c :: b => by rw [fromG, charsFrom]; rfl
  | f + 1, p, l, c :: b => by
    rw [fromG, charsFrom]
    unfold charPc
    cases charHere (c :: b) with
    | ok x => exact fromG_chars f (p + x.2) (x.1 :: l) _
    | error k => rfl
theorem readG_chars (b : Bytes) : readG charPc b = charsUp (charsRead b) := fromG_chars _ _ [] _
theorem rg_nil {here : Bytes → Except Nat (Piece × Nat)} {f p : Nat} {l : Row} : fromG here f p l [] = .ok l.reverse := by cases f <;> rw [fromG]
theorem rg_step {here : Bytes → Except Nat (Piece × Nat)} {f p : Nat} {l : Row} {b : Bytes} (hb : b ≠ []) : fromG here (f + 1) p l b = match here b with
    | .ok x => fromG here f (p + x.2) (x.1 :: l) (b.drop x.2)
    | .error k => .error (p + k) := by
  cases b with
  | nil => exact absurd rfl hb
  | cons c r => rw [fromG]
/-- a piece takes a byte at least -/
def OneOk (here : Bytes → Except Nat (Piece × Nat)) (ns : List Int) : Prop := ∀ i n p, here (Bt ns i) = .ok (p, n) → 1 ≤ n ∧ n ≤ (Bt ns i).length
theorem one_piece {ns : List Int} (hb : AllB ns) : OneOk pieceHere ns := fun _ _ _ h => pc_len hb h
theorem one_char (ns : List Int) : OneOk charPc ns := fun i n p h => by
  unfold charPc at h
  cases e : charHere (Bt ns i) with
  | ok x =>
    rw [e] at h
    cases h
    exact ch_len e
  | error k => rw [e] at h; cases h
/-- so far ps has been read, and i bytes -/
structure RdG (here : Bytes → Except Nat (Piece × Nat)) (ns : List Int) (i : Nat) (ps : Row) : Prop where
  le : i ≤ ns.length
  eq : ∃ f, ns.length - i ≤ f ∧ readG here (FaNeutral.bytesOf ns) = fromG here f i ps.reverse (Bt ns i)
  cnt : ps.length ≤ i
section
variable {here : Bytes → Except Nat (Piece × Nat)} {ns : List Int}
theorem RdG.start (here : Bytes → Except Nat (Piece × Nat)) (ns : List Int) : RdG here ns 0 [] := ⟨Nat.zero_le _, ⟨ns.length, Nat.le_refl _, (by
  unfold readG
  rw [bytes_len]
  rfl)⟩, Nat.le_refl _⟩
theorem RdG.step (ho : OneOk here ns) {i n : Nat} {ps : Row} {p : Piece} (R : RdG here ns i ps) (h : here (Bt ns i) = .ok (p, n)) : RdG here ns (i + n) (ps ++ [p]) ∧ 1 ≤ n := by
  have hl := ho _ _ _ h
  have hbl := bt_len ns i
  obtain ⟨f, hf, e⟩ := R.eq
  have hi := R.le
  obtain ⟨g, rfl⟩ : ∃ g, f = g + 1 := ⟨f - 1, by omega⟩
  have hne : Bt ns i ≠ [] := fun z => by rw [z] at hl; simp at hl; omega
  refine ⟨⟨by omega, ⟨g, by omega, ?_⟩, ?_⟩, hl.1⟩
  · rw [e, rg_step hne, h, List.reverse_append]
    show fromG here g (i + n) (p :: ps.reverse) ((Bt ns i).drop n) = fromG here g (i + n) (p :: ps.reverse) (Bt ns (i + n))
    unfold Bt
    rw [List.drop_drop]
  · have := R.cnt
    rw [List.length_append, List.length_singleton]
    omega
theorem RdG.bad (hb : AllB ns) {i k : Nat} {ps : Row} (R : RdG here ns i ps) (hi : byteAt ns i ≠ -1) (h : here (Bt ns i) = .error k) : readG here (FaNeutral.bytesOf ns) = .error (i + k) := by
  obtain ⟨f, hf, e⟩ := R.eq
  obtain ⟨h1, c, e1, e2⟩ := b_cons hb (i := i) (by have := b_lo hb i; omega)
  obtain ⟨g, rfl⟩ : ∃ g, f = g + 1 := ⟨f - 1, by omega⟩
  rw [e, rg_step (by rw [e2]; exact List.cons_ne_nil _ _), h]
theorem RdG.done (hb : AllB ns) {i : Nat} {ps : Row} (R : RdG here ns i ps) (hi : byteAt ns i = -1) : readG here (FaNeutral.bytesOf ns) = .ok ps := by
  obtain ⟨f, hf, e⟩ := R.eq
  rw [e, b_nil hb (by omega), rg_nil, List.reverse_reverse]
end
end Fr

namespace Fr
open Fh
/-! ### bytes as numbers -/
abbrev bi (b : Bytes) : List Int := FaNeutral.byteNums b
theorem bi_append (b c : Bytes) : bi (b ++ c) = bi b ++ bi c := by unfold bi FaNeutral.byteNums; rw [List.map_append]
theorem bi_cons (c : UInt8) (b : Bytes) : bi (c :: b) = (c.toNat : Int) :: bi b := rfl
theorem bi_len (b : Bytes) : (bi b).length = b.length := by unfold bi FaNeutral.byteNums; rw [List.length_map]
theorem bi_nat {n : Nat} (h : n < 256) (b : Bytes) : bi (UInt8.ofNat n :: b) = (n : Int) :: bi b := by
  rw [bi_cons]
  have e : (UInt8.ofNat n).toNat = n := by
    rw [UInt8.toNat_ofNat']
    exact Nat.mod_eq_of_lt h
  rw [e]
theorem bi_u1 {c : Nat} (h : c < 128) : bi (utf8 c) = [(c : Int)] := by
  unfold utf8
  rw [if_pos h, bi_nat (by omega)]
  rfl
theorem bi_u2 {c : Nat} (h : ¬ c < 128) (h2 : c < 2048) : bi (utf8 c) = [(192 : Int) + (c : Int) / 64, ((128 + c % 64 : Nat) : Int)] := by
  unfold utf8
  rw [if_neg h, if_pos h2, bi_nat (by omega), bi_nat (by omega), show (192 : Int) + (c : Int) / 64 = ((192 + c / 64 : Nat) : Int) by omega]
  rfl
theorem bi_u3 {c : Nat} (h : ¬ c < 128) (h2 : ¬ c < 2048) (h3 : c < 65536) : bi (utf8 c) = [(224 : Int) + (c : Int) / 4096, ((128 + c / 64 % 64 : Nat) : Int), ((128 + c % 64 : Nat) : Int)] := by
  unfold utf8
  rw [if_neg h, if_neg h2, if_pos h3, bi_nat (by omega), bi_nat (by omega), bi_nat (by omega), show (224 : Int) + (c : Int) / 4096 = ((224 + c / 4096 : Nat) : Int) by omega]
  rfl
theorem bi_u4 {c : Nat} (h : ¬ c < 128) (h2 : ¬ c < 2048) (h3 : ¬ c < 65536) (h4 : c < 1114112) : bi (utf8 c) = [(240 : Int) + (c : Int) / 262144, ((128 + c / 4096 % 64 : Nat) : Int), ((128 + c / 64 % 64 : Nat) : Int), ((128 + c % 64 : Nat) : Int)] := by
  unfold utf8
  rw [if_neg h, if_neg h2, if_neg h3, bi_nat (by omega), bi_nat (by omega), bi_nat (by omega), bi_nat (by omega), show (240 : Int) + (c : Int) / 262144 = ((240 + c / 262144 : Nat) : Int) by omega]
  rfl
theorem div_cast (c k : Nat) : (c : Int) / (k : Int) = ((c / k : Nat) : Int) := (Int.natCast_ediv c k).symm
theorem toDigits_lt (n : Nat) : ∀ c ∈ Nat.toDigits 10 n, c.toNat < 256 := fun c hc => by
  have h := Nat.isDigit_of_mem_toDigits (b := 10) (n := n) (by decide) (by decide) hc
  unfold Char.isDigit at h
  rw [Bool.and_eq_true, decide_eq_true_iff, decide_eq_true_iff] at h
  have h2 := UInt32.le_iff_toNat_le.mp h.2
  have h3 : c.val.toNat ≤ 57 := h2
  show c.val.toNat < 256
  omega
theorem bi_decimal (n : Nat) : bi (decimal n) = (Nat.toDigits 10 n).map fun c => ((c.toNat : Nat) : Int) := by
  unfold bi FaNeutral.byteNums decimal
  rw [List.map_map]
  apply List.map_congr_left
  intro c hc
  show ((UInt8.ofNat c.toNat).toNat : Int) = _
  rw [UInt8.toNat_ofNat', Nat.mod_eq_of_lt (toDigits_lt n c hc)]
/-! ### pieces that a row has -/
/-- a piece that a reader gives -/
def PcOk : Piece → Prop
  | .char c => c < 1114112
  | .open_ n => 1 ≤ n ∧ n ≤ 999
  | .close n => 1 ≤ n ∧ n ≤ 999
  | .alone n => 1 ≤ n ∧ n ≤ 999
theorem utf8_len (c : Nat) : (utf8 c).length ≤ 4 := by
  unfold utf8
  split
  · simp
  · split
    · simp
    · split <;> simp
/-- a piece whose number is small -/
def PcSm (q : Piece) : Prop := (∀ c, q = .char c → c < 1114112) ∧ (q.isTag = true → q.number < 10000)
/-! ### what a reader gives is a piece -/
theorem ch_small {ns : List Int} (hb : AllB ns) {i v n : Nat} (h : charHere (Bt ns i) = .ok (v, n)) : v < 1114112 := by
  by_cases a1 : 32 ≤ byteAt ns i ∧ byteAt ns i ≤ 126
  · rw [ca_ok hb a1] at h
    cases h
    omega
  by_cases a2 : 194 ≤ byteAt ns i ∧ byteAt ns i ≤ 244
  · obtain ⟨x, ex⟩ : ∃ x : Nat, byteAt ns i = (x : Int) := ⟨(byteAt ns i).toNat, by omega⟩
    have hx : 194 ≤ x ∧ x ≤ 244 := by omega
    by_cases a3 : ((spanOf x).1 : Int) ≤ byteAt ns (i + 1) ∧ byteAt ns (i + 1) ≤ ((spanOf x).2 : Int)
    · obtain ⟨y, _, _, C0⟩ := ca_two hb ex hx a3
      have fin : ∀ k j v', ChI ns i x j v' → tailOf x = j + 1 + k → v < 1114112 := by
        intro k
        induction k with
        | zero =>
          intro j v' C e
          have z := C.done (by omega)
          rw [h] at z
          cases z
          exact C.small
        | succ k ih =>
          intro j v' C e
          have st := C.step hb (by omega)
          by_cases q : 128 ≤ byteAt ns (i + 2 + j) ∧ byteAt ns (i + 2 + j) ≤ (highOf v' : Int)
          · obtain ⟨z, _, C1⟩ := st.2 q
            exact ih (j + 1) _ C1 (by omega)
          · rw [st.1 q] at h
            cases h
      have ht := tail_pos x
      exact fin (tailOf x - 1) 0 _ C0 (by omega)
    · rw [ca_bad2 hb ex hx a3] at h
      cases h
  · rw [ca_bad hb a1 a2] at h
    cases h
theorem dg_small : ∀ (b : Bytes) (n v w m : Nat), digitsHere n v b = .ok (w, m) → (n = 0 ∨ (n = 1 ∧ 1 ≤ v ∧ v ≤ 9) ∨ (n = 2 ∧ 10 ≤ v ∧ v ≤ 99) ∨ (n = 3 ∧ 100 ≤ v ∧ v ≤ 999)) → 1 ≤ w ∧ w ≤ 999
  | [], n, v, w, m, h, _ => by rw [dg_nil] at h; cases h
  | c :: r, n, v, w, m, h, hv => by
    by_cases hn : n = 0
    · subst hn
      rw [dg_first] at h
      split at h
      · cases e : digitsHere 1 (c.toNat - 48) r with
        | error k => rw [e] at h; cases h
        | ok x =>
          rw [e] at h
          have q := dg_small r 1 _ x.1 x.2 e (by omega)
          cases h
          exact q
      · cases h
    · rw [dg_next hn] at h
      split at h
      · cases h
        omega
      · split at h
        · rename_i hd
          have hc := (isDigit_iff c).mp hd.2
          cases e : digitsHere (n + 1) (10 * v + (c.toNat - 48)) r with
          | error k => rw [e] at h; cases h
          | ok x =>
            rw [e] at h
            have q := dg_small r (n + 1) _ x.1 x.2 e (by omega)
            cases h
            exact q
        · cases h
theorem bi_back (b : Bytes) : FaNeutral.bytesOf (bi b) = b := by
  unfold FaNeutral.bytesOf bi FaNeutral.byteNums
  rw [List.map_map]
  conv => rhs; rw [← List.map_id b]
  apply List.map_congr_left
  intro c _
  show UInt8.ofNat ((c.toNat : Int).toNat) = c
  rw [Int.toNat_natCast]
  exact UInt8.ofNat_toNat
theorem bi_all (b : Bytes) : AllB (bi b) := fun x hx => by
  unfold bi FaNeutral.byteNums at hx
  obtain ⟨c, _, rfl⟩ := List.mem_map.mp hx
  have := c.toNat_lt
  omega
theorem bt_back (b : Bytes) : Bt (bi b) 0 = b := by unfold Bt; rw [bi_back]; rfl
theorem charPc_ok {b : Bytes} {q : Piece} {n : Nat} (h : charPc b = .ok (q, n)) : PcOk q := by
  unfold charPc at h
  cases e : charHere b with
  | error k => rw [e] at h; cases h
  | ok x =>
    rw [e] at h
    cases h
    have e2 : charHere (Bt (bi b) 0) = .ok (x.1, x.2) := by rw [bt_back]; exact e
    exact ch_small (bi_all b) e2
theorem tagOf_ok {s : UInt8} {n : Nat} (h : 1 ≤ n ∧ n ≤ 999) : PcOk (tagOf s n) := by
  unfold tagOf
  split
  · exact h
  · split <;> exact h
theorem pieceHere_ok {b : Bytes} {q : Piece} {n : Nat} (h : pieceHere b = .ok (q, n)) : PcOk q := by
  cases b with
  | nil => cases h
  | cons c r =>
    simp only [pieceHere] at h
    by_cases hc : c = 123
    · rw [if_pos hc] at h
      cases r with
      | nil => cases h
      | cons s d =>
        have h : (if s = 123 then Except.ok (Piece.char 123, 2) else if s = 43 ∨ s = 45 ∨ s = 46 then (match digitsHere 0 0 d with
          | .ok x => Except.ok (tagOf s x.1, x.2 + 3)
          | .error k => .error (k + 2)) else .error 1) = .ok (q, n) := h
        split at h
        · cases h
          show 123 < 1114112
          decide
        · split at h
          · cases e : digitsHere 0 0 d with
            | error k => rw [e] at h; cases h
            | ok x =>
              rw [e] at h
              cases h
              exact tagOf_ok (dg_small d 0 0 x.1 x.2 e (.inl rfl))
          · cases h
    · rw [if_neg hc] at h
      have e2 : charPc (c :: r) = .ok (q, n) := by
        unfold charPc
        cases e : charHere (c :: r) with
        | error k => rw [e] at h; cases h
        | ok x => rw [e] at h; exact h
      exact charPc_ok e2
theorem fromG_ok {here : Bytes → Except Nat (Piece × Nat)} (ho : ∀ b q n, here b = .ok (q, n) → PcOk q) : ∀ (f p : Nat) (l : Row) (b : Bytes) (ps : Row), fromG here f p l b = .ok ps → (∀ q ∈ l, PcOk q) → ∀ q ∈ ps, PcOk q
  | f, p, l, [], ps, h, hl => by
    rw [rg_nil] at h
    cases h
    intro q hq
    exact hl q (List.mem_reverse.mp hq)
  | 0, p, l, c :: b, ps, h, hl => by rw [fromG] at h; cases h
  | f + 1, p, l, c :: b, ps, h, hl => by
    rw [fromG] at h
    cases e : here (c :: b) with
    | error k => rw [e] at h; cases h
    | ok x =>
      rw [e] at h
      refine fromG_ok ho f _ _ _ ps h fun q hq => ?_
      rcases (List.mem_cons.mp hq) with rfl | hq
      · exact ho _ _ _ e
      · exact hl q hq
theorem rowRead_ok {b : Bytes} {ps : Row} (h : rowRead b = .ok ps) : ∀ q ∈ ps, PcOk q :=
  fromG_ok (here := pieceHere) (fun _ _ _ => pieceHere_ok) _ _ [] _ ps ((readG_row b).trans h) (by simp)
end Fr

namespace Fr
open Fh
/-! ### what a call over a row answers -/
end Fr

namespace Fr
open Fh
/-! ### forms -/
theorem nums_skip : ∀ (r : Row) (l : List Nat), numbersOf r l = numbersOf (tagsOf r) l
  | [], l => rfl
  | q :: r, l => by
    unfold tagsOf
    by_cases h : q.isTag = true
    · rw [List.filter_cons, if_pos h]
      show numbersOf r _ = numbersOf (r.filter Piece.isTag) _
      exact nums_skip r _
    · rw [List.filter_cons, if_neg h]
      show numbersOf r (if q.isTag = true ∧ l.contains q.number = false then l ++ [q.number] else l) = _
      rw [if_neg fun z => h z.1]
      exact nums_skip r l
theorem nums_snoc (q : Piece) : ∀ (r : Row) (l : List Nat), numbersOf (r ++ [q]) l = if q.isTag = true ∧ (numbersOf r l).contains q.number = false then numbersOf r l ++ [q.number] else numbersOf r l
  | [], l => rfl
  | p :: r, l => nums_snoc q r _
theorem nums_len : ∀ (r : Row) (l : List Nat), (numbersOf r l).length ≤ l.length + r.length
  | [], l => Nat.le_refl _
  | p :: r, l => by
    have h := nums_len r (if p.isTag = true ∧ l.contains p.number = false then l ++ [p.number] else l)
    show (numbersOf r _).length ≤ _
    rw [List.length_cons]
    split at h
    · rw [List.length_append, List.length_singleton] at h
      split
      · omega
      · rename_i h1 h2
        exact absurd h1 h2
    · split
      · rename_i h1 h2
        exact absurd h2 h1
      · omega
theorem nums_keep : ∀ (r : Row) (l : List Nat) (n : Nat), n ∈ l → n ∈ numbersOf r l
  | [], l, n, h => h
  | p :: r, l, n, h => by
    show n ∈ numbersOf r _
    apply nums_keep
    split
    · exact List.mem_append_left _ h
    · exact h
theorem nums_has : ∀ (r : Row) (l : List Nat) (q : Piece), q ∈ r → q.isTag = true → q.number ∈ numbersOf r l
  | [], l, q, h, _ => by simp at h
  | p :: r, l, q, h, ht => by
    show q.number ∈ numbersOf r _
    rcases (List.mem_cons.mp h) with rfl | h
    · apply nums_keep
      by_cases z : l.contains q.number = false
      · rw [if_pos ⟨ht, z⟩]
        exact List.mem_append_right _ (List.mem_singleton.mpr rfl)
      · rw [if_neg fun y => z y.2]
        have z2 : l.contains q.number = true := by simpa using z
        exact List.contains_iff_mem.mp z2
    · exact nums_has r _ q h ht
theorem ren_K (f : Nat → Nat) (q : Piece) : encK (q.renamed f) = encK q := by cases q <;> rfl
theorem ren_tag (f : Nat → Nat) (q : Piece) : (q.renamed f).isTag = q.isTag := by cases q <;> rfl
theorem ren_N {f : Nat → Nat} {q : Piece} (h : q.isTag = true) : encN (q.renamed f) = (f q.number : Int) := by
  cases q with
  | char c => cases h
  | open_ n => rfl
  | close n => rfl
  | alone n => rfl
theorem ren_C {f : Nat → Nat} {q : Piece} (h : ¬ q.isTag = true) : encN (q.renamed f) = encN q := by
  cases q with
  | char c => rfl
  | open_ n => exact absurd rfl h
  | close n => exact absurd rfl h
  | alone n => exact absurd rfl h
theorem form_sm {r : Row} (h : ∀ q ∈ r, PcOk q) (hl : r.length ≤ 4096) : ∀ q ∈ formOf r, PcSm q := by
  intro q hq
  unfold formOf at hq
  obtain ⟨p, hp, rfl⟩ := (List.mem_map.mp hq)
  refine ⟨fun c e => ?_, fun ht => ?_⟩
  · cases p with
    | char d => cases e; exact h _ hp
    | open_ n => cases e
    | close n => cases e
    | alone n => cases e
  · rw [ren_tag] at ht
    have hm := nums_has r [] p hp ht
    have hx := List.idxOf_lt_length_of_mem hm
    have hn := nums_len r []
    rw [List.length_nil] at hn
    have e : (p.renamed (placeOf (numbersOf r []))).number = placeOf (numbersOf r []) p.number := by
      cases p with
      | char c => cases ht
      | open_ n => rfl
      | close n => rfl
      | alone n => rfl
    rw [e]
    unfold placeOf
    omega
theorem form_len (r : Row) : (formOf r).length = r.length := by unfold formOf; rw [List.length_map]
end Fr

namespace Fr
open Fh
/-! ### units -/
def sgs : List (Nat × Nat) := [(0x21, 0x2F), (0x3A, 0x40), (0x5B, 0x60), (0x7B, 0x7E), (0xA1, 0xBF), (0xD7, 0xD7), (0xF7, 0xF7), (0x2010, 0x206F), (0x3000, 0x303F)]
theorem isSign_eq (c : Nat) : isSign c = sgs.any fun x => decide (x.1 ≤ c) && decide (c ≤ x.2) := rfl
/-- a piece of a word -/
def ofWord : Piece → Bool
  | .char c => isWordChar c
  | _ => false
def unitOfPc : Piece → Unit_
  | .char c => if isSign c = true then .sign c else .word [c]
  | .open_ n => .tag 0 n
  | .close n => .tag 1 n
  | .alone n => .tag 2 n
def uG : Unit_ → Int
  | .word _ => 0
  | .sign _ => 1
  | .tag _ _ => 2
def uK : Unit_ → Int
  | .tag k _ => (k : Nat)
  | _ => 0
def uB (u : Unit_) : Bytes := (FhRows.unitOut u).2
def doneW (w : List Nat) : List Unit_ := if w = [] then [] else [.word w]
theorem uf_nil (w : List Nat) : unitsFrom w [] = doneW w := rfl
theorem uf_word {w : List Nat} {c : Nat} {r : Row} (h : isWordChar c = true) : unitsFrom w (.char c :: r) = unitsFrom (w ++ [c]) r := by
  rw [unitsFrom]
  simp only [if_pos h]
theorem uf_blank {w : List Nat} {r : Row} : unitsFrom w (.char 32 :: r) = doneW w ++ unitsFrom [] r := by
  rw [unitsFrom]
  have h : ¬ isWordChar 32 = true := by decide
  simp only [if_neg h]
  rfl
theorem uf_sign {w : List Nat} {c : Nat} {r : Row} (h : ¬ isWordChar c = true) (hb : ¬ c = 32) : unitsFrom w (.char c :: r) = doneW w ++ (.sign c :: unitsFrom [] r) := by
  rw [unitsFrom]
  simp only [if_neg h]
  rw [if_neg (show ¬ c = BLANK from hb)]
  rfl
theorem not_word {c : Nat} (h : ¬ isWordChar c = true) (hb : ¬ c = 32) : isSign c = true := by
  unfold isWordChar at h
  have e : (c != BLANK) = true := by rw [bne_iff_ne]; exact hb
  rw [e, Bool.true_and, Bool.not_eq_true', Bool.not_eq_false] at h
  exact h
theorem word_not {c : Nat} (h : isWordChar c = true) : isSign c = false ∧ ¬ c = 32 := by
  unfold isWordChar at h
  rw [Bool.and_eq_true, Bool.not_eq_true', bne_iff_ne] at h
  exact ⟨h.2, h.1⟩
/-- units so far: those that are closed, the word that is open -/
structure Told (pre : Row) (cl : List Unit_) (w : List Nat) : Prop where
  eq : ∀ rest, unitsFrom [] (pre ++ rest) = cl ++ unitsFrom w rest
  len : w.length ≤ pre.length
theorem Told.start : Told [] [] [] := ⟨fun _ => rfl, Nat.le_refl _⟩
theorem Told.done {pre : Row} {cl : List Unit_} {w : List Nat} (t : Told pre cl w) : unitsFrom [] pre = cl ++ doneW w := by
  have e := t.eq []
  rw [List.append_nil, uf_nil] at e
  exact e
theorem Told.word {pre : Row} {cl : List Unit_} {w : List Nat} {c : Nat} (t : Told pre cl w) (h : isWordChar c = true) : Told (pre ++ [.char c]) cl (w ++ [c]) := by
  refine ⟨fun rest => ?_, by rw [List.length_append, List.length_append]; have := t.len; simp; exact this⟩
  rw [List.append_assoc, t.eq]
  show cl ++ unitsFrom w (.char c :: rest) = _
  rw [uf_word h]
theorem Told.blank {pre : Row} {cl : List Unit_} {w : List Nat} (t : Told pre cl w) : Told (pre ++ [.char 32]) (cl ++ doneW w) [] := by
  refine ⟨fun rest => ?_, Nat.zero_le _⟩
  rw [List.append_assoc, t.eq]
  show cl ++ unitsFrom w (.char 32 :: rest) = _
  rw [uf_blank, List.append_assoc]
theorem Told.other {pre : Row} {cl : List Unit_} {w : List Nat} {q : Piece} (t : Told pre cl w) (h : ¬ ofWord q = true) (hb : ¬ q = .char 32) : Told (pre ++ [q]) (cl ++ doneW w ++ [unitOfPc q]) [] := by
  refine ⟨fun rest => ?_, Nat.zero_le _⟩
  rw [List.append_assoc, t.eq]
  show cl ++ unitsFrom w (q :: rest) = _
  cases q with
  | char c =>
    have hc : ¬ c = 32 := fun z => hb (by rw [z])
    rw [uf_sign h hc]
    show _ = cl ++ doneW w ++ [if isSign c = true then Unit_.sign c else .word [c]] ++ _
    rw [if_pos (not_word h hc)]
    simp
  | open_ n => rw [unitsFrom]; simp [unitOfPc, doneW]
  | close n => rw [unitsFrom]; simp [unitOfPc, doneW]
  | alone n => rw [unitsFrom]; simp [unitOfPc, doneW]
theorem uB_word (w : List Nat) (c : Nat) : bi (uB (.word (w ++ [c]))) = bi (uB (.word w)) ++ bi (utf8 c) := by
  show bi ((w ++ [c]).flatMap utf8) = bi (w.flatMap utf8) ++ _
  rw [List.flatMap_append, bi_append]
  simp
theorem uB_len (w : List Nat) : (uB (.word w)).length ≤ 4 * w.length := by
  show (w.flatMap utf8).length ≤ _
  induction w with
  | nil => simp
  | cons c r ih =>
    have := utf8_len c
    rw [List.flatMap_cons, List.length_append, List.length_cons]
    omega
end Fr

namespace Fr
open Fh
/-! ### straight rows -/
theorem hf_skip : ∀ (r : Row) (s l : List Nat), halvesFrom s l r = halvesFrom s l (tagsOf r)
  | [], s, l => rfl
  | .char c :: r, s, l => by
    rw [halvesFrom]
    exact hf_skip r s l
  | .open_ n :: r, s, l => by
    show halvesFrom (n :: s) l r = halvesFrom (n :: s) l (tagsOf r)
    exact hf_skip r _ _
  | .alone n :: r, s, l => by
    show halvesFrom s l r = halvesFrom s l (tagsOf r)
    exact hf_skip r _ _
  | .close n :: r, s, l => by
    cases s with
    | nil =>
      show halvesFrom [] (l ++ [n]) r = halvesFrom [] (l ++ [n]) (tagsOf r)
      exact hf_skip r _ _
    | cons m t =>
      show (if m = n then halvesFrom t l r else none) = (if m = n then halvesFrom t l (tagsOf r) else none)
      rw [hf_skip r t l]
theorem opens_skip : ∀ r : Row, opens (tagsOf r) = opens r
  | [] => rfl
  | .char c :: r => opens_skip r
  | .open_ n :: r => by show n :: opens (tagsOf r) = n :: opens r; rw [opens_skip r]
  | .close n :: r => opens_skip r
  | .alone n :: r => opens_skip r
theorem closes_skip : ∀ r : Row, closes (tagsOf r) = closes r
  | [] => rfl
  | .char c :: r => closes_skip r
  | .open_ n :: r => closes_skip r
  | .close n :: r => by show n :: closes (tagsOf r) = n :: closes r; rw [closes_skip r]
  | .alone n :: r => closes_skip r
theorem alones_skip : ∀ r : Row, alones (tagsOf r) = alones r
  | [] => rfl
  | .char c :: r => alones_skip r
  | .open_ n :: r => alones_skip r
  | .close n :: r => alones_skip r
  | .alone n :: r => by show n :: alones (tagsOf r) = n :: alones r; rw [alones_skip r]
theorem halves_skip (r : Row) : halves (tagsOf r) = halves r := (hf_skip r [] []).symm
theorem straight_skip (r : Row) : straight (tagsOf r) = straight r := by
  unfold straight
  rw [halves_skip, opens_skip, closes_skip, alones_skip]
theorem straight_iff (r : Row) : straight r = true ↔ ∃ h, halves r = some h ∧ (opens r).Nodup ∧ (closes r).Nodup ∧ (alones r).Nodup ∧ (∀ n ∈ alones r, n ∉ opens r ∧ n ∉ closes r) ∧ ∀ n ∈ h.1, n ∉ opens r := by
  unfold straight
  cases e : halves r with
  | none => simp
  | some h =>
    simp only [Bool.and_eq_true, decide_eq_true_eq, List.all_eq_true, Bool.not_eq_true', Option.some.injEq, exists_eq_left']
    constructor
    · rintro ⟨a, b, c, d, f⟩
      refine ⟨a, b, c, fun n hn => ?_, fun n hn z => ?_⟩
      · have q := d n hn
        exact ⟨fun z => (by rw [List.contains_iff_mem.mpr z] at q; cases q.1), fun z => (by rw [List.contains_iff_mem.mpr z] at q; cases q.2)⟩
      · have q := f n hn
        rw [List.contains_iff_mem.mpr z] at q
        cases q
    · rintro ⟨a, b, c, d, f⟩
      refine ⟨a, b, c, fun n hn => ?_, fun n hn => ?_⟩
      · exact ⟨by simpa using (d n hn).1, by simpa using (d n hn).2⟩
      · simpa using f n hn
theorem opens_app (r s : Row) : opens (r ++ s) = opens r ++ opens s := by unfold opens; rw [List.filterMap_append]
theorem closes_app (r s : Row) : closes (r ++ s) = closes r ++ closes s := by unfold closes; rw [List.filterMap_append]
theorem alones_app (r s : Row) : alones (r ++ s) = alones r ++ alones s := by unfold alones; rw [List.filterMap_append]
theorem hf_mono : ∀ (r : Row) (s l : List Nat) (h : List Nat × List Nat), halvesFrom s l r = some h → ∀ n ∈ l, n ∈ h.1
  | [], s, l, h, e, n, hn => by
    cases e
    exact hn
  | .char c :: r, s, l, h, e, n, hn => by
    rw [halvesFrom] at e
    exact hf_mono r s l h e n hn
  | .open_ m :: r, s, l, h, e, n, hn => by
    rw [halvesFrom] at e
    exact hf_mono r _ l h e n hn
  | .alone m :: r, s, l, h, e, n, hn => by
    rw [halvesFrom] at e
    exact hf_mono r s l h e n hn
  | .close m :: r, s, l, h, e, n, hn => by
    cases s with
    | nil =>
      have e : halvesFrom [] (l ++ [m]) r = some h := e
      exact hf_mono r _ _ h e n (List.mem_append_left _ hn)
    | cons k t =>
      have e : (if k = m then halvesFrom t l r else none) = some h := e
      split at e
      · exact hf_mono r _ _ h e n hn
      · cases e
def setL (lk : Nat → Option Int) (n : Nat) (k : Int) : Nat → Option Int := fun m => if m = n then some k else lk m
/-- what holds of tags gone through: kinds last seen, left halves, the pile (its lowest first) -/
structure Good (pre : Row) (lk : Nat → Option Int) (ls ps : List Nat) : Prop where
  eq : ∀ rest, halvesFrom [] [] (pre ++ rest) = halvesFrom ps.reverse ls rest
  n0 : ∀ n, lk n = none → n ∉ opens pre ∧ n ∉ closes pre ∧ n ∉ alones pre
  n1 : ∀ n, lk n = some 43 → n ∈ opens pre ∧ n ∉ closes pre ∧ n ∉ alones pre ∧ n ∈ ps
  n2 : ∀ n, lk n = some 45 → n ∈ closes pre ∧ n ∉ alones pre ∧ (n ∈ ls ∨ n ∈ opens pre)
  n3 : ∀ n, lk n = some 46 → n ∈ alones pre ∧ n ∉ opens pre ∧ n ∉ closes pre
  kd : ∀ n k, lk n = some k → k = 43 ∨ k = 45 ∨ k = 46
  pl : ∀ n ∈ ps, lk n = some 43
  pn : ps.Nodup
  no : (opens pre).Nodup
  nc : (closes pre).Nodup
  na : (alones pre).Nodup
  nl : ∀ n ∈ ls, n ∉ opens pre
  ll : ∀ n ∈ ls, lk n = some 45
theorem Good.start : Good [] (fun _ => none) [] [] :=
  ⟨fun _ => rfl, fun n _ => by simp [opens, closes, alones], (fun n h => nomatch h), (fun n h => nomatch h), (fun n h => nomatch h), (fun n k h => nomatch h), (fun n h => nomatch h), List.nodup_nil, List.nodup_nil, List.nodup_nil, List.nodup_nil, (fun n h => nomatch h), (fun n h => nomatch h)⟩
theorem Good.disj {pre : Row} {lk : Nat → Option Int} {ls ps : List Nat} (G : Good pre lk ls ps) : ∀ n ∈ alones pre, n ∉ opens pre ∧ n ∉ closes pre := fun n hn => by
  cases e : lk n with
  | none => exact absurd hn (G.n0 n e).2.2
  | some k =>
    rcases G.kd n k e with rfl | rfl | rfl
    · exact absurd hn (G.n1 n e).2.2.1
    · exact absurd hn (G.n2 n e).2.1
    · exact (G.n3 n e).2
theorem Good.done {pre : Row} {lk : Nat → Option Int} {ls ps : List Nat} (G : Good pre lk ls ps) : straight pre = true ∧ halves pre = some (ls, ps) := by
  have e : halves pre = some (ls, ps) := by
    have z := G.eq []
    rw [List.append_nil] at z
    show halvesFrom [] [] pre = _
    rw [z, halvesFrom, List.reverse_reverse]
  exact ⟨(straight_iff pre).mpr ⟨_, e, G.no, G.nc, G.na, G.disj, G.nl⟩, e⟩
theorem nodup_snoc {l : List Nat} {n : Nat} (h : l.Nodup) (hn : n ∉ l) : (l ++ [n]).Nodup := by
  rw [List.nodup_append]
  refine ⟨h, by simp, fun a ha b hb => ?_⟩
  have e : b = n := by simpa using hb
  rw [e]
  intro z
  exact hn (z ▸ ha)
theorem not_nodup {l r : List Nat} {n : Nat} (h : n ∈ l) : ¬ (l ++ n :: r).Nodup := fun z => by
  rw [List.nodup_append] at z
  exact z.2.2 n h n List.mem_cons_self rfl
/-- a number that stands where it may not: never straight -/
theorem Good.bad {pre : Row} {lk : Nat → Option Int} {ls ps : List Nat} {q : Piece} {k : Int} (G : Good pre lk ls ps) (ht : q.isTag = true) (hk : lk q.number = some k) (hn : k ≠ 43 ∨ encK q ≠ 45) (rest : Row) : straight (pre ++ q :: rest) = false := by
  rw [Bool.eq_false_iff]
  intro hs
  obtain ⟨h, eh, a1, a2, a3, a4, a5⟩ := (straight_iff _).mp hs
  have eh2 : halvesFrom ps.reverse ls (q :: rest) = some h := by rw [← G.eq]; exact eh
  have ho : opens (pre ++ q :: rest) = opens pre ++ opens (q :: rest) := opens_app _ _
  have hc : closes (pre ++ q :: rest) = closes pre ++ closes (q :: rest) := closes_app _ _
  have ha : alones (pre ++ q :: rest) = alones pre ++ alones (q :: rest) := alones_app _ _
  rw [ho] at a1 a4 a5
  rw [hc] at a2 a4
  rw [ha] at a3 a4
  cases q with
  | char c => cases ht
  | open_ n =>
    have hk : lk n = some k := hk
    have e : opens (Piece.open_ n :: rest) = n :: opens rest := rfl
    rw [e] at a1 a4 a5
    have io : n ∈ opens pre ++ n :: opens rest := List.mem_append_right _ List.mem_cons_self
    rcases G.kd n k hk with rfl | rfl | rfl
    · exact not_nodup (G.n1 n hk).1 a1
    · rcases (G.n2 n hk).2.2 with z | z
      · exact a5 n (hf_mono _ _ _ _ eh2 n z) io
      · exact not_nodup z a1
    · exact (a4 n (List.mem_append_left _ (G.n3 n hk).1)).1 io
  | close n =>
    have hk : lk n = some k := hk
    have e : closes (Piece.close n :: rest) = n :: closes rest := rfl
    rw [e] at a2 a4
    rcases hn with hn | hn
    · rcases G.kd n k hk with rfl | rfl | rfl
      · exact hn rfl
      · exact not_nodup (G.n2 n hk).1 a2
      · exact (a4 n (List.mem_append_left _ (G.n3 n hk).1)).2 (List.mem_append_right _ List.mem_cons_self)
    · exact hn rfl
  | alone n =>
    have hk : lk n = some k := hk
    have e : alones (Piece.alone n :: rest) = n :: alones rest := rfl
    rw [e] at a3 a4
    have ia : n ∈ alones pre ++ n :: alones rest := List.mem_append_right _ List.mem_cons_self
    rcases G.kd n k hk with rfl | rfl | rfl
    · exact (a4 n ia).1 (List.mem_append_left _ (G.n1 n hk).1)
    · exact (a4 n ia).2 (List.mem_append_left _ (G.n2 n hk).1)
    · exact not_nodup (G.n3 n hk).1 a3
theorem setL_same (lk : Nat → Option Int) (n : Nat) (k : Int) : setL lk n k n = some k := by unfold setL; rw [if_pos rfl]
theorem setL_ne {lk : Nat → Option Int} {n m : Nat} {k : Int} (h : m ≠ n) : setL lk n k m = lk m := by unfold setL; rw [if_neg h]
theorem mem_snoc {l : List Nat} {m n : Nat} (h : m ∈ l ++ [n]) : m ∈ l ∨ m = n := by
  rcases (List.mem_append.mp h) with y | y
  · exact .inl y
  · exact .inr (by simpa using y)
theorem in_snoc (l : List Nat) (n : Nat) : n ∈ l ++ [n] := List.mem_append_right _ (by simp)
theorem Good.open_ {pre : Row} {lk : Nat → Option Int} {ls ps : List Nat} {n : Nat} (G : Good pre lk ls ps) (h : lk n = none) : Good (pre ++ [.open_ n]) (setL lk n 43) ls (ps ++ [n]) := by
  have ho : opens (pre ++ [.open_ n]) = opens pre ++ [n] := opens_app _ _
  have hc : closes (pre ++ [.open_ n]) = closes pre := (closes_app _ _).trans (List.append_nil _)
  have ha : alones (pre ++ [.open_ n]) = alones pre := (alones_app _ _).trans (List.append_nil _)
  have z := G.n0 n h
  have np : n ∉ ps := fun y => by rw [G.pl n y] at h; cases h
  have nls : n ∉ ls := fun y => by rw [G.ll n y] at h; cases h
  refine ⟨fun rest => ?_, fun m hm => ?_, fun m hm => ?_, fun m hm => ?_, fun m hm => ?_, fun m k hm => ?_, fun m hm => ?_, nodup_snoc G.pn np, ?_, ?_, ?_, fun m hm => ?_, fun m hm => ?_⟩
  · rw [List.append_assoc, G.eq, List.reverse_append]
    rfl
  · have ne : m ≠ n := fun y => by rw [y, setL_same] at hm; cases hm
    rw [setL_ne ne] at hm
    rw [ho, hc, ha]
    have q := G.n0 m hm
    exact ⟨fun y => (mem_snoc y).elim q.1 ne, q.2⟩
  · rw [ho, hc, ha]
    by_cases ne : m = n
    · rw [ne]
      exact ⟨in_snoc _ _, z.2.1, z.2.2, in_snoc _ _⟩
    · rw [setL_ne ne] at hm
      have q := G.n1 m hm
      exact ⟨List.mem_append_left _ q.1, q.2.1, q.2.2.1, List.mem_append_left _ q.2.2.2⟩
  · have ne : m ≠ n := fun y => by rw [y, setL_same] at hm; cases hm
    rw [setL_ne ne] at hm
    rw [ho, hc, ha]
    have q := G.n2 m hm
    exact ⟨q.1, q.2.1, q.2.2.imp_right fun y => List.mem_append_left _ y⟩
  · have ne : m ≠ n := fun y => by rw [y, setL_same] at hm; cases hm
    rw [setL_ne ne] at hm
    rw [ho, hc, ha]
    have q := G.n3 m hm
    exact ⟨q.1, fun y => (mem_snoc y).elim q.2.1 ne, q.2.2⟩
  · by_cases ne : m = n
    · rw [ne, setL_same] at hm
      cases hm
      exact .inl rfl
    · rw [setL_ne ne] at hm
      exact G.kd m k hm
  · rcases mem_snoc hm with y | y
    · rw [setL_ne (fun e => np (by rw [← e]; exact y))]
      exact G.pl m y
    · rw [y, setL_same]
  · rw [ho]; exact nodup_snoc G.no z.1
  · rw [hc]; exact G.nc
  · rw [ha]; exact G.na
  · rw [ho]
    intro y
    rcases mem_snoc y with y | y
    · exact G.nl m hm y
    · exact nls (by rw [← y]; exact hm)
  · rw [setL_ne (fun e => nls (by rw [← e]; exact hm))]
    exact G.ll m hm
theorem Good.alone {pre : Row} {lk : Nat → Option Int} {ls ps : List Nat} {n : Nat} (G : Good pre lk ls ps) (h : lk n = none) : Good (pre ++ [.alone n]) (setL lk n 46) ls ps := by
  have ho : opens (pre ++ [.alone n]) = opens pre := (opens_app _ _).trans (List.append_nil _)
  have hc : closes (pre ++ [.alone n]) = closes pre := (closes_app _ _).trans (List.append_nil _)
  have ha : alones (pre ++ [.alone n]) = alones pre ++ [n] := alones_app _ _
  have z := G.n0 n h
  have np : n ∉ ps := fun y => by rw [G.pl n y] at h; cases h
  have nls : n ∉ ls := fun y => by rw [G.ll n y] at h; cases h
  refine ⟨fun rest => ?_, fun m hm => ?_, fun m hm => ?_, fun m hm => ?_, fun m hm => ?_, fun m k hm => ?_, fun m hm => ?_, G.pn, ?_, ?_, ?_, fun m hm => ?_, fun m hm => ?_⟩
  · rw [List.append_assoc, G.eq]
    rfl
  · have ne : m ≠ n := fun y => by rw [y, setL_same] at hm; cases hm
    rw [setL_ne ne] at hm
    rw [ho, hc, ha]
    have q := G.n0 m hm
    exact ⟨q.1, q.2.1, fun y => (mem_snoc y).elim q.2.2 ne⟩
  · have ne : m ≠ n := fun y => by rw [y, setL_same] at hm; cases hm
    rw [setL_ne ne] at hm
    rw [ho, hc, ha]
    have q := G.n1 m hm
    exact ⟨q.1, q.2.1, fun y => (mem_snoc y).elim q.2.2.1 ne, q.2.2.2⟩
  · have ne : m ≠ n := fun y => by rw [y, setL_same] at hm; cases hm
    rw [setL_ne ne] at hm
    rw [ho, hc, ha]
    have q := G.n2 m hm
    exact ⟨q.1, fun y => (mem_snoc y).elim q.2.1 ne, q.2.2⟩
  · rw [ho, hc, ha]
    by_cases ne : m = n
    · rw [ne]
      exact ⟨in_snoc _ _, z.1, z.2.1⟩
    · rw [setL_ne ne] at hm
      have q := G.n3 m hm
      exact ⟨List.mem_append_left _ q.1, q.2⟩
  · by_cases ne : m = n
    · rw [ne, setL_same] at hm
      cases hm
      exact .inr (.inr rfl)
    · rw [setL_ne ne] at hm
      exact G.kd m k hm
  · rw [setL_ne (fun e => np (by rw [← e]; exact hm))]
    exact G.pl m hm
  · rw [ho]; exact G.no
  · rw [hc]; exact G.nc
  · rw [ha]; exact nodup_snoc G.na z.2.2
  · rw [ho]; exact G.nl m hm
  · rw [setL_ne (fun e => nls (by rw [← e]; exact hm))]
    exact G.ll m hm
/-- a close, the pile being empty -/
theorem Good.left {pre : Row} {lk : Nat → Option Int} {ls : List Nat} {n : Nat} (G : Good pre lk ls []) (h : lk n = none ∨ lk n = some 43) : Good (pre ++ [.close n]) (setL lk n 45) (ls ++ [n]) [] := by
  have h : lk n = none := h.resolve_right fun y => nomatch (G.n1 n y).2.2.2
  have ho : opens (pre ++ [.close n]) = opens pre := (opens_app _ _).trans (List.append_nil _)
  have hc : closes (pre ++ [.close n]) = closes pre ++ [n] := closes_app _ _
  have ha : alones (pre ++ [.close n]) = alones pre := (alones_app _ _).trans (List.append_nil _)
  have z := G.n0 n h
  refine ⟨fun rest => ?_, fun m hm => ?_, fun m hm => ?_, fun m hm => ?_, fun m hm => ?_, fun m k hm => ?_, fun m hm => ?_, G.pn, ?_, ?_, ?_, fun m hm => ?_, fun m hm => ?_⟩
  · rw [List.append_assoc, G.eq]
    rfl
  · have ne : m ≠ n := fun y => by rw [y, setL_same] at hm; cases hm
    rw [setL_ne ne] at hm
    rw [ho, hc, ha]
    have q := G.n0 m hm
    exact ⟨q.1, fun y => (mem_snoc y).elim q.2.1 ne, q.2.2⟩
  · have ne : m ≠ n := fun y => by rw [y, setL_same] at hm; cases hm
    rw [setL_ne ne] at hm
    exact absurd (G.n1 m hm).2.2.2 (fun y => nomatch y)
  · rw [ho, hc, ha]
    by_cases ne : m = n
    · rw [ne]
      exact ⟨in_snoc _ _, z.2.2, .inl (in_snoc _ _)⟩
    · rw [setL_ne ne] at hm
      have q := G.n2 m hm
      exact ⟨List.mem_append_left _ q.1, q.2.1, q.2.2.imp_left fun y => List.mem_append_left _ y⟩
  · have ne : m ≠ n := fun y => by rw [y, setL_same] at hm; cases hm
    rw [setL_ne ne] at hm
    rw [ho, hc, ha]
    have q := G.n3 m hm
    exact ⟨q.1, q.2.1, fun y => (mem_snoc y).elim q.2.2 ne⟩
  · by_cases ne : m = n
    · rw [ne, setL_same] at hm
      cases hm
      exact .inr (.inl rfl)
    · rw [setL_ne ne] at hm
      exact G.kd m k hm
  · exact nomatch hm
  · rw [ho]; exact G.no
  · rw [hc]; exact nodup_snoc G.nc z.2.1
  · rw [ha]; exact G.na
  · rw [ho]
    rcases mem_snoc hm with y | y
    · exact G.nl m y
    · rw [y]; exact z.1
  · rcases mem_snoc hm with y | y
    · have ne : m ≠ n := fun e => by
        have q := G.ll m y
        rw [e, h] at q
        cases q
      rw [setL_ne ne]
      exact G.ll m y
    · rw [y, setL_same]
/-- a close that takes its open from the pile's top -/
theorem Good.close_ {pre : Row} {lk : Nat → Option Int} {ls ps : List Nat} {n : Nat} (G : Good pre lk ls (ps ++ [n])) : Good (pre ++ [.close n]) (setL lk n 45) ls ps := by
  have h : lk n = some 43 := G.pl n (in_snoc _ _)
  have ho : opens (pre ++ [.close n]) = opens pre := (opens_app _ _).trans (List.append_nil _)
  have hc : closes (pre ++ [.close n]) = closes pre ++ [n] := closes_app _ _
  have ha : alones (pre ++ [.close n]) = alones pre := (alones_app _ _).trans (List.append_nil _)
  have z := G.n1 n h
  have pn := G.pn
  rw [List.nodup_append] at pn
  have np : n ∉ ps := fun y => pn.2.2 n y n (by simp) rfl
  have nls : n ∉ ls := fun y => by rw [G.ll n y] at h; cases h
  refine ⟨fun rest => ?_, fun m hm => ?_, fun m hm => ?_, fun m hm => ?_, fun m hm => ?_, fun m k hm => ?_, fun m hm => ?_, pn.1, ?_, ?_, ?_, fun m hm => ?_, fun m hm => ?_⟩
  · rw [List.append_assoc, G.eq, List.reverse_append]
    show (if n = n then halvesFrom ps.reverse ls rest else none) = _
    rw [if_pos rfl]
  · have ne : m ≠ n := fun y => by rw [y, setL_same] at hm; cases hm
    rw [setL_ne ne] at hm
    rw [ho, hc, ha]
    have q := G.n0 m hm
    exact ⟨q.1, fun y => (mem_snoc y).elim q.2.1 ne, q.2.2⟩
  · have ne : m ≠ n := fun y => by rw [y, setL_same] at hm; cases hm
    rw [setL_ne ne] at hm
    rw [ho, hc, ha]
    have q := G.n1 m hm
    exact ⟨q.1, fun y => (mem_snoc y).elim q.2.1 ne, q.2.2.1, (mem_snoc q.2.2.2).resolve_right ne⟩
  · rw [ho, hc, ha]
    by_cases ne : m = n
    · rw [ne]
      exact ⟨in_snoc _ _, z.2.2.1, .inr z.1⟩
    · rw [setL_ne ne] at hm
      have q := G.n2 m hm
      exact ⟨List.mem_append_left _ q.1, q.2.1, q.2.2⟩
  · have ne : m ≠ n := fun y => by rw [y, setL_same] at hm; cases hm
    rw [setL_ne ne] at hm
    rw [ho, hc, ha]
    have q := G.n3 m hm
    exact ⟨q.1, q.2.1, fun y => (mem_snoc y).elim q.2.2 ne⟩
  · by_cases ne : m = n
    · rw [ne, setL_same] at hm
      cases hm
      exact .inr (.inl rfl)
    · rw [setL_ne ne] at hm
      exact G.kd m k hm
  · rw [setL_ne (fun e => np (by rw [← e]; exact hm))]
    exact G.pl m (List.mem_append_left _ hm)
  · rw [ho]; exact G.no
  · rw [hc]; exact nodup_snoc G.nc z.2.1
  · rw [ha]; exact G.na
  · rw [ho]; exact G.nl m hm
  · rw [setL_ne (fun e => nls (by rw [← e]; exact hm))]
    exact G.ll m hm
/-- a close where another number is on top -/
theorem Good.cross {pre : Row} {lk : Nat → Option Int} {ls ps : List Nat} {m n : Nat} (G : Good pre lk ls (ps ++ [m])) (h : m ≠ n) (rest : Row) : straight (pre ++ .close n :: rest) = false := by
  rw [Bool.eq_false_iff]
  intro hs
  obtain ⟨x, eh, _⟩ := (straight_iff _).mp hs
  have z := G.eq (.close n :: rest)
  rw [List.reverse_append] at z
  have e : halvesFrom (m :: ps.reverse) ls (.close n :: rest) = none := by
    show (if m = n then halvesFrom ps.reverse ls rest else none) = _
    rw [if_neg h]
  have eh : halvesFrom [] [] (pre ++ .close n :: rest) = some x := eh
  rw [z] at eh
  have eh2 : halvesFrom (m :: ps.reverse) ls (.close n :: rest) = some x := eh
  rw [e] at eh2
  cases eh2
end Fr

namespace Fr
open Fh
/-! ### the same tags -/
end Fr

namespace Fr
open Fh
/-! ### documents -/
/-- the line that begins at i ends at j -/
structure Eol (ns : List Int) (i j : Nat) : Prop where
  le : i ≤ j
  hi : j ≤ ns.length
  no : ∀ k, i ≤ k → k < j → byteAt ns k ≠ 10
theorem bt_cut {ns : List Int} (hb : AllB ns) : ∀ (n i : Nat), i + n ≤ ns.length → (∀ k, i ≤ k → k < i + n → byteAt ns k ≠ 10) → (i + n = ns.length ∨ byteAt ns (i + n) = 10) →
    (Bt ns i).takeWhile (fun y : UInt8 => y != 10) = (Bt ns i).take n
  | 0, i, h1, _, h3 => by
    rw [List.take_zero]
    rcases at_or hb i with ⟨_, _, e⟩ | ⟨hi, c, e1, e2⟩
    · rw [e]; rfl
    · rcases h3 with h3 | h3
      · omega
      · rw [Nat.add_zero] at h3
        have hc : c = 10 := (u8_eq c 10 (by decide)).mpr (by omega)
        rw [e2, hc]
        rfl
  | n + 1, i, h1, h2, h3 => by
    rcases at_or hb i with ⟨hi, _, _⟩ | ⟨hi, c, e1, e2⟩
    · omega
    · have hc : ¬ c = 10 := fun z => by
        have := (u8_eq c 10 (by decide)).mp z
        exact h2 i (Nat.le_refl _) (by omega) (by omega)
      have hb2 : (c != 10) = true := by rw [bne_iff_ne]; exact hc
      rw [e2, List.takeWhile_cons, if_pos hb2, List.take_succ_cons]
      rw [bt_cut hb n (i + 1) (by omega) (fun k a b => h2 k (by omega) (by omega)) (by rw [show i + 1 + n = i + (n + 1) by omega]; exact h3)]
/-- the bytes of a stretch -/
def cutB (ns : List Int) (i j : Nat) : List Int := (ns.drop i).take (j - i)
theorem cutB_bytes (ns : List Int) (i j : Nat) : FaNeutral.bytesOf (cutB ns i j) = (Bt ns i).take (j - i) := by
  unfold cutB Bt FaNeutral.bytesOf
  simp only [List.map_take, List.map_drop]
theorem cutB_all {ns : List Int} (hb : AllB ns) (i j : Nat) : AllB (cutB ns i j) := fun x hx => hb x (List.mem_of_mem_drop (List.mem_of_mem_take hx))
theorem cutB_len (ns : List Int) (i j : Nat) : (cutB ns i j).length = min (j - i) (ns.length - i) := by unfold cutB; rw [List.length_take, List.length_drop]
/-- what a line's reading gives, or its fault: the program's way -/
def lineOf (ns : List Int) (i j : Nat) : Except Bad Line :=
  if byteAt ns i ≠ 124 ∧ byteAt ns i ≠ 62 then .error (1, i) else if j = ns.length then .error (5, j)
  else if byteAt ns i = 62 then (match rowRead (FaNeutral.bytesOf (cutB ns (i + 1) j)) with
    | .ok r => if PIECES < r.length then .error (4, i) else if paired r = false then .error (3, i) else .ok (.para r)
    | .error k => .error (2, i + 1 + k))
  else (match charsRead (FaNeutral.bytesOf (cutB ns (i + 1) j)) with
    | .ok t => if PIECES < t.length then .error (4, i) else .ok (.raw t)
    | .error k => .error (2, i + 1 + k))
theorem ch_n {b : Bytes} {v n : Nat} (h : charHere b = .ok (v, n)) : n ≤ 4 := by
  cases b with
  | nil => cases h
  | cons c r =>
    by_cases q : 32 ≤ c.toNat ∧ c.toNat ≤ 126
    · rw [ch_ascii q] at h
      cases h
      omega
    · by_cases q2 : 194 ≤ c.toNat ∧ c.toNat ≤ 244
      · rw [ch_more q2] at h
        cases e : goOn 4 (tailOf c.toNat + 1) 1 (headOf (lengthBy c.toNat) c.toNat) r with
        | error k => rw [e] at h; cases h
        | ok w =>
          rw [e] at h
          cases h
          have ht := tail_pos c.toNat
          omega
      · rw [ch_bad1 q q2] at h
        cases h
theorem dg_n : ∀ (b : Bytes) (n v w m : Nat), digitsHere n v b = .ok (w, m) → n ≤ 3 → m ≤ 3
  | [], n, v, w, m, h, _ => by rw [dg_nil] at h; cases h
  | c :: r, n, v, w, m, h, hn3 => by
    by_cases hn : n = 0
    · subst hn
      rw [dg_first] at h
      split at h
      · cases e : digitsHere 1 (c.toNat - 48) r with
        | error k => rw [e] at h; cases h
        | ok x =>
          rw [e] at h
          have q := dg_n r 1 _ x.1 x.2 e (by omega)
          cases h
          exact q
      · cases h
    · rw [dg_next hn] at h
      split at h
      · cases h
        exact hn3
      · split at h
        · rename_i hd
          cases e : digitsHere (n + 1) (10 * v + (c.toNat - 48)) r with
          | error k => rw [e] at h; cases h
          | ok x =>
            rw [e] at h
            have q := dg_n r (n + 1) _ x.1 x.2 e (by omega)
            cases h
            exact q
        · cases h
theorem pc_n {b : Bytes} {q : Piece} {n : Nat} (h : pieceHere b = .ok (q, n)) : n ≤ 6 := by
  cases b with
  | nil => cases h
  | cons c r =>
    simp only [pieceHere] at h
    by_cases hc : c = 123
    · rw [if_pos hc] at h
      cases r with
      | nil => cases h
      | cons s d =>
        have h : (if s = 123 then Except.ok (Piece.char 123, 2) else if s = 43 ∨ s = 45 ∨ s = 46 then (match digitsHere 0 0 d with
          | .ok x => Except.ok (tagOf s x.1, x.2 + 3)
          | .error k => .error (k + 2)) else .error 1) = .ok (q, n) := h
        split at h
        · cases h
          decide
        · split at h
          · cases e : digitsHere 0 0 d with
            | error k => rw [e] at h; cases h
            | ok x =>
              rw [e] at h
              have z := dg_n d 0 0 x.1 x.2 e (by omega)
              cases h
              omega
          · cases h
    · rw [if_neg hc] at h
      cases e : charHere (c :: r) with
      | error k => rw [e] at h; cases h
      | ok x =>
        rw [e] at h
        have z := ch_n (v := x.1) (n := x.2) e
        cases h
        omega
theorem rowFrom_n : ∀ (f p : Nat) (l : Row) (b : Bytes) (ps : Row), rowFrom f p l b = .ok ps → l.length ≤ ps.length ∧ b.length ≤ 6 * (ps.length - l.length)
  | f, p, l, [], ps, h => by
    rw [rf_nil] at h
    cases h
    rw [List.length_reverse, List.length_nil]
    omega
  | 0, p, l, c :: b, ps, h => by rw [rowFrom] at h; cases h
  | f + 1, p, l, c :: b, ps, h => by
    rw [rowFrom] at h
    cases e : pieceHere (c :: b) with
    | error k => rw [e] at h; cases h
    | ok x =>
      rw [e] at h
      have z := rowFrom_n f _ _ _ ps h
      have n6 := pc_n (q := x.1) (n := x.2) e
      rw [List.length_cons, List.length_drop] at z
      omega
theorem row_bytes {b : Bytes} {r : Row} (h : rowRead b = .ok r) (hr : r.length ≤ 4096) : b.length ≤ 65536 := by
  have z := rowFrom_n _ _ _ _ _ h
  rw [List.length_nil] at z
  omega
theorem df_nil {f at_ n : Nat} {d : Document} : docFrom f at_ n d [] = .ok d.reverse := by cases f <;> rw [docFrom]
theorem df_cons {f at_ n : Nat} {d : Document} {c : UInt8} {b : Bytes} : docFrom (f + 1) at_ n d (c :: b) = if LINES ≤ n then .error (6, at_) else
    if ((c :: b).takeWhile fun (y : UInt8) => y != 10).length = (c :: b).length then (if c = 124 ∨ c = 62 then .error (5, at_ + ((c :: b).takeWhile fun (y : UInt8) => y != 10).length) else .error (1, at_))
    else match lineRead at_ ((c :: b).takeWhile fun (y : UInt8) => y != 10) with
      | .error e => .error e
      | .ok l => docFrom f (at_ + ((c :: b).takeWhile fun (y : UInt8) => y != 10).length + 1) (n + 1) (l :: d) ((c :: b).drop (((c :: b).takeWhile fun (y : UInt8) => y != 10).length + 1)) := by
  rw [docFrom]
  rfl
structure DocI (ns : List Int) (i : Nat) (d : Document) : Prop where
  le : i ≤ ns.length
  eq : ∃ f, ns.length - i ≤ f ∧ docRead (FaNeutral.bytesOf ns) = docFrom f i d.length d.reverse (Bt ns i)
theorem DocI.start (ns : List Int) : DocI ns 0 [] := ⟨Nat.zero_le _, ns.length, Nat.le_refl _, (by
  unfold docRead
  rw [bytes_len]
  rfl)⟩
theorem DocI.done {ns : List Int} (hb : AllB ns) {d : Document} {i : Nat} (D : DocI ns i d) (h : ¬ i < ns.length) : docRead (FaNeutral.bytesOf ns) = .ok d := by
  obtain ⟨f, hf, e⟩ := D.eq
  have en : Bt ns i = [] := by
    rcases at_or hb i with ⟨_, _, z⟩ | ⟨z, _⟩
    · exact z
    · exact absurd z h
  rw [e, en, df_nil, List.reverse_reverse]
theorem DocI.many {ns : List Int} (hb : AllB ns) {d : Document} {i : Nat} (D : DocI ns i d) (h : i < ns.length) (hm : 16384 ≤ d.length) : docRead (FaNeutral.bytesOf ns) = .error (6, i) := by
  obtain ⟨f, hf, e⟩ := D.eq
  obtain ⟨g, rfl⟩ : ∃ g, f = g + 1 := ⟨f - 1, by omega⟩
  rcases at_or hb i with ⟨z, _, _⟩ | ⟨_, c, e1, e2⟩
  · omega
  · rw [e, e2, df_cons, if_pos (show LINES ≤ d.length from hm)]
theorem line_same {ns : List Int} (hb : AllB ns) {i j : Nat} (hi : i < ns.length) (E : Eol ns i j) (hj : j < ns.length) (h10 : byteAt ns j = 10) : lineRead i ((Bt ns i).take (j - i)) = lineOf ns i j := by
  rcases at_or hb i with ⟨z, _, _⟩ | ⟨_, c, e1, e2⟩
  · omega
  have hij := E.le
  have key : ∀ k : Nat, k < 256 → (c = UInt8.ofNat k ↔ byteAt ns i = (k : Int)) := fun k hk => by
    rw [u8_eq c k hk, e1]
    omega
  unfold lineOf
  by_cases e : i = j
  · subst e
    rw [Nat.sub_self, List.take_zero, if_pos ⟨by omega, by omega⟩]
    rfl
  · have ex : (Bt ns i).take (j - i) = c :: FaNeutral.bytesOf (cutB ns (i + 1) j) := by
      rw [cutB_bytes, e2, show j - i = (j - (i + 1)) + 1 by omega, List.take_succ_cons]
    rw [ex]
    generalize hbb : FaNeutral.bytesOf (cutB ns (i + 1) j) = bb
    have k124 : (c = 124 ↔ byteAt ns i = 124) := key 124 (by decide)
    have k62 : (c = 62 ↔ byteAt ns i = 62) := key 62 (by decide)
    simp only [lineRead]
    by_cases h1 : c = 124
    · have b1 := k124.mp h1
      rw [if_pos h1, if_neg (by rw [b1]; exact fun z => z.1 rfl), if_neg (by omega), if_neg (by rw [b1]; decide)]
      cases charsRead bb <;> rfl
    · by_cases h2 : c = 62
      · have b2 := k62.mp h2
        rw [if_neg h1, if_pos h2, if_neg (by rw [b2]; exact fun z => z.2 rfl), if_neg (by omega), if_pos b2]
        cases er : rowRead bb with
        | error k => rfl
        | ok r =>
          show (if PIECES < r.length ∨ ROWTEXT < bb.length then Except.error (4, i) else _) = if PIECES < r.length then _ else _
          by_cases h3 : PIECES < r.length
          · rw [if_pos (.inl h3), if_pos h3]
          · have h4 : r.length ≤ 4096 := Nat.le_of_not_lt h3
            have h5 := row_bytes er h4
            rw [if_neg h3, if_neg (fun z => z.elim h3 fun y => absurd h5 (Nat.not_le_of_lt y))]
      · rw [if_neg h1, if_neg h2, if_pos ⟨fun z => h1 (k124.mpr z), fun z => h2 (k62.mpr z)⟩]
theorem DocI.step {ns : List Int} (hb : AllB ns) {d : Document} {i j : Nat} (D : DocI ns i d) (hi : i < ns.length) (hm : ¬ 16384 ≤ d.length) (E : Eol ns i j) (hj : j = ns.length ∨ byteAt ns j = 10) :
    (∀ e, lineOf ns i j = .error e → docRead (FaNeutral.bytesOf ns) = .error e) ∧ (∀ l, lineOf ns i j = .ok l → j < ns.length ∧ DocI ns (j + 1) (d ++ [l])) := by
  obtain ⟨f, hf, e⟩ := D.eq
  obtain ⟨g, rfl⟩ : ∃ g, f = g + 1 := ⟨f - 1, by omega⟩
  have hij := E.le
  have hjn := E.hi
  have tw : (Bt ns i).takeWhile (fun y : UInt8 => y != 10) = (Bt ns i).take (j - i) := bt_cut hb (j - i) i (by omega) (fun k a b => E.no k a (by omega)) (by rw [show i + (j - i) = j by omega]; exact hj)
  have tl : ((Bt ns i).take (j - i)).length = j - i := by rw [List.length_take, bt_len]; omega
  have bl := bt_len ns i
  rcases at_or hb i with ⟨z, _, _⟩ | ⟨_, c, e1, e2⟩
  · omega
  rw [e2] at tw tl bl e
  rw [df_cons, if_neg (show ¬ LINES ≤ d.length from hm), tw, tl, bl] at e
  have k124 : (c = 124 ↔ byteAt ns i = 124) := (u8_eq c 124 (by decide)).trans (by rw [e1]; omega)
  have k62 : (c = 62 ↔ byteAt ns i = 62) := (u8_eq c 62 (by decide)).trans (by rw [e1]; omega)
  by_cases hjl : j = ns.length
  · rw [if_pos (by omega)] at e
    have el : lineOf ns i j = if c = 124 ∨ c = 62 then .error (5, j) else .error (1, i) := by
      unfold lineOf
      by_cases h : c = 124 ∨ c = 62
      · rw [if_pos h, if_neg (fun z => h.elim (fun y => z.1 (k124.mp y)) fun y => z.2 (k62.mp y)), if_pos hjl]
      · rw [if_neg h, if_pos ⟨fun z => h (.inl (k124.mpr z)), fun z => h (.inr (k62.mpr z))⟩]
    refine ⟨fun x hx => ?_, fun l hl => ?_⟩
    · rw [e, show i + (j - i) = j by omega]
      rw [el] at hx
      by_cases h : c = 124 ∨ c = 62
      · rw [if_pos h] at hx ⊢
        cases hx
        rfl
      · rw [if_neg h] at hx ⊢
        cases hx
        rfl
    · rw [el] at hl
      split at hl <;> cases hl
  · have hlt : j < ns.length := by omega
    have h10 := hj.resolve_left hjl
    rw [if_neg (by omega)] at e
    have ls := line_same hb hi E hlt h10
    rw [e2] at ls
    rw [ls] at e
    refine ⟨fun x hx => ?_, fun l hl => ?_⟩
    · rw [hx] at e
      exact e
    · rw [hl] at e
      refine ⟨hlt, by omega, g, by omega, ?_⟩
      have e : docRead (FaNeutral.bytesOf ns) = docFrom g (i + (j - i) + 1) (d.length + 1) (l :: d.reverse) ((c :: Bt ns (i + 1)).drop (j - i + 1)) := e
      rw [e, List.length_append, List.length_singleton, List.reverse_append, show i + (j - i) + 1 = j + 1 by omega]
      show docFrom g (j + 1) (d.length + 1) (l :: d.reverse) _ = docFrom g (j + 1) (d.length + 1) (l :: d.reverse) _
      rw [← e2]
      unfold Bt
      rw [List.drop_drop, show i + (j - i + 1) = j + 1 by omega]
/-! ### what a call over a document answers -/
end Fr

namespace Fr
open PySem PySem.Spec PyProof.Rows L2
/-- a def of the text: its object, how it binds -/
def FB (K : PySem.W.Frag) (x qual : Str) (st : Stmt) (f : Addr) (ps : List Str) : Prop := ∃ fd, Fun K x qual st f fd ∧ Binds K fd ps []
/-- a module's whole number -/
def GI (mg : Str → Option Value) (x : Str) (i : Int) : Prop := ∃ tk, mg x = some (.int i tk)
theorem pe_gi {X : Cx} {x : Str} {i : Int} {pos : Pos} (hg : Gl X x) (h : GI X.mg x i) (hd : (x == ("__debug__" : Str)) = false := by decide) : PE X (.Name x pos) (tC (.int i)) := by
  obtain ⟨tk, h⟩ := h
  exact pe_glob hg h ⟨tk, rfl⟩ hd
/-- a tuple of the text -/
theorem tup_ii {K : PySem.W.Frag} {b : Addr} {its : Array Value} {od : Option Addr} {n : Nat} {sl : Array (Option Value)} {xs : List V} (l : K.lookup b = some ⟨.type "tuple", od, .seq its n, sl⟩) (hv : Vals xs its.toList) (hz : its.size ≤ 100 := by exact Nat.le_of_ble_eq_true rfl) : ∀ H, SqT K H b xs := fun H =>
  .inr ⟨_, _, _, l, rfl, rfl, Nat.le_trans hz (by rw [sizeLine_eq]; decide), hv⟩
end Fr
/-! ### the text by places -/
namespace Fr
open PySem PySem.Spec PyProof.Rows L2
def top (i : Nat) : Stmt := PySem.Challenge.pw_ferryrows_s10_count.main.body.getD i (.Pass ⟨0, 0, 0, 0⟩)
abbrev s_Fault_init : Stmt := inClass (top 18) 0
abbrev s_LineFault_init : Stmt := inClass (top 58) 0
abbrev s_Scan_init : Stmt := inClass (top 19) 0
abbrev s_Scan_peek : Stmt := inClass (top 19) 1
abbrev s_Scan_take : Stmt := inClass (top 19) 2
abbrev s_Unit_init : Stmt := inClass (top 39) 0
abbrev s_Reading_init : Stmt := inClass (top 59) 0
abbrev s_Line_init : Stmt := inClass (top 60) 0
abbrev s_tail_length : Stmt := top 20
abbrev s_with_tail_byte : Stmt := top 21
abbrev s_take_code : Stmt := top 22
abbrev s_take_character : Stmt := top 23
abbrev s_take_number : Stmt := top 24
abbrev s_take_tag : Stmt := top 25
abbrev s_take_piece : Stmt := top 26
abbrev s_read_each : Stmt := top 27
abbrev s_read_pieces : Stmt := top 28
abbrev s_read_characters : Stmt := top 29
abbrev s_tail_byte : Stmt := top 30
abbrev s_write_character : Stmt := top 31
abbrev s_write_number : Stmt := top 32
abbrev s_only_tags : Stmt := top 33
abbrev s_find_places : Stmt := top 34
abbrev s_rename_numbers : Stmt := top 35
abbrev s_find_halves : Stmt := top 36
abbrev s_is_sign : Stmt := top 37
abbrev s_is_of_word : Stmt := top 38
abbrev s_make_unit : Stmt := top 40
abbrev s_find_units : Stmt := top 41
abbrev s_count_pieces : Stmt := top 61
abbrev s_count_characters : Stmt := top 62
abbrev s_count_tags : Stmt := top 63
abbrev s_count_words : Stmt := top 64
abbrev s_tell_paired : Stmt := top 65
abbrev s_read_behind_mark : Stmt := top 67
abbrev s_read_line : Stmt := top 68
abbrev s_find_line_end : Stmt := top 69
abbrev s_read_lines : Stmt := top 70
abbrev s_read_document : Stmt := top 71
abbrev s_count : Stmt := top 72
set_option genInjectivity false in
set_option genSizeOf false in
structure Adr where
  C_Fault : Addr
  N_Fault : Addr
  C_LineFault : Addr
  N_LineFault : Addr
  C_Scan : Addr
  C_Unit : Addr
  C_Reading : Addr
  C_Line : Addr
  f_Fault_init : Addr
  f_LineFault_init : Addr
  f_Scan_init : Addr
  f_Scan_peek : Addr
  f_Scan_take : Addr
  f_Unit_init : Addr
  f_Reading_init : Addr
  f_Line_init : Addr
  f_tail_length : Addr
  f_with_tail_byte : Addr
  f_take_code : Addr
  f_take_character : Addr
  f_take_number : Addr
  f_take_tag : Addr
  f_take_piece : Addr
  f_read_each : Addr
  f_read_pieces : Addr
  f_read_characters : Addr
  f_tail_byte : Addr
  f_write_character : Addr
  f_write_number : Addr
  f_only_tags : Addr
  f_find_places : Addr
  f_rename_numbers : Addr
  f_find_halves : Addr
  f_is_sign : Addr
  f_is_of_word : Addr
  f_make_unit : Addr
  f_find_units : Addr
  f_count_pieces : Addr
  f_count_characters : Addr
  f_count_tags : Addr
  f_count_words : Addr
  f_tell_paired : Addr
  f_read_behind_mark : Addr
  f_read_line : Addr
  f_find_line_end : Addr
  f_read_lines : Addr
  f_read_document : Addr
  f_count : Addr
  a_TAIL_BYTES : Addr
  a_SECOND_BYTES : Addr
  a_SECOND_BYTES_0 : Addr
  a_SECOND_BYTES_1 : Addr
  a_SECOND_BYTES_2 : Addr
  a_SECOND_BYTES_3 : Addr
  a_SECOND_BYTES_4 : Addr
  a_SIGNS : Addr
  a_SIGNS_0 : Addr
  a_SIGNS_1 : Addr
  a_SIGNS_2 : Addr
  a_SIGNS_3 : Addr
  a_SIGNS_4 : Addr
  a_SIGNS_5 : Addr
  a_SIGNS_6 : Addr
  a_SIGNS_7 : Addr
  a_SIGNS_8 : Addr
  a_COUNTED : Addr
structure Txt (P : Program) (w : World) (K : PySem.W.Frag) (mg : Str → Option Value) (a : Adr) : Prop where
  x_Fault : Exc K a.C_Fault a.N_Fault a.f_Fault_init
  n_Fault_place : NoX K a.N_Fault "place"
  g_Fault : mg "Fault" = some (.ref a.C_Fault)
  x_LineFault : Exc K a.C_LineFault a.N_LineFault a.f_LineFault_init
  n_LineFault_kind : NoX K a.N_LineFault "kind"
  n_LineFault_place : NoX K a.N_LineFault "place"
  g_LineFault : mg "LineFault" = some (.ref a.C_LineFault)
  c_Scan : Cls K a.C_Scan
  n_Scan_t : NoAttr K a.C_Scan "t"
  n_Scan_at : NoAttr K a.C_Scan "at"
  g_Scan : mg "Scan" = some (.ref a.C_Scan)
  mk_Scan : Mk K a.C_Scan a.f_Scan_init
  m_Scan_peek : Meth K a.C_Scan "peek" a.f_Scan_peek
  m_Scan_take : Meth K a.C_Scan "take" a.f_Scan_take
  c_Unit : Cls K a.C_Unit
  n_Unit_group : NoAttr K a.C_Unit "group"
  n_Unit_tag_kind : NoAttr K a.C_Unit "tag_kind"
  n_Unit_text : NoAttr K a.C_Unit "text"
  g_Unit : mg "Unit" = some (.ref a.C_Unit)
  mk_Unit : Mk K a.C_Unit a.f_Unit_init
  c_Reading : Cls K a.C_Reading
  n_Reading_parts : NoAttr K a.C_Reading "parts"
  n_Reading_refusal : NoAttr K a.C_Reading "refusal"
  g_Reading : mg "Reading" = some (.ref a.C_Reading)
  mk_Reading : Mk K a.C_Reading a.f_Reading_init
  c_Line : Cls K a.C_Line
  n_Line_is_paragraph : NoAttr K a.C_Line "is_paragraph"
  n_Line_text : NoAttr K a.C_Line "text"
  n_Line_pieces : NoAttr K a.C_Line "pieces"
  g_Line : mg "Line" = some (.ref a.C_Line)
  mk_Line : Mk K a.C_Line a.f_Line_init
  g_tail_length : mg "tail_length" = some (.ref a.f_tail_length)
  g_with_tail_byte : mg "with_tail_byte" = some (.ref a.f_with_tail_byte)
  g_take_code : mg "take_code" = some (.ref a.f_take_code)
  g_take_character : mg "take_character" = some (.ref a.f_take_character)
  g_take_number : mg "take_number" = some (.ref a.f_take_number)
  g_take_tag : mg "take_tag" = some (.ref a.f_take_tag)
  g_take_piece : mg "take_piece" = some (.ref a.f_take_piece)
  g_read_each : mg "read_each" = some (.ref a.f_read_each)
  g_read_pieces : mg "read_pieces" = some (.ref a.f_read_pieces)
  g_read_characters : mg "read_characters" = some (.ref a.f_read_characters)
  g_tail_byte : mg "tail_byte" = some (.ref a.f_tail_byte)
  g_write_character : mg "write_character" = some (.ref a.f_write_character)
  g_write_number : mg "write_number" = some (.ref a.f_write_number)
  g_only_tags : mg "only_tags" = some (.ref a.f_only_tags)
  g_find_places : mg "find_places" = some (.ref a.f_find_places)
  g_rename_numbers : mg "rename_numbers" = some (.ref a.f_rename_numbers)
  g_find_halves : mg "find_halves" = some (.ref a.f_find_halves)
  g_is_sign : mg "is_sign" = some (.ref a.f_is_sign)
  g_is_of_word : mg "is_of_word" = some (.ref a.f_is_of_word)
  g_make_unit : mg "make_unit" = some (.ref a.f_make_unit)
  g_find_units : mg "find_units" = some (.ref a.f_find_units)
  g_count_pieces : mg "count_pieces" = some (.ref a.f_count_pieces)
  g_count_characters : mg "count_characters" = some (.ref a.f_count_characters)
  g_count_tags : mg "count_tags" = some (.ref a.f_count_tags)
  g_count_words : mg "count_words" = some (.ref a.f_count_words)
  g_tell_paired : mg "tell_paired" = some (.ref a.f_tell_paired)
  g_read_behind_mark : mg "read_behind_mark" = some (.ref a.f_read_behind_mark)
  g_read_line : mg "read_line" = some (.ref a.f_read_line)
  g_find_line_end : mg "find_line_end" = some (.ref a.f_find_line_end)
  g_read_lines : mg "read_lines" = some (.ref a.f_read_lines)
  g_read_document : mg "read_document" = some (.ref a.f_read_document)
  g_count : mg "count" = some (.ref a.f_count)
  b_len : mg "len" = none
  b_range : mg "range" = none
  b_ord : mg "ord" = none
  b_str : mg "str" = none
  b_sum : mg "sum" = none
  i_CHARACTER : GI mg "CHARACTER" (0)
  i_OPENING : GI mg "OPENING" (43)
  i_CLOSING : GI mg "CLOSING" (45)
  i_ALONE : GI mg "ALONE" (46)
  i_WORD : GI mg "WORD" (0)
  i_SIGN : GI mg "SIGN" (1)
  i_TAG : GI mg "TAG" (2)
  i_BLANK : GI mg "BLANK" (32)
  i_NOUGHT : GI mg "NOUGHT" (48)
  i_ONE : GI mg "ONE" (49)
  i_NINE : GI mg "NINE" (57)
  i_LEFT_BRACE : GI mg "LEFT_BRACE" (123)
  i_RIGHT_BRACE : GI mg "RIGHT_BRACE" (125)
  i_NO_BYTE : GI mg "NO_BYTE" (-1)
  i_DONE : GI mg "DONE" (0)
  i_NO_SUCH_TEXT : GI mg "NO_SUCH_TEXT" (-5)
  i_TOO_LARGE : GI mg "TOO_LARGE" (-6)
  i_MOST_PIECES : GI mg "MOST_PIECES" (4096)
  i_MOST_DOCUMENT_BYTES : GI mg "MOST_DOCUMENT_BYTES" (262144)
  i_MOST_LINES : GI mg "MOST_LINES" (16384)
  i_LINE_END : GI mg "LINE_END" (10)
  i_RAW_MARK : GI mg "RAW_MARK" (124)
  i_PARAGRAPH_MARK : GI mg "PARAGRAPH_MARK" (62)
  i_TOO_MANY_LINES : GI mg "TOO_MANY_LINES" (6)
  i_NO_MARK : GI mg "NO_MARK" (1)
  i_NOT_ENDED : GI mg "NOT_ENDED" (5)
  i_WRONG_BYTE : GI mg "WRONG_BYTE" (2)
  i_LINE_TOO_LARGE : GI mg "LINE_TOO_LARGE" (4)
  i_NOT_PAIRED : GI mg "NOT_PAIRED" (3)
  g_TAIL_BYTES : mg "TAIL_BYTES" = some (.ref a.a_TAIL_BYTES)
  t_TAIL_BYTES : ∀ H, SqT K H a.a_TAIL_BYTES [.int (128), .int (191)]
  g_SECOND_BYTES : mg "SECOND_BYTES" = some (.ref a.a_SECOND_BYTES)
  t_SECOND_BYTES_0 : ∀ H, SqT K H a.a_SECOND_BYTES_0 [.int (160), .int (191)]
  t_SECOND_BYTES_1 : ∀ H, SqT K H a.a_SECOND_BYTES_1 [.int (160), .int (191)]
  t_SECOND_BYTES_2 : ∀ H, SqT K H a.a_SECOND_BYTES_2 [.int (128), .int (159)]
  t_SECOND_BYTES_3 : ∀ H, SqT K H a.a_SECOND_BYTES_3 [.int (144), .int (191)]
  t_SECOND_BYTES_4 : ∀ H, SqT K H a.a_SECOND_BYTES_4 [.int (128), .int (143)]
  d_SECOND_BYTES : KDict P w K a.a_SECOND_BYTES [(.inl 194, .ref a.a_SECOND_BYTES_0), (.inl 224, .ref a.a_SECOND_BYTES_1), (.inl 237, .ref a.a_SECOND_BYTES_2), (.inl 240, .ref a.a_SECOND_BYTES_3), (.inl 244, .ref a.a_SECOND_BYTES_4)]
  g_SIGNS : mg "SIGNS" = some (.ref a.a_SIGNS)
  t_SIGNS : ∀ H, SqT K H a.a_SIGNS [.ref a.a_SIGNS_0, .ref a.a_SIGNS_1, .ref a.a_SIGNS_2, .ref a.a_SIGNS_3, .ref a.a_SIGNS_4, .ref a.a_SIGNS_5, .ref a.a_SIGNS_6, .ref a.a_SIGNS_7, .ref a.a_SIGNS_8]
  t_SIGNS_0 : ∀ H, SqT K H a.a_SIGNS_0 [.int (33), .int (47)]
  t_SIGNS_1 : ∀ H, SqT K H a.a_SIGNS_1 [.int (58), .int (64)]
  t_SIGNS_2 : ∀ H, SqT K H a.a_SIGNS_2 [.int (91), .int (96)]
  t_SIGNS_3 : ∀ H, SqT K H a.a_SIGNS_3 [.int (123), .int (126)]
  t_SIGNS_4 : ∀ H, SqT K H a.a_SIGNS_4 [.int (161), .int (191)]
  t_SIGNS_5 : ∀ H, SqT K H a.a_SIGNS_5 [.int (215), .int (215)]
  t_SIGNS_6 : ∀ H, SqT K H a.a_SIGNS_6 [.int (247), .int (247)]
  t_SIGNS_7 : ∀ H, SqT K H a.a_SIGNS_7 [.int (8208), .int (8303)]
  t_SIGNS_8 : ∀ H, SqT K H a.a_SIGNS_8 [.int (12288), .int (12351)]
  g_COUNTED : mg "COUNTED" = some (.ref a.a_COUNTED)
  t_COUNTED : ∀ H, SqT K H a.a_COUNTED [.ref a.f_count_pieces, .ref a.f_count_characters, .ref a.f_count_tags, .ref a.f_count_words]
  d_Fault_init : FB K "__init__" "Fault.__init__" s_Fault_init a.f_Fault_init ["self", "place"]
  d_LineFault_init : FB K "__init__" "LineFault.__init__" s_LineFault_init a.f_LineFault_init ["self", "kind", "place"]
  d_Scan_init : FB K "__init__" "Scan.__init__" s_Scan_init a.f_Scan_init ["self", "t"]
  d_Scan_peek : FB K "peek" "Scan.peek" s_Scan_peek a.f_Scan_peek ["self"]
  d_Scan_take : FB K "take" "Scan.take" s_Scan_take a.f_Scan_take ["self", "low", "high"]
  d_Unit_init : FB K "__init__" "Unit.__init__" s_Unit_init a.f_Unit_init ["self", "group", "tag_kind", "text"]
  d_Reading_init : FB K "__init__" "Reading.__init__" s_Reading_init a.f_Reading_init ["self", "parts", "refusal"]
  d_Line_init : FB K "__init__" "Line.__init__" s_Line_init a.f_Line_init ["self", "is_paragraph", "text", "pieces"]
  d_tail_length : FB K "tail_length" "tail_length" s_tail_length a.f_tail_length ["first"]
  d_with_tail_byte : FB K "with_tail_byte" "with_tail_byte" s_with_tail_byte a.f_with_tail_byte ["code", "byte"]
  d_take_code : FB K "take_code" "take_code" s_take_code a.f_take_code ["scan"]
  d_take_character : FB K "take_character" "take_character" s_take_character a.f_take_character ["scan"]
  d_take_number : FB K "take_number" "take_number" s_take_number a.f_take_number ["scan"]
  d_take_tag : FB K "take_tag" "take_tag" s_take_tag a.f_take_tag ["scan"]
  d_take_piece : FB K "take_piece" "take_piece" s_take_piece a.f_take_piece ["scan"]
  d_read_each : FB K "read_each" "read_each" s_read_each a.f_read_each ["t", "take_one"]
  d_read_pieces : FB K "read_pieces" "read_pieces" s_read_pieces a.f_read_pieces ["t"]
  d_read_characters : FB K "read_characters" "read_characters" s_read_characters a.f_read_characters ["t"]
  d_tail_byte : FB K "tail_byte" "tail_byte" s_tail_byte a.f_tail_byte ["code"]
  d_write_character : FB K "write_character" "write_character" s_write_character a.f_write_character ["code"]
  d_write_number : FB K "write_number" "write_number" s_write_number a.f_write_number ["number"]
  d_only_tags : FB K "only_tags" "only_tags" s_only_tags a.f_only_tags ["pieces"]
  d_find_places : FB K "find_places" "find_places" s_find_places a.f_find_places ["pieces"]
  d_rename_numbers : FB K "rename_numbers" "rename_numbers" s_rename_numbers a.f_rename_numbers ["pieces"]
  d_find_halves : FB K "find_halves" "find_halves" s_find_halves a.f_find_halves ["pieces"]
  d_is_sign : FB K "is_sign" "is_sign" s_is_sign a.f_is_sign ["code"]
  d_is_of_word : FB K "is_of_word" "is_of_word" s_is_of_word a.f_is_of_word ["kind", "number"]
  d_make_unit : FB K "make_unit" "make_unit" s_make_unit a.f_make_unit ["kind", "number"]
  d_find_units : FB K "find_units" "find_units" s_find_units a.f_find_units ["pieces"]
  d_count_pieces : FB K "count_pieces" "count_pieces" s_count_pieces a.f_count_pieces ["pieces"]
  d_count_characters : FB K "count_characters" "count_characters" s_count_characters a.f_count_characters ["pieces"]
  d_count_tags : FB K "count_tags" "count_tags" s_count_tags a.f_count_tags ["pieces"]
  d_count_words : FB K "count_words" "count_words" s_count_words a.f_count_words ["pieces"]
  d_tell_paired : FB K "tell_paired" "tell_paired" s_tell_paired a.f_tell_paired ["pieces"]
  d_read_behind_mark : FB K "read_behind_mark" "read_behind_mark" s_read_behind_mark a.f_read_behind_mark ["is_paragraph", "text", "first"]
  d_read_line : FB K "read_line" "read_line" s_read_line a.f_read_line ["t", "start", "end"]
  d_find_line_end : FB K "find_line_end" "find_line_end" s_find_line_end a.f_find_line_end ["t", "start"]
  d_read_lines : FB K "read_lines" "read_lines" s_read_lines a.f_read_lines ["t"]
  d_read_document : FB K "read_document" "read_document" s_read_document a.f_read_document ["t"]
  d_count : FB K "count" "count" s_count a.f_count ["t"]
theorem txt_mk {P : Program} {w : World} {K : PySem.W.Frag} {h : Heap} {mg : Str → Option Value} (X : K.In h) (G : h.Ns mainGlobals mg)
    {C_Fault N_Fault C_LineFault N_LineFault C_Scan C_Unit C_Reading C_Line f_Fault_init f_LineFault_init f_Scan_init f_Scan_peek f_Scan_take f_Unit_init f_Reading_init f_Line_init f_tail_length f_with_tail_byte f_take_code f_take_character f_take_number f_take_tag f_take_piece f_read_each f_read_pieces f_read_characters f_tail_byte f_write_character f_write_number f_only_tags f_find_places f_rename_numbers f_find_halves f_is_sign f_is_of_word f_make_unit f_find_units f_count_pieces f_count_characters f_count_tags f_count_words f_tell_paired f_read_behind_mark f_read_line f_find_line_end f_read_lines f_read_document f_count a_TAIL_BYTES a_SECOND_BYTES a_SECOND_BYTES_0 a_SECOND_BYTES_1 a_SECOND_BYTES_2 a_SECOND_BYTES_3 a_SECOND_BYTES_4 a_SIGNS a_SIGNS_0 a_SIGNS_1 a_SIGNS_2 a_SIGNS_3 a_SIGNS_4 a_SIGNS_5 a_SIGNS_6 a_SIGNS_7 a_SIGNS_8 a_COUNTED : Addr}
    {od_Fault_init an_Fault_init od_LineFault_init an_LineFault_init od_Scan_init an_Scan_init od_Scan_peek an_Scan_peek od_Scan_take an_Scan_take od_Unit_init an_Unit_init od_Reading_init an_Reading_init od_Line_init an_Line_init od_tail_length an_tail_length od_with_tail_byte an_with_tail_byte od_take_code an_take_code od_take_character an_take_character od_take_number an_take_number od_take_tag an_take_tag od_take_piece an_take_piece od_read_each an_read_each od_read_pieces an_read_pieces od_read_characters an_read_characters od_tail_byte an_tail_byte od_write_character an_write_character od_write_number an_write_number od_only_tags an_only_tags od_find_places an_find_places od_rename_numbers an_rename_numbers od_find_halves an_find_halves od_is_sign an_is_sign od_is_of_word an_is_of_word od_make_unit an_make_unit od_find_units an_find_units od_count_pieces an_count_pieces od_count_characters an_count_characters od_count_tags an_count_tags od_count_words an_count_words od_tell_paired an_tell_paired od_read_behind_mark an_read_behind_mark od_read_line an_read_line od_find_line_end an_find_line_end od_read_lines an_read_lines od_read_document an_read_document od_count an_count : Option Addr}
    {sl_Fault_init sl_LineFault_init sl_Scan_init sl_Scan_peek sl_Scan_take sl_Unit_init sl_Reading_init sl_Line_init sl_tail_length sl_with_tail_byte sl_take_code sl_take_character sl_take_number sl_take_tag sl_take_piece sl_read_each sl_read_pieces sl_read_characters sl_tail_byte sl_write_character sl_write_number sl_only_tags sl_find_places sl_rename_numbers sl_find_halves sl_is_sign sl_is_of_word sl_make_unit sl_find_units sl_count_pieces sl_count_characters sl_count_tags sl_count_words sl_tell_paired sl_read_behind_mark sl_read_line sl_find_line_end sl_read_lines sl_read_document sl_count : Array (Option Value)}
    {oc_Fault_init kV_Fault_init dc_Fault_init pm_Fault_init cd_Fault_init ct_Fault_init oc_LineFault_init kV_LineFault_init dc_LineFault_init pm_LineFault_init cd_LineFault_init ct_LineFault_init oc_Scan_init kV_Scan_init dc_Scan_init pm_Scan_init cd_Scan_init ct_Scan_init oc_Scan_peek kV_Scan_peek dc_Scan_peek pm_Scan_peek cd_Scan_peek ct_Scan_peek oc_Scan_take kV_Scan_take dc_Scan_take pm_Scan_take cd_Scan_take ct_Scan_take oc_Unit_init kV_Unit_init dc_Unit_init pm_Unit_init cd_Unit_init ct_Unit_init oc_Reading_init kV_Reading_init dc_Reading_init pm_Reading_init cd_Reading_init ct_Reading_init oc_Line_init kV_Line_init dc_Line_init pm_Line_init cd_Line_init ct_Line_init oc_tail_length kV_tail_length dc_tail_length pm_tail_length cd_tail_length ct_tail_length oc_with_tail_byte kV_with_tail_byte dc_with_tail_byte pm_with_tail_byte cd_with_tail_byte ct_with_tail_byte oc_take_code kV_take_code dc_take_code pm_take_code cd_take_code ct_take_code oc_take_character kV_take_character dc_take_character pm_take_character cd_take_character ct_take_character oc_take_number kV_take_number dc_take_number pm_take_number cd_take_number ct_take_number oc_take_tag kV_take_tag dc_take_tag pm_take_tag cd_take_tag ct_take_tag oc_take_piece kV_take_piece dc_take_piece pm_take_piece cd_take_piece ct_take_piece oc_read_each kV_read_each dc_read_each pm_read_each cd_read_each ct_read_each oc_read_pieces kV_read_pieces dc_read_pieces pm_read_pieces cd_read_pieces ct_read_pieces oc_read_characters kV_read_characters dc_read_characters pm_read_characters cd_read_characters ct_read_characters oc_tail_byte kV_tail_byte dc_tail_byte pm_tail_byte cd_tail_byte ct_tail_byte oc_write_character kV_write_character dc_write_character pm_write_character cd_write_character ct_write_character oc_write_number kV_write_number dc_write_number pm_write_number cd_write_number ct_write_number oc_only_tags kV_only_tags dc_only_tags pm_only_tags cd_only_tags ct_only_tags oc_find_places kV_find_places dc_find_places pm_find_places cd_find_places ct_find_places oc_rename_numbers kV_rename_numbers dc_rename_numbers pm_rename_numbers cd_rename_numbers ct_rename_numbers oc_find_halves kV_find_halves dc_find_halves pm_find_halves cd_find_halves ct_find_halves oc_is_sign kV_is_sign dc_is_sign pm_is_sign cd_is_sign ct_is_sign oc_is_of_word kV_is_of_word dc_is_of_word pm_is_of_word cd_is_of_word ct_is_of_word oc_make_unit kV_make_unit dc_make_unit pm_make_unit cd_make_unit ct_make_unit oc_find_units kV_find_units dc_find_units pm_find_units cd_find_units ct_find_units oc_count_pieces kV_count_pieces dc_count_pieces pm_count_pieces cd_count_pieces ct_count_pieces oc_count_characters kV_count_characters dc_count_characters pm_count_characters cd_count_characters ct_count_characters oc_count_tags kV_count_tags dc_count_tags pm_count_tags cd_count_tags ct_count_tags oc_count_words kV_count_words dc_count_words pm_count_words cd_count_words ct_count_words oc_tell_paired kV_tell_paired dc_tell_paired pm_tell_paired cd_tell_paired ct_tell_paired oc_read_behind_mark kV_read_behind_mark dc_read_behind_mark pm_read_behind_mark cd_read_behind_mark ct_read_behind_mark oc_read_line kV_read_line dc_read_line pm_read_line cd_read_line ct_read_line oc_find_line_end kV_find_line_end dc_find_line_end pm_find_line_end cd_find_line_end ct_find_line_end oc_read_lines kV_read_lines dc_read_lines pm_read_lines cd_read_lines ct_read_lines oc_read_document kV_read_document dc_read_document pm_read_document cd_read_document ct_read_document oc_count kV_count dc_count pm_count cd_count ct_count : Value}
    {nm_Fault q_Fault : Str} {bs_Fault : List Value} {sn_Fault : List Str} {sub_Fault : List Value} {ab_Fault : Bool} {col_Fault : Option Bool} {dd_Fault : Option Addr} {x0_Fault x1_Fault x2_Fault x3_Fault x5_Fault : Option Value}
    {nm_LineFault q_LineFault : Str} {bs_LineFault : List Value} {sn_LineFault : List Str} {sub_LineFault : List Value} {ab_LineFault : Bool} {col_LineFault : Option Bool} {dd_LineFault : Option Addr} {x0_LineFault x1_LineFault x2_LineFault x3_LineFault x5_LineFault : Option Value}
    {tk_CHARACTER tk_OPENING tk_CLOSING tk_ALONE tk_WORD tk_SIGN tk_TAG tk_BLANK tk_NOUGHT tk_ONE tk_NINE tk_LEFT_BRACE tk_RIGHT_BRACE tk_NO_BYTE tk_DONE tk_NO_SUCH_TEXT tk_TOO_LARGE tk_MOST_PIECES tk_MOST_DOCUMENT_BYTES tk_MOST_LINES tk_LINE_END tk_RAW_MARK tk_PARAGRAPH_MARK tk_TOO_MANY_LINES tk_NO_MARK tk_NOT_ENDED tk_WRONG_BYTE tk_LINE_TOO_LARGE tk_NOT_PAIRED : Tok}
    {u_TAIL_BYTES_0 u_TAIL_BYTES_1 u_SECOND_BYTES_0_0 u_SECOND_BYTES_0_1 u_SECOND_BYTES_1_0 u_SECOND_BYTES_1_1 u_SECOND_BYTES_2_0 u_SECOND_BYTES_2_1 u_SECOND_BYTES_3_0 u_SECOND_BYTES_3_1 u_SECOND_BYTES_4_0 u_SECOND_BYTES_4_1 u_SIGNS_0_0 u_SIGNS_0_1 u_SIGNS_1_0 u_SIGNS_1_1 u_SIGNS_2_0 u_SIGNS_2_1 u_SIGNS_3_0 u_SIGNS_3_1 u_SIGNS_4_0 u_SIGNS_4_1 u_SIGNS_5_0 u_SIGNS_5_1 u_SIGNS_6_0 u_SIGNS_6_1 u_SIGNS_7_0 u_SIGNS_7_1 u_SIGNS_8_0 u_SIGNS_8_1 : Tok}
    {ot_TAIL_BYTES ot_SECOND_BYTES_0 ot_SECOND_BYTES_1 ot_SECOND_BYTES_2 ot_SECOND_BYTES_3 ot_SECOND_BYTES_4 ot_SIGNS_0 ot_SIGNS_1 ot_SIGNS_2 ot_SIGNS_3 ot_SIGNS_4 ot_SIGNS_5 ot_SIGNS_6 ot_SIGNS_7 ot_SIGNS_8 ot_SIGNS ot_COUNTED : Option Addr} {nt_TAIL_BYTES nt_SECOND_BYTES_0 nt_SECOND_BYTES_1 nt_SECOND_BYTES_2 nt_SECOND_BYTES_3 nt_SECOND_BYTES_4 nt_SIGNS_0 nt_SIGNS_1 nt_SIGNS_2 nt_SIGNS_3 nt_SIGNS_4 nt_SIGNS_5 nt_SIGNS_6 nt_SIGNS_7 nt_SIGNS_8 nt_SIGNS nt_COUNTED : Nat} {st_TAIL_BYTES st_SECOND_BYTES_0 st_SECOND_BYTES_1 st_SECOND_BYTES_2 st_SECOND_BYTES_3 st_SECOND_BYTES_4 st_SIGNS_0 st_SIGNS_1 st_SIGNS_2 st_SIGNS_3 st_SIGNS_4 st_SIGNS_5 st_SIGNS_6 st_SIGNS_7 st_SIGNS_8 st_SIGNS st_COUNTED : Array (Option Value)}
    {e_SECOND_BYTES_0 e_SECOND_BYTES_1 e_SECOND_BYTES_2 e_SECOND_BYTES_3 e_SECOND_BYTES_4 : Int} {y_SECOND_BYTES_0 y_SECOND_BYTES_1 y_SECOND_BYTES_2 y_SECOND_BYTES_3 y_SECOND_BYTES_4 : Tok} {ep_SECOND_BYTES : Nat}
    (aa_Fault : PySem.W.nsIn K mainGlobals "Fault" = some (some (.ref C_Fault)))
    (xC_Fault : K.lookup C_Fault = some (excClassObj nm_Fault q_Fault C_Fault N_Fault bs_Fault mroE true sn_Fault sub_Fault ab_Fault col_Fault dd_Fault x0_Fault x1_Fault x2_Fault x3_Fault x5_Fault "Exception.__new__"))
    (ok_Fault : PySem.W.nsOkIn K N_Fault = true)
    (in_Fault : PySem.W.nsIn K N_Fault "__init__" = some (some (.ref f_Fault_init)))
    (sa_Fault : PySem.W.nsIn K N_Fault "__setattr__" = some none)
    (ga_Fault : PySem.W.nsIn K N_Fault "__getattribute__" = some none)
    (gb_Fault : PySem.W.nsIn K N_Fault "__getattr__" = some none)
    (pl_Fault_place : PySem.W.nsIn K N_Fault "place" = some none)
    (kp_Fault : PySem.W.keepIn K (.ref C_Fault) = true)
    (oc_is_Fault : oc_Fault_init = .type "function")
    (aa_LineFault : PySem.W.nsIn K mainGlobals "LineFault" = some (some (.ref C_LineFault)))
    (xC_LineFault : K.lookup C_LineFault = some (excClassObj nm_LineFault q_LineFault C_LineFault N_LineFault bs_LineFault mroE true sn_LineFault sub_LineFault ab_LineFault col_LineFault dd_LineFault x0_LineFault x1_LineFault x2_LineFault x3_LineFault x5_LineFault "Exception.__new__"))
    (ok_LineFault : PySem.W.nsOkIn K N_LineFault = true)
    (in_LineFault : PySem.W.nsIn K N_LineFault "__init__" = some (some (.ref f_LineFault_init)))
    (sa_LineFault : PySem.W.nsIn K N_LineFault "__setattr__" = some none)
    (ga_LineFault : PySem.W.nsIn K N_LineFault "__getattribute__" = some none)
    (gb_LineFault : PySem.W.nsIn K N_LineFault "__getattr__" = some none)
    (pl_LineFault_kind : PySem.W.nsIn K N_LineFault "kind" = some none)
    (pl_LineFault_place : PySem.W.nsIn K N_LineFault "place" = some none)
    (kp_LineFault : PySem.W.keepIn K (.ref C_LineFault) = true)
    (oc_is_LineFault : oc_LineFault_init = .type "function")
    (aa_Scan : PySem.W.nsIn K mainGlobals "Scan" = some (some (.ref C_Scan)))
    (pg_Scan : PySem.W.plainGet K C_Scan Str.empty = true)
    (hd_Scan : PySem.W.hasDictIn K C_Scan = true)
    (po_Scan : PySem.W.plainOver K C_Scan = true)
    (sa_Scan : PySem.W.findIn K (.ref C_Scan) "__setattr__" = some (some (.builtin "object.__setattr__")))
    (mk_Scan : PySem.W.makesIn K C_Scan = true)
    (kc_Scan : PySem.W.keepIn K (.ref C_Scan) = true)
    (nn_Scan_t : PySem.W.findIn K (.ref C_Scan) "t" = some none)
    (nn_Scan_at : PySem.W.findIn K (.ref C_Scan) "at" = some none)
    (am_Scan_init : PySem.W.findIn K (.ref C_Scan) "__init__" = some (some (.ref f_Scan_init)))
    (is_Scan_init : PySem.W.isFn K (.ref f_Scan_init) = true)
    (am_Scan_peek : PySem.W.findIn K (.ref C_Scan) "peek" = some (some (.ref f_Scan_peek)))
    (is_Scan_peek : PySem.W.isFn K (.ref f_Scan_peek) = true)
    (am_Scan_take : PySem.W.findIn K (.ref C_Scan) "take" = some (some (.ref f_Scan_take)))
    (is_Scan_take : PySem.W.isFn K (.ref f_Scan_take) = true)
    (aa_Unit : PySem.W.nsIn K mainGlobals "Unit" = some (some (.ref C_Unit)))
    (pg_Unit : PySem.W.plainGet K C_Unit Str.empty = true)
    (hd_Unit : PySem.W.hasDictIn K C_Unit = true)
    (po_Unit : PySem.W.plainOver K C_Unit = true)
    (sa_Unit : PySem.W.findIn K (.ref C_Unit) "__setattr__" = some (some (.builtin "object.__setattr__")))
    (mk_Unit : PySem.W.makesIn K C_Unit = true)
    (kc_Unit : PySem.W.keepIn K (.ref C_Unit) = true)
    (nn_Unit_group : PySem.W.findIn K (.ref C_Unit) "group" = some none)
    (nn_Unit_tag_kind : PySem.W.findIn K (.ref C_Unit) "tag_kind" = some none)
    (nn_Unit_text : PySem.W.findIn K (.ref C_Unit) "text" = some none)
    (am_Unit_init : PySem.W.findIn K (.ref C_Unit) "__init__" = some (some (.ref f_Unit_init)))
    (is_Unit_init : PySem.W.isFn K (.ref f_Unit_init) = true)
    (aa_Reading : PySem.W.nsIn K mainGlobals "Reading" = some (some (.ref C_Reading)))
    (pg_Reading : PySem.W.plainGet K C_Reading Str.empty = true)
    (hd_Reading : PySem.W.hasDictIn K C_Reading = true)
    (po_Reading : PySem.W.plainOver K C_Reading = true)
    (sa_Reading : PySem.W.findIn K (.ref C_Reading) "__setattr__" = some (some (.builtin "object.__setattr__")))
    (mk_Reading : PySem.W.makesIn K C_Reading = true)
    (kc_Reading : PySem.W.keepIn K (.ref C_Reading) = true)
    (nn_Reading_parts : PySem.W.findIn K (.ref C_Reading) "parts" = some none)
    (nn_Reading_refusal : PySem.W.findIn K (.ref C_Reading) "refusal" = some none)
    (am_Reading_init : PySem.W.findIn K (.ref C_Reading) "__init__" = some (some (.ref f_Reading_init)))
    (is_Reading_init : PySem.W.isFn K (.ref f_Reading_init) = true)
    (aa_Line : PySem.W.nsIn K mainGlobals "Line" = some (some (.ref C_Line)))
    (pg_Line : PySem.W.plainGet K C_Line Str.empty = true)
    (hd_Line : PySem.W.hasDictIn K C_Line = true)
    (po_Line : PySem.W.plainOver K C_Line = true)
    (sa_Line : PySem.W.findIn K (.ref C_Line) "__setattr__" = some (some (.builtin "object.__setattr__")))
    (mk_Line : PySem.W.makesIn K C_Line = true)
    (kc_Line : PySem.W.keepIn K (.ref C_Line) = true)
    (nn_Line_is_paragraph : PySem.W.findIn K (.ref C_Line) "is_paragraph" = some none)
    (nn_Line_text : PySem.W.findIn K (.ref C_Line) "text" = some none)
    (nn_Line_pieces : PySem.W.findIn K (.ref C_Line) "pieces" = some none)
    (am_Line_init : PySem.W.findIn K (.ref C_Line) "__init__" = some (some (.ref f_Line_init)))
    (is_Line_init : PySem.W.isFn K (.ref f_Line_init) = true)
    (ag_tail_length : PySem.W.nsIn K mainGlobals "tail_length" = some (some (.ref f_tail_length)))
    (ag_with_tail_byte : PySem.W.nsIn K mainGlobals "with_tail_byte" = some (some (.ref f_with_tail_byte)))
    (ag_take_code : PySem.W.nsIn K mainGlobals "take_code" = some (some (.ref f_take_code)))
    (ag_take_character : PySem.W.nsIn K mainGlobals "take_character" = some (some (.ref f_take_character)))
    (ag_take_number : PySem.W.nsIn K mainGlobals "take_number" = some (some (.ref f_take_number)))
    (ag_take_tag : PySem.W.nsIn K mainGlobals "take_tag" = some (some (.ref f_take_tag)))
    (ag_take_piece : PySem.W.nsIn K mainGlobals "take_piece" = some (some (.ref f_take_piece)))
    (ag_read_each : PySem.W.nsIn K mainGlobals "read_each" = some (some (.ref f_read_each)))
    (ag_read_pieces : PySem.W.nsIn K mainGlobals "read_pieces" = some (some (.ref f_read_pieces)))
    (ag_read_characters : PySem.W.nsIn K mainGlobals "read_characters" = some (some (.ref f_read_characters)))
    (ag_tail_byte : PySem.W.nsIn K mainGlobals "tail_byte" = some (some (.ref f_tail_byte)))
    (ag_write_character : PySem.W.nsIn K mainGlobals "write_character" = some (some (.ref f_write_character)))
    (ag_write_number : PySem.W.nsIn K mainGlobals "write_number" = some (some (.ref f_write_number)))
    (ag_only_tags : PySem.W.nsIn K mainGlobals "only_tags" = some (some (.ref f_only_tags)))
    (ag_find_places : PySem.W.nsIn K mainGlobals "find_places" = some (some (.ref f_find_places)))
    (ag_rename_numbers : PySem.W.nsIn K mainGlobals "rename_numbers" = some (some (.ref f_rename_numbers)))
    (ag_find_halves : PySem.W.nsIn K mainGlobals "find_halves" = some (some (.ref f_find_halves)))
    (ag_is_sign : PySem.W.nsIn K mainGlobals "is_sign" = some (some (.ref f_is_sign)))
    (ag_is_of_word : PySem.W.nsIn K mainGlobals "is_of_word" = some (some (.ref f_is_of_word)))
    (ag_make_unit : PySem.W.nsIn K mainGlobals "make_unit" = some (some (.ref f_make_unit)))
    (ag_find_units : PySem.W.nsIn K mainGlobals "find_units" = some (some (.ref f_find_units)))
    (ag_count_pieces : PySem.W.nsIn K mainGlobals "count_pieces" = some (some (.ref f_count_pieces)))
    (ag_count_characters : PySem.W.nsIn K mainGlobals "count_characters" = some (some (.ref f_count_characters)))
    (ag_count_tags : PySem.W.nsIn K mainGlobals "count_tags" = some (some (.ref f_count_tags)))
    (ag_count_words : PySem.W.nsIn K mainGlobals "count_words" = some (some (.ref f_count_words)))
    (ag_tell_paired : PySem.W.nsIn K mainGlobals "tell_paired" = some (some (.ref f_tell_paired)))
    (ag_read_behind_mark : PySem.W.nsIn K mainGlobals "read_behind_mark" = some (some (.ref f_read_behind_mark)))
    (ag_read_line : PySem.W.nsIn K mainGlobals "read_line" = some (some (.ref f_read_line)))
    (ag_find_line_end : PySem.W.nsIn K mainGlobals "find_line_end" = some (some (.ref f_find_line_end)))
    (ag_read_lines : PySem.W.nsIn K mainGlobals "read_lines" = some (some (.ref f_read_lines)))
    (ag_read_document : PySem.W.nsIn K mainGlobals "read_document" = some (some (.ref f_read_document)))
    (ag_count : PySem.W.nsIn K mainGlobals "count" = some (some (.ref f_count)))
    (l_Fault_init : K.lookup f_Fault_init = some ⟨oc_Fault_init, od_Fault_init, .func (PySem.W.fnOf "__init__" "Fault.__init__" (defArgs s_Fault_init) (defBody s_Fault_init) (defScope s_Fault_init) .none kV_Fault_init dc_Fault_init pm_Fault_init an_Fault_init cd_Fault_init ct_Fault_init), sl_Fault_init⟩)
    (c_Fault_init : PySem.W.codeIn K cd_Fault_init "Fault.__init__" = true)
    (k_Fault_init : PySem.W.keepIn K (.ref f_Fault_init) = true)
    (l_LineFault_init : K.lookup f_LineFault_init = some ⟨oc_LineFault_init, od_LineFault_init, .func (PySem.W.fnOf "__init__" "LineFault.__init__" (defArgs s_LineFault_init) (defBody s_LineFault_init) (defScope s_LineFault_init) .none kV_LineFault_init dc_LineFault_init pm_LineFault_init an_LineFault_init cd_LineFault_init ct_LineFault_init), sl_LineFault_init⟩)
    (c_LineFault_init : PySem.W.codeIn K cd_LineFault_init "LineFault.__init__" = true)
    (k_LineFault_init : PySem.W.keepIn K (.ref f_LineFault_init) = true)
    (l_Scan_init : K.lookup f_Scan_init = some ⟨oc_Scan_init, od_Scan_init, .func (PySem.W.fnOf "__init__" "Scan.__init__" (defArgs s_Scan_init) (defBody s_Scan_init) (defScope s_Scan_init) .none kV_Scan_init dc_Scan_init pm_Scan_init an_Scan_init cd_Scan_init ct_Scan_init), sl_Scan_init⟩)
    (c_Scan_init : PySem.W.codeIn K cd_Scan_init "Scan.__init__" = true)
    (k_Scan_init : PySem.W.keepIn K (.ref f_Scan_init) = true)
    (l_Scan_peek : K.lookup f_Scan_peek = some ⟨oc_Scan_peek, od_Scan_peek, .func (PySem.W.fnOf "peek" "Scan.peek" (defArgs s_Scan_peek) (defBody s_Scan_peek) (defScope s_Scan_peek) .none kV_Scan_peek dc_Scan_peek pm_Scan_peek an_Scan_peek cd_Scan_peek ct_Scan_peek), sl_Scan_peek⟩)
    (c_Scan_peek : PySem.W.codeIn K cd_Scan_peek "Scan.peek" = true)
    (k_Scan_peek : PySem.W.keepIn K (.ref f_Scan_peek) = true)
    (l_Scan_take : K.lookup f_Scan_take = some ⟨oc_Scan_take, od_Scan_take, .func (PySem.W.fnOf "take" "Scan.take" (defArgs s_Scan_take) (defBody s_Scan_take) (defScope s_Scan_take) .none kV_Scan_take dc_Scan_take pm_Scan_take an_Scan_take cd_Scan_take ct_Scan_take), sl_Scan_take⟩)
    (c_Scan_take : PySem.W.codeIn K cd_Scan_take "Scan.take" = true)
    (k_Scan_take : PySem.W.keepIn K (.ref f_Scan_take) = true)
    (l_Unit_init : K.lookup f_Unit_init = some ⟨oc_Unit_init, od_Unit_init, .func (PySem.W.fnOf "__init__" "Unit.__init__" (defArgs s_Unit_init) (defBody s_Unit_init) (defScope s_Unit_init) .none kV_Unit_init dc_Unit_init pm_Unit_init an_Unit_init cd_Unit_init ct_Unit_init), sl_Unit_init⟩)
    (c_Unit_init : PySem.W.codeIn K cd_Unit_init "Unit.__init__" = true)
    (k_Unit_init : PySem.W.keepIn K (.ref f_Unit_init) = true)
    (l_Reading_init : K.lookup f_Reading_init = some ⟨oc_Reading_init, od_Reading_init, .func (PySem.W.fnOf "__init__" "Reading.__init__" (defArgs s_Reading_init) (defBody s_Reading_init) (defScope s_Reading_init) .none kV_Reading_init dc_Reading_init pm_Reading_init an_Reading_init cd_Reading_init ct_Reading_init), sl_Reading_init⟩)
    (c_Reading_init : PySem.W.codeIn K cd_Reading_init "Reading.__init__" = true)
    (k_Reading_init : PySem.W.keepIn K (.ref f_Reading_init) = true)
    (l_Line_init : K.lookup f_Line_init = some ⟨oc_Line_init, od_Line_init, .func (PySem.W.fnOf "__init__" "Line.__init__" (defArgs s_Line_init) (defBody s_Line_init) (defScope s_Line_init) .none kV_Line_init dc_Line_init pm_Line_init an_Line_init cd_Line_init ct_Line_init), sl_Line_init⟩)
    (c_Line_init : PySem.W.codeIn K cd_Line_init "Line.__init__" = true)
    (k_Line_init : PySem.W.keepIn K (.ref f_Line_init) = true)
    (l_tail_length : K.lookup f_tail_length = some ⟨oc_tail_length, od_tail_length, .func (PySem.W.fnOf "tail_length" "tail_length" (defArgs s_tail_length) (defBody s_tail_length) (defScope s_tail_length) .none kV_tail_length dc_tail_length pm_tail_length an_tail_length cd_tail_length ct_tail_length), sl_tail_length⟩)
    (c_tail_length : PySem.W.codeIn K cd_tail_length "tail_length" = true)
    (k_tail_length : PySem.W.keepIn K (.ref f_tail_length) = true)
    (l_with_tail_byte : K.lookup f_with_tail_byte = some ⟨oc_with_tail_byte, od_with_tail_byte, .func (PySem.W.fnOf "with_tail_byte" "with_tail_byte" (defArgs s_with_tail_byte) (defBody s_with_tail_byte) (defScope s_with_tail_byte) .none kV_with_tail_byte dc_with_tail_byte pm_with_tail_byte an_with_tail_byte cd_with_tail_byte ct_with_tail_byte), sl_with_tail_byte⟩)
    (c_with_tail_byte : PySem.W.codeIn K cd_with_tail_byte "with_tail_byte" = true)
    (k_with_tail_byte : PySem.W.keepIn K (.ref f_with_tail_byte) = true)
    (l_take_code : K.lookup f_take_code = some ⟨oc_take_code, od_take_code, .func (PySem.W.fnOf "take_code" "take_code" (defArgs s_take_code) (defBody s_take_code) (defScope s_take_code) .none kV_take_code dc_take_code pm_take_code an_take_code cd_take_code ct_take_code), sl_take_code⟩)
    (c_take_code : PySem.W.codeIn K cd_take_code "take_code" = true)
    (k_take_code : PySem.W.keepIn K (.ref f_take_code) = true)
    (l_take_character : K.lookup f_take_character = some ⟨oc_take_character, od_take_character, .func (PySem.W.fnOf "take_character" "take_character" (defArgs s_take_character) (defBody s_take_character) (defScope s_take_character) .none kV_take_character dc_take_character pm_take_character an_take_character cd_take_character ct_take_character), sl_take_character⟩)
    (c_take_character : PySem.W.codeIn K cd_take_character "take_character" = true)
    (k_take_character : PySem.W.keepIn K (.ref f_take_character) = true)
    (l_take_number : K.lookup f_take_number = some ⟨oc_take_number, od_take_number, .func (PySem.W.fnOf "take_number" "take_number" (defArgs s_take_number) (defBody s_take_number) (defScope s_take_number) .none kV_take_number dc_take_number pm_take_number an_take_number cd_take_number ct_take_number), sl_take_number⟩)
    (c_take_number : PySem.W.codeIn K cd_take_number "take_number" = true)
    (k_take_number : PySem.W.keepIn K (.ref f_take_number) = true)
    (l_take_tag : K.lookup f_take_tag = some ⟨oc_take_tag, od_take_tag, .func (PySem.W.fnOf "take_tag" "take_tag" (defArgs s_take_tag) (defBody s_take_tag) (defScope s_take_tag) .none kV_take_tag dc_take_tag pm_take_tag an_take_tag cd_take_tag ct_take_tag), sl_take_tag⟩)
    (c_take_tag : PySem.W.codeIn K cd_take_tag "take_tag" = true)
    (k_take_tag : PySem.W.keepIn K (.ref f_take_tag) = true)
    (l_take_piece : K.lookup f_take_piece = some ⟨oc_take_piece, od_take_piece, .func (PySem.W.fnOf "take_piece" "take_piece" (defArgs s_take_piece) (defBody s_take_piece) (defScope s_take_piece) .none kV_take_piece dc_take_piece pm_take_piece an_take_piece cd_take_piece ct_take_piece), sl_take_piece⟩)
    (c_take_piece : PySem.W.codeIn K cd_take_piece "take_piece" = true)
    (k_take_piece : PySem.W.keepIn K (.ref f_take_piece) = true)
    (l_read_each : K.lookup f_read_each = some ⟨oc_read_each, od_read_each, .func (PySem.W.fnOf "read_each" "read_each" (defArgs s_read_each) (defBody s_read_each) (defScope s_read_each) .none kV_read_each dc_read_each pm_read_each an_read_each cd_read_each ct_read_each), sl_read_each⟩)
    (c_read_each : PySem.W.codeIn K cd_read_each "read_each" = true)
    (k_read_each : PySem.W.keepIn K (.ref f_read_each) = true)
    (l_read_pieces : K.lookup f_read_pieces = some ⟨oc_read_pieces, od_read_pieces, .func (PySem.W.fnOf "read_pieces" "read_pieces" (defArgs s_read_pieces) (defBody s_read_pieces) (defScope s_read_pieces) .none kV_read_pieces dc_read_pieces pm_read_pieces an_read_pieces cd_read_pieces ct_read_pieces), sl_read_pieces⟩)
    (c_read_pieces : PySem.W.codeIn K cd_read_pieces "read_pieces" = true)
    (k_read_pieces : PySem.W.keepIn K (.ref f_read_pieces) = true)
    (l_read_characters : K.lookup f_read_characters = some ⟨oc_read_characters, od_read_characters, .func (PySem.W.fnOf "read_characters" "read_characters" (defArgs s_read_characters) (defBody s_read_characters) (defScope s_read_characters) .none kV_read_characters dc_read_characters pm_read_characters an_read_characters cd_read_characters ct_read_characters), sl_read_characters⟩)
    (c_read_characters : PySem.W.codeIn K cd_read_characters "read_characters" = true)
    (k_read_characters : PySem.W.keepIn K (.ref f_read_characters) = true)
    (l_tail_byte : K.lookup f_tail_byte = some ⟨oc_tail_byte, od_tail_byte, .func (PySem.W.fnOf "tail_byte" "tail_byte" (defArgs s_tail_byte) (defBody s_tail_byte) (defScope s_tail_byte) .none kV_tail_byte dc_tail_byte pm_tail_byte an_tail_byte cd_tail_byte ct_tail_byte), sl_tail_byte⟩)
    (c_tail_byte : PySem.W.codeIn K cd_tail_byte "tail_byte" = true)
    (k_tail_byte : PySem.W.keepIn K (.ref f_tail_byte) = true)
    (l_write_character : K.lookup f_write_character = some ⟨oc_write_character, od_write_character, .func (PySem.W.fnOf "write_character" "write_character" (defArgs s_write_character) (defBody s_write_character) (defScope s_write_character) .none kV_write_character dc_write_character pm_write_character an_write_character cd_write_character ct_write_character), sl_write_character⟩)
    (c_write_character : PySem.W.codeIn K cd_write_character "write_character" = true)
    (k_write_character : PySem.W.keepIn K (.ref f_write_character) = true)
    (l_write_number : K.lookup f_write_number = some ⟨oc_write_number, od_write_number, .func (PySem.W.fnOf "write_number" "write_number" (defArgs s_write_number) (defBody s_write_number) (defScope s_write_number) .none kV_write_number dc_write_number pm_write_number an_write_number cd_write_number ct_write_number), sl_write_number⟩)
    (c_write_number : PySem.W.codeIn K cd_write_number "write_number" = true)
    (k_write_number : PySem.W.keepIn K (.ref f_write_number) = true)
    (l_only_tags : K.lookup f_only_tags = some ⟨oc_only_tags, od_only_tags, .func (PySem.W.fnOf "only_tags" "only_tags" (defArgs s_only_tags) (defBody s_only_tags) (defScope s_only_tags) .none kV_only_tags dc_only_tags pm_only_tags an_only_tags cd_only_tags ct_only_tags), sl_only_tags⟩)
    (c_only_tags : PySem.W.codeIn K cd_only_tags "only_tags" = true)
    (k_only_tags : PySem.W.keepIn K (.ref f_only_tags) = true)
    (l_find_places : K.lookup f_find_places = some ⟨oc_find_places, od_find_places, .func (PySem.W.fnOf "find_places" "find_places" (defArgs s_find_places) (defBody s_find_places) (defScope s_find_places) .none kV_find_places dc_find_places pm_find_places an_find_places cd_find_places ct_find_places), sl_find_places⟩)
    (c_find_places : PySem.W.codeIn K cd_find_places "find_places" = true)
    (k_find_places : PySem.W.keepIn K (.ref f_find_places) = true)
    (l_rename_numbers : K.lookup f_rename_numbers = some ⟨oc_rename_numbers, od_rename_numbers, .func (PySem.W.fnOf "rename_numbers" "rename_numbers" (defArgs s_rename_numbers) (defBody s_rename_numbers) (defScope s_rename_numbers) .none kV_rename_numbers dc_rename_numbers pm_rename_numbers an_rename_numbers cd_rename_numbers ct_rename_numbers), sl_rename_numbers⟩)
    (c_rename_numbers : PySem.W.codeIn K cd_rename_numbers "rename_numbers" = true)
    (k_rename_numbers : PySem.W.keepIn K (.ref f_rename_numbers) = true)
    (l_find_halves : K.lookup f_find_halves = some ⟨oc_find_halves, od_find_halves, .func (PySem.W.fnOf "find_halves" "find_halves" (defArgs s_find_halves) (defBody s_find_halves) (defScope s_find_halves) .none kV_find_halves dc_find_halves pm_find_halves an_find_halves cd_find_halves ct_find_halves), sl_find_halves⟩)
    (c_find_halves : PySem.W.codeIn K cd_find_halves "find_halves" = true)
    (k_find_halves : PySem.W.keepIn K (.ref f_find_halves) = true)
    (l_is_sign : K.lookup f_is_sign = some ⟨oc_is_sign, od_is_sign, .func (PySem.W.fnOf "is_sign" "is_sign" (defArgs s_is_sign) (defBody s_is_sign) (defScope s_is_sign) .none kV_is_sign dc_is_sign pm_is_sign an_is_sign cd_is_sign ct_is_sign), sl_is_sign⟩)
    (c_is_sign : PySem.W.codeIn K cd_is_sign "is_sign" = true)
    (k_is_sign : PySem.W.keepIn K (.ref f_is_sign) = true)
    (l_is_of_word : K.lookup f_is_of_word = some ⟨oc_is_of_word, od_is_of_word, .func (PySem.W.fnOf "is_of_word" "is_of_word" (defArgs s_is_of_word) (defBody s_is_of_word) (defScope s_is_of_word) .none kV_is_of_word dc_is_of_word pm_is_of_word an_is_of_word cd_is_of_word ct_is_of_word), sl_is_of_word⟩)
    (c_is_of_word : PySem.W.codeIn K cd_is_of_word "is_of_word" = true)
    (k_is_of_word : PySem.W.keepIn K (.ref f_is_of_word) = true)
    (l_make_unit : K.lookup f_make_unit = some ⟨oc_make_unit, od_make_unit, .func (PySem.W.fnOf "make_unit" "make_unit" (defArgs s_make_unit) (defBody s_make_unit) (defScope s_make_unit) .none kV_make_unit dc_make_unit pm_make_unit an_make_unit cd_make_unit ct_make_unit), sl_make_unit⟩)
    (c_make_unit : PySem.W.codeIn K cd_make_unit "make_unit" = true)
    (k_make_unit : PySem.W.keepIn K (.ref f_make_unit) = true)
    (l_find_units : K.lookup f_find_units = some ⟨oc_find_units, od_find_units, .func (PySem.W.fnOf "find_units" "find_units" (defArgs s_find_units) (defBody s_find_units) (defScope s_find_units) .none kV_find_units dc_find_units pm_find_units an_find_units cd_find_units ct_find_units), sl_find_units⟩)
    (c_find_units : PySem.W.codeIn K cd_find_units "find_units" = true)
    (k_find_units : PySem.W.keepIn K (.ref f_find_units) = true)
    (l_count_pieces : K.lookup f_count_pieces = some ⟨oc_count_pieces, od_count_pieces, .func (PySem.W.fnOf "count_pieces" "count_pieces" (defArgs s_count_pieces) (defBody s_count_pieces) (defScope s_count_pieces) .none kV_count_pieces dc_count_pieces pm_count_pieces an_count_pieces cd_count_pieces ct_count_pieces), sl_count_pieces⟩)
    (c_count_pieces : PySem.W.codeIn K cd_count_pieces "count_pieces" = true)
    (k_count_pieces : PySem.W.keepIn K (.ref f_count_pieces) = true)
    (l_count_characters : K.lookup f_count_characters = some ⟨oc_count_characters, od_count_characters, .func (PySem.W.fnOf "count_characters" "count_characters" (defArgs s_count_characters) (defBody s_count_characters) (defScope s_count_characters) .none kV_count_characters dc_count_characters pm_count_characters an_count_characters cd_count_characters ct_count_characters), sl_count_characters⟩)
    (c_count_characters : PySem.W.codeIn K cd_count_characters "count_characters" = true)
    (k_count_characters : PySem.W.keepIn K (.ref f_count_characters) = true)
    (l_count_tags : K.lookup f_count_tags = some ⟨oc_count_tags, od_count_tags, .func (PySem.W.fnOf "count_tags" "count_tags" (defArgs s_count_tags) (defBody s_count_tags) (defScope s_count_tags) .none kV_count_tags dc_count_tags pm_count_tags an_count_tags cd_count_tags ct_count_tags), sl_count_tags⟩)
    (c_count_tags : PySem.W.codeIn K cd_count_tags "count_tags" = true)
    (k_count_tags : PySem.W.keepIn K (.ref f_count_tags) = true)
    (l_count_words : K.lookup f_count_words = some ⟨oc_count_words, od_count_words, .func (PySem.W.fnOf "count_words" "count_words" (defArgs s_count_words) (defBody s_count_words) (defScope s_count_words) .none kV_count_words dc_count_words pm_count_words an_count_words cd_count_words ct_count_words), sl_count_words⟩)
    (c_count_words : PySem.W.codeIn K cd_count_words "count_words" = true)
    (k_count_words : PySem.W.keepIn K (.ref f_count_words) = true)
    (l_tell_paired : K.lookup f_tell_paired = some ⟨oc_tell_paired, od_tell_paired, .func (PySem.W.fnOf "tell_paired" "tell_paired" (defArgs s_tell_paired) (defBody s_tell_paired) (defScope s_tell_paired) .none kV_tell_paired dc_tell_paired pm_tell_paired an_tell_paired cd_tell_paired ct_tell_paired), sl_tell_paired⟩)
    (c_tell_paired : PySem.W.codeIn K cd_tell_paired "tell_paired" = true)
    (k_tell_paired : PySem.W.keepIn K (.ref f_tell_paired) = true)
    (l_read_behind_mark : K.lookup f_read_behind_mark = some ⟨oc_read_behind_mark, od_read_behind_mark, .func (PySem.W.fnOf "read_behind_mark" "read_behind_mark" (defArgs s_read_behind_mark) (defBody s_read_behind_mark) (defScope s_read_behind_mark) .none kV_read_behind_mark dc_read_behind_mark pm_read_behind_mark an_read_behind_mark cd_read_behind_mark ct_read_behind_mark), sl_read_behind_mark⟩)
    (c_read_behind_mark : PySem.W.codeIn K cd_read_behind_mark "read_behind_mark" = true)
    (k_read_behind_mark : PySem.W.keepIn K (.ref f_read_behind_mark) = true)
    (l_read_line : K.lookup f_read_line = some ⟨oc_read_line, od_read_line, .func (PySem.W.fnOf "read_line" "read_line" (defArgs s_read_line) (defBody s_read_line) (defScope s_read_line) .none kV_read_line dc_read_line pm_read_line an_read_line cd_read_line ct_read_line), sl_read_line⟩)
    (c_read_line : PySem.W.codeIn K cd_read_line "read_line" = true)
    (k_read_line : PySem.W.keepIn K (.ref f_read_line) = true)
    (l_find_line_end : K.lookup f_find_line_end = some ⟨oc_find_line_end, od_find_line_end, .func (PySem.W.fnOf "find_line_end" "find_line_end" (defArgs s_find_line_end) (defBody s_find_line_end) (defScope s_find_line_end) .none kV_find_line_end dc_find_line_end pm_find_line_end an_find_line_end cd_find_line_end ct_find_line_end), sl_find_line_end⟩)
    (c_find_line_end : PySem.W.codeIn K cd_find_line_end "find_line_end" = true)
    (k_find_line_end : PySem.W.keepIn K (.ref f_find_line_end) = true)
    (l_read_lines : K.lookup f_read_lines = some ⟨oc_read_lines, od_read_lines, .func (PySem.W.fnOf "read_lines" "read_lines" (defArgs s_read_lines) (defBody s_read_lines) (defScope s_read_lines) .none kV_read_lines dc_read_lines pm_read_lines an_read_lines cd_read_lines ct_read_lines), sl_read_lines⟩)
    (c_read_lines : PySem.W.codeIn K cd_read_lines "read_lines" = true)
    (k_read_lines : PySem.W.keepIn K (.ref f_read_lines) = true)
    (l_read_document : K.lookup f_read_document = some ⟨oc_read_document, od_read_document, .func (PySem.W.fnOf "read_document" "read_document" (defArgs s_read_document) (defBody s_read_document) (defScope s_read_document) .none kV_read_document dc_read_document pm_read_document an_read_document cd_read_document ct_read_document), sl_read_document⟩)
    (c_read_document : PySem.W.codeIn K cd_read_document "read_document" = true)
    (k_read_document : PySem.W.keepIn K (.ref f_read_document) = true)
    (l_count : K.lookup f_count = some ⟨oc_count, od_count, .func (PySem.W.fnOf "count" "count" (defArgs s_count) (defBody s_count) (defScope s_count) .none kV_count dc_count pm_count an_count cd_count ct_count), sl_count⟩)
    (c_count : PySem.W.codeIn K cd_count "count" = true)
    (k_count : PySem.W.keepIn K (.ref f_count) = true)
    (gi_CHARACTER : PySem.W.nsIn K mainGlobals "CHARACTER" = some (some (.int (0) tk_CHARACTER)))
    (gi_OPENING : PySem.W.nsIn K mainGlobals "OPENING" = some (some (.int (43) tk_OPENING)))
    (gi_CLOSING : PySem.W.nsIn K mainGlobals "CLOSING" = some (some (.int (45) tk_CLOSING)))
    (gi_ALONE : PySem.W.nsIn K mainGlobals "ALONE" = some (some (.int (46) tk_ALONE)))
    (gi_WORD : PySem.W.nsIn K mainGlobals "WORD" = some (some (.int (0) tk_WORD)))
    (gi_SIGN : PySem.W.nsIn K mainGlobals "SIGN" = some (some (.int (1) tk_SIGN)))
    (gi_TAG : PySem.W.nsIn K mainGlobals "TAG" = some (some (.int (2) tk_TAG)))
    (gi_BLANK : PySem.W.nsIn K mainGlobals "BLANK" = some (some (.int (32) tk_BLANK)))
    (gi_NOUGHT : PySem.W.nsIn K mainGlobals "NOUGHT" = some (some (.int (48) tk_NOUGHT)))
    (gi_ONE : PySem.W.nsIn K mainGlobals "ONE" = some (some (.int (49) tk_ONE)))
    (gi_NINE : PySem.W.nsIn K mainGlobals "NINE" = some (some (.int (57) tk_NINE)))
    (gi_LEFT_BRACE : PySem.W.nsIn K mainGlobals "LEFT_BRACE" = some (some (.int (123) tk_LEFT_BRACE)))
    (gi_RIGHT_BRACE : PySem.W.nsIn K mainGlobals "RIGHT_BRACE" = some (some (.int (125) tk_RIGHT_BRACE)))
    (gi_NO_BYTE : PySem.W.nsIn K mainGlobals "NO_BYTE" = some (some (.int (-1) tk_NO_BYTE)))
    (gi_DONE : PySem.W.nsIn K mainGlobals "DONE" = some (some (.int (0) tk_DONE)))
    (gi_NO_SUCH_TEXT : PySem.W.nsIn K mainGlobals "NO_SUCH_TEXT" = some (some (.int (-5) tk_NO_SUCH_TEXT)))
    (gi_TOO_LARGE : PySem.W.nsIn K mainGlobals "TOO_LARGE" = some (some (.int (-6) tk_TOO_LARGE)))
    (gi_MOST_PIECES : PySem.W.nsIn K mainGlobals "MOST_PIECES" = some (some (.int (4096) tk_MOST_PIECES)))
    (gi_MOST_DOCUMENT_BYTES : PySem.W.nsIn K mainGlobals "MOST_DOCUMENT_BYTES" = some (some (.int (262144) tk_MOST_DOCUMENT_BYTES)))
    (gi_MOST_LINES : PySem.W.nsIn K mainGlobals "MOST_LINES" = some (some (.int (16384) tk_MOST_LINES)))
    (gi_LINE_END : PySem.W.nsIn K mainGlobals "LINE_END" = some (some (.int (10) tk_LINE_END)))
    (gi_RAW_MARK : PySem.W.nsIn K mainGlobals "RAW_MARK" = some (some (.int (124) tk_RAW_MARK)))
    (gi_PARAGRAPH_MARK : PySem.W.nsIn K mainGlobals "PARAGRAPH_MARK" = some (some (.int (62) tk_PARAGRAPH_MARK)))
    (gi_TOO_MANY_LINES : PySem.W.nsIn K mainGlobals "TOO_MANY_LINES" = some (some (.int (6) tk_TOO_MANY_LINES)))
    (gi_NO_MARK : PySem.W.nsIn K mainGlobals "NO_MARK" = some (some (.int (1) tk_NO_MARK)))
    (gi_NOT_ENDED : PySem.W.nsIn K mainGlobals "NOT_ENDED" = some (some (.int (5) tk_NOT_ENDED)))
    (gi_WRONG_BYTE : PySem.W.nsIn K mainGlobals "WRONG_BYTE" = some (some (.int (2) tk_WRONG_BYTE)))
    (gi_LINE_TOO_LARGE : PySem.W.nsIn K mainGlobals "LINE_TOO_LARGE" = some (some (.int (4) tk_LINE_TOO_LARGE)))
    (gi_NOT_PAIRED : PySem.W.nsIn K mainGlobals "NOT_PAIRED" = some (some (.int (3) tk_NOT_PAIRED)))
    (bb_len : PySem.W.nsIn K mainGlobals "len" = some none)
    (bb_range : PySem.W.nsIn K mainGlobals "range" = some none)
    (bb_ord : PySem.W.nsIn K mainGlobals "ord" = some none)
    (bb_str : PySem.W.nsIn K mainGlobals "str" = some none)
    (bb_sum : PySem.W.nsIn K mainGlobals "sum" = some none)
    (gg_TAIL_BYTES : PySem.W.nsIn K mainGlobals "TAIL_BYTES" = some (some (.ref a_TAIL_BYTES)))
    (gg_SIGNS : PySem.W.nsIn K mainGlobals "SIGNS" = some (some (.ref a_SIGNS)))
    (gg_COUNTED : PySem.W.nsIn K mainGlobals "COUNTED" = some (some (.ref a_COUNTED)))
    (gg_SECOND_BYTES : PySem.W.nsIn K mainGlobals "SECOND_BYTES" = some (some (.ref a_SECOND_BYTES)))
    (ld_SECOND_BYTES : K.lookup a_SECOND_BYTES = some ⟨.type "dict", none, .dict #[⟨e_SECOND_BYTES_0, .int 194 y_SECOND_BYTES_0, .ref a_SECOND_BYTES_0⟩, ⟨e_SECOND_BYTES_1, .int 224 y_SECOND_BYTES_1, .ref a_SECOND_BYTES_1⟩, ⟨e_SECOND_BYTES_2, .int 237 y_SECOND_BYTES_2, .ref a_SECOND_BYTES_2⟩, ⟨e_SECOND_BYTES_3, .int 240 y_SECOND_BYTES_3, .ref a_SECOND_BYTES_3⟩, ⟨e_SECOND_BYTES_4, .int 244 y_SECOND_BYTES_4, .ref a_SECOND_BYTES_4⟩] ep_SECOND_BYTES, #[]⟩)
    (nd_SECOND_BYTES : (a_SECOND_BYTES == sysModules) = false)
    (z_SECOND_BYTES_0 : e_SECOND_BYTES_0 = hashInt 194)
    (z_SECOND_BYTES_1 : e_SECOND_BYTES_1 = hashInt 224)
    (z_SECOND_BYTES_2 : e_SECOND_BYTES_2 = hashInt 237)
    (z_SECOND_BYTES_3 : e_SECOND_BYTES_3 = hashInt 240)
    (z_SECOND_BYTES_4 : e_SECOND_BYTES_4 = hashInt 244)
    (lt_SIGNS : K.lookup a_SIGNS = some ⟨.type "tuple", ot_SIGNS, .seq #[.ref a_SIGNS_0, .ref a_SIGNS_1, .ref a_SIGNS_2, .ref a_SIGNS_3, .ref a_SIGNS_4, .ref a_SIGNS_5, .ref a_SIGNS_6, .ref a_SIGNS_7, .ref a_SIGNS_8] nt_SIGNS, st_SIGNS⟩)
    (lt_TAIL_BYTES : K.lookup a_TAIL_BYTES = some ⟨.type "tuple", ot_TAIL_BYTES, .seq #[.int (128) u_TAIL_BYTES_0, .int (191) u_TAIL_BYTES_1] nt_TAIL_BYTES, st_TAIL_BYTES⟩)
    (lt_SECOND_BYTES_0 : K.lookup a_SECOND_BYTES_0 = some ⟨.type "tuple", ot_SECOND_BYTES_0, .seq #[.int (160) u_SECOND_BYTES_0_0, .int (191) u_SECOND_BYTES_0_1] nt_SECOND_BYTES_0, st_SECOND_BYTES_0⟩)
    (lt_SECOND_BYTES_1 : K.lookup a_SECOND_BYTES_1 = some ⟨.type "tuple", ot_SECOND_BYTES_1, .seq #[.int (160) u_SECOND_BYTES_1_0, .int (191) u_SECOND_BYTES_1_1] nt_SECOND_BYTES_1, st_SECOND_BYTES_1⟩)
    (lt_SECOND_BYTES_2 : K.lookup a_SECOND_BYTES_2 = some ⟨.type "tuple", ot_SECOND_BYTES_2, .seq #[.int (128) u_SECOND_BYTES_2_0, .int (159) u_SECOND_BYTES_2_1] nt_SECOND_BYTES_2, st_SECOND_BYTES_2⟩)
    (lt_SECOND_BYTES_3 : K.lookup a_SECOND_BYTES_3 = some ⟨.type "tuple", ot_SECOND_BYTES_3, .seq #[.int (144) u_SECOND_BYTES_3_0, .int (191) u_SECOND_BYTES_3_1] nt_SECOND_BYTES_3, st_SECOND_BYTES_3⟩)
    (lt_SECOND_BYTES_4 : K.lookup a_SECOND_BYTES_4 = some ⟨.type "tuple", ot_SECOND_BYTES_4, .seq #[.int (128) u_SECOND_BYTES_4_0, .int (143) u_SECOND_BYTES_4_1] nt_SECOND_BYTES_4, st_SECOND_BYTES_4⟩)
    (lt_SIGNS_0 : K.lookup a_SIGNS_0 = some ⟨.type "tuple", ot_SIGNS_0, .seq #[.int (33) u_SIGNS_0_0, .int (47) u_SIGNS_0_1] nt_SIGNS_0, st_SIGNS_0⟩)
    (lt_SIGNS_1 : K.lookup a_SIGNS_1 = some ⟨.type "tuple", ot_SIGNS_1, .seq #[.int (58) u_SIGNS_1_0, .int (64) u_SIGNS_1_1] nt_SIGNS_1, st_SIGNS_1⟩)
    (lt_SIGNS_2 : K.lookup a_SIGNS_2 = some ⟨.type "tuple", ot_SIGNS_2, .seq #[.int (91) u_SIGNS_2_0, .int (96) u_SIGNS_2_1] nt_SIGNS_2, st_SIGNS_2⟩)
    (lt_SIGNS_3 : K.lookup a_SIGNS_3 = some ⟨.type "tuple", ot_SIGNS_3, .seq #[.int (123) u_SIGNS_3_0, .int (126) u_SIGNS_3_1] nt_SIGNS_3, st_SIGNS_3⟩)
    (lt_SIGNS_4 : K.lookup a_SIGNS_4 = some ⟨.type "tuple", ot_SIGNS_4, .seq #[.int (161) u_SIGNS_4_0, .int (191) u_SIGNS_4_1] nt_SIGNS_4, st_SIGNS_4⟩)
    (lt_SIGNS_5 : K.lookup a_SIGNS_5 = some ⟨.type "tuple", ot_SIGNS_5, .seq #[.int (215) u_SIGNS_5_0, .int (215) u_SIGNS_5_1] nt_SIGNS_5, st_SIGNS_5⟩)
    (lt_SIGNS_6 : K.lookup a_SIGNS_6 = some ⟨.type "tuple", ot_SIGNS_6, .seq #[.int (247) u_SIGNS_6_0, .int (247) u_SIGNS_6_1] nt_SIGNS_6, st_SIGNS_6⟩)
    (lt_SIGNS_7 : K.lookup a_SIGNS_7 = some ⟨.type "tuple", ot_SIGNS_7, .seq #[.int (8208) u_SIGNS_7_0, .int (8303) u_SIGNS_7_1] nt_SIGNS_7, st_SIGNS_7⟩)
    (lt_SIGNS_8 : K.lookup a_SIGNS_8 = some ⟨.type "tuple", ot_SIGNS_8, .seq #[.int (12288) u_SIGNS_8_0, .int (12351) u_SIGNS_8_1] nt_SIGNS_8, st_SIGNS_8⟩)
    (lt_COUNTED : K.lookup a_COUNTED = some ⟨.type "tuple", ot_COUNTED, .seq #[.ref f_count_pieces, .ref f_count_characters, .ref f_count_tags, .ref f_count_words] nt_COUNTED, st_COUNTED⟩) :
    Txt P w K mg ⟨C_Fault, N_Fault, C_LineFault, N_LineFault, C_Scan, C_Unit, C_Reading, C_Line, f_Fault_init, f_LineFault_init, f_Scan_init, f_Scan_peek, f_Scan_take, f_Unit_init, f_Reading_init, f_Line_init, f_tail_length, f_with_tail_byte, f_take_code, f_take_character, f_take_number, f_take_tag, f_take_piece, f_read_each, f_read_pieces, f_read_characters, f_tail_byte, f_write_character, f_write_number, f_only_tags, f_find_places, f_rename_numbers, f_find_halves, f_is_sign, f_is_of_word, f_make_unit, f_find_units, f_count_pieces, f_count_characters, f_count_tags, f_count_words, f_tell_paired, f_read_behind_mark, f_read_line, f_find_line_end, f_read_lines, f_read_document, f_count, a_TAIL_BYTES, a_SECOND_BYTES, a_SECOND_BYTES_0, a_SECOND_BYTES_1, a_SECOND_BYTES_2, a_SECOND_BYTES_3, a_SECOND_BYTES_4, a_SIGNS, a_SIGNS_0, a_SIGNS_1, a_SIGNS_2, a_SIGNS_3, a_SIGNS_4, a_SIGNS_5, a_SIGNS_6, a_SIGNS_7, a_SIGNS_8, a_COUNTED⟩ := by
  have KD_SECOND_BYTES : KDict P w K a_SECOND_BYTES [(.inl 194, .ref a_SECOND_BYTES_0), (.inl 224, .ref a_SECOND_BYTES_1), (.inl 237, .ref a_SECOND_BYTES_2), (.inl 240, .ref a_SECOND_BYTES_3), (.inl 244, .ref a_SECOND_BYTES_4)] := by
    refine ⟨nd_SECOND_BYTES, _, _, _, [(.inl 194, .ref a_SECOND_BYTES_0), (.inl 224, .ref a_SECOND_BYTES_1), (.inl 237, .ref a_SECOND_BYTES_2), (.inl 240, .ref a_SECOND_BYTES_3), (.inl 244, .ref a_SECOND_BYTES_4)], ld_SECOND_BYTES, ⟨rfl, rfl, rfl⟩, rfl, fun e he => ?_, ?_, (by show ([.inl 194, .inl 224, .inl 237, .inl 240, .inl 244] : List Key).Nodup; decide +kernel), ?_⟩
    · have he : e ∈ [(⟨e_SECOND_BYTES_0, .int 194 y_SECOND_BYTES_0, .ref a_SECOND_BYTES_0⟩ : DictEntry), ⟨e_SECOND_BYTES_1, .int 224 y_SECOND_BYTES_1, .ref a_SECOND_BYTES_1⟩, ⟨e_SECOND_BYTES_2, .int 237 y_SECOND_BYTES_2, .ref a_SECOND_BYTES_2⟩, ⟨e_SECOND_BYTES_3, .int 240 y_SECOND_BYTES_3, .ref a_SECOND_BYTES_3⟩, ⟨e_SECOND_BYTES_4, .int 244 y_SECOND_BYTES_4, .ref a_SECOND_BYTES_4⟩] := by simpa using he
      simp only [List.mem_cons, List.not_mem_nil, or_false] at he
      rcases he with rfl | rfl | rfl | rfl | rfl
      · exact ⟨.inl 194, keyIs_int _ y_SECOND_BYTES_0, z_SECOND_BYTES_0⟩
      · exact ⟨.inl 224, keyIs_int _ y_SECOND_BYTES_1, z_SECOND_BYTES_1⟩
      · exact ⟨.inl 237, keyIs_int _ y_SECOND_BYTES_2, z_SECOND_BYTES_2⟩
      · exact ⟨.inl 240, keyIs_int _ y_SECOND_BYTES_3, z_SECOND_BYTES_3⟩
      · exact ⟨.inl 244, keyIs_int _ y_SECOND_BYTES_4, z_SECOND_BYTES_4⟩
    · exact .cons (keyIs_int _ y_SECOND_BYTES_0) rfl (.cons (keyIs_int _ y_SECOND_BYTES_1) rfl (.cons (keyIs_int _ y_SECOND_BYTES_2) rfl (.cons (keyIs_int _ y_SECOND_BYTES_3) rfl (.cons (keyIs_int _ y_SECOND_BYTES_4) rfl (.nil)))))
    · exact .cons ⟨rfl, rfl⟩ (.cons ⟨rfl, rfl⟩ (.cons ⟨rfl, rfl⟩ (.cons ⟨rfl, rfl⟩ (.cons ⟨rfl, rfl⟩ (.nil)))))
  have F_Fault_init := fun_mk (st := s_Fault_init) l_Fault_init c_Fault_init k_Fault_init
  have b_Fault_init := F_Fault_init.binds (ps := ["self", "place"]) fun _ _ _ _ _ _ us hl => match us, hl with | [_, _], _ => rfl
  have F_LineFault_init := fun_mk (st := s_LineFault_init) l_LineFault_init c_LineFault_init k_LineFault_init
  have b_LineFault_init := F_LineFault_init.binds (ps := ["self", "kind", "place"]) fun _ _ _ _ _ _ us hl => match us, hl with | [_, _, _], _ => rfl
  have F_Scan_init := fun_mk (st := s_Scan_init) l_Scan_init c_Scan_init k_Scan_init
  have b_Scan_init := F_Scan_init.binds (ps := ["self", "t"]) fun _ _ _ _ _ _ us hl => match us, hl with | [_, _], _ => rfl
  have F_Scan_peek := fun_mk (st := s_Scan_peek) l_Scan_peek c_Scan_peek k_Scan_peek
  have b_Scan_peek := F_Scan_peek.binds (ps := ["self"]) fun _ _ _ _ _ _ us hl => match us, hl with | [_], _ => rfl
  have F_Scan_take := fun_mk (st := s_Scan_take) l_Scan_take c_Scan_take k_Scan_take
  have b_Scan_take := F_Scan_take.binds (ps := ["self", "low", "high"]) fun _ _ _ _ _ _ us hl => match us, hl with | [_, _, _], _ => rfl
  have F_Unit_init := fun_mk (st := s_Unit_init) l_Unit_init c_Unit_init k_Unit_init
  have b_Unit_init := F_Unit_init.binds (ps := ["self", "group", "tag_kind", "text"]) fun _ _ _ _ _ _ us hl => match us, hl with | [_, _, _, _], _ => rfl
  have F_Reading_init := fun_mk (st := s_Reading_init) l_Reading_init c_Reading_init k_Reading_init
  have b_Reading_init := F_Reading_init.binds (ps := ["self", "parts", "refusal"]) fun _ _ _ _ _ _ us hl => match us, hl with | [_, _, _], _ => rfl
  have F_Line_init := fun_mk (st := s_Line_init) l_Line_init c_Line_init k_Line_init
  have b_Line_init := F_Line_init.binds (ps := ["self", "is_paragraph", "text", "pieces"]) fun _ _ _ _ _ _ us hl => match us, hl with | [_, _, _, _], _ => rfl
  have F_tail_length := fun_mk (st := s_tail_length) l_tail_length c_tail_length k_tail_length
  have b_tail_length := F_tail_length.binds (ps := ["first"]) fun _ _ _ _ _ _ us hl => match us, hl with | [_], _ => rfl
  have F_with_tail_byte := fun_mk (st := s_with_tail_byte) l_with_tail_byte c_with_tail_byte k_with_tail_byte
  have b_with_tail_byte := F_with_tail_byte.binds (ps := ["code", "byte"]) fun _ _ _ _ _ _ us hl => match us, hl with | [_, _], _ => rfl
  have F_take_code := fun_mk (st := s_take_code) l_take_code c_take_code k_take_code
  have b_take_code := F_take_code.binds (ps := ["scan"]) fun _ _ _ _ _ _ us hl => match us, hl with | [_], _ => rfl
  have F_take_character := fun_mk (st := s_take_character) l_take_character c_take_character k_take_character
  have b_take_character := F_take_character.binds (ps := ["scan"]) fun _ _ _ _ _ _ us hl => match us, hl with | [_], _ => rfl
  have F_take_number := fun_mk (st := s_take_number) l_take_number c_take_number k_take_number
  have b_take_number := F_take_number.binds (ps := ["scan"]) fun _ _ _ _ _ _ us hl => match us, hl with | [_], _ => rfl
  have F_take_tag := fun_mk (st := s_take_tag) l_take_tag c_take_tag k_take_tag
  have b_take_tag := F_take_tag.binds (ps := ["scan"]) fun _ _ _ _ _ _ us hl => match us, hl with | [_], _ => rfl
  have F_take_piece := fun_mk (st := s_take_piece) l_take_piece c_take_piece k_take_piece
  have b_take_piece := F_take_piece.binds (ps := ["scan"]) fun _ _ _ _ _ _ us hl => match us, hl with | [_], _ => rfl
  have F_read_each := fun_mk (st := s_read_each) l_read_each c_read_each k_read_each
  have b_read_each := F_read_each.binds (ps := ["t", "take_one"]) fun _ _ _ _ _ _ us hl => match us, hl with | [_, _], _ => rfl
  have F_read_pieces := fun_mk (st := s_read_pieces) l_read_pieces c_read_pieces k_read_pieces
  have b_read_pieces := F_read_pieces.binds (ps := ["t"]) fun _ _ _ _ _ _ us hl => match us, hl with | [_], _ => rfl
  have F_read_characters := fun_mk (st := s_read_characters) l_read_characters c_read_characters k_read_characters
  have b_read_characters := F_read_characters.binds (ps := ["t"]) fun _ _ _ _ _ _ us hl => match us, hl with | [_], _ => rfl
  have F_tail_byte := fun_mk (st := s_tail_byte) l_tail_byte c_tail_byte k_tail_byte
  have b_tail_byte := F_tail_byte.binds (ps := ["code"]) fun _ _ _ _ _ _ us hl => match us, hl with | [_], _ => rfl
  have F_write_character := fun_mk (st := s_write_character) l_write_character c_write_character k_write_character
  have b_write_character := F_write_character.binds (ps := ["code"]) fun _ _ _ _ _ _ us hl => match us, hl with | [_], _ => rfl
  have F_write_number := fun_mk (st := s_write_number) l_write_number c_write_number k_write_number
  have b_write_number := F_write_number.binds (ps := ["number"]) fun _ _ _ _ _ _ us hl => match us, hl with | [_], _ => rfl
  have F_only_tags := fun_mk (st := s_only_tags) l_only_tags c_only_tags k_only_tags
  have b_only_tags := F_only_tags.binds (ps := ["pieces"]) fun _ _ _ _ _ _ us hl => match us, hl with | [_], _ => rfl
  have F_find_places := fun_mk (st := s_find_places) l_find_places c_find_places k_find_places
  have b_find_places := F_find_places.binds (ps := ["pieces"]) fun _ _ _ _ _ _ us hl => match us, hl with | [_], _ => rfl
  have F_rename_numbers := fun_mk (st := s_rename_numbers) l_rename_numbers c_rename_numbers k_rename_numbers
  have b_rename_numbers := F_rename_numbers.binds (ps := ["pieces"]) fun _ _ _ _ _ _ us hl => match us, hl with | [_], _ => rfl
  have F_find_halves := fun_mk (st := s_find_halves) l_find_halves c_find_halves k_find_halves
  have b_find_halves := F_find_halves.binds (ps := ["pieces"]) fun _ _ _ _ _ _ us hl => match us, hl with | [_], _ => rfl
  have F_is_sign := fun_mk (st := s_is_sign) l_is_sign c_is_sign k_is_sign
  have b_is_sign := F_is_sign.binds (ps := ["code"]) fun _ _ _ _ _ _ us hl => match us, hl with | [_], _ => rfl
  have F_is_of_word := fun_mk (st := s_is_of_word) l_is_of_word c_is_of_word k_is_of_word
  have b_is_of_word := F_is_of_word.binds (ps := ["kind", "number"]) fun _ _ _ _ _ _ us hl => match us, hl with | [_, _], _ => rfl
  have F_make_unit := fun_mk (st := s_make_unit) l_make_unit c_make_unit k_make_unit
  have b_make_unit := F_make_unit.binds (ps := ["kind", "number"]) fun _ _ _ _ _ _ us hl => match us, hl with | [_, _], _ => rfl
  have F_find_units := fun_mk (st := s_find_units) l_find_units c_find_units k_find_units
  have b_find_units := F_find_units.binds (ps := ["pieces"]) fun _ _ _ _ _ _ us hl => match us, hl with | [_], _ => rfl
  have F_count_pieces := fun_mk (st := s_count_pieces) l_count_pieces c_count_pieces k_count_pieces
  have b_count_pieces := F_count_pieces.binds (ps := ["pieces"]) fun _ _ _ _ _ _ us hl => match us, hl with | [_], _ => rfl
  have F_count_characters := fun_mk (st := s_count_characters) l_count_characters c_count_characters k_count_characters
  have b_count_characters := F_count_characters.binds (ps := ["pieces"]) fun _ _ _ _ _ _ us hl => match us, hl with | [_], _ => rfl
  have F_count_tags := fun_mk (st := s_count_tags) l_count_tags c_count_tags k_count_tags
  have b_count_tags := F_count_tags.binds (ps := ["pieces"]) fun _ _ _ _ _ _ us hl => match us, hl with | [_], _ => rfl
  have F_count_words := fun_mk (st := s_count_words) l_count_words c_count_words k_count_words
  have b_count_words := F_count_words.binds (ps := ["pieces"]) fun _ _ _ _ _ _ us hl => match us, hl with | [_], _ => rfl
  have F_tell_paired := fun_mk (st := s_tell_paired) l_tell_paired c_tell_paired k_tell_paired
  have b_tell_paired := F_tell_paired.binds (ps := ["pieces"]) fun _ _ _ _ _ _ us hl => match us, hl with | [_], _ => rfl
  have F_read_behind_mark := fun_mk (st := s_read_behind_mark) l_read_behind_mark c_read_behind_mark k_read_behind_mark
  have b_read_behind_mark := F_read_behind_mark.binds (ps := ["is_paragraph", "text", "first"]) fun _ _ _ _ _ _ us hl => match us, hl with | [_, _, _], _ => rfl
  have F_read_line := fun_mk (st := s_read_line) l_read_line c_read_line k_read_line
  have b_read_line := F_read_line.binds (ps := ["t", "start", "end"]) fun _ _ _ _ _ _ us hl => match us, hl with | [_, _, _], _ => rfl
  have F_find_line_end := fun_mk (st := s_find_line_end) l_find_line_end c_find_line_end k_find_line_end
  have b_find_line_end := F_find_line_end.binds (ps := ["t", "start"]) fun _ _ _ _ _ _ us hl => match us, hl with | [_, _], _ => rfl
  have F_read_lines := fun_mk (st := s_read_lines) l_read_lines c_read_lines k_read_lines
  have b_read_lines := F_read_lines.binds (ps := ["t"]) fun _ _ _ _ _ _ us hl => match us, hl with | [_], _ => rfl
  have F_read_document := fun_mk (st := s_read_document) l_read_document c_read_document k_read_document
  have b_read_document := F_read_document.binds (ps := ["t"]) fun _ _ _ _ _ _ us hl => match us, hl with | [_], _ => rfl
  have F_count := fun_mk (st := s_count) l_count c_count k_count
  have b_count := F_count.binds (ps := ["t"]) fun _ _ _ _ _ _ us hl => match us, hl with | [_], _ => rfl
  exact {
    x_Fault := ⟨⟨nm_Fault, q_Fault, bs_Fault, sn_Fault, sub_Fault, ab_Fault, col_Fault, dd_Fault, x0_Fault, x1_Fault, x2_Fault, x3_Fault, x5_Fault, xC_Fault⟩, ok_Fault, in_Fault, sa_Fault, ga_Fault, gb_Fault, kp_Fault, ⟨_, l_Fault_init, oc_is_Fault⟩⟩
    n_Fault_place := ⟨pl_Fault_place, by rw [typeLookup_type, builtinLookup_eq_fast]; kernel_rfl⟩
    g_Fault := PySem.W.mg_of X G aa_Fault
    x_LineFault := ⟨⟨nm_LineFault, q_LineFault, bs_LineFault, sn_LineFault, sub_LineFault, ab_LineFault, col_LineFault, dd_LineFault, x0_LineFault, x1_LineFault, x2_LineFault, x3_LineFault, x5_LineFault, xC_LineFault⟩, ok_LineFault, in_LineFault, sa_LineFault, ga_LineFault, gb_LineFault, kp_LineFault, ⟨_, l_LineFault_init, oc_is_LineFault⟩⟩
    n_LineFault_kind := ⟨pl_LineFault_kind, by rw [typeLookup_type, builtinLookup_eq_fast]; kernel_rfl⟩
    n_LineFault_place := ⟨pl_LineFault_place, by rw [typeLookup_type, builtinLookup_eq_fast]; kernel_rfl⟩
    g_LineFault := PySem.W.mg_of X G aa_LineFault
    c_Scan := ⟨pg_Scan, hd_Scan, po_Scan, sa_Scan⟩
    n_Scan_t := nn_Scan_t
    n_Scan_at := nn_Scan_at
    g_Scan := PySem.W.mg_of X G aa_Scan
    mk_Scan := ⟨mk_Scan, am_Scan_init, is_Scan_init, kc_Scan⟩
    m_Scan_peek := ⟨am_Scan_peek, is_Scan_peek, k_Scan_peek⟩
    m_Scan_take := ⟨am_Scan_take, is_Scan_take, k_Scan_take⟩
    c_Unit := ⟨pg_Unit, hd_Unit, po_Unit, sa_Unit⟩
    n_Unit_group := nn_Unit_group
    n_Unit_tag_kind := nn_Unit_tag_kind
    n_Unit_text := nn_Unit_text
    g_Unit := PySem.W.mg_of X G aa_Unit
    mk_Unit := ⟨mk_Unit, am_Unit_init, is_Unit_init, kc_Unit⟩
    c_Reading := ⟨pg_Reading, hd_Reading, po_Reading, sa_Reading⟩
    n_Reading_parts := nn_Reading_parts
    n_Reading_refusal := nn_Reading_refusal
    g_Reading := PySem.W.mg_of X G aa_Reading
    mk_Reading := ⟨mk_Reading, am_Reading_init, is_Reading_init, kc_Reading⟩
    c_Line := ⟨pg_Line, hd_Line, po_Line, sa_Line⟩
    n_Line_is_paragraph := nn_Line_is_paragraph
    n_Line_text := nn_Line_text
    n_Line_pieces := nn_Line_pieces
    g_Line := PySem.W.mg_of X G aa_Line
    mk_Line := ⟨mk_Line, am_Line_init, is_Line_init, kc_Line⟩
    g_tail_length := PySem.W.mg_of X G ag_tail_length
    g_with_tail_byte := PySem.W.mg_of X G ag_with_tail_byte
    g_take_code := PySem.W.mg_of X G ag_take_code
    g_take_character := PySem.W.mg_of X G ag_take_character
    g_take_number := PySem.W.mg_of X G ag_take_number
    g_take_tag := PySem.W.mg_of X G ag_take_tag
    g_take_piece := PySem.W.mg_of X G ag_take_piece
    g_read_each := PySem.W.mg_of X G ag_read_each
    g_read_pieces := PySem.W.mg_of X G ag_read_pieces
    g_read_characters := PySem.W.mg_of X G ag_read_characters
    g_tail_byte := PySem.W.mg_of X G ag_tail_byte
    g_write_character := PySem.W.mg_of X G ag_write_character
    g_write_number := PySem.W.mg_of X G ag_write_number
    g_only_tags := PySem.W.mg_of X G ag_only_tags
    g_find_places := PySem.W.mg_of X G ag_find_places
    g_rename_numbers := PySem.W.mg_of X G ag_rename_numbers
    g_find_halves := PySem.W.mg_of X G ag_find_halves
    g_is_sign := PySem.W.mg_of X G ag_is_sign
    g_is_of_word := PySem.W.mg_of X G ag_is_of_word
    g_make_unit := PySem.W.mg_of X G ag_make_unit
    g_find_units := PySem.W.mg_of X G ag_find_units
    g_count_pieces := PySem.W.mg_of X G ag_count_pieces
    g_count_characters := PySem.W.mg_of X G ag_count_characters
    g_count_tags := PySem.W.mg_of X G ag_count_tags
    g_count_words := PySem.W.mg_of X G ag_count_words
    g_tell_paired := PySem.W.mg_of X G ag_tell_paired
    g_read_behind_mark := PySem.W.mg_of X G ag_read_behind_mark
    g_read_line := PySem.W.mg_of X G ag_read_line
    g_find_line_end := PySem.W.mg_of X G ag_find_line_end
    g_read_lines := PySem.W.mg_of X G ag_read_lines
    g_read_document := PySem.W.mg_of X G ag_read_document
    g_count := PySem.W.mg_of X G ag_count
    b_len := PySem.W.ns_none_of X G bb_len
    b_range := PySem.W.ns_none_of X G bb_range
    b_ord := PySem.W.ns_none_of X G bb_ord
    b_str := PySem.W.ns_none_of X G bb_str
    b_sum := PySem.W.ns_none_of X G bb_sum
    i_CHARACTER := ⟨_, PySem.W.mg_of X G gi_CHARACTER⟩
    i_OPENING := ⟨_, PySem.W.mg_of X G gi_OPENING⟩
    i_CLOSING := ⟨_, PySem.W.mg_of X G gi_CLOSING⟩
    i_ALONE := ⟨_, PySem.W.mg_of X G gi_ALONE⟩
    i_WORD := ⟨_, PySem.W.mg_of X G gi_WORD⟩
    i_SIGN := ⟨_, PySem.W.mg_of X G gi_SIGN⟩
    i_TAG := ⟨_, PySem.W.mg_of X G gi_TAG⟩
    i_BLANK := ⟨_, PySem.W.mg_of X G gi_BLANK⟩
    i_NOUGHT := ⟨_, PySem.W.mg_of X G gi_NOUGHT⟩
    i_ONE := ⟨_, PySem.W.mg_of X G gi_ONE⟩
    i_NINE := ⟨_, PySem.W.mg_of X G gi_NINE⟩
    i_LEFT_BRACE := ⟨_, PySem.W.mg_of X G gi_LEFT_BRACE⟩
    i_RIGHT_BRACE := ⟨_, PySem.W.mg_of X G gi_RIGHT_BRACE⟩
    i_NO_BYTE := ⟨_, PySem.W.mg_of X G gi_NO_BYTE⟩
    i_DONE := ⟨_, PySem.W.mg_of X G gi_DONE⟩
    i_NO_SUCH_TEXT := ⟨_, PySem.W.mg_of X G gi_NO_SUCH_TEXT⟩
    i_TOO_LARGE := ⟨_, PySem.W.mg_of X G gi_TOO_LARGE⟩
    i_MOST_PIECES := ⟨_, PySem.W.mg_of X G gi_MOST_PIECES⟩
    i_MOST_DOCUMENT_BYTES := ⟨_, PySem.W.mg_of X G gi_MOST_DOCUMENT_BYTES⟩
    i_MOST_LINES := ⟨_, PySem.W.mg_of X G gi_MOST_LINES⟩
    i_LINE_END := ⟨_, PySem.W.mg_of X G gi_LINE_END⟩
    i_RAW_MARK := ⟨_, PySem.W.mg_of X G gi_RAW_MARK⟩
    i_PARAGRAPH_MARK := ⟨_, PySem.W.mg_of X G gi_PARAGRAPH_MARK⟩
    i_TOO_MANY_LINES := ⟨_, PySem.W.mg_of X G gi_TOO_MANY_LINES⟩
    i_NO_MARK := ⟨_, PySem.W.mg_of X G gi_NO_MARK⟩
    i_NOT_ENDED := ⟨_, PySem.W.mg_of X G gi_NOT_ENDED⟩
    i_WRONG_BYTE := ⟨_, PySem.W.mg_of X G gi_WRONG_BYTE⟩
    i_LINE_TOO_LARGE := ⟨_, PySem.W.mg_of X G gi_LINE_TOO_LARGE⟩
    i_NOT_PAIRED := ⟨_, PySem.W.mg_of X G gi_NOT_PAIRED⟩
    g_TAIL_BYTES := PySem.W.mg_of X G gg_TAIL_BYTES
    t_TAIL_BYTES := tup_ii lt_TAIL_BYTES (.cons ⟨_, rfl⟩ (.cons ⟨_, rfl⟩ .nil))
    g_SECOND_BYTES := PySem.W.mg_of X G gg_SECOND_BYTES
    t_SECOND_BYTES_0 := tup_ii lt_SECOND_BYTES_0 (.cons ⟨_, rfl⟩ (.cons ⟨_, rfl⟩ .nil))
    t_SECOND_BYTES_1 := tup_ii lt_SECOND_BYTES_1 (.cons ⟨_, rfl⟩ (.cons ⟨_, rfl⟩ .nil))
    t_SECOND_BYTES_2 := tup_ii lt_SECOND_BYTES_2 (.cons ⟨_, rfl⟩ (.cons ⟨_, rfl⟩ .nil))
    t_SECOND_BYTES_3 := tup_ii lt_SECOND_BYTES_3 (.cons ⟨_, rfl⟩ (.cons ⟨_, rfl⟩ .nil))
    t_SECOND_BYTES_4 := tup_ii lt_SECOND_BYTES_4 (.cons ⟨_, rfl⟩ (.cons ⟨_, rfl⟩ .nil))
    d_SECOND_BYTES := KD_SECOND_BYTES
    g_SIGNS := PySem.W.mg_of X G gg_SIGNS
    t_SIGNS := tup_ii lt_SIGNS (.cons rfl (.cons rfl (.cons rfl (.cons rfl (.cons rfl (.cons rfl (.cons rfl (.cons rfl (.cons rfl (.nil))))))))))
    t_SIGNS_0 := tup_ii lt_SIGNS_0 (.cons ⟨_, rfl⟩ (.cons ⟨_, rfl⟩ .nil))
    t_SIGNS_1 := tup_ii lt_SIGNS_1 (.cons ⟨_, rfl⟩ (.cons ⟨_, rfl⟩ .nil))
    t_SIGNS_2 := tup_ii lt_SIGNS_2 (.cons ⟨_, rfl⟩ (.cons ⟨_, rfl⟩ .nil))
    t_SIGNS_3 := tup_ii lt_SIGNS_3 (.cons ⟨_, rfl⟩ (.cons ⟨_, rfl⟩ .nil))
    t_SIGNS_4 := tup_ii lt_SIGNS_4 (.cons ⟨_, rfl⟩ (.cons ⟨_, rfl⟩ .nil))
    t_SIGNS_5 := tup_ii lt_SIGNS_5 (.cons ⟨_, rfl⟩ (.cons ⟨_, rfl⟩ .nil))
    t_SIGNS_6 := tup_ii lt_SIGNS_6 (.cons ⟨_, rfl⟩ (.cons ⟨_, rfl⟩ .nil))
    t_SIGNS_7 := tup_ii lt_SIGNS_7 (.cons ⟨_, rfl⟩ (.cons ⟨_, rfl⟩ .nil))
    t_SIGNS_8 := tup_ii lt_SIGNS_8 (.cons ⟨_, rfl⟩ (.cons ⟨_, rfl⟩ .nil))
    g_COUNTED := PySem.W.mg_of X G gg_COUNTED
    t_COUNTED := tup_ii lt_COUNTED (.cons rfl (.cons rfl (.cons rfl (.cons rfl (.nil)))))
    d_Fault_init := ⟨_, F_Fault_init, b_Fault_init⟩
    d_LineFault_init := ⟨_, F_LineFault_init, b_LineFault_init⟩
    d_Scan_init := ⟨_, F_Scan_init, b_Scan_init⟩
    d_Scan_peek := ⟨_, F_Scan_peek, b_Scan_peek⟩
    d_Scan_take := ⟨_, F_Scan_take, b_Scan_take⟩
    d_Unit_init := ⟨_, F_Unit_init, b_Unit_init⟩
    d_Reading_init := ⟨_, F_Reading_init, b_Reading_init⟩
    d_Line_init := ⟨_, F_Line_init, b_Line_init⟩
    d_tail_length := ⟨_, F_tail_length, b_tail_length⟩
    d_with_tail_byte := ⟨_, F_with_tail_byte, b_with_tail_byte⟩
    d_take_code := ⟨_, F_take_code, b_take_code⟩
    d_take_character := ⟨_, F_take_character, b_take_character⟩
    d_take_number := ⟨_, F_take_number, b_take_number⟩
    d_take_tag := ⟨_, F_take_tag, b_take_tag⟩
    d_take_piece := ⟨_, F_take_piece, b_take_piece⟩
    d_read_each := ⟨_, F_read_each, b_read_each⟩
    d_read_pieces := ⟨_, F_read_pieces, b_read_pieces⟩
    d_read_characters := ⟨_, F_read_characters, b_read_characters⟩
    d_tail_byte := ⟨_, F_tail_byte, b_tail_byte⟩
    d_write_character := ⟨_, F_write_character, b_write_character⟩
    d_write_number := ⟨_, F_write_number, b_write_number⟩
    d_only_tags := ⟨_, F_only_tags, b_only_tags⟩
    d_find_places := ⟨_, F_find_places, b_find_places⟩
    d_rename_numbers := ⟨_, F_rename_numbers, b_rename_numbers⟩
    d_find_halves := ⟨_, F_find_halves, b_find_halves⟩
    d_is_sign := ⟨_, F_is_sign, b_is_sign⟩
    d_is_of_word := ⟨_, F_is_of_word, b_is_of_word⟩
    d_make_unit := ⟨_, F_make_unit, b_make_unit⟩
    d_find_units := ⟨_, F_find_units, b_find_units⟩
    d_count_pieces := ⟨_, F_count_pieces, b_count_pieces⟩
    d_count_characters := ⟨_, F_count_characters, b_count_characters⟩
    d_count_tags := ⟨_, F_count_tags, b_count_tags⟩
    d_count_words := ⟨_, F_count_words, b_count_words⟩
    d_tell_paired := ⟨_, F_tell_paired, b_tell_paired⟩
    d_read_behind_mark := ⟨_, F_read_behind_mark, b_read_behind_mark⟩
    d_read_line := ⟨_, F_read_line, b_read_line⟩
    d_find_line_end := ⟨_, F_find_line_end, b_find_line_end⟩
    d_read_lines := ⟨_, F_read_lines, b_read_lines⟩
    d_read_document := ⟨_, F_read_document, b_read_document⟩
    d_count := ⟨_, F_count, b_count⟩ }
end Fr

namespace Fr
open PySem PySem.Spec PyProof.Rows L2
open PySem.W (Codec)
theorem allB_of {ns : List Int} (h : ns.all (Codec.inInt 0 255) = true) : AllB ns := fun x hx => by
  have q := List.all_eq_true.mp h x hx
  exact Codec.inInt_iff.mp q
end Fr

namespace Fr
open PySem PySem.Spec PyProof.Rows L2
/-! ### the data -/
def scanF (t : Addr) (i : Int) : List (Str × V) := putF "at" (.int i) (putF "t" (.ref t) [])
theorem sf_at (t : Addr) (i : Int) : (scanF t i).lookup ("at" : Str) = some (.int i) := by
  unfold scanF
  rw [lookup_putF, if_pos rfl]
theorem sf_t (t : Addr) (i : Int) : (scanF t i).lookup ("t" : Str) = some (.ref t) := by
  unfold scanF
  rw [lookup_putF, if_neg (by decide +kernel), lookup_putF, if_pos rfl]
theorem sf_no (t : Addr) (i : Int) {m : Str} (h1 : ¬ m = "at") (h2 : ¬ m = "t") : (scanF t i).lookup m = none := by
  unfold scanF
  rw [lookup_putF, if_neg h1, lookup_putF, if_neg h2]
  all_goals rfl
theorem sf_put (t : Addr) (i j : Int) : putF "at" (.int j) (scanF t i) = scanF t j := by
  have n1 : ¬ ("t" : Str) = "at" := by decide +kernel
  have e : ∀ k, scanF t k = ([(("t" : Str), V.ref t), (("at" : Str), V.int k)] : List (Str × V)) := fun k => by
    unfold scanF
    show (if ("t" : Str) = "at" then _ else _) = _
    rw [if_neg n1]
    rfl
  rw [e, e]
  show (if ("t" : Str) = "at" then _ else _) = _
  rw [if_neg n1]
  show (("t" : Str), V.ref t) :: (if ("at" : Str) = "at" then _ else _) = _
  rw [if_pos rfl]
theorem sf_len (t : Addr) (i : Int) : (scanF t i).length < 1000 := by
  have h1 := length_putF "at" (.int i) (putF "t" (.ref t) [])
  have h2 := length_putF "t" (.ref t) []
  unfold scanF
  simp only [List.length_nil] at h2
  omega
/-- a Scan of the list at t that stands at i -/
def ScanAt (C : Addr) (H : Hp) (p t : Addr) (i : Nat) : Prop := ∃ dx, H p = some (.ins C dx (scanF t i))
/-- all but p as it was -/
def SameX (p : Addr) (H H' : Hp) : Prop := ∀ b o, H b = some o → b ≠ p → H' b = some o
theorem SameX.trans {p : Addr} {H H1 H2 : Hp} (a : SameX p H H1) (b : SameX p H1 H2) : SameX p H H2 := fun c o h n => b c o (a c o h n) n
theorem SameX.upd (p : Addr) (H : Hp) (o : HO) : SameX p H (upd H p o) := fun b u e n => by rw [upd_ne n]; exact e
theorem SameX.new {p a : Addr} {H : Hp} {o : HO} (h : H a = none) : SameX p H (L2.upd H a o) := fun b u e _ => by rw [upd_ne (ne_of_none e h)]; exact e
theorem SameX.seq {K : PySem.W.Frag} {H H' : Hp} {p a C dx : Addr} {fs : List (Str × V)} {xs : List V} (e : SameX p H H') (hp : H p = some (.ins C dx fs)) (h : SqL K H a xs) : SqL K H' a xs := by
  rcases h with (h | ⟨o, h⟩) | h
  · exact .inl (.inl (e _ _ h (ne_of h hp (by intro z; cases z))))
  · exact .inl (.inr ⟨o, e _ _ h (ne_of h hp (by intro z; cases z))⟩)
  · exact .inr h
/-- a fault at the place k is wanted -/
def XF (C p : Addr) (k : Int) (H : Hp) (E : XK) : Prop := ∀ (H' : Hp) (dx : Addr), H' dx = some (.xd [("place", .int k)]) → SameX p H H' → E (.ref C) (some dx) H'
theorem XF.later {C p : Addr} {k : Int} {H H1 : Hp} {E : XK} (x : XF C p k H E) (s : SameX p H H1) : XF C p k H1 E := fun H' dx h q => x H' dx h (s.trans q)

/-! ### the promise of each def -/
def spFI (a : Adr) : Sp := fun vs H Q _ => ∃ (x t : Addr) (v : V), vs = [.ref x, v] ∧ H x = some (xNew a.C_Fault t x) ∧ ∀ dx, H dx = none → dx ≠ x → Q .non (upd (upd H dx (.xd [("place", v)])) x (xDic a.C_Fault t dx x))
def spSI (a : Adr) : Sp := fun vs H Q _ => ∃ (p t dx : Addr), vs = [.ref p, .ref t] ∧ H p = some (.ins a.C_Scan dx []) ∧ Q .non (upd H p (.ins a.C_Scan dx (scanF t 0)))
/-- what every def that reads is handed -/
structure Scn (K : PySem.W.Frag) (a : Adr) (H : Hp) (p t : Addr) (ns : List Int) (i : Nat) : Prop where
  at_ : ScanAt a.C_Scan H p t i
  sq : SqL K H t (ns.map V.int)
  bs : AllB ns
theorem Scn.on {K : PySem.W.Frag} {a : Adr} {H H' : Hp} {p t : Addr} {ns : List Int} {i j : Nat} (S : Scn K a H p t ns i) (h : SameX p H H') (k : ScanAt a.C_Scan H' p t j) : Scn K a H' p t ns j :=
  ⟨k, let ⟨_, e⟩ := S.at_; h.seq e S.sq, S.bs⟩
def spPeek (K : PySem.W.Frag) (a : Adr) : Sp := fun vs H Q _ => ∃ (p t : Addr) (ns : List Int) (i : Nat), vs = [.ref p] ∧ Scn K a H p t ns i ∧ Q (.int (byteAt ns i)) H
def spTake (K : PySem.W.Frag) (a : Adr) : Sp := fun vs H Q E => ∃ (p t : Addr) (ns : List Int) (i : Nat) (lo hi : Int), vs = [.ref p, .int lo, .int hi] ∧ Scn K a H p t ns i ∧
  (lo ≤ byteAt ns i ∧ byteAt ns i ≤ hi → ∀ H', ScanAt a.C_Scan H' p t (i + 1) → SameX p H H' → Q (.int (byteAt ns i)) H') ∧ (¬ (lo ≤ byteAt ns i ∧ byteAt ns i ≤ hi) → XF a.C_Fault p i H E)
def spTail : Sp := fun vs H Q _ => ∃ x : Nat, vs = [.int x] ∧ Q (.int (tailOf x)) H
def spWith : Sp := fun vs H Q _ => ∃ v y : Nat, vs = [.int v, .int y] ∧ v < 1114112 ∧ Q (.int ((v * 64 + y % 64 : Nat) : Int)) H
def spChar (K : PySem.W.Frag) (a : Adr) : Sp := fun vs H Q E => ∃ (p t : Addr) (ns : List Int) (i : Nat), vs = [.ref p] ∧ Scn K a H p t ns i ∧
  (∀ v n, Fh.charHere (Bt ns i) = .ok (v, n) → ∀ H', ScanAt a.C_Scan H' p t (i + n) → SameX p H H' → Q (.int v) H') ∧ (∀ k : Nat, Fh.charHere (Bt ns i) = .error k → XF a.C_Fault p ((i + k : Nat) : Int) H E)
def spNum (K : PySem.W.Frag) (a : Adr) : Sp := fun vs H Q E => ∃ (p t : Addr) (ns : List Int) (i : Nat), vs = [.ref p] ∧ Scn K a H p t ns i ∧
  (∀ n v : Nat, DgI ns i n v → ¬ ((v : Int) < 100 ∧ 48 ≤ byteAt ns (i + n) ∧ byteAt ns (i + n) ≤ 57) → ∀ H', ScanAt a.C_Scan H' p t (i + n) → SameX p H H' → Q (.int v) H') ∧ (¬ (49 ≤ byteAt ns i ∧ byteAt ns i ≤ 57) → XF a.C_Fault p i H E)
def PcAt (H : Hp) (b : Addr) (q : Fh.Piece) : Prop := H b = some (.tup [.int (encK q), .int (encN q)])
def PcOutG (here : Fh.Bytes → Except Nat (Fh.Piece × Nat)) (a : Adr) (H : Hp) (p t : Addr) (ns : List Int) (i : Nat) (Q : VK) (E : XK) : Prop :=
  (∀ q n, here (Bt ns i) = .ok (q, n) → ∀ H' b, ScanAt a.C_Scan H' p t (i + n) → PcAt H' b q → SameX p H H' → Q (.ref b) H') ∧ (∀ k : Nat, here (Bt ns i) = .error k → XF a.C_Fault p ((i + k : Nat) : Int) H E)
abbrev PcOut (a : Adr) (H : Hp) (p t : Addr) (ns : List Int) (i : Nat) (Q : VK) (E : XK) : Prop := PcOutG Fh.pieceHere a H p t ns i Q E
def spOne (here : Fh.Bytes → Except Nat (Fh.Piece × Nat)) (K : PySem.W.Frag) (a : Adr) : Sp := fun vs H Q E => ∃ (p t : Addr) (ns : List Int) (i : Nat), vs = [.ref p] ∧ Scn K a H p t ns i ∧ PcOutG here a H p t ns i Q E
def spTag (K : PySem.W.Frag) (a : Adr) : Sp := fun vs H Q E => ∃ (p t : Addr) (ns : List Int) (i : Nat), vs = [.ref p] ∧ Scn K a H p t ns (i + 1) ∧ byteAt ns i = 123 ∧ byteAt ns (i + 1) ≠ 123 ∧ PcOut a H p t ns i Q E
abbrev spPiece (K : PySem.W.Frag) (a : Adr) : Sp := spOne Fh.pieceHere K a
/-- the pieces at the addresses -/
def PcsAt (H : Hp) (bs : List Addr) (ps : Fh.Row) : Prop := Paired (PcAt H) bs ps
def EachOut (here : Fh.Bytes → Except Nat (Fh.Piece × Nat)) (a : Adr) (H : Hp) (ns : List Int) (Q : VK) (E : XK) : Prop :=
  (∀ ps, readG here (FaNeutral.bytesOf ns) = .ok ps → ∀ H' l bs, H' l = some (.lst (bs.map V.ref)) → PcsAt H' bs ps → Same H H' → H l = none → Q (.ref l) H') ∧
  (∀ k : Nat, readG here (FaNeutral.bytesOf ns) = .error k → ∀ (H' : Hp) (dx : Addr), H' dx = some (.xd [("place", .int k)]) → Same H H' → E (.ref a.C_Fault) (some dx) H')
def spEach (here : Fh.Bytes → Except Nat (Fh.Piece × Nat)) (f : Addr) (K : PySem.W.Frag) (a : Adr) : Sp := fun vs H Q E => ∃ (t : Addr) (ns : List Int), vs = [.ref t, .ref f] ∧ SqL K H t (ns.map V.int) ∧ AllB ns ∧ OneOk here ns ∧ ns.length ≤ 300000 ∧ EachOut here a H ns Q E
def spAll (here : Fh.Bytes → Except Nat (Fh.Piece × Nat)) (K : PySem.W.Frag) (a : Adr) : Sp := fun vs H Q E => ∃ (t : Addr) (ns : List Int), vs = [.ref t] ∧ SqL K H t (ns.map V.int) ∧ AllB ns ∧ ns.length ≤ 300000 ∧ EachOut here a H ns Q E
section
variable {P : Program} {w : World} {K : PySem.W.Frag} {mg : Str → Option Value} {base : Heap} {a : Adr}
def OkF (P : Program) (w : World) (K : PySem.W.Frag) (mg : Str → Option Value) (base : Heap) (CX : CXT) (k : Nat) (f : Addr) (ps : List Str) (sp : Sp) : Prop := ∃ fd, FnOk P w K mg base CX k f fd ps sp ∧ Binds K fd ps [] ∧ PySem.W.keepIn K (.ref f) = true
/-! ### one theorem a def -/
theorem scFI : FnScope ["self", "place"] ["self", "place"] (defScope s_Fault_init) := ⟨rfl, rfl, rfl, by decide +kernel, rfl, by decide +kernel, by decide +kernel⟩
theorem ok_FI (T : Txt P w K mg a) : OkF P w K mg base CX0 1 a.f_Fault_init ["self", "place"] (spFI a) := by
  obtain ⟨fd, F, b⟩ := T.d_Fault_init
  refine ⟨fd, F.ok scFI (fun vs H Q E h => ?_) (fun cdv A outer s H vs Q E hr h => ?_), b, F.kp⟩
  · obtain ⟨x, t, v, rfl, _⟩ := h
    rfl
  · obtain ⟨x, t, v, rfl, hx, k⟩ := h
    refine ⟨_, pss_one (ps_xfld T.x_Fault T.n_Fault_place (pv 0) (pv 1) rfl), ?_⟩
    exact ⟨_, rfl, _, rfl, x, t, rfl, hx, fun dx h1 h2 => k dx h1 h2⟩
theorem scSI : FnScope ["self", "t"] ["self", "t"] (defScope s_Scan_init) := ⟨rfl, rfl, rfl, by decide +kernel, rfl, by decide +kernel, by decide +kernel⟩
theorem ok_SI (T : Txt P w K mg a) : OkF P w K mg base CX0 1 a.f_Scan_init ["self", "t"] (spSI a) := by
  obtain ⟨fd, F, b⟩ := T.d_Scan_init
  refine ⟨fd, F.ok scSI (fun vs H Q E h => ?_) (fun cdv A outer s H vs Q E hr h => ?_), b, F.kp⟩
  · obtain ⟨p, t, dx, rfl, _⟩ := h
    rfl
  · obtain ⟨p, t, dx, rfl, hp, k⟩ := h
    refine ⟨_, pss_cons (ps_fld (pv 0) (pv 1) rfl) (pss_one (ps_fld (pv 0) pe_int rfl)), ?_⟩
    refine ⟨_, rfl, _, rfl, p, a.C_Scan, dx, [], rfl, hp, T.c_Scan, T.n_Scan_t, (by show 0 < 1000; decide), ?_⟩
    refine ⟨_, rfl, p, a.C_Scan, dx, _, rfl, upd_same, T.c_Scan, T.n_Scan_at, (by show 1 < 1000; decide), ?_⟩
    rw [upd_upd]
    exact k
theorem scPeek : FnScope ["self"] ["self"] (defScope s_Scan_peek) := ⟨rfl, rfl, rfl, by decide +kernel, rfl, by decide +kernel, by decide +kernel⟩
theorem byte_in {ns : List Int} {i : Nat} (h : i < ns.length) : (ns.map V.int)[i]? = some (.int (byteAt ns i)) := by
  rw [List.getElem?_map, List.getElem?_eq_getElem h]
  unfold byteAt
  rw [List.getD_eq_getElem?_getD, List.getElem?_eq_getElem h]
  rfl
theorem byte_out {ns : List Int} {i : Nat} (h : ns.length ≤ i) : byteAt ns i = -1 := by
  unfold byteAt
  rw [List.getD_eq_getElem?_getD, List.getElem?_eq_none h]
  rfl
theorem ok_peek (T : Txt P w K mg a) : OkF P w K mg base CX0 1 a.f_Scan_peek ["self"] (spPeek K a) := by
  obtain ⟨fd, F, b⟩ := T.d_Scan_peek
  refine ⟨fd, F.ok scPeek (fun vs H Q E h => ?_) (fun cdv A outer s H vs Q E hr h => ?_), b, F.kp⟩
  · obtain ⟨p, t, ns, i, rfl, _⟩ := h
    rfl
  · obtain ⟨p, t, ns, i, rfl, S, k⟩ := h
    obtain ⟨dx, hp⟩ := S.at_
    refine ⟨_, pss_one (ps_ret (pe_ifExp (pt_cmpR op_lt (pe_fld (pv 0) rfl) (pe_callB call_len_seq (by rfl) T.b_len PySem.boot_len (pa_cons (pe_fld (pv 0) rfl) pa_nil)) (nomark _))
      (pe_ix ix_list (pe_fld (pv 0) rfl) (pe_fld (pv 0) rfl) (fun _ _ => rfl)) (pe_gi rfl T.i_NO_BYTE))), ?_⟩
    refine ⟨_, rfl, p, a.C_Scan, dx, _, _, rfl, hp, T.c_Scan, T.n_Scan_at, sf_at _ _, _, rfl, p, a.C_Scan, dx, _, _, rfl, hp, T.c_Scan, T.n_Scan_t, sf_t _ _, t, _, rfl, .inl S.sq, _, _, rfl, rfl, _, rfl, ?_⟩
    rw [List.length_map]
    refine ite2 (fun h => ?_) fun h => ?_
    · have h : (i : Int) < ns.length := of_decide_eq_true h
      exact ⟨_, rfl, p, a.C_Scan, dx, _, _, rfl, hp, T.c_Scan, T.n_Scan_t, sf_t _ _, _, rfl, p, a.C_Scan, dx, _, _, rfl, hp, T.c_Scan, T.n_Scan_at, sf_at _ _, t, _, _, _, rfl, rfl, S.sq, at_of (j := i) rfl (byte_in (by omega)), k⟩
    · have h : ¬ (i : Int) < ns.length := fun z => h (decide_eq_true z)
      rw [byte_out (by omega)] at k
      exact k
theorem scTake : FnScope ["self", "low", "high", "byte"] ["self", "low", "high"] (defScope s_Scan_take) := ⟨rfl, rfl, rfl, by decide +kernel, rfl, by decide +kernel, by decide +kernel⟩
theorem ok_take (T : Txt P w K mg a) : OkF P w K mg base (CXF P w a.C_Fault) 3 a.f_Scan_take ["self", "low", "high"] (spTake K a) := by
  obtain ⟨fd, F, b⟩ := T.d_Scan_take
  obtain ⟨fdP, GP, bP, kP⟩ := ok_peek (base := base) T
  obtain ⟨fdI, GI', bI, kI⟩ := ok_FI (base := base) T
  refine ⟨fd, F.okX (CX := CXF P w a.C_Fault) (k := 2) scTake (fun vs H Q E h => ?_) (fun cdv A outer s H vs Q E hr h => ?_), b, F.kp⟩
  · obtain ⟨p, t, ns, i, lo, hi, rfl, _⟩ := h
    rfl
  · obtain ⟨p, t, ns, i, lo, hi, rfl, S, k1, k2⟩ := h
    obtain ⟨dx, hp⟩ := S.at_
    refine ⟨_, pss_cons (ps_set (i := 3) scTake.nd rfl (Or.inl rfl) (pe_meth0 (pv 0) T.c_Scan T.m_Scan_peek GP (hr.mono (by decide)) bP .nil pass0))
      (pss_cons (ps_if (pt_not (pt_chain op_le op_le (pv 1) (pv 3) (pv 2))) (pss_one (ps_raise T.x_Fault GI' hr rfl T.g_Fault bI CXF.raises (pa_cons (pe_fld (pv 0) rfl) pa_nil))) pss_nil)
      (pss_cons (ps_fldaug (pv 0) pe_int in_add) (pss_one (ps_ret (pv 3))))), ?_⟩
    refine ⟨_, rfl, p, dx, _, rfl, hp, sf_no _ _ (by decide +kernel) (by decide +kernel), p, t, ns, i, rfl, S, ?_⟩
    have bad : ¬ (lo ≤ byteAt ns i ∧ byteAt ns i ≤ hi) → ∀ σ D, σ[0]? = some (some (.ref p)) → tRaise a.C_Fault (spFI a) E (tCons (tFld K (tVar 0) "at") tNil) D σ H := fun hn σ D h0 => by
      refine ⟨_, h0, p, a.C_Scan, dx, _, _, rfl, hp, T.c_Scan, T.n_Scan_at, sf_at _ _, fun x tt hx => ?_⟩
      refine ⟨x, tt, _, rfl, upd_same, fun dy h1 h2 => ⟨rfl, dy, upd_same, k2 hn _ dy ?_ ?_⟩⟩
      · rw [del_ne h2, upd_ne h2, upd_same]
      · intro c o e _
        have n1 : c ≠ x := ne_of_none e hx
        have n2 : c ≠ dy := fun z => by
          rw [z] at e
          rw [upd_ne h2] at h1
          rw [h1] at e
          cases e
        rw [del_ne n1, upd_ne n1, upd_ne n2, upd_ne n1]
        exact e
    refine ⟨_, rfl, _, rfl, _, _, rfl, rfl, _, rfl, ite2 (fun h => ?_) fun h => ?_⟩
    · have h1 : lo ≤ byteAt ns i := of_decide_eq_true h
      refine ⟨_, rfl, _, _, rfl, rfl, _, rfl, ite2 (fun h => ?_) fun h => ?_⟩
      · have h2 : ¬ byteAt ns i ≤ hi := fun z => by rw [decide_eq_true z] at h; cases h
        exact bad (fun z => h2 z.2) _ _ rfl
      · have h2 : byteAt ns i ≤ hi := by
          by_cases z : byteAt ns i ≤ hi
          · exact z
          · rw [decide_eq_false z] at h
            exact absurd rfl h
        refine ⟨_, rfl, p, a.C_Scan, dx, _, _, rfl, hp, T.c_Scan, T.n_Scan_at, sf_at _ _, _, _, rfl, rfl, dx, _, hp, sf_len _ _, _, rfl, ?_⟩
        refine k1 ⟨h1, h2⟩ _ ⟨dx, ?_⟩ (SameX.upd _ _ _)
        have e1 : putF "at" (V.int ((i : Int) + 1)) (scanF t i) = scanF t ((i + 1 : Nat) : Int) := by
          rw [sf_put]
          rfl
        exact Eq.trans upd_same (congrArg (fun q => some (HO.ins a.C_Scan dx q)) e1)
    · have h1 : ¬ lo ≤ byteAt ns i := fun z => h (decide_eq_true z)
      refine ⟨_, rfl, ?_⟩
      exact bad (fun z => h1 z.1) [some (.ref p), some (.int lo), some (.int hi), some (.int (byteAt ns i))] ⟨fun _ _ => True, fun _ _ => True, fun _ _ => True, fun _ _ => True⟩ rfl
end
end Fr


namespace Fr
open PySem PySem.Spec PyProof.Rows L2
/-! ### characters -/
theorem span_at {P : Program} {w : World} {K : PySem.W.Frag} {mg : Str → Option Value} {a : Adr} (T : Txt P w K mg a) (x : Nat) :
    ∃ b, (valV ([(.inl 194, .ref a.a_SECOND_BYTES_0), (.inl 224, .ref a.a_SECOND_BYTES_1), (.inl 237, .ref a.a_SECOND_BYTES_2), (.inl 240, .ref a.a_SECOND_BYTES_3), (.inl 244, .ref a.a_SECOND_BYTES_4)] : List (Key × V)) (.inl (x : Int))).getD (.ref a.a_TAIL_BYTES) = .ref b ∧ ∀ H, SqT K H b [.int ((spanOf x).1 : Int), .int ((spanOf x).2 : Int)] := by
  have key : ∀ k : Nat, decide ((Sum.inl (k : Int) : Key) = Sum.inl (x : Int)) = decide (k = x) := fun k => by
    by_cases h : k = x
    · subst h
      simp
    · rw [decide_eq_false h, decide_eq_false]
      intro z
      exact h (by have := Sum.inl.inj z; omega)
  have k1 := key 194
  have k2 := key 224
  have k3 := key 237
  have k4 := key 240
  have k5 := key 244
  unfold valV spanOf
  by_cases h1 : x = 194
  · subst h1
    exact ⟨a.a_SECOND_BYTES_0, rfl, T.t_SECOND_BYTES_0⟩
  by_cases h2 : x = 224
  · subst h2
    exact ⟨a.a_SECOND_BYTES_1, rfl, T.t_SECOND_BYTES_1⟩
  by_cases h3 : x = 237
  · subst h3
    exact ⟨a.a_SECOND_BYTES_2, rfl, T.t_SECOND_BYTES_2⟩
  by_cases h4 : x = 240
  · subst h4
    exact ⟨a.a_SECOND_BYTES_3, rfl, T.t_SECOND_BYTES_3⟩
  by_cases h5 : x = 244
  · subst h5
    exact ⟨a.a_SECOND_BYTES_4, rfl, T.t_SECOND_BYTES_4⟩
  rw [decide_eq_false (show ¬ 194 = x from fun z => h1 z.symm)] at k1
  rw [decide_eq_false (show ¬ 224 = x from fun z => h2 z.symm)] at k2
  rw [decide_eq_false (show ¬ 237 = x from fun z => h3 z.symm)] at k3
  rw [decide_eq_false (show ¬ 240 = x from fun z => h4 z.symm)] at k4
  rw [decide_eq_false (show ¬ 244 = x from fun z => h5 z.symm)] at k5
  refine ⟨a.a_TAIL_BYTES, ?_, ?_⟩
  · rw [List.find?_cons_of_neg (by intro z; exact absurd (k1.symm.trans z) (by decide)), List.find?_cons_of_neg (by intro z; exact absurd (k2.symm.trans z) (by decide)), List.find?_cons_of_neg (by intro z; exact absurd (k3.symm.trans z) (by decide)),
      List.find?_cons_of_neg (by intro z; exact absurd (k4.symm.trans z) (by decide)), List.find?_cons_of_neg (by intro z; exact absurd (k5.symm.trans z) (by decide))]
    rfl
  · rw [if_neg h1, if_neg h2, if_neg h3, if_neg h4, if_neg h5]
    exact T.t_TAIL_BYTES
theorem head_and : ∀ i, i < 51 → Builtin.bitAnd ((194 + i : Nat) : Int) (63 / 2 ^ ((tailOf (194 + i) : Nat) : Int).toNat) = ((Fh.headOf (Fh.lengthBy (194 + i)) (194 + i) : Nat) : Int) := by decide +kernel
theorem head_is {x : Nat} (hx : 194 ≤ x ∧ x ≤ 244) : Builtin.bitAnd (x : Int) (63 / 2 ^ ((tailOf x : Nat) : Int).toNat) = ((Fh.headOf (Fh.lengthBy x) x : Nat) : Int) := by
  obtain ⟨i, rfl⟩ : ∃ i, x = 194 + i := ⟨x - 194, by omega⟩
  exact head_and i (by omega)
theorem head_lt {x : Nat} (hx : x < 256) : Fh.headOf (Fh.lengthBy x) x < 1114112 := by
  unfold Fh.headOf
  split
  · omega
  · split
    · omega
    · split <;> omega
section
variable {P : Program} {w : World} {K : PySem.W.Frag} {mg : Str → Option Value} {base : Heap} {a : Adr}
theorem scTail : FnScope ["first"] ["first"] (defScope s_tail_length) := ⟨rfl, rfl, rfl, by decide +kernel, rfl, by decide +kernel, by decide +kernel⟩
theorem ok_tail (T : Txt P w K mg a) : OkF P w K mg base CX0 1 a.f_tail_length ["first"] spTail := by
  obtain ⟨fd, F, b⟩ := T.d_tail_length
  refine ⟨fd, F.ok scTail (fun vs H Q E h => ?_) (fun cdv A outer s H vs Q E hr h => ?_), b, F.kp⟩
  · obtain ⟨x, rfl, _⟩ := h
    rfl
  · obtain ⟨x, rfl, k⟩ := h
    refine ⟨_, pss_cons (ps_if (pt_cmpR op_lt (pv 0) pe_int (nomark _)) (pss_one (ps_ret pe_int)) pss_nil) (pss_one (ps_ret (pe_ifExp (pt_cmpR op_lt (pv 0) pe_int (nomark _)) pe_int pe_int))), ?_⟩
    unfold tailOf at k
    refine ⟨_, rfl, _, _, rfl, rfl, _, rfl, ite2 (fun h => ?_) fun h => ?_⟩
    · have h : (x : Int) < 224 := of_decide_eq_true h
      rw [if_pos (by omega)] at k
      exact k
    · have h : ¬ (x : Int) < 224 := fun z => h (decide_eq_true z)
      rw [if_neg (by omega)] at k
      refine ⟨_, rfl, _, _, rfl, rfl, _, rfl, ite2 (fun h => ?_) fun h => ?_⟩
      · have h : (x : Int) < 240 := of_decide_eq_true h
        rw [if_pos (by omega)] at k
        exact k
      · have h : ¬ (x : Int) < 240 := fun z => h (decide_eq_true z)
        rw [if_neg (by omega)] at k
        exact k
theorem scWith : FnScope ["code", "byte"] ["code", "byte"] (defScope s_with_tail_byte) := ⟨rfl, rfl, rfl, by decide +kernel, rfl, by decide +kernel, by decide +kernel⟩
theorem ok_with (T : Txt P w K mg a) : OkF P w K mg base CX0 1 a.f_with_tail_byte ["code", "byte"] spWith := by
  obtain ⟨fd, F, b⟩ := T.d_with_tail_byte
  refine ⟨fd, F.ok scWith (fun vs H Q E h => ?_) (fun cdv A outer s H vs Q E hr h => ?_), b, F.kp⟩
  · obtain ⟨v, y, rfl, _⟩ := h
    rfl
  · obtain ⟨v, y, rfl, hv, k⟩ := h
    refine ⟨_, pss_one (ps_ret (pe_op op_add (pe_op op_mul (pv 0) pe_int) (pe_op op_mod (pv 1) pe_int))), ?_⟩
    refine ⟨_, rfl, _, _, rfl, rfl, .inl ⟨by omega, by omega⟩, _, rfl, _, _, rfl, rfl, (by show (0 : Int) < 64; decide), _, _, rfl, rfl, ?_⟩
    have e : (v : Int) * 64 + (y : Int) % 64 = ((v * 64 + y % 64 : Nat) : Int) := by omega
    show Q (.int ((v : Int) * 64 + (y : Int) % 64)) H
    rw [e]
    exact k
theorem scChar : FnScope ["scan", "first", "tail", "span", "code", "step", "high"] ["scan"] (defScope s_take_code) := ⟨rfl, rfl, rfl, by decide +kernel, rfl, by decide +kernel, by decide +kernel⟩
theorem ok_char (T : Txt P w K mg a) : OkF P w K mg base (CXF P w a.C_Fault) 5 a.f_take_code ["scan"] (spChar K a) := by
  obtain ⟨fd, F, b⟩ := T.d_take_code
  obtain ⟨fdP, GP, bP, kP⟩ := ok_peek (base := base) T
  obtain ⟨fdT, GT, bT, kT⟩ := ok_take (base := base) T
  obtain ⟨fdL, GL, bL, kL⟩ := ok_tail (base := base) T
  obtain ⟨fdW, GW, bW, kW⟩ := ok_with (base := base) T
  refine ⟨fd, F.okX (CX := CXF P w a.C_Fault) (k := 4) scChar (fun vs H Q E h => ?_) (fun cdv A outer s H vs Q E hr h => ?_), b, F.kp⟩
  · obtain ⟨p, t, ns, i, rfl, _⟩ := h
    rfl
  · obtain ⟨p, t, ns, i, rfl, S, k1, k2⟩ := h
    obtain ⟨dx, hp⟩ := S.at_
    have hr1 : Room 1 _ := hr.mono (by decide)
    have hr3 : Room 3 _ := hr.mono (by decide)
    have bl := b_lo S.bs i
    refine ⟨_, pss_cons (ps_if (pt_cmpR op_lt (pe_meth0 (pv 0) T.c_Scan T.m_Scan_peek GP hr1 bP .nil pass0) pe_int (nomark _)) (pss_one (ps_ret (pe_meth (pv 0) T.c_Scan T.m_Scan_take GT hr3 bT .nil (CXF.passes fun _ _ _ h => h) (pa_cons pe_int (pa_cons pe_int pa_nil))))) pss_nil)
      (pss_cons (ps_set (i := 1) scChar.nd rfl (Or.inl rfl) (pe_meth (pv 0) T.c_Scan T.m_Scan_take GT hr3 bT .nil (CXF.passes fun _ _ _ h => h) (pa_cons pe_int (pa_cons pe_int pa_nil))))
      (pss_cons (ps_set (i := 2) scChar.nd rfl (Or.inl rfl) (pe_call GL hr1 rfl T.g_tail_length kL bL .nil pass0 (pa_cons (pv 1) pa_nil)))
      (pss_cons (ps_set (i := 3) scChar.nd rfl (Or.inl rfl) (pe_kget2 T.d_SECOND_BYTES rfl T.g_SECOND_BYTES (pv 1) (pe_glob (v := .ref a.a_TAIL_BYTES) rfl T.g_TAIL_BYTES rfl) ⟨rfl, rfl, rfl, rfl⟩))
      (pss_cons (ps_set (i := 4) scChar.nd rfl (Or.inl rfl) (pe_call GW hr1 rfl T.g_with_tail_byte kW bW .nil pass0 (pa_cons (pe_op op_and (pv 1) (pe_op op_shr pe_int (pv 2)))
        (pa_cons (pe_meth (pv 0) T.c_Scan T.m_Scan_take GT hr3 bT .nil (CXF.passes fun _ _ _ h => h) (pa_cons (pe_ix ix_tup (pv 3) pe_int (fun _ _ => rfl)) (pa_cons (pe_ix ix_tup (pv 3) pe_int (fun _ _ => rfl)) pa_nil))) pa_nil))))
      (pss_cons (ps_for PassesOwn.leaving rfl (pi_range2 rfl T.b_range (pa_cons pe_int (pa_cons (pv 2) pa_nil))) (pg_name (i := 5) scChar.nd rfl (Or.inl rfl))
        (pss_cons (ps_set (i := 6) scChar.nd rfl (Or.inl rfl) (pe_ifExp (pt_cmpR op_eq (pe_op op_mod (pv 4) pe_int) pe_int (nomark _)) pe_int pe_int))
        (pss_one (ps_set (i := 4) scChar.nd rfl (Or.inl rfl) (pe_call GW hr1 rfl T.g_with_tail_byte kW bW .nil pass0 (pa_cons (pv 4) (pa_cons (pe_meth (pv 0) T.c_Scan T.m_Scan_take GT hr3 bT .nil (CXF.passes fun _ _ _ h => h) (pa_cons pe_int (pa_cons (pv 6) pa_nil))) pa_nil)))))))
      (pss_one (ps_ret (pv 4)))))))), ?_⟩
    refine ⟨_, rfl, p, dx, _, rfl, hp, sf_no _ _ (by decide +kernel) (by decide +kernel), p, t, ns, i, rfl, S, _, _, rfl, rfl, _, rfl, ite2 (fun h => ?_) fun h => ?_⟩
    · have h : byteAt ns i < 128 := of_decide_eq_true h
      refine ⟨_, rfl, p, dx, _, rfl, hp, sf_no _ _ (by decide +kernel) (by decide +kernel), p, t, ns, i, 32, 126, rfl, S, fun hb H' hs sx => ?_, fun hb => k2 0 (ca_bad S.bs hb (by omega))⟩
      have q := k1 _ 1 (ca_ok S.bs hb) H' hs sx
      rw [Int.toNat_of_nonneg (by omega)] at q
      exact q
    · have h : ¬ byteAt ns i < 128 := fun z => h (decide_eq_true z)
      refine ⟨_, rfl, p, dx, _, rfl, hp, sf_no _ _ (by decide +kernel) (by decide +kernel), p, t, ns, i, 194, 244, rfl, S, fun hb H1 hs1 sx1 => ?_, fun hb => k2 0 (ca_bad S.bs (by omega) hb)⟩
      obtain ⟨x, ex⟩ : ∃ x : Nat, byteAt ns i = (x : Int) := ⟨(byteAt ns i).toNat, by omega⟩
      rw [ex] at hb ⊢
      have hx : 194 ≤ x ∧ x ≤ 244 := by omega
      have S1 := S.on sx1 hs1
      obtain ⟨dx1, hp1⟩ := hs1
      have ht := tail_pos x
      obtain ⟨sb, esb, hsb⟩ := span_at T x
      refine ⟨_, rfl, x, rfl, _, rfl, .inl (x : Int), rfl, ?_⟩
      rw [esb]
      refine ⟨_, rfl, _, rfl, _, _, rfl, rfl, (by show (0 : Int) ≤ _; omega), _, _, rfl, rfl, _, rfl, p, dx1, _, rfl, hp1, sf_no _ _ (by decide +kernel) (by decide +kernel), _, rfl, sb, _, _, _, rfl, rfl, hsb _, at_of (j := 0) rfl rfl, _, rfl, sb, _, _, _, rfl, rfl, hsb _, at_of (j := 1) rfl rfl,
        p, t, ns, i + 1, _, _, rfl, S1, fun hb2 H2 hs2 sx2 => ?_, fun hb2 => (k2 1 (ca_bad2 S.bs ex hx hb2)).later sx1⟩
      obtain ⟨y, ey, hy, C0⟩ := ca_two S.bs ex hx hb2
      rw [ey]
      refine ⟨Fh.headOf (Fh.lengthBy x) x, y, by rw [← head_is hx]; rfl, head_lt (by omega), ?_⟩
      have S2 := S1.on sx2 hs2
      refine ⟨_, rfl, 1, _, rfl, ⟨by decide, by decide, by omega, by omega⟩, for_range (lo := 1) (fun j σ H' => ∃ (v : Nat) (o5 o6 : Option V), σ = [some (.ref p), some (.int x), some (.int (tailOf x)), some (.ref sb), some (.int v), o5, o6] ∧ ChI ns i x j v ∧ ScanAt a.C_Scan H' p t (i + 2 + j) ∧ SameX p H H')
        ⟨c2 x y, none, none, rfl, C0, hs2, sx1.trans sx2⟩ ?_ ?_⟩
      · rintro j σ H' hj ⟨v, o5, o6, rfl, C, hs', sx'⟩
        have hj : j + 1 < tailOf x := by omega
        have st := C.step S.bs hj
        have S' := S.on sx' hs'
        obtain ⟨dx', hp'⟩ := hs'
        have sm := C.small
        have fin : ∀ hi : Int, hi = (highOf v : Int) → tCall spWith [] E0 (tCons (tVar 4) (tCons (tMeth a.C_Scan "take" (spTake K a) [] E (tVar 0) (tCons (tC (.int 128)) (tCons (tVar 6) tNil))) tNil)) [some (.ref p), some (.int x), some (.int (tailOf x)), some (.ref sb), some (.int v), some (.int (1 + (j : Int))), some (.int hi)] H'
            fun z H'' => ∃ (v : Nat) (o5 o6 : Option V), ([some (.ref p), some (.int x), some (.int (tailOf x)), some (.ref sb), some (.int v), some (.int (1 + (j : Int))), some (.int hi)] : L2.St).set 4 (some z) = [some (.ref p), some (.int x), some (.int (tailOf x)), some (.ref sb), some (.int v), o5, o6] ∧ ChI ns i x (j + 1) v ∧ ScanAt a.C_Scan H'' p t (i + 2 + (j + 1)) ∧ SameX p H H'' := fun hi ehi => by
          subst ehi
          refine ⟨_, rfl, _, rfl, p, dx', _, rfl, hp', sf_no _ _ (by decide +kernel) (by decide +kernel), _, rfl, p, t, ns, i + 2 + j, 128, _, rfl, S', fun hb3 H3 hs3 sx3 => ?_, fun hb3 => (by rw [Nat.add_assoc]; exact (k2 (2 + j) (st.1 hb3)).later sx')⟩
          obtain ⟨z, ez, C1⟩ := st.2 hb3
          rw [ez]
          exact ⟨v, z, rfl, sm, v * 64 + z % 64, _, _, rfl, C1, hs3, sx'.trans sx3⟩
        refine ⟨_, rfl, _, _, rfl, rfl, (by show (0 : Int) < 1024; decide), rfl, _, rfl, ite2 (fun h => ?_) fun h => ?_⟩
        · have h : V.int ((v : Int) % 1024) = V.int 1023 := of_decide_eq_true h
          have h : (v : Int) % 1024 = 1023 := V.int.inj h
          exact fin 189 (by unfold highOf; rw [if_pos (by omega)]; rfl)
        · have h : ¬ (v : Int) % 1024 = 1023 := fun z => h (decide_eq_true (congrArg V.int z))
          exact fin 191 (by unfold highOf; rw [if_neg (by omega)]; rfl)
      · rintro σ H' ⟨v, o5, o6, rfl, C, hs', sx'⟩
        have ej : (((tailOf x : Nat) : Int) - 1).toNat + 1 = tailOf x := by omega
        have q := k1 v _ (C.done ej) H' (by rw [show i + ((((tailOf x : Nat) : Int) - 1).toNat + 2) = i + 2 + (((tailOf x : Nat) : Int) - 1).toNat by omega]; exact hs') sx'
        exact ⟨_, rfl, q⟩
end
end Fr


namespace Fr
open PySem PySem.Spec PyProof.Rows L2
section
variable {P : Program} {w : World} {K : PySem.W.Frag} {mg : Str → Option Value} {base : Heap} {a : Adr}
/-! ### tags -/
theorem scNum : FnScope ["scan", "number"] ["scan"] (defScope s_take_number) := ⟨rfl, rfl, rfl, by decide +kernel, rfl, by decide +kernel, by decide +kernel⟩
theorem ok_num (T : Txt P w K mg a) : OkF P w K mg base (CXF P w a.C_Fault) 5 a.f_take_number ["scan"] (spNum K a) := by
  obtain ⟨fd, F, b⟩ := T.d_take_number
  obtain ⟨fdP, GP, bP, kP⟩ := ok_peek (base := base) T
  obtain ⟨fdT, GT, bT, kT⟩ := ok_take (base := base) T
  refine ⟨fd, F.okX (CX := CXF P w a.C_Fault) (k := 4) scNum (fun vs H Q E h => ?_) (fun cdv A outer s H vs Q E hr h => ?_), b, F.kp⟩
  · obtain ⟨p, t, ns, i, rfl, _⟩ := h
    rfl
  · obtain ⟨p, t, ns, i, rfl, S, k1, k2⟩ := h
    obtain ⟨dx, hp⟩ := S.at_
    have hr1 : Room 1 _ := hr.mono (by decide)
    have hr3 : Room 3 _ := hr.mono (by decide)
    refine ⟨_, pss_cons (ps_set (i := 1) scNum.nd rfl (Or.inl rfl) (pe_op op_sub (pe_meth (pv 0) T.c_Scan T.m_Scan_take GT hr3 bT .nil (CXF.passes fun _ _ _ h => h) (pa_cons (pe_gi rfl T.i_ONE) (pa_cons (pe_gi rfl T.i_NINE) pa_nil))) (pe_gi rfl T.i_NOUGHT)))
      (pss_cons (ps_while PassesOwn.leaving (PW.pt (pw_and (pt_cmpR op_lt (pv 1) pe_int (nomark _)) (pw_and1 (pt_chain op_le op_le (pe_gi rfl T.i_NOUGHT) (pe_meth0 (pv 0) T.c_Scan T.m_Scan_peek GP hr1 bP .nil pass0) (pe_gi rfl T.i_NINE)))))
        (pss_one (ps_set (i := 1) scNum.nd rfl (Or.inl rfl) (pe_op op_sub (pe_op op_add (pe_op op_mul (pv 1) pe_int) (pe_meth (pv 0) T.c_Scan T.m_Scan_take GT hr3 bT .nil (CXF.passes fun _ _ _ h => h) (pa_cons (pe_gi rfl T.i_NOUGHT) (pa_cons (pe_gi rfl T.i_NINE) pa_nil)))) (pe_gi rfl T.i_NOUGHT)))))
      (pss_one (ps_ret (pv 1)))), ?_⟩
    refine ⟨_, rfl, p, dx, _, rfl, hp, sf_no _ _ (by decide +kernel) (by decide +kernel), p, t, ns, i, 49, 57, rfl, S, fun hb H1 hs1 sx1 => ?_, fun hb => k2 hb⟩
    obtain ⟨v0, ev0, D0⟩ := (dg_start S.bs).2 hb
    refine ⟨_, _, rfl, rfl, ?_⟩
    refine ⟨fun m σ H' => ∃ n v : Nat, σ = [some (.ref p), some (.int v)] ∧ DgI ns i n v ∧ ScanAt a.C_Scan H' p t (i + n) ∧ SameX p H H' ∧ m = 3 - n, ⟨2, 1, v0, (by show [some (V.ref p), some (V.int (byteAt ns i - 48))] = _; rw [ev0]), D0, hs1, sx1, rfl⟩, ?_⟩
    rintro m σ H' ⟨n, v, rfl, D, hs', sx', rfl⟩
    have S' := S.on sx' hs'
    have hs2 := hs'
    obtain ⟨dx', hp'⟩ := hs'
    have db := D.b
    have out : ¬ ((v : Int) < 100 ∧ 48 ≤ byteAt ns (i + n) ∧ byteAt ns (i + n) ≤ 57) → Q (.int v) H' := fun hn => k1 n v D hn H' hs2 sx'
    refine ⟨_, rfl, _, _, rfl, rfl, _, rfl, ite2 (fun h => ?_) fun h => ?_⟩
    · have hv : (v : Int) < 100 := of_decide_eq_true h
      refine ⟨_, rfl, p, dx', _, rfl, hp', sf_no _ _ (by decide +kernel) (by decide +kernel), p, t, ns, i + n, rfl, S', _, _, rfl, rfl, _, rfl, ite2 (fun h => ?_) fun h => ?_⟩
      · have h1 : 48 ≤ byteAt ns (i + n) := of_decide_eq_true h
        refine ⟨_, _, rfl, rfl, _, rfl, ite2 (fun h => ?_) fun h => ?_⟩
        · have h2 : byteAt ns (i + n) ≤ 57 := of_decide_eq_true h
          refine ⟨_, fun _ _ z => z, ?_⟩
          refine ⟨_, rfl, _, _, rfl, rfl, .inl ⟨by omega, by omega⟩, _, rfl, p, dx', _, rfl, hp', sf_no _ _ (by decide +kernel) (by decide +kernel), p, t, ns, i + n, 48, 57, rfl, S', fun _ H3 hs3 sx3 => ?_, fun hb3 => absurd ⟨h1, h2⟩ hb3⟩
          obtain ⟨v1, ev1, D1⟩ := D.step S.bs (by omega) ⟨h1, h2⟩
          have d1 := D1.b
          refine ⟨_, _, rfl, rfl, _, _, rfl, rfl, 3 - (n + 1), by omega, n + 1, v1, ?_, D1, hs3, sx'.trans sx3, rfl⟩
          have e1 : (v : Int) * 10 + byteAt ns (i + n) - 48 = (v1 : Int) := ev1
          show [some (V.ref p), some (V.int ((v : Int) * 10 + byteAt ns (i + n) - 48))] = _
          rw [e1]
        · have h2 : ¬ byteAt ns (i + n) ≤ 57 := fun z => h (decide_eq_true z)
          exact ⟨_, rfl, out fun z => h2 z.2.2⟩
      · have h1 : ¬ 48 ≤ byteAt ns (i + n) := fun z => h (decide_eq_true z)
        exact ⟨_, rfl, iteF ⟨_, rfl, out fun z => h1 z.2.1⟩⟩
    · have hv : ¬ (v : Int) < 100 := fun z => h (decide_eq_true z)
      exact iteF ⟨_, rfl, out fun z => hv z.1⟩
theorem scTag : FnScope ["scan", "kind", "number"] ["scan"] (defScope s_take_tag) := ⟨rfl, rfl, rfl, by decide +kernel, rfl, by decide +kernel, by decide +kernel⟩
theorem three_in (k : Int) : inV (.int k) [.int 43, .int 45, .int 46] = (decide (k = 43) || decide (k = 45) || decide (k = 46)) := by
  have e : ∀ j : Int, eqV (.int j) (.int k) = decide (k = j) := fun j => by
    show (j == k) = _
    by_cases h : k = j
    · subst h; simp
    · rw [decide_eq_false h]
      exact beq_false_of_ne fun z => h z.symm
  unfold inV
  rw [List.any_cons, List.any_cons, List.any_cons, List.any_nil, e, e, e, Bool.or_false, Bool.or_assoc]
theorem ok_tag (T : Txt P w K mg a) : OkF P w K mg base (CXF P w a.C_Fault) 7 a.f_take_tag ["scan"] (spTag K a) := by
  obtain ⟨fd, F, b⟩ := T.d_take_tag
  obtain ⟨fdP, GP, bP, kP⟩ := ok_peek (base := base) T
  obtain ⟨fdT, GT, bT, kT⟩ := ok_take (base := base) T
  obtain ⟨fdN, GN, bN, kN⟩ := ok_num (base := base) T
  obtain ⟨fdI, GI', bI, kI⟩ := ok_FI (base := base) T
  refine ⟨fd, F.okX (CX := CXF P w a.C_Fault) (k := 6) scTag (fun vs H Q E h => ?_) (fun cdv A outer s H vs Q E hr h => ?_), b, F.kp⟩
  · obtain ⟨p, t, ns, i, rfl, _⟩ := h
    rfl
  · obtain ⟨p, t, ns, i, rfl, S, e0, e1, k1, k2⟩ := h
    obtain ⟨dx, hp⟩ := S.at_
    have hr1 : Room 1 _ := hr.mono (by decide)
    have hr2 : Room 2 _ := hr.mono (by decide)
    have hr3 : Room 3 _ := hr.mono (by decide)
    have hr5 : Room 5 _ := hr.mono (by decide)
    refine ⟨_, pss_cons (ps_set (i := 1) scTag.nd rfl (Or.inl rfl) (pe_meth0 (pv 0) T.c_Scan T.m_Scan_peek GP hr1 bP .nil pass0))
      (pss_cons (ps_if (pt_cmpR op_notIn_seq (pv 1) (pe_tup (pa_cons (pe_gi rfl T.i_OPENING) (pa_cons (pe_gi rfl T.i_CLOSING) (pa_cons (pe_gi rfl T.i_ALONE) pa_nil)))) (by with_unfolding_all rfl)) (pss_one (ps_raise T.x_Fault GI' hr2 rfl T.g_Fault bI CXF.raises (pa_cons (pe_fld (pv 0) rfl) pa_nil))) pss_nil)
      (pss_cons (ps_expr (pe_meth (pv 0) T.c_Scan T.m_Scan_take GT hr3 bT .nil (CXF.passes fun _ _ _ h => h) (pa_cons (pv 1) (pa_cons (pv 1) pa_nil))))
      (pss_cons (ps_set (i := 2) scTag.nd rfl (Or.inl rfl) (pe_call GN hr5 rfl T.g_take_number kN bN .nil (CXF.passes fun _ _ _ h => h) (pa_cons (pv 0) pa_nil)))
      (pss_cons (ps_expr (pe_meth (pv 0) T.c_Scan T.m_Scan_take GT hr3 bT .nil (CXF.passes fun _ _ _ h => h) (pa_cons (pe_gi rfl T.i_RIGHT_BRACE) (pa_cons (pe_gi rfl T.i_RIGHT_BRACE) pa_nil))))
      (pss_one (ps_ret (pe_tup (pa_cons (pv 1) (pa_cons (pv 2) pa_nil))))))))), ?_⟩
    refine ⟨_, rfl, p, dx, _, rfl, hp, sf_no _ _ (by decide +kernel) (by decide +kernel), p, t, ns, i + 1, rfl, S, ?_⟩
    refine ⟨_, rfl, (by show 3 ≤ sizeLine; decide), fun tp htp => ?_⟩
    refine ⟨tp, _, rfl, .inr (SqT.of upd_same), rfl, rfl, _, rfl, ?_⟩
    have sxt : SameX p H (upd H tp (.tup [.int 43, .int 45, .int 46])) := SameX.new htp
    have hpt : upd H tp (.tup [.int 43, .int 45, .int 46]) p = some (.ins a.C_Scan dx (scanF t ((i + 1 : Nat) : Int))) := by
      rw [upd_ne (ne_of_none hp htp)]
      exact hp
    have St := S.on sxt ⟨dx, hpt⟩
    show if (!inV (.int (byteAt ns (i + 1))) [.int 43, .int 45, .int 46]) = true then _ else _
    rw [three_in]
    by_cases hk : byteAt ns (i + 1) = 43 ∨ byteAt ns (i + 1) = 45 ∨ byteAt ns (i + 1) = 46
    · have ek : (decide (byteAt ns (i + 1) = 43) || decide (byteAt ns (i + 1) = 45) || decide (byteAt ns (i + 1) = 46)) = true := by
        rcases hk with z | z | z <;> rw [z] <;> rfl
      rw [ek]
      refine iteF ?_
      refine ⟨_, rfl, p, dx, _, rfl, hpt, sf_no _ _ (by decide +kernel) (by decide +kernel), _, rfl, _, rfl, p, t, ns, i + 1, _, _, rfl, St, fun _ H1 hs1 sx1 => ?_, fun hb => absurd ⟨Int.le_refl _, Int.le_refl _⟩ hb⟩
      have S1 := St.on sx1 hs1
      have et := pc_tag S.bs e0 hk
      refine ⟨_, rfl, p, t, ns, i + 2, rfl, S1, fun n v D hn H2 hs2 sx2 => ?_, fun hb => ?_⟩
      · have S2 := S1.on sx2 hs2
        have hs2' := hs2
        obtain ⟨dx2, hp2⟩ := hs2
        refine ⟨_, rfl, p, dx2, _, rfl, hp2, sf_no _ _ (by decide +kernel) (by decide +kernel), p, t, ns, i + 2 + n, 125, 125, rfl, S2, fun hb H3 hs3 sx3 => ?_, fun hb => ?_⟩
        · have ed := (D.done S.bs hn).1 (by omega)
          rw [ed] at et
          refine ⟨_, rfl, _, rfl, (by show 2 ≤ sizeLine; decide), fun q hq => ?_⟩
          have tk := tagK_K v hk
          refine k1 _ _ et _ q ?_ ?_ ((((sxt.trans sx1).trans sx2).trans sx3).trans (SameX.new hq))
          · obtain ⟨dx3, hp3⟩ := hs3
            refine ⟨dx3, ?_⟩
            rw [upd_ne (ne_of_none hp3 hq), show i + (n + 3) = i + 2 + n + 1 by omega]
            exact hp3
          · show upd H3 q _ q = _
            rw [upd_same]
            show some (HO.tup [V.int (byteAt ns (i + 1)), V.int (v : Int)]) = some (HO.tup [V.int (encK (tagK (byteAt ns (i + 1)) v)), V.int (encN (tagK (byteAt ns (i + 1)) v))])
            rw [tk.1, tk.2]
        · have ed := (D.done S.bs hn).2 (by omega)
          rw [ed] at et
          have x := (k2 _ et).later (((sxt.trans sx1).trans sx2))
          rw [show i + (n + 2) = i + 2 + n by omega] at x
          exact x
      · have ed := (dg_start S.bs).1 hb
        rw [ed] at et
        exact (k2 _ et).later (sxt.trans sx1)
    · have h43 : ¬ byteAt ns (i + 1) = 43 := fun z => hk (.inl z)
      have h45 : ¬ byteAt ns (i + 1) = 45 := fun z => hk (.inr (.inl z))
      have h46 : ¬ byteAt ns (i + 1) = 46 := fun z => hk (.inr (.inr z))
      rw [decide_eq_false h43, decide_eq_false h45, decide_eq_false h46]
      refine iteT ?_
      have xb := (k2 1 (pc_bad S.bs e0 e1 h43 h45 h46)).later sxt
      refine ⟨_, rfl, p, a.C_Scan, dx, _, _, rfl, hpt, T.c_Scan, T.n_Scan_at, sf_at _ _, fun x tt hx => ?_⟩
      refine ⟨x, tt, _, rfl, upd_same, fun dy h1 h2 => ⟨rfl, dy, upd_same, xb _ dy ?_ ?_⟩⟩
      · rw [del_ne h2, upd_ne h2, upd_same]
      · intro c o e _
        have n1 : c ≠ x := ne_of_none e hx
        have n2 : c ≠ dy := fun z => by
          rw [z] at e
          rw [upd_ne h2] at h1
          rw [h1] at e
          cases e
        rw [del_ne n1, upd_ne n1, upd_ne n2, upd_ne n1]
        exact e
end
end Fr

namespace Fr
open PySem PySem.Spec PyProof.Rows L2
section
variable {P : Program} {w : World} {K : PySem.W.Frag} {mg : Str → Option Value} {base : Heap} {a : Adr}
theorem scOneC : FnScope ["scan"] ["scan"] (defScope s_take_character) := ⟨rfl, rfl, rfl, by decide +kernel, rfl, by decide +kernel, by decide +kernel⟩
theorem ok_charp (T : Txt P w K mg a) : OkF P w K mg base (CXF P w a.C_Fault) 7 a.f_take_character ["scan"] (spOne charPc K a) := by
  obtain ⟨fd, F, b⟩ := T.d_take_character
  obtain ⟨fdC, GC, bC, kC⟩ := ok_char (base := base) T
  refine ⟨fd, F.okX (CX := CXF P w a.C_Fault) (k := 6) scOneC (fun vs H Q E h => ?_) (fun cdv A outer s H vs Q E hr h => ?_), b, F.kp⟩
  · obtain ⟨p, t, ns, i, rfl, _⟩ := h
    rfl
  · obtain ⟨p, t, ns, i, rfl, S, k1, k2⟩ := h
    have hr5 : Room 5 _ := hr.mono (by decide)
    refine ⟨_, pss_one (ps_ret (pe_tup (pa_cons (pe_gi rfl T.i_CHARACTER) (pa_cons (pe_call GC hr5 rfl T.g_take_code kC bC .nil (CXF.passes fun _ _ _ h => h) (pa_cons (pv 0) pa_nil)) pa_nil)))), ?_⟩
    refine ⟨_, rfl, p, t, ns, i, rfl, S, fun v n hv H' hs sx => ?_, fun k hk => ?_⟩
    · have ep : charPc (Bt ns i) = .ok (.char v, n) := by unfold charPc; rw [hv]; rfl
      refine ⟨(by show 2 ≤ sizeLine; decide), fun q hq => ?_⟩
      refine k1 _ _ ep _ q ?_ ?_ (sx.trans (SameX.new hq))
      · obtain ⟨dx', hp'⟩ := hs
        exact ⟨dx', by rw [upd_ne (ne_of_none hp' hq)]; exact hp'⟩
      · show upd H' q _ q = _
        rw [upd_same]
        rfl
    · have ep : charPc (Bt ns i) = .error k := by unfold charPc; rw [hk]; rfl
      exact k2 _ ep
theorem scPiece : FnScope ["scan"] ["scan"] (defScope s_take_piece) := ⟨rfl, rfl, rfl, by decide +kernel, rfl, by decide +kernel, by decide +kernel⟩
theorem ok_piece (T : Txt P w K mg a) : OkF P w K mg base (CXF P w a.C_Fault) 9 a.f_take_piece ["scan"] (spPiece K a) := by
  obtain ⟨fd, F, b⟩ := T.d_take_piece
  obtain ⟨fdP, GP, bP, kP⟩ := ok_peek (base := base) T
  obtain ⟨fdT, GT, bT, kT⟩ := ok_take (base := base) T
  obtain ⟨fdC, GC, bC, kC⟩ := ok_charp (base := base) T
  obtain ⟨fdG, GG, bG, kG⟩ := ok_tag (base := base) T
  refine ⟨fd, F.okX (CX := CXF P w a.C_Fault) (k := 8) scPiece (fun vs H Q E h => ?_) (fun cdv A outer s H vs Q E hr h => ?_), b, F.kp⟩
  · obtain ⟨p, t, ns, i, rfl, _⟩ := h
    rfl
  · obtain ⟨p, t, ns, i, rfl, S, k1, k2⟩ := h
    obtain ⟨dx, hp⟩ := S.at_
    have hr1 : Room 1 _ := hr.mono (by decide)
    have hr3 : Room 3 _ := hr.mono (by decide)
    have hr7 : Room 7 _ := hr.mono (by decide)
    refine ⟨_, pss_cons (ps_if (pt_cmpR op_ne (pe_meth0 (pv 0) T.c_Scan T.m_Scan_peek GP hr1 bP .nil pass0) (pe_gi rfl T.i_LEFT_BRACE) (nomark _)) (pss_one (ps_ret (pe_call GC hr7 rfl T.g_take_character kC bC .nil (CXF.passes fun _ _ _ h => h) (pa_cons (pv 0) pa_nil)))) pss_nil)
      (pss_cons (ps_expr (pe_meth (pv 0) T.c_Scan T.m_Scan_take GT hr3 bT .nil (CXF.passes fun _ _ _ h => h) (pa_cons (pe_gi rfl T.i_LEFT_BRACE) (pa_cons (pe_gi rfl T.i_LEFT_BRACE) pa_nil))))
      (pss_cons (ps_if (pt_cmpR op_eq (pe_meth0 (pv 0) T.c_Scan T.m_Scan_peek GP hr1 bP .nil pass0) (pe_gi rfl T.i_LEFT_BRACE) (nomark _)) (pss_one (ps_ret (pe_call GC hr7 rfl T.g_take_character kC bC .nil (CXF.passes fun _ _ _ h => h) (pa_cons (pv 0) pa_nil)))) pss_nil)
      (pss_one (ps_ret (pe_call GG hr7 rfl T.g_take_tag kG bG .nil (CXF.passes fun _ _ _ h => h) (pa_cons (pv 0) pa_nil)))))), ?_⟩
    refine ⟨_, rfl, p, dx, _, rfl, hp, sf_no _ _ (by decide +kernel) (by decide +kernel), p, t, ns, i, rfl, S, rfl, _, rfl, ite2 (fun h => ?_) fun h => ?_⟩
    · have h : byteAt ns i ≠ 123 := fun z => by rw [z] at h; exact absurd h (by decide)
      have ep : Fh.pieceHere (Bt ns i) = charPc (Bt ns i) := pc_char S.bs h
      exact ⟨_, rfl, p, t, ns, i, rfl, S, fun q n hq => k1 q n (ep.trans hq), fun k hk => k2 k (ep.trans hk)⟩
    · have h : byteAt ns i = 123 := by
        by_cases z : byteAt ns i = 123
        · exact z
        · exact absurd (by rw [decide_eq_false (fun zz => z (V.int.inj zz))]; rfl) h
      refine ⟨_, rfl, p, dx, _, rfl, hp, sf_no _ _ (by decide +kernel) (by decide +kernel), p, t, ns, i, 123, 123, rfl, S, fun _ H1 hs1 sx1 => ?_, fun hb => absurd ⟨by omega, by omega⟩ hb⟩
      have S1 := S.on sx1 hs1
      have hs1' := hs1
      obtain ⟨dx1, hp1⟩ := hs1
      refine ⟨_, rfl, p, dx1, _, rfl, hp1, sf_no _ _ (by decide +kernel) (by decide +kernel), p, t, ns, i + 1, rfl, S1, rfl, _, rfl, ite2 (fun h2 => ?_) fun h2 => ?_⟩
      · have h2 : V.int (byteAt ns (i + 1)) = V.int 123 := of_decide_eq_true h2
        have h2 : byteAt ns (i + 1) = 123 := V.int.inj h2
        have ep := pc_two S.bs h h2
        have ec : charPc (Bt ns (i + 1)) = .ok (.char 123, 1) := by
          unfold charPc
          rw [ca_ok S.bs (by omega), h2]
          rfl
        refine ⟨_, rfl, p, t, ns, i + 1, rfl, S1, fun q n hq H' b' hs hb sx => ?_, fun k hk => (by rw [ec] at hk; cases hk)⟩
        rw [ec] at hq
        cases hq
        exact k1 _ _ ep H' b' hs hb (sx1.trans sx)
      · have h2 : byteAt ns (i + 1) ≠ 123 := fun z => h2 (decide_eq_true (congrArg V.int z))
        exact ⟨_, rfl, p, t, ns, i, rfl, S1, h, h2, fun q n hq H' b' hs hb sx => k1 q n hq H' b' hs hb (sx1.trans sx), fun k hk => (k2 k hk).later sx1⟩
/-! ### rows -/
theorem PcsAt.on {H H' : Hp} {bs : List Addr} {ps : Fh.Row} (h : PcsAt H bs ps) (k : ∀ b q, PcAt H b q → PcAt H' b q) : PcsAt H' bs ps := Paired.mapP h k
theorem PcsAt.len {H : Hp} {bs : List Addr} {ps : Fh.Row} (h : PcsAt H bs ps) : bs.length = ps.length := Paired.length h
theorem scEach : FnScope ["t", "take_one", "scan", "found"] ["t", "take_one"] (defScope s_read_each) := ⟨rfl, rfl, rfl, by decide +kernel, rfl, by decide +kernel, by decide +kernel⟩
theorem ok_each {here : Fh.Bytes → Except Nat (Fh.Piece × Nat)} {f : Addr} (T : Txt P w K mg a) (ho : OkF P w K mg base (CXF P w a.C_Fault) 9 f ["scan"] (spOne here K a)) : OkF P w K mg base (CXF P w a.C_Fault) 11 a.f_read_each ["t", "take_one"] (spEach here f K a) := by
  obtain ⟨fd, F, b⟩ := T.d_read_each
  obtain ⟨fdP, GP, bP, kP⟩ := ok_peek (base := base) T
  obtain ⟨fdS, GS, bS, kS⟩ := ok_SI (base := base) T
  obtain ⟨fdQ, GQ, bQ, kQ⟩ := ho
  refine ⟨fd, F.okX (CX := CXF P w a.C_Fault) (k := 10) scEach (fun vs H Q E h => ?_) (fun cdv A outer s H vs Q E hr h => ?_), b, F.kp⟩
  · obtain ⟨t, ns, rfl, _⟩ := h
    rfl
  · obtain ⟨t, ns, rfl, hS, hb, h1, hl, k1, k2⟩ := h
    have hr1 : Room 1 _ := hr.mono (by decide)
    have hr2 : Room 2 _ := hr.mono (by decide)
    have hr9 : Room 9 _ := hr.mono (by decide)
    refine ⟨_, pss_cons (ps_set (i := 2) scEach.nd rfl (Or.inl rfl) (pe_make T.mk_Scan GS hr2 rfl T.g_Scan bS .nil pass0 (pa_cons (pv 0) pa_nil)))
      (pss_cons (ps_set (i := 3) scEach.nd rfl (Or.inl rfl) (pe_lst pa_nil))
      (pss_cons (ps_while PassesOwn.leaving (pt_cmpR op_ne (pe_meth0 (pv 2) T.c_Scan T.m_Scan_peek GP hr1 bP .nil pass0) (pe_gi rfl T.i_NO_BYTE) (nomark _))
        (pss_one (ps_expr (pe_bm PySem.F.plainAttrs_list PySem.F.slot_list_append PySem.F.type_list_append mt_append (pv 3) (pa_cons (pe_callV (i := 1) GQ hr9 kQ bQ .nil (CXF.passes fun _ _ _ h => h) (pa_cons (pv 2) pa_nil)) pa_nil)))))
      (pss_one (ps_ret (pv 3))))), ?_⟩
    refine ⟨_, rfl, fun p dx np nd ne => ?_⟩
    refine ⟨p, t, dx, rfl, upd_same, rfl, ?_⟩
    rw [upd_upd]
    refine ⟨Nat.zero_le _, fun l hl0 => ?_⟩
    -- the heap ahead of the loop
    generalize eH0 : upd (upd (upd H dx (.own p)) p (.ins a.C_Scan dx (scanF t 0))) l (.lst []) = H0
    have hp0 : H0 p = some (.ins a.C_Scan dx (scanF t 0)) := by
      rw [← eH0, upd_ne (fun z => by rw [← z, upd_same] at hl0; cases hl0), upd_same]
    have hl1 : H0 l = some (.lst []) := by rw [← eH0, upd_same]
    have nlH : H l = none := by
      have z1 : l ≠ p := fun z => by rw [z, upd_same] at hl0; cases hl0
      rw [upd_ne z1] at hl0
      have z2 : l ≠ dx := fun z => by rw [z, upd_same] at hl0; cases hl0
      rw [upd_ne z2] at hl0
      exact hl0
    have sm0 : Same H H0 := fun c o e => by
      rw [← eH0, upd_ne (ne_of_none e nlH), upd_ne (ne_of_none e np), upd_ne (ne_of_none e nd)]
      exact e
    have sq0 : SqL K H0 t (ns.map V.int) := sm0.seq hS
    refine ⟨fun m σ H' => ∃ (i : Nat) (ps : Fh.Row) (bs : List Addr), σ = [some (.ref t), some (.ref f), some (.ref p), some (.ref l)] ∧ RdG here ns i ps ∧ Scn K a H' p t ns i ∧ H' l = some (.lst (bs.map V.ref)) ∧ PcsAt H' bs ps ∧ Same H H' ∧ m = ns.length - i,
      ⟨ns.length, 0, [], [], rfl, RdG.start here ns, ⟨⟨dx, hp0⟩, sq0, hb⟩, hl1, .nil, sm0, rfl⟩, ?_⟩
    rintro m σ H' ⟨i, ps, bs, rfl, R, S, hl', hpc, sm, rfl⟩
    obtain ⟨dx', hp'⟩ := S.at_
    have nlp : l ≠ p := ne_of hl' hp' (by intro z; cases z)
    refine ⟨_, rfl, p, dx', _, rfl, hp', sf_no _ _ (by decide +kernel) (by decide +kernel), p, t, ns, i, rfl, S, rfl, _, rfl, ite2 (fun h => ?_) fun h => ?_⟩
    · have h : byteAt ns i ≠ -1 := fun z => by rw [z] at h; exact absurd h (by decide)
      refine ⟨_, fun _ _ z => z, ?_⟩
      refine ⟨_, rfl, .inl ⟨rfl, _, SqL.of hl'⟩, rfl, _, rfl, p, t, ns, i, rfl, S, fun q n hq H2 c hs2 hc sx2 => ?_, fun k hk H2 dy hdy sx2 => ?_⟩
      · obtain ⟨R2, hn⟩ := R.step h1 hq
        have hl2 : H2 l = some (.lst (bs.map V.ref)) := sx2 l _ hl' nlp
        have cnt := R.cnt
        have le := R2.le
        have bl := hpc.len
        refine ⟨l, _, _, rfl, rfl, hl2, (by rw [List.length_map, sizeLine_eq]; omega), ns.length - (i + n), by omega, i + n, ps ++ [q], bs ++ [c], rfl, R2, ?_, ?_, ?_, ?_, rfl⟩
        · have S2 := S.on sx2 hs2
          obtain ⟨dx2, hp2⟩ := hs2
          refine ⟨⟨dx2, by rw [upd_ne (Ne.symm nlp)]; exact hp2⟩, ?_, hb⟩
          have hsq := hS
          have smm : Same H (upd H2 l (.lst (bs.map V.ref ++ [.ref c]))) := fun d o e => by
            rw [upd_ne (ne_of_none e nlH)]
            exact sx2 d o (sm d o e) (ne_of_none e np)
          exact smm.seq hS
        · rw [upd_same, List.map_append]
          rfl
        · have lift : ∀ d q', PcAt H2 d q' → PcAt (upd H2 l (.lst (bs.map V.ref ++ [.ref c]))) d q' := fun d q' e => by
            show upd H2 l _ d = _
            rw [upd_ne (ne_of e hl2 (by intro z; cases z))]
            exact e
          refine Paired.snoc (hpc.on fun d q' e => lift d q' (sx2 d _ e (ne_of e hp' (by intro z; cases z)))) (lift c q hc)
        · intro d o e
          rw [upd_ne (ne_of_none e nlH)]
          exact sx2 d o (sm d o e) (ne_of_none e np)
      · exact k2 _ (R.bad hb h hk) H2 dy hdy fun d o e => sx2 d o (sm d o e) (ne_of_none e np)
    · have h : byteAt ns i = -1 := by
        by_cases z : byteAt ns i = -1
        · exact z
        · exact absurd (by rw [decide_eq_false (fun zz => z (V.int.inj zz))]; rfl) h
      exact ⟨_, rfl, k1 ps (R.done hb h) H' l bs hl' hpc sm nlH⟩
theorem scPieces : FnScope ["t"] ["t"] (defScope s_read_pieces) := ⟨rfl, rfl, rfl, by decide +kernel, rfl, by decide +kernel, by decide +kernel⟩
theorem ok_pieces (T : Txt P w K mg a) : OkF P w K mg base (CXF P w a.C_Fault) 13 a.f_read_pieces ["t"] (spAll Fh.pieceHere K a) := by
  obtain ⟨fd, F, b⟩ := T.d_read_pieces
  obtain ⟨fdQ, GQ, bQ, kQ⟩ := ok_each (base := base) T (ok_piece T)
  refine ⟨fd, F.okX (CX := CXF P w a.C_Fault) (k := 12) scPieces (fun vs H Q E h => ?_) (fun cdv A outer s H vs Q E hr h => ?_), b, F.kp⟩
  · obtain ⟨t, ns, rfl, _⟩ := h
    rfl
  · obtain ⟨t, ns, rfl, hS, hb, hl, k⟩ := h
    have hr11 : Room 11 _ := hr.mono (by decide)
    refine ⟨_, pss_one (ps_ret (pe_call GQ hr11 rfl T.g_read_each kQ bQ .nil (CXF.passes fun _ _ _ h => h) (pa_cons (pv 0) (pa_cons (pe_glob (v := .ref a.f_take_piece) rfl T.g_take_piece rfl) pa_nil)))), ?_⟩
    exact ⟨_, rfl, t, ns, rfl, hS, hb, one_piece hb, hl, k⟩
end
end Fr

namespace Fr
open PySem PySem.Spec PyProof.Rows L2
/-! ### a reading -/
def readF (l r : Addr) : List (Str × V) := putF "refusal" (.ref r) (putF "parts" (.ref l) [])
theorem rf_ref (l r : Addr) : (readF l r).lookup ("refusal" : Str) = some (.ref r) := by
  unfold readF
  rw [lookup_putF, if_pos rfl]
theorem rf_pcs (l r : Addr) : (readF l r).lookup ("parts" : Str) = some (.ref l) := by
  unfold readF
  rw [lookup_putF, if_neg (by decide +kernel), lookup_putF, if_pos rfl]
def spRI (a : Adr) : Sp := fun vs H Q _ => ∃ (p l r dx : Addr), vs = [.ref p, .ref l, .ref r] ∧ H p = some (.ins a.C_Reading dx []) ∧ Q .non (upd H p (.ins a.C_Reading dx (readF l r)))
section
variable {P : Program} {w : World} {K : PySem.W.Frag} {mg : Str → Option Value} {base : Heap} {a : Adr}
def OkFH (P : Program) (w : World) (K : PySem.W.Frag) (mg : Str → Option Value) (base : Heap) (CX : CXT) (k : Nat) (f : Addr) (ps : List Str) (sp : Sp) : Prop := ∃ fd, FnOkH P w K mg base CX k f fd ps sp ∧ Binds K fd ps [] ∧ PySem.W.keepIn K (.ref f) = true
theorem scRI : FnScope ["self", "parts", "refusal"] ["self", "parts", "refusal"] (defScope s_Reading_init) := ⟨rfl, rfl, rfl, by decide +kernel, rfl, by decide +kernel, by decide +kernel⟩
theorem ok_RI (T : Txt P w K mg a) : OkFH P w K mg base CX0 1 a.f_Reading_init ["self", "parts", "refusal"] (spRI a) := by
  obtain ⟨fd, F, b⟩ := T.d_Reading_init
  refine ⟨fd, F.okH scRI (fun vs H Q E h => ?_) (fun cdv A outer s H vs Q E hr h => ?_), b, F.kp⟩
  · obtain ⟨p, l, r, dx, rfl, _⟩ := h
    rfl
  · obtain ⟨p, l, r, dx, rfl, hp, k⟩ := h
    refine ⟨_, pss_cons (ps_fld (pv 0) (pv 1) rfl) (pss_one (ps_fld (pv 0) (pv 2) rfl)), ?_⟩
    refine ⟨_, rfl, _, rfl, p, a.C_Reading, dx, [], rfl, hp, T.c_Reading, T.n_Reading_parts, (by show 0 < 1000; decide), ?_⟩
    refine ⟨_, rfl, _, rfl, p, a.C_Reading, dx, _, rfl, upd_same, T.c_Reading, T.n_Reading_refusal, (by show 1 < 1000; decide), ?_⟩
    rw [upd_upd]
    exact k
end
end Fr

namespace Fr
open PySem PySem.Spec PyProof.Rows L2
/-! ### texts written -/
/-- a list that is new -/
structure NewL (H H' : Hp) (l : Addr) (xs : List V) : Prop where
  at_ : H' l = some (.lst xs)
  same : Same H H'
  new : H l = none
theorem NewL.of {H : Hp} {l : Addr} {xs : List V} (h : H l = none) : NewL H (upd H l (.lst xs)) l xs :=
  ⟨upd_same, fun b o e => (by rw [upd_ne (ne_of_none e h)]; exact e), h⟩
theorem same_refl (H : Hp) : Same H H := fun _ _ e => e
theorem same_upd {H H1 : Hp} {l : Addr} {o : HO} (s : Same H H1) (h : H l = none) : Same H (L2.upd H1 l o) := fun b u e => by rw [upd_ne (ne_of_none e h)]; exact s b u e
end Fr

namespace Fr
open PySem PySem.Spec PyProof.Rows L2
def spTB : Sp := fun vs H Q _ => ∃ c : Nat, vs = [.int c] ∧ Q (.int ((128 + c % 64 : Nat) : Int)) H
def spWC : Sp := fun vs H Q _ => ∃ c : Nat, vs = [.int c] ∧ c < 1114112 ∧ ∀ H' l, NewL H H' l ((bi (Fh.utf8 c)).map V.int) → Q (.ref l) H'
def spWN : Sp := fun vs H Q _ => ∃ n : Nat, vs = [.int n] ∧ n < 10000 ∧ ∀ H' l, NewL H H' l ((bi (Fh.decimal n)).map V.int) → Q (.ref l) H'
section
variable {P : Program} {w : World} {K : PySem.W.Frag} {mg : Str → Option Value} {base : Heap} {a : Adr}
theorem scTB : FnScope ["code"] ["code"] (defScope s_tail_byte) := ⟨rfl, rfl, rfl, by decide +kernel, rfl, by decide +kernel, by decide +kernel⟩
theorem ok_tb (T : Txt P w K mg a) : OkF P w K mg base CX0 1 a.f_tail_byte ["code"] spTB := by
  obtain ⟨fd, F, b⟩ := T.d_tail_byte
  refine ⟨fd, F.ok scTB (fun vs H Q E h => ?_) (fun cdv A outer s H vs Q E hr h => ?_), b, F.kp⟩
  · obtain ⟨c, rfl, _⟩ := h
    rfl
  · obtain ⟨c, rfl, k⟩ := h
    refine ⟨_, pss_one (ps_ret (pe_op op_add pe_int (pe_op op_mod (pv 0) pe_int))), ?_⟩
    exact ⟨_, rfl, _, _, rfl, rfl, (by show (0 : Int) < 64; decide), _, _, rfl, rfl, k⟩
theorem scWC : FnScope ["code"] ["code"] (defScope s_write_character) := ⟨rfl, rfl, rfl, by decide +kernel, rfl, by decide +kernel, by decide +kernel⟩
theorem ok_wc (T : Txt P w K mg a) : OkF P w K mg base CX0 3 a.f_write_character ["code"] spWC := by
  obtain ⟨fd, F, b⟩ := T.d_write_character
  obtain ⟨fdT, GT, bT, kT⟩ := ok_tb (base := base) T
  refine ⟨fd, F.ok (k := 2) scWC (fun vs H Q E h => ?_) (fun cdv A outer s H vs Q E hr h => ?_), b, F.kp⟩
  · obtain ⟨c, rfl, _⟩ := h
    rfl
  · obtain ⟨c, rfl, hc, k⟩ := h
    have hr1 : Room 1 _ := hr.mono (by decide)
    refine ⟨_, pss_cons (ps_if (pt_cmpR op_lt (pv 0) pe_int (nomark _)) (pss_one (ps_ret (pe_lst (pa_cons (pv 0) pa_nil)))) pss_nil)
      (pss_cons (ps_if (pt_cmpR op_lt (pv 0) pe_int (nomark _)) (pss_one (ps_ret (pe_lst (pa_cons (pe_op op_add pe_int (pe_op op_fdiv (pv 0) pe_int)) (pa_cons (pe_call GT hr1 rfl T.g_tail_byte kT bT .nil pass0 (pa_cons (pv 0) pa_nil)) pa_nil))))) pss_nil)
      (pss_cons (ps_if (pt_cmpR op_lt (pv 0) pe_int (nomark _)) (pss_one (ps_ret (pe_lst (pa_cons (pe_op op_add pe_int (pe_op op_fdiv (pv 0) pe_int)) (pa_cons (pe_call GT hr1 rfl T.g_tail_byte kT bT .nil pass0 (pa_cons (pe_op op_fdiv (pv 0) pe_int) pa_nil)) (pa_cons (pe_call GT hr1 rfl T.g_tail_byte kT bT .nil pass0 (pa_cons (pv 0) pa_nil)) pa_nil)))))) pss_nil)
      (pss_one (ps_ret (pe_lst (pa_cons (pe_op op_add pe_int (pe_op op_fdiv (pv 0) pe_int)) (pa_cons (pe_call GT hr1 rfl T.g_tail_byte kT bT .nil pass0 (pa_cons (pe_op op_fdiv (pv 0) pe_int) pa_nil)) (pa_cons (pe_call GT hr1 rfl T.g_tail_byte kT bT .nil pass0 (pa_cons (pe_op op_fdiv (pv 0) pe_int) pa_nil)) (pa_cons (pe_call GT hr1 rfl T.g_tail_byte kT bT .nil pass0 (pa_cons (pv 0) pa_nil)) pa_nil))))))))), ?_⟩
    have lt : ∀ {m : Int}, (decide ((c : Int) < m) = true ↔ (c : Int) < m) := fun {m} => decide_eq_true_iff
    refine ⟨_, rfl, _, _, rfl, rfl, _, rfl, ite2 (fun h => ?_) fun h => ?_⟩
    · have h : (c : Int) < 128 := of_decide_eq_true h
      refine ⟨_, rfl, (by show 1 ≤ sizeLine; decide), fun l hl => k _ l ?_⟩
      rw [bi_u1 (by omega)]
      exact .of hl
    · have h : ¬ (c : Int) < 128 := fun z => h (decide_eq_true z)
      refine ⟨_, rfl, _, _, rfl, rfl, _, rfl, ite2 (fun h2 => ?_) fun h2 => ?_⟩
      · have h2 : (c : Int) < 2048 := of_decide_eq_true h2
        refine ⟨_, rfl, _, _, rfl, rfl, ⟨by decide, by decide⟩, _, _, rfl, rfl, _, rfl, c, rfl, (by show 2 ≤ sizeLine; decide), fun l hl => k _ l ?_⟩
        rw [bi_u2 (by omega) (by omega)]
        exact .of hl
      · have h2 : ¬ (c : Int) < 2048 := fun z => h2 (decide_eq_true z)
        refine ⟨_, rfl, _, _, rfl, rfl, decide ((c : Int) < 65536), rfl, ?_⟩
        show if decide ((c : Int) < 65536) = true then _ else _
        have hem : (c : Int) < 65536 ∨ ¬ (c : Int) < 65536 := Classical.em _
        generalize hbb : decide ((c : Int) < 65536) = bb
        rcases hem with h3 | h3
        · rw [decide_eq_true h3] at hbb
          subst hbb
          refine iteT ?_
          refine ⟨_, rfl, _, _, rfl, rfl, ⟨by decide, by decide⟩, _, _, rfl, rfl, _, rfl, _, _, rfl, rfl, ⟨by decide, by decide⟩, c / 64, congrArg (fun z => [V.int z]) (div_cast c 64), _, rfl, c, rfl, (by show 3 ≤ sizeLine; decide), fun l hl => k _ l ?_⟩
          rw [bi_u3 (by omega) (by omega) (by omega)]
          exact .of hl
        · rw [decide_eq_false h3] at hbb
          subst hbb
          refine iteF ?_
          refine ⟨_, rfl, _, _, rfl, rfl, ⟨by decide, by decide⟩, _, _, rfl, rfl, _, rfl, _, _, rfl, rfl, ⟨by decide, by decide⟩, c / 4096, congrArg (fun z => [V.int z]) (div_cast c 4096), _, rfl, _, _, rfl, rfl, ⟨by decide, by decide⟩, c / 64, congrArg (fun z => [V.int z]) (div_cast c 64), _, rfl, c, rfl, (by show 4 ≤ sizeLine; decide), fun l hl => k _ l ?_⟩
          rw [bi_u4 (by omega) (by omega) (by omega) hc]
          exact .of hl
theorem scWN : FnScope ["number", "digit"] ["number"] (defScope s_write_number) := ⟨rfl, rfl, rfl, by decide +kernel, rfl, by decide +kernel, by decide +kernel⟩
theorem log_lt {n : Nat} (h : n < 10000) : (n : Int).natAbs.log2 < 1920 := by
  rw [Int.natAbs_natCast]
  by_cases z : n = 0
  · rw [z]; decide
  · exact (Nat.log2_lt z).mpr (Nat.lt_trans h (by decide))
theorem ok_wn (T : Txt P w K mg a) : OkF P w K mg base CX0 1 a.f_write_number ["number"] spWN := by
  obtain ⟨fd, F, b⟩ := T.d_write_number
  refine ⟨fd, F.ok scWN (fun vs H Q E h => ?_) (fun cdv A outer s H vs Q E hr h => ?_), b, F.kp⟩
  · obtain ⟨n, rfl, _⟩ := h
    rfl
  · obtain ⟨n, rfl, hn, k⟩ := h
    refine ⟨_, pss_one (ps_ret (pe_lc (own := [("digit", 1)]) rfl scWN.nd (pi_str (pe_callTy call_str_int rfl T.b_str PyProof.Rows.boot_str (pa_cons (pv 0) pa_nil))) (blkOk_by rfl)
      (fun _ _ _ _ _ => pg_name (i := 1) scWN.nd rfl (Or.inl rfl)) (fun _ _ _ _ _ => pts_nil) (fun _ _ _ _ _ => pe_callB call_ord rfl T.b_ord PyProof.Rows.boot_ord (pa_cons (pv 1) pa_nil)))), ?_⟩
    refine ⟨_, rfl, _, rfl, log_lt hn, _, rfl, fun D hD => ?_⟩
    have e : (Str.ofString (toString (n : Int))).cps.toList = (Nat.toDigits 10 n).map Char.toNat := PySem.W.KIN.signs_num n
    have ec : ∀ i, (Str.ofString (toString (n : Int))).cps[i]? = ((Nat.toDigits 10 n).map Char.toNat)[i]? := fun i => by rw [← e, Array.getElem?_toList]
    have es : (Str.ofString (toString (n : Int))).cps.size = (Nat.toDigits 10 n).length := by rw [← Array.length_toList, e, List.length_map]
    have ld : (Nat.toDigits 10 n).length ≤ 4 := (Nat.length_toDigits_le_iff (by decide) (by decide)).mpr hn
    refine lc_str (fun i H' => H' D = some (.lst ((((Nat.toDigits 10 n).take i).map fun c => ((c.toNat : Nat) : Int)).map V.int)) ∧ Same H H') ⟨upd_same, (NewL.of (xs := []) hD).same⟩ (fun i c H' hc ⟨h1, h2⟩ => ?_) fun H' ⟨h1, h2⟩ => k H' D ⟨?_, h2, hD⟩
    · rw [ec, List.getElem?_map] at hc
      cases ed : (Nat.toDigits 10 n)[i]? with
      | none => rw [ed] at hc; cases hc
      | some ch =>
        rw [ed] at hc
        cases hc
        refine ⟨rfl, _, rfl, _, rfl, rfl, _, h1, (by rw [List.length_map, List.length_map, List.length_take, sizeLine_eq]; omega), ?_, fun b o q => by rw [upd_ne (ne_of_none q hD)]; exact h2 b o q⟩
        rw [upd_same, List.take_add_one, ed]
        simp only [Option.toList_some, List.map_append, List.map_cons, List.map_nil]
        rfl
    · rw [es, List.take_length] at h1
      rw [bi_decimal]
      exact h1
end
end Fr

namespace Fr
open PySem PySem.Spec PyProof.Rows L2
theorem pair_at {α β : Type} {R : α → β → Prop} : ∀ {xs : List α} {ys : List β}, Paired R xs ys → ∀ {i : Nat} {x : α}, xs[i]? = some x → ∃ y, ys[i]? = some y ∧ R x y
  | _, _, .nil, i, x, h => by simp at h
  | _, _, .cons r t, 0, x, h => by
    cases h
    exact ⟨_, rfl, r⟩
  | _, _, .cons r t, i + 1, x, h => pair_at t (i := i) h
theorem take_snoc {α : Type} {l : List α} {i : Nat} {x : α} (h : l[i]? = some x) : l.take (i + 1) = l.take i ++ [x] := by
  rw [List.take_add_one, h]
  rfl
theorem map_at {α β : Type} {f : α → β} {l : List α} {i : Nat} {y : β} (h : (l.map f)[i]? = some y) : ∃ x, l[i]? = some x ∧ y = f x := by
  rw [List.getElem?_map] at h
  cases e : l[i]? with
  | none => rw [e] at h; cases h
  | some x => rw [e] at h; exact ⟨x, rfl, (Option.some.inj h).symm⟩
theorem encK_tag (q : Fh.Piece) : encK q ≠ 0 ↔ q.isTag = true := by cases q <;> simp [encK, Fh.Piece.isTag]
theorem encN_tag {q : Fh.Piece} (h : q.isTag = true) : encN q = (q.number : Int) := by
  cases q with
  | char c => cases h
  | open_ n => rfl
  | close n => rfl
  | alone n => rfl
theorem key_ne {m n : Nat} (h : ¬ m = n) : ¬ (Sum.inl (m : Int) : Key) = Sum.inl (n : Int) := fun z => h (by have := Sum.inl.inj z; omega)
end Fr

namespace Fr
open PySem PySem.Spec PyProof.Rows L2
def PcsNew (H H' : Hp) (l : Addr) (ps : Fh.Row) : Prop := ∃ bs : List Addr, H' l = some (.lst (bs.map V.ref)) ∧ PcsAt H' bs ps ∧ Same H H' ∧ H l = none
def spOT : Sp := fun vs H Q _ => ∃ (p : Addr) (bs : List Addr) (ps : Fh.Row), vs = [.ref p] ∧ H p = some (.lst (bs.map V.ref)) ∧ PcsAt H bs ps ∧ ps.length ≤ 300000 ∧ ∀ H' l, PcsNew H H' l (Fh.tagsOf ps) → Q (.ref l) H'
section
variable {P : Program} {w : World} {K : PySem.W.Frag} {mg : Str → Option Value} {base : Heap} {a : Adr}
theorem scOT : FnScope ["pieces", "kind", "number"] ["pieces"] (defScope s_only_tags) := ⟨rfl, rfl, rfl, by decide +kernel, rfl, by decide +kernel, by decide +kernel⟩
theorem ok_ot (T : Txt P w K mg a) : OkF P w K mg base CX0 1 a.f_only_tags ["pieces"] spOT := by
  obtain ⟨fd, F, b⟩ := T.d_only_tags
  refine ⟨fd, F.ok scOT (fun vs H Q E h => ?_) (fun cdv A outer s H vs Q E hr h => ?_), b, F.kp⟩
  · obtain ⟨p, bs, ps, rfl, _⟩ := h
    rfl
  · obtain ⟨p, bs, ps, rfl, hp, hpc, hn, k⟩ := h
    refine ⟨_, pss_one (ps_ret (pe_lc (own := [("kind", 1), ("number", 2)]) (g := gTup K 2 (gCons (gName 1) (gCons (gName 2) gNil))) rfl scOT.nd (pi_list (pv 0)) (blkOk_by rfl)
      (fun _ _ _ _ _ => pg_tup (n := 2) rfl (pgs_cons (pg_name (i := 1) scOT.nd rfl (Or.inl rfl) (Or.inr rfl)) (pgs_cons (pg_name (i := 2) scOT.nd rfl (Or.inl rfl) (Or.inr rfl)) pgs_nil)))
      (fun _ _ _ _ _ => pts_one (pt_cmpR op_ne (pv 1) (pe_gi rfl T.i_CHARACTER) (nomark _))) (fun _ _ _ _ _ => pe_tup (pa_cons (pv 1) (pa_cons (pv 2) pa_nil))))), ?_⟩
    refine ⟨_, rfl, p, rfl, ⟨_, SqL.of hp⟩, fun D hD => ?_⟩
    refine lc_list (K := K) (a := p) (xs := bs.map V.ref) (fun i H' => ∃ bs' : List Addr, H' D = some (.lst (bs'.map V.ref)) ∧ PcsAt H' bs' (Fh.tagsOf (ps.take i)) ∧ Same H H') ⟨[], upd_same, .nil, (NewL.of (xs := []) hD).same⟩
      (fun i H' _ ⟨_, _, _, s5⟩ => SqL.of (s5 _ _ hp)) (fun i y H' hi ⟨bs', h1, h2, h3⟩ => ?_) fun H' ⟨bs', h1, h2, h3⟩ => k H' D ⟨bs', h1, ?_, h3, hD⟩
    · obtain ⟨c, hc, rfl⟩ := map_at hi
      obtain ⟨q, hqi, hpa⟩ := pair_at hpc hc
      have htk : ps.take (i + 1) = ps.take i ++ [q] := take_snoc hqi
      refine ⟨c, _, rfl, SqT.of (h3 _ _ hpa), rfl, _, _, rfl, _, _, rfl, rfl, rfl, ?_⟩
      refine ⟨_, rfl, rfl, _, rfl, ite2 (fun h => ?_) fun h => ?_⟩
      · have h : encK q ≠ 0 := fun z => by rw [z] at h; exact absurd h (by decide)
        have ht := (encK_tag q).mp h
        refine ⟨_, rfl, _, rfl, (by show 2 ≤ sizeLine; decide), fun t ht2 => ?_⟩
        have lb := h2.len
        have lf : (Fh.tagsOf (ps.take i)).length ≤ 300000 := by
          unfold Fh.tagsOf
          have := List.length_filter_le Fh.Piece.isTag (ps.take i)
          rw [List.length_take] at this
          omega
        refine ⟨_, by rw [upd_ne (ne_of_none h1 ht2)]; exact h1, (by rw [List.length_map, sizeLine_eq]; omega), bs' ++ [t], ?_, ?_, ?_⟩
        · rw [upd_same, List.map_append]
          rfl
        · have e : Fh.tagsOf (ps.take (i + 1)) = Fh.tagsOf (ps.take i) ++ [q] := by
            unfold Fh.tagsOf
            rw [htk, List.filter_append, List.filter_cons, if_pos ht]
            rfl
          rw [e]
          have lift : ∀ d q', PcAt (upd H' t (.tup [.int (encK q), .int (encN q)])) d q' → PcAt (upd (upd H' t (.tup [.int (encK q), .int (encN q)])) D (.lst (bs'.map V.ref ++ [.ref t]))) d q' := fun d q' e => by
            have nd : d ≠ D := fun z => by
              have e : upd H' t (.tup [.int (encK q), .int (encN q)]) d = _ := e
              rw [z, upd_ne (ne_of_none h1 ht2), h1] at e
              cases e
            show upd _ D _ d = _
            rw [upd_ne nd]
            exact e
          exact Paired.snoc (h2.on fun d q' e => lift d q' (by show upd H' t _ d = _; rw [upd_ne (ne_of_none e ht2)]; exact e)) (lift t q upd_same)
        · exact same_upd (h3.trans (fun b o e => by rw [upd_ne (ne_of_none e ht2)]; exact e)) hD
      · have h : encK q = 0 := by
          by_cases z : encK q = 0
          · exact z
          · exact absurd (by rw [decide_eq_false (fun zz => z (V.int.inj zz))]; rfl) h
        have ht : ¬ q.isTag = true := fun z => (encK_tag q).mpr z h
        have e : Fh.tagsOf (ps.take (i + 1)) = Fh.tagsOf (ps.take i) := by
          unfold Fh.tagsOf
          rw [htk, List.filter_append, List.filter_cons, if_neg ht]
          simp
        exact ⟨bs', h1, by rw [e]; exact h2, h3⟩
    · rw [List.length_map, PcsAt.len hpc, List.take_length] at h2
      exact h2
end
end Fr

namespace Fr
open PySem PySem.Spec PyProof.Rows L2
/-! ### answers -/
/-- a list's answer is wanted -/
def Ans (ns : List Int) (Q : VK) : Prop := ∀ (H' : Hp) (p : Addr), H' p = some (.lst (ns.map V.int)) → Q (.ref p) H'
def spT1 (f : List Int → List Int) (K : PySem.W.Frag) : Sp := fun vs H Q _ => ∃ (t : Addr) (ns : List Int), vs = [.ref t] ∧ SqL K H t (ns.map V.int) ∧ AllB ns ∧ ns.length ≤ 100000 ∧ Ans (f ns) Q
end Fr

namespace Fr
open PySem PySem.Spec PyProof.Rows L2
/-! ### forms -/
def kvsFrom : Nat → List Nat → List (Key × V)
  | _, [] => []
  | s, n :: l => (.inl (n : Int), .int ((s + 1 : Nat) : Int)) :: kvsFrom (s + 1) l
theorem kvs_len : ∀ (s : Nat) (l : List Nat), (kvsFrom s l).length = l.length
  | _, [] => rfl
  | s, n :: l => by rw [kvsFrom, List.length_cons, kvs_len, List.length_cons]
theorem kvs_snoc (n : Nat) : ∀ (s : Nat) (l : List Nat), kvsFrom s (l ++ [n]) = kvsFrom s l ++ [(.inl (n : Int), .int ((s + l.length + 1 : Nat) : Int))]
  | s, [] => rfl
  | s, m :: l => by
    show _ :: kvsFrom (s + 1) (l ++ [n]) = _ :: (kvsFrom (s + 1) l ++ _)
    rw [kvs_snoc n (s + 1) l, List.length_cons, show s + 1 + l.length + 1 = s + (l.length + 1) + 1 by omega]
theorem kvs_val (n : Nat) : ∀ (s : Nat) (l : List Nat), n ∈ l → valV (kvsFrom s l) (.inl (n : Int)) = some (.int ((s + Fh.placeOf l n : Nat) : Int))
  | s, [], h => by simp at h
  | s, m :: l, h => by
    by_cases e : m = n
    · subst e
      rw [kvsFrom, valV_pos rfl]
      unfold Fh.placeOf
      rw [List.idxOf_cons_self]
    · have h : n ∈ l := by
        rcases (List.mem_cons.mp h) with z | z
        · exact absurd z.symm e
        · exact z
      rw [kvsFrom, valV_neg (key_ne e), kvs_val n (s + 1) l h]
      unfold Fh.placeOf
      rw [List.idxOf_cons, beq_false_of_ne e, cond_false, show s + 1 + (List.idxOf n l + 1) = s + (List.idxOf n l + 1 + 1) by omega]
theorem kvs_no (n : Nat) : ∀ (s : Nat) (l : List Nat), ¬ n ∈ l → valV (kvsFrom s l) (.inl (n : Int)) = none
  | s, [], h => rfl
  | s, m :: l, h => by
    have e : ¬ m = n := fun z => h (by rw [z]; exact List.mem_cons_self)
    rw [kvsFrom, valV_neg (key_ne e)]
    exact kvs_no n (s + 1) l fun z => h (List.mem_cons_of_mem _ z)
def spFP : Sp := fun vs H Q _ => ∃ (p : Addr) (bs : List Addr) (ps : Fh.Row), vs = [.ref p] ∧ H p = some (.lst (bs.map V.ref)) ∧ PcsAt H bs ps ∧ ps.length ≤ 300000 ∧
  ∀ H' d, H' d = some (.dK (kvsFrom 0 (Fh.numbersOf ps []))) → Same H H' → H d = none → Q (.ref d) H'
def spRN : Sp := fun vs H Q _ => ∃ (p : Addr) (bs : List Addr) (ps : Fh.Row), vs = [.ref p] ∧ H p = some (.lst (bs.map V.ref)) ∧ PcsAt H bs ps ∧ ps.length ≤ 300000 ∧ ∀ H' l, PcsNew H H' l (Fh.formOf ps) → Q (.ref l) H'
section
variable {P : Program} {w : World} {K : PySem.W.Frag} {mg : Str → Option Value} {base : Heap} {a : Adr}
theorem scFP : FnScope ["pieces", "places", "kind", "number"] ["pieces"] (defScope s_find_places) := ⟨rfl, rfl, rfl, by decide +kernel, rfl, by decide +kernel, by decide +kernel⟩
theorem ok_fp (T : Txt P w K mg a) : OkF P w K mg base CX0 3 a.f_find_places ["pieces"] spFP := by
  obtain ⟨fd, F, b⟩ := T.d_find_places
  obtain ⟨fdO, GO, bO, kO⟩ := ok_ot (base := base) T
  refine ⟨fd, F.ok (k := 2) scFP (fun vs H Q E h => ?_) (fun cdv A outer s H vs Q E hr h => ?_), b, F.kp⟩
  · obtain ⟨p, bs, ps, rfl, _⟩ := h
    rfl
  · obtain ⟨p, bs, ps, rfl, hp, hpc, hn, k⟩ := h
    have hr1 : Room 1 _ := hr.mono (by decide)
    have hu := hu_of hr
    refine ⟨_, pss_cons (ps_set (i := 1) scFP.nd rfl (Or.inl rfl) pe_dnewK)
      (pss_cons (ps_for PassesOwn.never rfl (pi_list (pe_call GO hr1 rfl T.g_only_tags kO bO .nil pass0 (pa_cons (pv 0) pa_nil))) (pg_tup rfl (pgs_cons (pg_name (i := 2) scFP.nd rfl (Or.inl rfl)) (pgs_cons (pg_name (i := 3) scFP.nd rfl (Or.inl rfl)) pgs_nil)))
        (pss_one (ps_if (pt_cmp (pc_dnotin hu (pv 3) (pv 1))) (pss_one (ps_dput hu (pv 1) (pv 3) (pe_op op_add (pe_callB call_lenD (by rfl) T.b_len PySem.boot_len (pa_cons (pv 1) pa_nil)) pe_int) rfl)) pss_nil)))
      (pss_one (ps_ret (pv 1)))), ?_⟩
    intro d hd
    have sd : Same H (upd H d (.dK [])) := fun b o e => by rw [upd_ne (ne_of_none e hd)]; exact e
    refine ⟨_, rfl, p, bs, ps, rfl, sd _ _ hp, hpc.on fun b q e => sd _ _ e, hn, fun H1 l ⟨bs1, hl1, pc1, s1, nl⟩ => ?_⟩
    have tl : (Fh.tagsOf ps).length ≤ 300000 := Nat.le_trans (List.length_filter_le _ _) hn
    refine ⟨l, rfl, ⟨_, SqL.of hl1⟩, for_list (K := K) (a := l) (xs := bs1.map V.ref) (fun i σ H' => ∃ o2 o3 : Option V, σ = [some (.ref p), some (.ref d), o2, o3] ∧ H' d = some (.dK (kvsFrom 0 (Fh.numbersOf ((Fh.tagsOf ps).take i) []))) ∧ Same H H' ∧ ∀ b o, b ≠ d → H1 b = some o → H' b = some o)
      ⟨none, none, rfl, s1 _ _ upd_same, sd.trans s1, fun _ _ _ e => e⟩ (fun i σ H' _ ⟨_, _, _, _, _, s6⟩ => SqL.of (s6 _ _ (fun z => by rw [z, upd_same] at nl; cases nl) hl1)) ?_ ?_⟩
    · rintro i y σ H' hi ⟨o2, o3, rfl, hd', sm, s6⟩
      obtain ⟨c, hc, rfl⟩ := map_at hi
      obtain ⟨q, hqi, hpa⟩ := pair_at pc1 hc
      have ht : q.isTag = true := (List.mem_filter.mp (List.mem_of_getElem? hqi)).2
      have htk : (Fh.tagsOf ps).take (i + 1) = (Fh.tagsOf ps).take i ++ [q] := take_snoc hqi
      have hne : c ≠ d := fun z => by
        have e1 : H1 d = some (.dK []) := s1 _ _ upd_same
        have hpa : H1 c = _ := hpa
        rw [z, e1] at hpa
        cases hpa
      have en := encN_tag ht
      refine ⟨c, _, rfl, SqT.of (s6 _ _ hne hpa), rfl, _, _, rfl, _, _, rfl, rfl, ?_⟩
      refine ⟨_, rfl, _, rfl, d, _, rfl, (by show DGet H' d (V.int (encN q)) _; rw [en]; exact DGet.k (k := Sum.inl (q.number : Int)) hd'), _, rfl, ?_⟩
      have sn := nums_snoc q ((Fh.tagsOf ps).take i) []
      by_cases hm : q.number ∈ Fh.numbersOf ((Fh.tagsOf ps).take i) []
      · rw [kvs_val _ _ _ hm]
        refine iteF ⟨_, _, rfl, ?_, sm, s6⟩
        rw [htk, sn, if_neg fun z => by rw [List.contains_iff_mem.mpr hm] at z; cases z.2]
        exact hd'
      · rw [kvs_no _ _ _ hm]
        have nl2 := nums_len ((Fh.tagsOf ps).take i) []
        rw [List.length_nil, List.length_take] at nl2
        refine iteT ⟨_, rfl, d, _, rfl, hd', _, _, rfl, rfl, _, rfl, _, rfl, d, _, rfl, (by show DPut H' d (V.int (encN q)) _ _; rw [en]; exact DPut.k (k := Sum.inl (q.number : Int)) hd' (by rw [kvs_len, sizeLine_eq]; omega)), ?_⟩
        refine ⟨_, _, rfl, ?_, same_upd sm hd, fun b o nb e => by rw [upd_ne nb]; exact s6 b o nb e⟩
        rw [upd_same, htk, sn, if_pos ⟨ht, by simpa using hm⟩, kvs_snoc, kvs_len]
        unfold putK
        have ea : ((kvsFrom 0 (Fh.numbersOf ((Fh.tagsOf ps).take i) [])).any fun kv => decide (kv.1 = (Sum.inl (q.number : Int) : Key))) = false := by
          rw [valV_any, kvs_no _ _ _ hm]
          rfl
        rw [ea, if_neg (by decide), Nat.zero_add]
        rfl
    · rintro σ H' ⟨o2, o3, rfl, hd', sm, _⟩
      rw [List.length_map, PcsAt.len pc1, List.take_length, ← nums_skip] at hd'
      exact ⟨_, rfl, k H' d hd' sm hd⟩
theorem scRN : FnScope ["pieces", "places", "kind", "number"] ["pieces"] (defScope s_rename_numbers) := ⟨rfl, rfl, rfl, by decide +kernel, rfl, by decide +kernel, by decide +kernel⟩
theorem ok_rn (T : Txt P w K mg a) : OkF P w K mg base CX0 5 a.f_rename_numbers ["pieces"] spRN := by
  obtain ⟨fd, F, b⟩ := T.d_rename_numbers
  obtain ⟨fdO, GO, bO, kO⟩ := ok_fp (base := base) T
  refine ⟨fd, F.ok (k := 4) scRN (fun vs H Q E h => ?_) (fun cdv A outer s H vs Q E hr h => ?_), b, F.kp⟩
  · obtain ⟨p, bs, ps, rfl, _⟩ := h
    rfl
  · obtain ⟨p, bs, ps, rfl, hp, hpc, hn, k⟩ := h
    have hr3 : Room 3 _ := hr.mono (by decide)
    have hu := hu_of hr
    refine ⟨_, pss_cons (ps_set (i := 1) scRN.nd rfl (Or.inr rfl) (pe_call GO hr3 rfl T.g_find_places kO bO .nil pass0 (pa_cons (pv 0) pa_nil)))
      (pss_one (ps_ret (pe_lc (own := [("kind", 2), ("number", 3)]) (g := gTup K 2 (gCons (gName 2) (gCons (gName 3) gNil))) rfl scRN.nd (pi_list (pv 0)) (blkOk_by rfl)
        (fun _ _ _ _ _ => pg_tup (n := 2) rfl (pgs_cons (pg_name (i := 2) scRN.nd rfl (Or.inl rfl) (Or.inr rfl)) (pgs_cons (pg_name (i := 3) scRN.nd rfl (Or.inl rfl) (Or.inr rfl)) pgs_nil)))
        (fun _ _ _ _ _ => pts_nil)
        (fun _ _ _ _ _ => pe_tup (pa_cons (pv 2) (pa_cons (pe_ifExp (pt_cmpR op_eq (pv 2) (pe_gi rfl T.i_CHARACTER) (nomark _)) (pv 3) (pe_dget hu (pv 1) (pv 3) (fun _ _ => rfl))) pa_nil)))))), ?_⟩
    refine ⟨_, rfl, p, bs, ps, rfl, hp, hpc, hn, fun H1 d hd s1 nd => ?_⟩
    refine ⟨_, rfl, p, rfl, ⟨_, SqL.of (s1 _ _ hp)⟩, fun D hD => ?_⟩
    have sD : Same H1 (upd H1 D (.lst [])) := (NewL.of (xs := []) hD).same
    have HD : H D = none := s1.free hD
    refine lc_list (K := K) (a := p) (xs := bs.map V.ref) (fun i H' => ∃ bs' : List Addr, H' D = some (.lst (bs'.map V.ref)) ∧ PcsAt H' bs' ((Fh.formOf ps).take i) ∧ Same H1 H') ⟨[], upd_same, .nil, sD⟩
      (fun i H' _ ⟨_, _, _, s5⟩ => SqL.of (s5 _ _ (s1 _ _ hp))) (fun i y H' hi ⟨bs', h1, h2, h3⟩ => ?_) fun H' ⟨bs', h1, h2, h3⟩ => k H' D ⟨bs', h1, ?_, s1.trans h3, HD⟩
    · obtain ⟨c, hc, rfl⟩ := map_at hi
      obtain ⟨q, hqi, hpa⟩ := pair_at hpc hc
      have hqm : q ∈ ps := List.mem_of_getElem? hqi
      have hfi : (Fh.formOf ps)[i]? = some (q.renamed (Fh.placeOf (Fh.numbersOf ps []))) := by
        unfold Fh.formOf
        rw [List.getElem?_map, hqi]
        rfl
      have htk := take_snoc hfi
      have lb := h2.len
      rw [List.length_take, form_len] at lb
      have fin : ∀ v : Int, v = encN (q.renamed (Fh.placeOf (Fh.numbersOf ps []))) → ∀ t, H' t = none → ∃ acc, upd H' t (.tup [.int (encK q), .int v]) D = some (.lst acc) ∧ acc.length < sizeLine ∧
          ∃ bs'' : List Addr, upd (upd H' t (.tup [.int (encK q), .int v])) D (.lst (acc ++ [V.ref t])) D = some (.lst (bs''.map V.ref)) ∧ PcsAt (upd (upd H' t (.tup [.int (encK q), .int v])) D (.lst (acc ++ [V.ref t]))) bs'' ((Fh.formOf ps).take (i + 1)) ∧ Same H1 (upd (upd H' t (.tup [.int (encK q), .int v])) D (.lst (acc ++ [V.ref t]))) := fun v ev t ht2 => by
        refine ⟨_, by rw [upd_ne (ne_of_none h1 ht2)]; exact h1, (by rw [List.length_map, sizeLine_eq]; omega), bs' ++ [t], ?_, ?_, ?_⟩
        · rw [upd_same, List.map_append]
          rfl
        · rw [htk]
          have lift : ∀ d q', PcAt (upd H' t (.tup [.int (encK q), .int v])) d q' → PcAt (upd (upd H' t (.tup [.int (encK q), .int v])) D (.lst (bs'.map V.ref ++ [.ref t]))) d q' := fun d q' e => by
            have nd : d ≠ D := fun z => by
              have e : upd H' t (.tup [.int (encK q), .int v]) d = _ := e
              rw [z, upd_ne (ne_of_none h1 ht2), h1] at e
              cases e
            show upd _ D _ d = _
            rw [upd_ne nd]
            exact e
          refine Paired.snoc (h2.on fun d q' e => lift d q' (by show upd H' t _ d = _; rw [upd_ne (ne_of_none e ht2)]; exact e)) (lift t _ ?_)
          show upd H' t _ t = _
          rw [upd_same, ren_K, ← ev]
        · exact same_upd (h3.trans (fun b o e => by rw [upd_ne (ne_of_none e ht2)]; exact e)) hD
      refine ⟨c, _, rfl, SqT.of (h3 _ _ (s1 _ _ hpa)), rfl, _, _, rfl, _, _, rfl, rfl, rfl, ?_⟩
      refine ⟨_, rfl, _, rfl, rfl, _, rfl, ite2 (fun h => ?_) fun h => ?_⟩
      · have h : V.int (encK q) = V.int 0 := of_decide_eq_true h
        have h : encK q = 0 := V.int.inj h
        have ht : ¬ q.isTag = true := fun z => (encK_tag q).mpr z h
        exact ⟨_, rfl, (by show 2 ≤ sizeLine; decide), fun t ht2 => fin _ (ren_C ht).symm t ht2⟩
      · have h : encK q ≠ 0 := fun z => h (decide_eq_true (congrArg V.int z))
        have ht := (encK_tag q).mp h
        have en := encN_tag ht
        have hm := nums_has ps [] q hqm ht
        refine ⟨_, rfl, _, rfl, d, V.int ((Fh.placeOf (Fh.numbersOf ps []) q.number : Nat) : Int), rfl, (by
          show DGet H' d (V.int (encN q)) _
          rw [en]
          have z := DGet.k (k := Sum.inl (q.number : Int)) (h3 _ _ hd)
          rw [kvs_val _ _ _ hm, Nat.zero_add] at z
          exact z), (by show 2 ≤ sizeLine; decide), fun t ht2 => fin _ (ren_N ht).symm t ht2⟩
    · have e : (Fh.formOf ps).length = ps.length := form_len ps
      rw [List.length_map, PcsAt.len hpc, ← e, List.take_length] at h2
      exact h2
end
end Fr

namespace Fr
open PySem PySem.Spec PyProof.Rows L2
/-! ### signs, words, units -/
def spIS : Sp := fun vs H Q _ => ∃ c : Nat, vs = [.int c] ∧ Q (.bl (Fh.isSign c)) H
def spOW : Sp := fun vs H Q _ => ∃ q : Fh.Piece, vs = [.int (encK q), .int (encN q)] ∧ Q (.bl (ofWord q)) H
def unitF (g k : Int) (l : Addr) : List (Str × V) := putF "text" (.ref l) (putF "tag_kind" (.int k) (putF "group" (.int g) []))
theorem uf_text (g k : Int) (l : Addr) : (unitF g k l).lookup ("text" : Str) = some (.ref l) := by
  unfold unitF
  rw [lookup_putF, if_pos rfl]
theorem uf_group (g k : Int) (l : Addr) : (unitF g k l).lookup ("group" : Str) = some (.int g) := by
  unfold unitF
  rw [lookup_putF, if_neg (by decide +kernel), lookup_putF, if_neg (by decide +kernel), lookup_putF, if_pos rfl]
def spUI (a : Adr) : Sp := fun vs H Q _ => ∃ (p l dx : Addr) (g k : Int), vs = [.ref p, .int g, .int k, .ref l] ∧ H p = some (.ins a.C_Unit dx []) ∧ Q .non (upd H p (.ins a.C_Unit dx (unitF g k l)))
/-- the unit u at b, its text at l -/
structure UnitAt (C : Addr) (H : Hp) (x : Addr × Addr) (u : Fh.Unit_) : Prop where
  ins : ∃ dx, H x.1 = some (.ins C dx (unitF (uG u) (uK u) x.2))
  txt : H x.2 = some (.lst ((bi (uB u)).map V.int))
theorem UnitAt.on {C : Addr} {H H' : Hp} {x : Addr × Addr} {u : Fh.Unit_} (U : UnitAt C H x u) (s : Same H H') : UnitAt C H' x u := ⟨let ⟨dx, e⟩ := U.ins; ⟨dx, s _ _ e⟩, s _ _ U.txt⟩
def spMU (a : Adr) : Sp := fun vs H Q _ => ∃ q : Fh.Piece, vs = [.int (encK q), .int (encN q)] ∧ PcSm q ∧ ∀ H' x, UnitAt a.C_Unit H' x (unitOfPc q) → Same H H' → H x.2 = none → Q (.ref x.1) H'
def UsAt (C : Addr) (H : Hp) (xs : List (Addr × Addr)) (us : List Fh.Unit_) : Prop := Paired (UnitAt C H) xs us
def spFU (a : Adr) : Sp := fun vs H Q _ => ∃ (p : Addr) (bs : List Addr) (ps : Fh.Row), vs = [.ref p] ∧ H p = some (.lst (bs.map V.ref)) ∧ PcsAt H bs ps ∧ ps.length ≤ 300000 ∧ (∀ q ∈ Fh.formOf ps, PcSm q) ∧
  ∀ H' u xs, H' u = some (.lst (xs.map fun x : Addr × Addr => V.ref x.1)) → UsAt a.C_Unit H' xs (Fh.units ps) → Same H H' → H u = none → Q (.ref u) H'
section
variable {P : Program} {w : World} {K : PySem.W.Frag} {mg : Str → Option Value} {base : Heap} {a : Adr}
theorem sign_at (T : Txt P w K mg a) : ∀ (i : Nat) (x : V), ([.ref a.a_SIGNS_0, .ref a.a_SIGNS_1, .ref a.a_SIGNS_2, .ref a.a_SIGNS_3, .ref a.a_SIGNS_4, .ref a.a_SIGNS_5, .ref a.a_SIGNS_6, .ref a.a_SIGNS_7, .ref a.a_SIGNS_8] : List V)[i]? = some x →
    ∃ (lo hi : Nat) (b : Addr), x = .ref b ∧ sgs[i]? = some (lo, hi) ∧ ∀ H, SqT K H b [.int lo, .int hi]
  | 0, x, h => ⟨_, _, _, (Option.some.inj h).symm, rfl, T.t_SIGNS_0⟩
  | 1, x, h => ⟨_, _, _, (Option.some.inj h).symm, rfl, T.t_SIGNS_1⟩
  | 2, x, h => ⟨_, _, _, (Option.some.inj h).symm, rfl, T.t_SIGNS_2⟩
  | 3, x, h => ⟨_, _, _, (Option.some.inj h).symm, rfl, T.t_SIGNS_3⟩
  | 4, x, h => ⟨_, _, _, (Option.some.inj h).symm, rfl, T.t_SIGNS_4⟩
  | 5, x, h => ⟨_, _, _, (Option.some.inj h).symm, rfl, T.t_SIGNS_5⟩
  | 6, x, h => ⟨_, _, _, (Option.some.inj h).symm, rfl, T.t_SIGNS_6⟩
  | 7, x, h => ⟨_, _, _, (Option.some.inj h).symm, rfl, T.t_SIGNS_7⟩
  | 8, x, h => ⟨_, _, _, (Option.some.inj h).symm, rfl, T.t_SIGNS_8⟩
  | n + 9, x, h => by simp at h
theorem scIS : FnScope ["code", "low", "high"] ["code"] (defScope s_is_sign) := ⟨rfl, rfl, rfl, by decide +kernel, rfl, by decide +kernel, by decide +kernel⟩
theorem ok_is (T : Txt P w K mg a) : OkF P w K mg base CX0 1 a.f_is_sign ["code"] spIS := by
  obtain ⟨fd, F, b⟩ := T.d_is_sign
  refine ⟨fd, F.ok scIS (fun vs H Q E h => ?_) (fun cdv A outer s H vs Q E hr h => ?_), b, F.kp⟩
  · obtain ⟨c, rfl, _⟩ := h
    rfl
  · obtain ⟨c, rfl, k⟩ := h
    refine ⟨_, pss_cons (ps_for PassesOwn.never rfl (pi_tup (pe_glob (v := .ref a.a_SIGNS) rfl T.g_SIGNS rfl)) (pg_tup rfl (pgs_cons (pg_name (i := 1) scIS.nd rfl (Or.inl rfl)) (pgs_cons (pg_name (i := 2) scIS.nd rfl (Or.inl rfl)) pgs_nil)))
        (pss_one (ps_if (pt_chain op_le op_le (pv 1) (pv 0) (pv 2)) (pss_one (ps_ret pe_bl)) pss_nil)))
      (pss_one (ps_ret pe_bl)), ?_⟩
    refine ⟨a.a_SIGNS, rfl, ⟨_, T.t_SIGNS _⟩, for_tup (K := K) (a := a.a_SIGNS) (xs := [.ref a.a_SIGNS_0, .ref a.a_SIGNS_1, .ref a.a_SIGNS_2, .ref a.a_SIGNS_3, .ref a.a_SIGNS_4, .ref a.a_SIGNS_5, .ref a.a_SIGNS_6, .ref a.a_SIGNS_7, .ref a.a_SIGNS_8])
      (fun i σ H' => ∃ o1 o2 : Option V, σ = [some (.int c), o1, o2] ∧ H' = H ∧ ((sgs.take i).any fun x => decide (x.1 ≤ c) && decide (c ≤ x.2)) = false)
      ⟨none, none, rfl, rfl, rfl⟩ (fun i σ H' _ _ => T.t_SIGNS _) ?_ ?_⟩
    · rintro i y σ H' hi ⟨o1, o2, rfl, rfl, hno⟩
      obtain ⟨lo, hh, bb, rfl, hsg, hsq⟩ := sign_at T i y hi
      have nxt : ¬ (lo ≤ c ∧ c ≤ hh) → ((sgs.take (i + 1)).any fun x => decide (x.1 ≤ c) && decide (c ≤ x.2)) = false := fun hn => by
        rw [take_snoc hsg, List.any_append, hno, List.any_cons, List.any_nil]
        have e : (decide (lo ≤ c) && decide (c ≤ hh)) = false := by
          rw [Bool.eq_false_iff]
          intro z
          rw [Bool.and_eq_true, decide_eq_true_iff, decide_eq_true_iff] at z
          exact hn z
        rw [e]
        rfl
      refine ⟨bb, _, rfl, hsq _, rfl, _, _, rfl, _, _, rfl, rfl, ?_⟩
      refine ⟨_, rfl, _, rfl, _, _, rfl, rfl, _, rfl, ite2 (fun h => ?_) fun h => ?_⟩
      · have h1 : (lo : Int) ≤ (c : Int) := of_decide_eq_true h
        refine ⟨_, rfl, _, _, rfl, rfl, _, rfl, ite2 (fun h => ?_) fun h => ?_⟩
        · have h2 : (c : Int) ≤ (hh : Int) := of_decide_eq_true h
          have e : Fh.isSign c = true := by
            rw [isSign_eq, List.any_eq_true]
            refine ⟨_, List.mem_of_getElem? hsg, ?_⟩
            rw [Bool.and_eq_true, decide_eq_true_iff, decide_eq_true_iff]
            exact ⟨by show lo ≤ c; omega, by show c ≤ hh; omega⟩
          rw [e] at k
          exact k
        · have h2 : ¬ (c : Int) ≤ (hh : Int) := fun z => h (decide_eq_true z)
          exact ⟨_, _, rfl, rfl, nxt (by omega)⟩
      · have h1 : ¬ (lo : Int) ≤ (c : Int) := fun z => h (decide_eq_true z)
        exact ⟨_, rfl, iteF ⟨_, _, rfl, rfl, nxt (by omega)⟩⟩
    · rintro σ H' ⟨o1, o2, rfl, rfl, hno⟩
      have e : Fh.isSign c = false := by
        rw [isSign_eq]
        exact hno
      rw [e] at k
      exact k
theorem scOW : FnScope ["kind", "number"] ["kind", "number"] (defScope s_is_of_word) := ⟨rfl, rfl, rfl, by decide +kernel, rfl, by decide +kernel, by decide +kernel⟩
theorem ok_ow (T : Txt P w K mg a) : OkF P w K mg base CX0 3 a.f_is_of_word ["kind", "number"] spOW := by
  obtain ⟨fd, F, b⟩ := T.d_is_of_word
  obtain ⟨fdS, GS, bS, kS⟩ := ok_is (base := base) T
  refine ⟨fd, F.ok (k := 2) scOW (fun vs H Q E h => ?_) (fun cdv A outer s H vs Q E hr h => ?_), b, F.kp⟩
  · obtain ⟨q, rfl, _⟩ := h
    rfl
  · obtain ⟨q, rfl, k⟩ := h
    have hr1 : Room 1 _ := hr.mono (by decide)
    refine ⟨_, pss_one (ps_ret (pe_and (pe_cmpR op_eq (pv 0) (pe_gi rfl T.i_CHARACTER) (nomark _)) (pe_and (pe_cmpR op_ne (pv 1) (pe_gi rfl T.i_BLANK) (nomark _)) (pe_one (pe_not (pe_call GS hr1 rfl T.g_is_sign kS bS .nil pass0 (pa_cons (pv 1) pa_nil))))))), ?_⟩
    have tag : encK q ≠ 0 → ofWord q = false := fun h => by cases q <;> first | rfl | exact absurd rfl h
    refine ⟨_, rfl, rfl, _, rfl, ite2 (fun h => ?_) fun h => ?_⟩
    · have h : V.int (encK q) = V.int 0 := of_decide_eq_true h
      have h : encK q = 0 := V.int.inj h
      cases q with
      | open_ n => cases h
      | close n => cases h
      | alone n => cases h
      | char c =>
        refine ⟨_, rfl, rfl, _, rfl, ite2 (fun h2 => ?_) fun h2 => ?_⟩
        · have h2 : ¬ (c : Int) = 32 := fun z => by
            have e : encN (Fh.Piece.char c) = 32 := z
            rw [e] at h2
            exact absurd h2 (by decide)
          refine ⟨_, rfl, c, rfl, _, rfl, ?_⟩
          have e : ofWord (.char c) = !Fh.isSign c := by
            show (c != Fh.BLANK && !Fh.isSign c) = _
            rw [show (c != Fh.BLANK) = true from bne_iff_ne.mpr (show c ≠ 32 by omega), Bool.true_and]
          rw [e] at k
          exact k
        · have h2 : (c : Int) = 32 := by
            by_cases z : (c : Int) = 32
            · exact z
            · exact absurd (show (!decide (V.int (c : Int) = V.int 32)) = true by rw [decide_eq_false (fun zz => z (V.int.inj zz))]; rfl) h2
          have e : ofWord (.char c) = false := by
            show (c != Fh.BLANK && !Fh.isSign c) = _
            rw [show c = 32 by omega]
            rfl
          rw [e] at k
          exact k
    · have h : encK q ≠ 0 := fun z => h (decide_eq_true (congrArg V.int z))
      rw [tag h] at k
      exact k
theorem scUI : FnScope ["self", "group", "tag_kind", "text"] ["self", "group", "tag_kind", "text"] (defScope s_Unit_init) := ⟨rfl, rfl, rfl, by decide +kernel, rfl, by decide +kernel, by decide +kernel⟩
theorem ok_UI (T : Txt P w K mg a) : OkF P w K mg base CX0 1 a.f_Unit_init ["self", "group", "tag_kind", "text"] (spUI a) := by
  obtain ⟨fd, F, b⟩ := T.d_Unit_init
  refine ⟨fd, F.ok scUI (fun vs H Q E h => ?_) (fun cdv A outer s H vs Q E hr h => ?_), b, F.kp⟩
  · obtain ⟨p, l, dx, g, k, rfl, _⟩ := h
    rfl
  · obtain ⟨p, l, dx, g, k, rfl, hp, kk⟩ := h
    refine ⟨_, pss_cons (ps_fld (pv 0) (pv 1) rfl) (pss_cons (ps_fld (pv 0) (pv 2) rfl) (pss_one (ps_fld (pv 0) (pv 3) rfl))), ?_⟩
    refine ⟨_, rfl, _, rfl, p, a.C_Unit, dx, [], rfl, hp, T.c_Unit, T.n_Unit_group, (by show 0 < 1000; decide), ?_⟩
    refine ⟨_, rfl, _, rfl, p, a.C_Unit, dx, _, rfl, upd_same, T.c_Unit, T.n_Unit_tag_kind, (by show 1 < 1000; decide), ?_⟩
    refine ⟨_, rfl, _, rfl, p, a.C_Unit, dx, _, rfl, upd_same, T.c_Unit, T.n_Unit_text, ?_, ?_⟩
    · have h1 := length_putF "tag_kind" (.int k) (putF "group" (.int g) [])
      have h2 := length_putF "group" (.int g) []
      simp only [List.length_nil] at h2
      omega
    · rw [upd_upd, upd_upd]
      exact kk
theorem scMU : FnScope ["kind", "number"] ["kind", "number"] (defScope s_make_unit) := ⟨rfl, rfl, rfl, by decide +kernel, rfl, by decide +kernel, by decide +kernel⟩
theorem made_unit {H H1 : Hp} {x dx l : Addr} {u : Fh.Unit_} (n : NewL H H1 l ((bi (uB u)).map V.int)) (nx : H1 x = none) (nd : H1 dx = none) :
    UnitAt a.C_Unit (upd (upd (upd H1 dx (.own x)) x (.ins a.C_Unit dx [])) x (.ins a.C_Unit dx (unitF (uG u) (uK u) l))) (x, l) u ∧ Same H (upd (upd (upd H1 dx (.own x)) x (.ins a.C_Unit dx [])) x (.ins a.C_Unit dx (unitF (uG u) (uK u) l))) := by
  have k : ∀ b o, H1 b = some o → upd (upd (upd H1 dx (.own x)) x (.ins a.C_Unit dx [])) x (.ins a.C_Unit dx (unitF (uG u) (uK u) l)) b = some o := fun b o e => by
    rw [upd_upd, upd_ne (ne_of_none e nx), upd_ne (ne_of_none e nd)]
    exact e
  exact ⟨⟨⟨dx, upd_same⟩, k _ _ n.at_⟩, fun b o e => k _ _ (n.same b o e)⟩
theorem ok_mu (T : Txt P w K mg a) : OkF P w K mg base CX0 5 a.f_make_unit ["kind", "number"] (spMU a) := by
  obtain ⟨fd, F, b⟩ := T.d_make_unit
  obtain ⟨fdS, GS, bS, kS⟩ := ok_is (base := base) T
  obtain ⟨fdN, GN, bN, kN⟩ := ok_wn (base := base) T
  obtain ⟨fdC, GC, bC, kC⟩ := ok_wc (base := base) T
  obtain ⟨fdU, GU, bU, kU⟩ := ok_UI (base := base) T
  refine ⟨fd, F.ok (k := 4) scMU (fun vs H Q E h => ?_) (fun cdv A outer s H vs Q E hr h => ?_), b, F.kp⟩
  · obtain ⟨q, rfl, _⟩ := h
    rfl
  · obtain ⟨q, rfl, hq, k⟩ := h
    have hr1 : Room 1 _ := hr.mono (by decide)
    have hr2 : Room 2 _ := hr.mono (by decide)
    have hr3 : Room 3 _ := hr.mono (by decide)
    refine ⟨_, pss_cons (ps_if (pt_cmpR op_ne (pv 0) (pe_gi rfl T.i_CHARACTER) (nomark _)) (pss_one (ps_ret (pe_make T.mk_Unit GU hr2 rfl T.g_Unit bU .nil pass0 (pa_cons (pe_gi rfl T.i_TAG)
        (pa_cons (pe_tupIx (i := 0) (pa_cons (pe_gi rfl T.i_OPENING) (pa_cons (pe_gi rfl T.i_CLOSING) (pa_cons (pe_gi rfl T.i_ALONE) pa_nil)))) (pa_cons (pe_call GN hr1 rfl T.g_write_number kN bN .nil pass0 (pa_cons (pv 1) pa_nil)) pa_nil)))))) pss_nil)
      (pss_one (ps_ret (pe_make T.mk_Unit GU hr2 rfl T.g_Unit bU .nil pass0 (pa_cons (pe_ifExp (pt_val (pe_call GS hr1 rfl T.g_is_sign kS bS .nil pass0 (pa_cons (pv 1) pa_nil))) (pe_gi rfl T.i_SIGN) (pe_gi rfl T.i_WORD))
        (pa_cons pe_int (pa_cons (pe_call GC hr3 rfl T.g_write_character kC bC .nil pass0 (pa_cons (pv 1) pa_nil)) pa_nil)))))), ?_⟩
    refine ⟨_, rfl, rfl, _, rfl, ite2 (fun h => ?_) fun h => ?_⟩
    · have h : encK q ≠ 0 := fun z => by rw [z] at h; exact absurd h (by decide)
      have ht := (encK_tag q).mp h
      have en := encN_tag ht
      have fin : ∀ (j : Nat), unitOfPc q = .tag j q.number → ((43 = encK q ∧ j = 0) ∨ ((43 : Int) ≠ encK q ∧ (45 : Int) = encK q ∧ j = 1) ∨ ((43 : Int) ≠ encK q ∧ (45 : Int) ≠ encK q ∧ (46 : Int) = encK q ∧ j = 2)) →
          tMake a.C_Unit (spUI a) [] E0 (tCons (tC (.int 2)) (tCons (tTupIx 0 (tCons (tC (.int 43)) (tCons (tC (.int 45)) (tCons (tC (.int 46)) tNil)))) (tCons (tCall spWN [] E0 (tCons (tVar 1) tNil)) tNil))) [some (.int (encK q)), some (.int (encN q))] H Q := fun j ej hj => by
        refine ⟨43, 45, 46, encK q, j, rfl, rfl, hj, _, rfl, q.number, congrArg (fun z => [V.int z]) en, hq.2 ht, fun H2 l n2 x dx nx nd ne => ?_⟩
        have n3 : NewL H H2 l ((bi (uB (.tag j q.number))).map V.int) := n2
        obtain ⟨U, sm⟩ := made_unit (a := a) (u := .tag j q.number) n3 nx nd
        refine ⟨x, l, dx, 2, (j : Int), rfl, upd_same, rfl, k _ (x, l) ?_ sm n2.new⟩
        rw [ej]
        exact U
      cases q with
      | char c => cases ht
      | open_ n => exact fin 0 rfl (.inl ⟨rfl, rfl⟩)
      | close n => exact fin 1 rfl (.inr (.inl ⟨by show (43 : Int) ≠ 45; decide, rfl, rfl⟩))
      | alone n => exact fin 2 rfl (.inr (.inr ⟨by show (43 : Int) ≠ 46; decide, by show (45 : Int) ≠ 46; decide, rfl, rfl⟩))
    · have h : encK q = 0 := by
        by_cases z : encK q = 0
        · exact z
        · exact absurd (by rw [decide_eq_false (fun zz => z (V.int.inj zz))]; rfl) h
      cases q with
      | open_ n => cases h
      | close n => cases h
      | alone n => cases h
      | char c =>
        have hc := hq.1 c rfl
        refine ⟨_, rfl, c, rfl, _, rfl, ?_⟩
        by_cases hs : Fh.isSign c = true
        · rw [hs]
          refine iteT ⟨_, rfl, c, rfl, hc, fun H2 l n2 x dx nx nd ne => ?_⟩
          have n3 : NewL H H2 l ((bi (uB (.sign c))).map V.int) := n2
          obtain ⟨U, sm⟩ := made_unit (a := a) (u := .sign c) n3 nx nd
          refine ⟨x, l, dx, 1, 0, rfl, upd_same, rfl, k _ (x, l) ?_ sm n2.new⟩
          show UnitAt _ _ _ (if Fh.isSign c = true then .sign c else .word [c])
          rw [if_pos hs]
          exact U
        · have hs2 : Fh.isSign c = false := by simpa using hs
          rw [hs2]
          refine iteF ⟨_, rfl, c, rfl, hc, fun H2 l n2 x dx nx nd ne => ?_⟩
          have n3 : NewL H H2 l ((bi (uB (.word [c]))).map V.int) := by
            have e : uB (.word [c]) = Fh.utf8 c := by show ([c].flatMap Fh.utf8) = _; simp
            rw [e]
            exact n2
          obtain ⟨U, sm⟩ := made_unit (a := a) (u := .word [c]) n3 nx nd
          refine ⟨x, l, dx, 0, 0, rfl, upd_same, rfl, k _ (x, l) ?_ sm n2.new⟩
          show UnitAt _ _ _ (if Fh.isSign c = true then .sign c else .word [c])
          rw [if_neg hs]
          exact U
end
end Fr

namespace Fr
open PySem PySem.Spec PyProof.Rows L2
section
variable {P : Program} {w : World} {K : PySem.W.Frag} {mg : Str → Option Value} {base : Heap} {a : Adr}
theorem pair_last {α β : Type} {R : α → β → Prop} {xs : List α} {ys : List β} {y : β} (h : Paired R xs (ys ++ [y])) : ∃ xs' x, xs = xs' ++ [x] ∧ Paired R xs' ys ∧ R x y := by
  induction ys generalizing xs with
  | nil =>
    cases h with
    | cons r t =>
      cases t
      exact ⟨[], _, rfl, .nil, r⟩
  | cons z zs ih =>
    cases h with
    | cons r t =>
      obtain ⟨xs', x, e, h1, h2⟩ := ih t
      subst e
      exact ⟨_ :: xs', x, rfl, .cons r h1, h2⟩
/-- the units so far, and where they lie: u the list; H1 the heap ahead of the loop -/
structure FuInv (C u : Addr) (H1 H' : Hp) (xs : List (Addr × Addr)) (us : List Fh.Unit_) (n : Nat) : Prop where
  lst : H' u = some (.lst (xs.map fun x : Addr × Addr => V.ref x.1))
  uns : UsAt C H' xs us
  nd : (xs.map (·.2)).Nodup
  new : ∀ x ∈ xs, H1 x.2 = none
  old : ∀ b o, b ≠ u → H1 b = some o → H' b = some o
  len : xs.length ≤ n
/-- one more unit -/
theorem FuInv.more {C u : Addr} {H1 H' H2 : Hp} {xs : List (Addr × Addr)} {us : List Fh.Unit_} {n : Nat} {x : Addr × Addr} {v : Fh.Unit_} (I : FuInv C u H1 H' xs us n) (U : UnitAt C H2 x v) (s : Same H' H2) (nx : H' x.2 = none) (hu : H1 u = some (.lst [])) :
    FuInv C u H1 (upd H2 u (.lst ((xs.map fun x : Addr × Addr => V.ref x.1) ++ [V.ref x.1]))) (xs ++ [x]) (us ++ [v]) (n + 1) := by
  have hu2 := s _ _ I.lst
  have ne2 : x.2 ≠ u := fun z => by rw [z, I.lst] at nx; cases nx
  have ne1 : x.1 ≠ u := fun z => by
    obtain ⟨dx, e⟩ := U.ins
    rw [z, hu2] at e
    cases e
  have lift : ∀ {y : Addr × Addr} {z : Fh.Unit_}, y.1 ≠ u → y.2 ≠ u → UnitAt C H2 y z → UnitAt C (upd H2 u (.lst ((xs.map fun x : Addr × Addr => V.ref x.1) ++ [V.ref x.1]))) y z := fun {y z} n1 n2 q =>
    ⟨let ⟨dx, e⟩ := q.ins; ⟨dx, by rw [upd_ne n1]; exact e⟩, by rw [upd_ne n2]; exact q.txt⟩
  have fr : ∀ y ∈ xs, y.2 ≠ x.2 := fun y hy z => by
    obtain ⟨i, hi⟩ := List.getElem?_of_mem hy
    obtain ⟨q, _, hq⟩ := pair_at I.uns hi
    have e := hq.txt
    rw [z, nx] at e
    cases e
  refine ⟨?_, ?_, ?_, ?_, ?_, ?_⟩
  · rw [upd_same, List.map_append]
    rfl
  · refine Paired.snoc ?_ (lift ne1 ne2 U)
    have h1 := I.uns
    have all : ∀ {ys : List (Addr × Addr)} {vs : List Fh.Unit_}, Paired (UnitAt C H') ys vs → (∀ y ∈ ys, y ∈ xs) → Paired (UnitAt C (upd H2 u (.lst ((xs.map fun x : Addr × Addr => V.ref x.1) ++ [V.ref x.1])))) ys vs := by
      intro ys vs h
      induction h with
      | nil => intro _; exact .nil
      | cons r t ih =>
        intro hm
        refine .cons (lift ?_ ?_ (r.on s)) (ih fun y hy => hm y (List.mem_cons_of_mem _ hy))
        · intro z
          obtain ⟨dx, e⟩ := r.ins
          rw [z, I.lst] at e
          cases e
        · intro z
          have e := I.new _ (hm _ List.mem_cons_self)
          rw [z, hu] at e
          cases e
    exact all h1 fun _ h => h
  · rw [List.map_append]; rw [List.nodup_append]
    refine ⟨I.nd, by simp, fun b hb c hc => ?_⟩
    obtain ⟨y, hy, rfl⟩ := List.mem_map.mp hb
    have ec : c = x.2 := by simpa using hc
    rw [ec]
    exact fr y hy
  · intro y hy
    rcases (List.mem_append.mp hy) with h | h
    · exact I.new y h
    · have e : y = x := by simpa using h
      rw [e]
      cases q : H1 x.2 with
      | none => rfl
      | some o =>
        have z := I.old _ _ ne2 q
        rw [nx] at z
        cases z
  · intro b o nb e
    rw [upd_ne nb]
    exact s _ _ (I.old b o nb e)
  · rw [List.length_append, List.length_singleton]
    have := I.len
    omega
theorem FuInv.le {C u : Addr} {H1 H' : Hp} {xs : List (Addr × Addr)} {us : List Fh.Unit_} {n : Nat} (I : FuInv C u H1 H' xs us n) : FuInv C u H1 H' xs us (n + 1) := ⟨I.lst, I.uns, I.nd, I.new, I.old, Nat.le_succ_of_le I.len⟩
theorem scFU : FnScope ["pieces", "units", "was_of_word", "kind", "number", "now_of_word"] ["pieces"] (defScope s_find_units) := ⟨rfl, rfl, rfl, by decide +kernel, rfl, by decide +kernel, by decide +kernel⟩
theorem ok_fu (T : Txt P w K mg a) : OkF P w K mg base CX0 7 a.f_find_units ["pieces"] (spFU a) := by
  obtain ⟨fd, F, b⟩ := T.d_find_units
  obtain ⟨fdR, GR, bR, kR⟩ := ok_rn (base := base) T
  obtain ⟨fdO, GO, bO, kO⟩ := ok_ow (base := base) T
  obtain ⟨fdM, GM, bM, kM⟩ := ok_mu (base := base) T
  obtain ⟨fdC, GC, bC, kC⟩ := ok_wc (base := base) T
  refine ⟨fd, F.ok (k := 6) scFU (fun vs H Q E h => ?_) (fun cdv A outer s H vs Q E hr h => ?_), b, F.kp⟩
  · obtain ⟨p, bs, ps, rfl, _⟩ := h
    rfl
  · obtain ⟨p, bs, ps, rfl, hp, hpc, hn, hsm, k⟩ := h
    have hr3 : Room 3 _ := hr.mono (by decide)
    have hr5 : Room 5 _ := hr.mono (by decide)
    refine ⟨_, pss_cons (ps_set (i := 1) scFU.nd rfl (Or.inl rfl) (pe_lst pa_nil))
      (pss_cons (ps_set (i := 2) scFU.nd rfl (Or.inl rfl) pe_bl)
      (pss_cons (ps_for PassesOwn.never rfl (pi_list (pe_call GR hr5 rfl T.g_rename_numbers kR bR .nil pass0 (pa_cons (pv 0) pa_nil))) (pg_tup rfl (pgs_cons (pg_name (i := 3) scFU.nd rfl (Or.inl rfl)) (pgs_cons (pg_name (i := 4) scFU.nd rfl (Or.inl rfl)) pgs_nil)))
        (pss_cons (ps_set (i := 5) scFU.nd rfl (Or.inl rfl) (pe_call GO hr3 rfl T.g_is_of_word kO bO .nil pass0 (pa_cons (pv 3) (pa_cons (pv 4) pa_nil))))
        (pss_cons (ps_if (PW.pt (pw_and (pt_val (pv 5)) (pw_and1 (pt_val (pv 2)))))
            (pss_one (ps_expr (pe_bm PySem.F.plainAttrs_list PySem.F.slot_list_extend PySem.F.type_list_extend mt_extend (pe_fld (pe_ix ix_list (pv 1) (pe_un un_neg pe_int) (fun _ _ => rfl)) rfl) (pa_cons (pe_call GC hr3 rfl T.g_write_character kC bC .nil pass0 (pa_cons (pv 4) pa_nil)) pa_nil))))
            (pss_one (ps_if (PW.pt (pw_or (pt_cmpR op_ne (pv 3) (pe_gi rfl T.i_CHARACTER) (nomark _)) (pw_or1 (pt_cmpR op_ne (pv 4) (pe_gi rfl T.i_BLANK) (nomark _)))))
              (pss_one (ps_expr (pe_bm PySem.F.plainAttrs_list PySem.F.slot_list_append PySem.F.type_list_append mt_append (pv 1) (pa_cons (pe_call GM hr5 rfl T.g_make_unit kM bM .nil pass0 (pa_cons (pv 3) (pa_cons (pv 4) pa_nil))) pa_nil)))) pss_nil)))
        (pss_one (ps_set (i := 2) scFU.nd rfl (Or.inl rfl) (pv 5))))))
      (pss_one (ps_ret (pv 1))))), ?_⟩
    refine ⟨Nat.zero_le _, fun u hu => ?_⟩
    have n0 := NewL.of (xs := []) hu
    refine ⟨_, rfl, p, bs, ps, rfl, n0.same _ _ hp, hpc.on fun b q e => n0.same _ _ e, hn, fun H1 l ⟨bs1, hl1, pc1, s1, nl⟩ => ?_⟩
    have hu1 : H1 u = some (.lst []) := s1 _ _ n0.at_
    have nlu : l ≠ u := fun z => by rw [z, upd_same] at nl; cases nl
    have sH : ∀ {H' : Hp}, (∀ b o, b ≠ u → H1 b = some o → H' b = some o) → Same H H' := fun {H'} h b o e => h b o (ne_of_none e hu) (s1 _ _ (n0.same _ _ e))
    have fl := form_len ps
    refine ⟨l, rfl, ⟨_, SqL.of hl1⟩, for_list (K := K) (a := l) (xs := bs1.map V.ref) (fun i σ H' => ∃ (o3 o4 o5 : Option V) (xs : List (Addr × Addr)) (cl : List Fh.Unit_) (wd : List Nat), σ = [some (.ref p), some (.ref u), some (.bl (decide (wd ≠ []))), o3, o4, o5] ∧
        Told ((Fh.formOf ps).take i) cl wd ∧ FuInv a.C_Unit u H1 H' xs (cl ++ doneW wd) i)
      ⟨none, none, none, [], [], [], rfl, Told.start, ⟨hu1, .nil, List.nodup_nil, (fun x hx => nomatch hx), fun _ _ _ e => e, Nat.le_refl _⟩⟩ (fun i σ H' _ ⟨_, _, _, _, _, _, _, _, I⟩ => SqL.of (I.old _ _ nlu hl1)) ?_ ?_⟩
    · rintro i y σ H' hi ⟨o3, o4, o5, xs, cl, wd, rfl, tl, I⟩
      obtain ⟨c, hc, rfl⟩ := map_at hi
      obtain ⟨q, hqi, hpa⟩ := pair_at pc1 hc
      have hqm : q ∈ Fh.formOf ps := List.mem_of_getElem? hqi
      have hqs := hsm q hqm
      have htk : (Fh.formOf ps).take (i + 1) = (Fh.formOf ps).take i ++ [q] := take_snoc hqi
      have il : i < (Fh.formOf ps).length := (List.getElem?_eq_some_iff.mp hqi).1
      have hne : c ≠ u := fun z => by
        have hpa : H1 c = _ := hpa
        rw [z, hu1] at hpa
        cases hpa
      have lt : ((Fh.formOf ps).take i).length ≤ 300000 := by rw [List.length_take]; omega
      have wl := tl.len
      have xl := I.len
      refine ⟨c, _, rfl, SqT.of (I.old _ _ hne hpa), rfl, _, _, rfl, _, _, rfl, rfl, ?_⟩
      refine ⟨_, rfl, _, rfl, q, rfl, ?_⟩
      -- an appended unit
      have app : ∀ (v : Fh.Unit_) (cl' : List Fh.Unit_) (wd' : List Nat) (o5' : Bool), unitOfPc q = v → (cl ++ doneW wd) ++ [v] = cl' ++ doneW wd' → Told ((Fh.formOf ps).take (i + 1)) cl' wd' → o5' = decide (wd' ≠ []) → ∀ H2 (x : Addr × Addr), UnitAt a.C_Unit H2 x (unitOfPc q) → Same H' H2 → H' x.2 = none →
          ∃ l' xs1 y1, V.ref u = V.ref l' ∧ [V.ref x.1] = [y1] ∧ H2 l' = some (.lst xs1) ∧ xs1.length < sizeLine ∧ ∃ v5, [some (V.ref p), some (V.ref u), some (V.bl (decide (wd ≠ []))), some (V.int (encK q)), some (V.int (encN q)), some (V.bl o5')][5]? = some (some v5) ∧
            ∃ (o3 o4 o5 : Option V) (xs : List (Addr × Addr)) (cl : List Fh.Unit_) (wd0 : List Nat), [some (V.ref p), some (V.ref u), some v5, some (V.int (encK q)), some (V.int (encN q)), some (V.bl o5')] = [some (.ref p), some (.ref u), some (.bl (decide (wd0 ≠ []))), o3, o4, o5] ∧ Told ((Fh.formOf ps).take (i + 1)) cl wd0 ∧ FuInv a.C_Unit u H1 (upd H2 l' (.lst (xs1 ++ [y1]))) xs (cl ++ doneW wd0) (i + 1) := fun v cl' wd' o5' ev ecl tl' eo H2 x U sm nx => by
        refine ⟨u, _, _, rfl, rfl, sm _ _ I.lst, (by rw [List.length_map, sizeLine_eq]; omega), _, rfl, _, _, _, xs ++ [x], cl', wd', (by rw [← eo]), tl', ?_⟩
        rw [← ecl, ← ev]
        exact I.more U sm nx hu1
      by_cases how : ofWord q = true
      · -- of a word
        have eo : V.bl (ofWord q) = V.bl true := by rw [how]
        obtain ⟨cc, ecc⟩ : ∃ cc, q = .char cc := by
          cases q with
          | char cc => exact ⟨cc, rfl⟩
          | open_ n => cases how
          | close n => cases how
          | alone n => cases how
        subst ecc
        have hw : Fh.isWordChar cc = true := how
        have tlw := tl.word hw
        rw [← htk] at tlw
        refine ⟨_, rfl, _, eo, iteT ?_⟩
        by_cases hwd : wd = []
        · -- it begins
          subst hwd
          refine ⟨_, rfl, _, rfl, iteF ?_⟩
          have hb := word_not hw
          refine ⟨_, rfl, rfl, _, rfl, iteF ⟨_, rfl, rfl, _, rfl, ?_⟩⟩
          have e32 : (!decide (V.int (encN (Fh.Piece.char cc)) = V.int 32)) = true := by
            rw [decide_eq_false (fun z => hb.2 (by have := V.int.inj z; have z2 : (cc : Int) = 32 := this; omega))]
            rfl
          rw [e32]
          refine iteT ⟨_, rfl, .inl ⟨rfl, _, SqL.of I.lst⟩, _, rfl, _, rfl, .char cc, rfl, hqs, fun H2 x U sm nx => ?_⟩
          have ev : unitOfPc (.char cc) = .word [cc] := by
            show (if Fh.isSign cc = true then Fh.Unit_.sign cc else .word [cc]) = _
            rw [if_neg (by rw [hb.1]; decide)]
          have z := app _ cl [cc] (ofWord (.char cc)) ev (by simp [doneW]) tlw (by rw [how]; rfl) H2 x U sm nx
          exact z
        · -- it goes on
          have ewd : decide (wd ≠ []) = true := decide_eq_true hwd
          refine ⟨_, rfl, _, congrArg V.bl ewd, iteT ?_⟩
          have ed : doneW wd = [.word wd] := by unfold doneW; rw [if_neg hwd]
          have huns := I.uns
          rw [ed] at huns
          obtain ⟨xs', x, exs, hp1, hp2⟩ := pair_last huns
          obtain ⟨dx, ex⟩ := hp2.ins
          have el : atI (xs.map fun x : Addr × Addr => V.ref x.1) (-1) = some (V.ref x.1) := by
            rw [exs]
            unfold atI ixN
            rw [if_neg (by decide), List.length_map, List.length_append, List.length_singleton, if_pos (by omega)]
            have e1 : (-1 + ((xs'.length + 1 : Nat) : Int)).toNat = xs'.length := by omega
            rw [e1]
            simp
          have ub := uB_len wd
          have uc := utf8_len cc
          refine ⟨_, rfl, _, rfl, u, _, _, _, rfl, rfl, SqL.of I.lst, el, x.1, a.C_Unit, dx, _, _, rfl, ex, T.c_Unit, T.n_Unit_text, uf_text _ _ _, .inl ⟨rfl, _, SqL.of hp2.txt⟩, _, rfl, cc, rfl, hqs.1 cc rfl, fun H2 l2 n2 => ?_⟩
          refine ⟨x.2, l2, _, _, rfl, rfl, n2.same _ _ hp2.txt, n2.at_, (by rw [List.length_map, List.length_map, bi_len, bi_len, sizeLine_eq]; omega), _, rfl, some (.int (encK (.char cc))), some (.int (encN (.char cc))), some (.bl (ofWord (.char cc))), xs, cl, wd ++ [cc], ?_, tlw, ?_⟩
          · rw [decide_eq_true (show wd ++ [cc] ≠ [] by simp), how]
            rfl
          · have xm : x ∈ xs := by rw [exs]; exact List.mem_append_right _ (List.mem_singleton.mpr rfl)
            have nxu : x.2 ≠ u := fun z => by
              have e := I.new x xm
              rw [z, hu1] at e
              cases e
            have ed2 : doneW (wd ++ [cc]) = [.word (wd ++ [cc])] := by unfold doneW; rw [if_neg (by simp)]
            have nd := I.nd
            rw [exs, List.map_append, List.nodup_append] at nd
            have oth : ∀ y ∈ xs', y.2 ≠ x.2 := fun y hy => nd.2.2 y.2 (List.mem_map.mpr ⟨y, hy, rfl⟩) x.2 (by simp)
            refine ⟨?_, ?_, I.nd, I.new, ?_, by omega⟩
            · rw [upd_ne (Ne.symm nxu)]
              exact n2.same _ _ I.lst
            · rw [ed2, exs]
              have lift : ∀ {y : Addr × Addr} {z : Fh.Unit_} {o : HO}, y.2 ≠ x.2 → UnitAt a.C_Unit H' y z → UnitAt a.C_Unit (upd H2 x.2 o) y z := fun {y z o} n q => by
                refine ⟨let ⟨dy, e⟩ := q.ins; ⟨dy, ?_⟩, ?_⟩
                · rw [upd_ne (fun zz => by rw [zz, hp2.txt] at e; cases e)]
                  exact n2.same _ _ e
                · rw [upd_ne n]
                  exact n2.same _ _ q.txt
              refine Paired.snoc ?_ ⟨⟨dx, ?_⟩, ?_⟩
              · have all : ∀ {o : HO} {ys : List (Addr × Addr)} {vs : List Fh.Unit_}, Paired (UnitAt a.C_Unit H') ys vs → (∀ y ∈ ys, y ∈ xs') → Paired (UnitAt a.C_Unit (upd H2 x.2 o)) ys vs := by
                  intro o ys vs h
                  induction h with
                  | nil => intro _; exact .nil
                  | cons r t ih =>
                    intro hm
                    exact .cons (lift (oth _ (hm _ List.mem_cons_self)) r) (ih fun y hy => hm y (List.mem_cons_of_mem _ hy))
                exact all hp1 fun _ h => h
              · rw [upd_ne (fun zz => by rw [zz, hp2.txt] at ex; cases ex)]
                exact n2.same _ _ ex
              · rw [upd_same, uB_word, List.map_append]
            · intro b o nb e
              have nbx : b ≠ x.2 := fun z => by
                rw [z, I.new x xm] at e
                cases e
              rw [upd_ne nbx]
              exact n2.same _ _ (I.old b o nb e)
      · -- not of a word
        have how2 : ofWord q = false := by simpa using how
        have eo : V.bl (ofWord q) = V.bl false := by rw [how2]
        refine ⟨_, rfl, _, eo, iteF (iteF ?_)⟩
        by_cases hbl : q = .char 32
        · subst hbl
          refine ⟨_, rfl, rfl, _, rfl, iteF ⟨_, rfl, rfl, _, rfl, iteF ?_⟩⟩
          have tlb := tl.blank
          rw [← htk] at tlb
          refine ⟨_, rfl, some (.int (encK (.char 32))), some (.int (encN (.char 32))), some (.bl (ofWord (.char 32))), xs, cl ++ doneW wd, [], ?_, tlb, ?_⟩
          · rw [how2]
            rfl
          · show FuInv _ _ _ _ _ ((cl ++ doneW wd) ++ []) _
            rw [List.append_nil]
            exact I.le
        · have tlo := tl.other how hbl
          rw [← htk] at tlo
          have body : ∀ H2 (x : Addr × Addr), UnitAt a.C_Unit H2 x (unitOfPc q) → Same H' H2 → H' x.2 = none → _ := app _ (cl ++ doneW wd ++ [unitOfPc q]) [] (ofWord q) rfl (by simp [doneW]) tlo (by rw [how2]; rfl)
          by_cases hk : encK q = 0
          · have e1 : (!decide (V.int (encK q) = V.int 0)) = false := by rw [hk]; rfl
            have e2 : (!decide (V.int (encN q) = V.int 32)) = true := by
              rw [decide_eq_false (fun z => ?_)]
              · rfl
              · cases q with
                | char c0 => exact hbl (by have z2 : (c0 : Int) = 32 := V.int.inj z; rw [show c0 = 32 by omega])
                | open_ n => cases hk
                | close n => cases hk
                | alone n => cases hk
            refine ⟨_, rfl, rfl, _, rfl, ?_⟩
            rw [e1]
            refine iteF ⟨_, rfl, rfl, _, rfl, ?_⟩
            rw [e2]
            exact iteT ⟨_, rfl, .inl ⟨rfl, _, SqL.of I.lst⟩, _, rfl, _, rfl, q, rfl, hqs, fun H2 x U sm nx => body H2 x U sm nx⟩
          · have e1 : (!decide (V.int (encK q) = V.int 0)) = true := by rw [decide_eq_false fun z => hk (V.int.inj z)]; rfl
            refine ⟨_, rfl, rfl, _, rfl, ?_⟩
            rw [e1]
            exact iteT (iteT ⟨_, rfl, .inl ⟨rfl, _, SqL.of I.lst⟩, _, rfl, _, rfl, q, rfl, hqs, fun H2 x U sm nx => body H2 x U sm nx⟩)
    · rintro σ H' ⟨o3, o4, o5, xs, cl, wd, rfl, tl, I⟩
      rw [List.length_map, PcsAt.len pc1, List.take_length] at tl
      refine ⟨_, rfl, k H' u xs I.lst ?_ (sH I.old) hu⟩
      show UsAt _ _ _ (Fh.unitsFrom [] (Fh.formOf ps))
      rw [tl.done]
      exact I.uns
end
end Fr

namespace Fr
open PySem PySem.Spec PyProof.Rows L2
/-! ### halves -/
abbrev nI (n : Nat) : V := .int (n : Int)
def spFH : Sp := fun vs H Q _ => ∃ (p : Addr) (bs : List Addr) (ps : Fh.Row), vs = [.ref p] ∧ H p = some (.lst (bs.map V.ref)) ∧ PcsAt H bs ps ∧ ps.length ≤ 300000 ∧
  (Fh.straight ps = false → ∀ H', Same H H' → Q .non H') ∧
  (∀ ls pl, Fh.straight ps = true → Fh.halves ps = some (ls, pl) → ∀ H' t l1 l2, H' t = some (.tup [.ref l1, .ref l2]) → H' l1 = some (.lst (ls.map nI)) → H' l2 = some (.lst (pl.map nI)) → Same H H' → Q (.ref t) H')
/-- where the loop's data lie -/
structure FhInv (l1 l2 d : Addr) (H1 H' : Hp) (lk : Nat → Option Int) (ls pl : List Nat) (n : Nat) : Prop where
  a1 : H' l1 = some (.lst (ls.map nI))
  a2 : H' l2 = some (.lst (pl.map nI))
  a3 : ∃ kvs, H' d = some (.dK kvs) ∧ (∀ m : Nat, valV kvs (.inl (m : Int)) = (lk m).map V.int) ∧ kvs.length ≤ n
  b1 : ls.length ≤ n
  b2 : pl.length ≤ n
  old : ∀ b o, b ≠ l1 → b ≠ l2 → b ≠ d → H1 b = some o → H' b = some o
theorem map_nI_snoc (l : List Nat) (n : Nat) : (l ++ [n]).map nI = l.map nI ++ [.int (n : Int)] := by rw [List.map_append]; rfl
section
variable {P : Program} {w : World} {K : PySem.W.Frag} {mg : Str → Option Value} {base : Heap} {a : Adr}
theorem scFH : FnScope ["pieces", "lefts", "pile", "last_kinds", "kind", "number"] ["pieces"] (defScope s_find_halves) := ⟨rfl, rfl, rfl, by decide +kernel, rfl, by decide +kernel, by decide +kernel⟩
theorem ok_fh (T : Txt P w K mg a) : OkF P w K mg base CX0 3 a.f_find_halves ["pieces"] spFH := by
  obtain ⟨fd, F, b⟩ := T.d_find_halves
  obtain ⟨fdO, GO, bO, kO⟩ := ok_ot (base := base) T
  refine ⟨fd, F.ok (k := 2) scFH (fun vs H Q E h => ?_) (fun cdv A outer s H vs Q E hr h => ?_), b, F.kp⟩
  · obtain ⟨p, bs, ps, rfl, _⟩ := h
    rfl
  · obtain ⟨p, bs, ps, rfl, hp, hpc, hn, k1, k2⟩ := h
    have hr1 : Room 1 _ := hr.mono (by decide)
    have hu := hu_of hr
    refine ⟨_, pss_cons (ps_set (i := 1) scFH.nd rfl (Or.inl rfl) (pe_lst pa_nil))
      (pss_cons (ps_set (i := 2) scFH.nd rfl (Or.inl rfl) (pe_lst pa_nil))
      (pss_cons (ps_set (i := 3) scFH.nd rfl (Or.inl rfl) pe_dnewK)
      (pss_cons (ps_for PassesOwn.never rfl (pi_list (pe_call GO hr1 rfl T.g_only_tags kO bO .nil pass0 (pa_cons (pv 0) pa_nil))) (pg_tup rfl (pgs_cons (pg_name (i := 4) scFH.nd rfl (Or.inl rfl)) (pgs_cons (pg_name (i := 5) scFH.nd rfl (Or.inl rfl)) pgs_nil)))
        (pss_cons (ps_if (PW.pt (pw_and (pt_cmp (pc_din hu (pv 5) (pv 3))) (pw_and1 (PW.pt (pw_or (pt_cmpR op_ne (pe_dget hu (pv 3) (pv 5) (fun _ _ => rfl)) (pe_gi rfl T.i_OPENING) (nomark _)) (pw_or1 (pt_cmpR op_ne (pv 4) (pe_gi rfl T.i_CLOSING) (nomark _)))))))) (pss_one (ps_ret pe_non)) pss_nil)
        (pss_cons (ps_dput hu (pv 3) (pv 5) (pv 4) rfl)
        (pss_one (ps_if (pt_cmpR op_eq (pv 4) (pe_gi rfl T.i_OPENING) (nomark _))
          (pss_one (ps_expr (pe_bm PySem.F.plainAttrs_list PySem.F.slot_list_append PySem.F.type_list_append mt_append (pv 2) (pa_cons (pv 5) pa_nil))))
          (pss_one (ps_if (PW.pt (pw_and (pt_cmpR op_eq (pv 4) (pe_gi rfl T.i_CLOSING) (nomark _)) (pw_and1 (pt_cmpR op_eq (pe_callB call_len_seq (by rfl) T.b_len PySem.boot_len (pa_cons (pv 2) pa_nil)) pe_int (nomark _)))))
            (pss_one (ps_expr (pe_bm PySem.F.plainAttrs_list PySem.F.slot_list_append PySem.F.type_list_append mt_append (pv 1) (pa_cons (pv 5) pa_nil))))
            (pss_one (ps_if (PW.pt (pw_and (pt_cmpR op_eq (pv 4) (pe_gi rfl T.i_CLOSING) (nomark _)) (pw_and1 (pt_cmpR op_ne (pe_bm0 PySem.F.plainAttrs_list PySem.F.slot_list_pop PySem.F.type_list_pop mt_pop (pv 2)) (pv 5) (nomark _)))))
              (pss_one (ps_ret pe_non)) pss_nil)))))))))
      (pss_one (ps_ret (pe_tup (pa_cons (pv 1) (pa_cons (pv 2) pa_nil)))))))), ?_⟩
    refine ⟨Nat.zero_le _, fun l1 hl1 => ⟨Nat.zero_le _, fun l2 hl2 => fun d hd => ?_⟩⟩
    have n12 : l1 ≠ l2 := fun z => by rw [← z, upd_same] at hl2; cases hl2
    have n1d : l1 ≠ d := fun z => by rw [← z, upd_ne n12, upd_same] at hd; cases hd
    have n2d : l2 ≠ d := fun z => by rw [← z, upd_same] at hd; cases hd
    have H2n : H l2 = none := by rw [upd_ne (Ne.symm n12)] at hl2; exact hl2
    have Hdn : H d = none := by rw [upd_ne (Ne.symm n2d), upd_ne (Ne.symm n1d)] at hd; exact hd
    generalize eH0 : upd (upd (upd H l1 (.lst [])) l2 (.lst [])) d (.dK []) = H0
    have s0 : Same H H0 := fun c o e => by
      rw [← eH0, upd_ne (ne_of_none e Hdn), upd_ne (ne_of_none e H2n), upd_ne (ne_of_none e hl1)]
      exact e
    have e1 : H0 l1 = some (.lst []) := by rw [← eH0, upd_ne n1d, upd_ne n12, upd_same]
    have e2 : H0 l2 = some (.lst []) := by rw [← eH0, upd_ne n2d, upd_same]
    have e3 : H0 d = some (.dK []) := by rw [← eH0, upd_same]
    refine ⟨_, rfl, p, bs, ps, rfl, s0 _ _ hp, hpc.on fun b q e => s0 _ _ e, hn, fun H1 l ⟨bs1, hl, pc1, s1, nl⟩ => ?_⟩
    have tl : (Fh.tagsOf ps).length ≤ 300000 := Nat.le_trans (List.length_filter_le _ _) hn
    have m1 : l ≠ l1 := fun z => by rw [z, e1] at nl; cases nl
    have m2 : l ≠ l2 := fun z => by rw [z, e2] at nl; cases nl
    have m3 : l ≠ d := fun z => by rw [z, e3] at nl; cases nl
    have sH : ∀ {H' : Hp}, (∀ b o, b ≠ l1 → b ≠ l2 → b ≠ d → H1 b = some o → H' b = some o) → Same H H' := fun {H'} h b o e => h b o (ne_of_none e hl1) (ne_of_none e H2n) (ne_of_none e Hdn) (s1 _ _ (s0 _ _ e))
    refine ⟨l, rfl, ⟨_, SqL.of hl⟩, for_list (K := K) (a := l) (xs := bs1.map V.ref) (fun i σ H' => ∃ (o4 o5 : Option V) (lk : Nat → Option Int) (ls pl : List Nat), σ = [some (.ref p), some (.ref l1), some (.ref l2), some (.ref d), o4, o5] ∧
        Good ((Fh.tagsOf ps).take i) lk ls pl ∧ FhInv l1 l2 d H1 H' lk ls pl i)
      ⟨none, none, fun _ => none, [], [], rfl, Good.start, ⟨s1 _ _ e1, s1 _ _ e2, ⟨[], s1 _ _ e3, fun _ => rfl, Nat.le_refl _⟩, Nat.le_refl _, Nat.le_refl _, fun _ _ _ _ _ e => e⟩⟩ (fun i σ H' _ ⟨_, _, _, _, _, _, _, I⟩ => SqL.of (I.old _ _ m1 m2 m3 hl)) ?_ ?_⟩
    · rintro i y σ H' hi ⟨o4, o5, lk, ls, pl, rfl, G, I⟩
      obtain ⟨c, hc, rfl⟩ := map_at hi
      obtain ⟨q, hqi, hpa⟩ := pair_at pc1 hc
      have ht : q.isTag = true := (List.mem_filter.mp (List.mem_of_getElem? hqi)).2
      have htk : (Fh.tagsOf ps).take (i + 1) = (Fh.tagsOf ps).take i ++ [q] := take_snoc hqi
      have hsp : Fh.tagsOf ps = (Fh.tagsOf ps).take i ++ q :: (Fh.tagsOf ps).drop (i + 1) := by
        have il : i < (Fh.tagsOf ps).length := (List.getElem?_eq_some_iff.mp hqi).1
        have eq2 : (Fh.tagsOf ps)[i] = q := (List.getElem?_eq_some_iff.mp hqi).2
        rw [← eq2, ← List.drop_eq_getElem_cons il, List.take_append_drop]
      have il : i < (Fh.tagsOf ps).length := (List.getElem?_eq_some_iff.mp hqi).1
      have c1 : c ≠ l1 := fun z => by
        have hpa : H1 c = _ := hpa
        rw [z, s1 _ _ e1] at hpa
        cases hpa
      have c2 : c ≠ l2 := fun z => by
        have hpa : H1 c = _ := hpa
        rw [z, s1 _ _ e2] at hpa
        cases hpa
      have c3 : c ≠ d := fun z => by
        have hpa : H1 c = _ := hpa
        rw [z, s1 _ _ e3] at hpa
        cases hpa
      have en := encN_tag ht
      obtain ⟨kvs, hd', hval, hkl⟩ := I.a3
      have dg : ∀ r, r = (lk q.number).map V.int → DGet H' d (V.int (encN q)) r := fun r hr => by
        rw [hr, en, ← hval]
        exact DGet.k (k := Sum.inl (q.number : Int)) hd'
      have bad : Fh.straight ((Fh.tagsOf ps).take i ++ q :: (Fh.tagsOf ps).drop (i + 1)) = false → Q .non H' := fun h => by
        rw [← hsp, straight_skip] at h
        exact k1 h H' (sH I.old)
      -- behind the first test
      have kvs' : ∀ m : Nat, valV (putK kvs (.inl (q.number : Int)) (.int (encK q))) (.inl (m : Int)) = (setL lk q.number (encK q) m).map V.int := fun m => by
        rw [valV_put]
        unfold setL
        by_cases e : m = q.number
        · rw [if_pos (by rw [e]), if_pos e]
          rfl
        · rw [if_neg (key_ne e), if_neg e, hval]
      have kl' := length_putK kvs (.inl (q.number : Int)) (.int (encK q))
      have dp : DPut H' d (V.int (encN q)) (V.int (encK q)) (upd H' d (.dK (putK kvs (.inl (q.number : Int)) (.int (encK q))))) := by
        rw [en]
        exact DPut.k (k := Sum.inl (q.number : Int)) hd' (by rw [sizeLine_eq]; omega)
      have A1 : upd H' d (.dK (putK kvs (.inl (q.number : Int)) (.int (encK q)))) l1 = some (.lst (ls.map nI)) := by rw [upd_ne n1d]; exact I.a1
      have A2 : upd H' d (.dK (putK kvs (.inl (q.number : Int)) (.int (encK q)))) l2 = some (.lst (pl.map nI)) := by rw [upd_ne n2d]; exact I.a2
      have OLD : ∀ b o, b ≠ l1 → b ≠ l2 → b ≠ d → H1 b = some o → upd H' d (.dK (putK kvs (.inl (q.number : Int)) (.int (encK q)))) b = some o := fun b o z1 z2 z3 e => by rw [upd_ne z3]; exact I.old b o z1 z2 z3 e
      refine ⟨c, _, rfl, SqT.of (I.old _ _ c1 c2 c3 hpa), rfl, _, _, rfl, _, _, rfl, rfl, ?_⟩
      cases elk : lk q.number with
      | none =>
        refine ⟨_, rfl, _, rfl, d, _, rfl, dg none (by rw [elk]; rfl), _, rfl, iteF (iteF ?_)⟩
        cases q with
        | char n => cases ht
        | open_ n =>
          refine ⟨_, rfl, _, rfl, _, rfl, d, _, rfl, dp, ?_⟩
          refine ⟨_, rfl, rfl, _, rfl, iteT ⟨_, rfl, .inl ⟨rfl, _, SqL.of A2⟩, _, rfl, l2, _, _, rfl, rfl, A2, (by rw [List.length_map, sizeLine_eq]; have := I.b2; omega), ?_⟩⟩
          have G2 := G.open_ (n := n) elk
          rw [← htk] at G2
          refine ⟨_, _, _, _, _, rfl, G2, ⟨?_, ?_, ⟨_, ?_, kvs', by omega⟩, by have := I.b1; omega, by rw [List.length_append, List.length_singleton]; have := I.b2; omega, fun b o z1 z2 z3 e => by rw [upd_ne z2]; exact OLD b o z1 z2 z3 e⟩⟩
          · rw [upd_ne n12]
            exact A1
          · rw [upd_same, map_nI_snoc]
            rfl
          · rw [upd_ne (Ne.symm n2d), upd_same]
        | close n =>
          have hlk : lk n = none ∨ lk n = some 43 := .inl elk
          refine ⟨_, rfl, _, rfl, _, rfl, d, _, rfl, dp, ?_⟩
          refine ⟨_, rfl, rfl, _, rfl, iteF ⟨_, rfl, rfl, _, rfl, iteT ⟨_, rfl, l2, _, rfl, .inl (SqL.of A2), rfl, _, rfl, ?_⟩⟩⟩
          rw [List.length_map]
          by_cases hpl : pl = []
          · subst hpl
            refine iteT ⟨_, rfl, .inl ⟨rfl, _, SqL.of A1⟩, _, rfl, l1, _, _, rfl, rfl, A1, (by rw [List.length_map, sizeLine_eq]; have := I.b1; omega), ?_⟩
            have G2 := G.left (n := n) hlk
            rw [← htk] at G2
            refine ⟨_, _, _, _, _, rfl, G2, ⟨?_, ?_, ⟨_, ?_, kvs', by omega⟩, by rw [List.length_append, List.length_singleton]; have := I.b1; omega, Nat.zero_le _, fun b o z1 z2 z3 e => by rw [upd_ne z1]; exact OLD b o z1 z2 z3 e⟩⟩
            · rw [upd_same, map_nI_snoc]
              rfl
            · rw [upd_ne (Ne.symm n12)]
              exact A2
            · rw [upd_ne (Ne.symm n1d), upd_same]
          · obtain ⟨pl', m, epl⟩ : ∃ pl' m, pl = pl' ++ [m] := ⟨pl.dropLast, pl.getLast hpl, (List.dropLast_concat_getLast hpl).symm⟩
            subst epl
            have el : decide (V.int (((pl' ++ [m]).length : Nat) : Int) = V.int 0) = false := by
              rw [decide_eq_false]
              intro z
              have z := V.int.inj z
              rw [List.length_append, List.length_singleton] at z
              omega
            rw [el]
            refine iteF ⟨_, rfl, rfl, _, rfl, iteT ⟨_, rfl, .inl ⟨rfl, _, SqL.of A2⟩, l2, _, .int (m : Int), rfl, rfl, A2, ?_, _, rfl, rfl, _, rfl, ?_⟩⟩
            · rw [List.length_map, List.length_append, List.length_singleton, Nat.add_sub_cancel, map_nI_snoc]
              rw [List.getElem?_append_right (by rw [List.length_map]; exact Nat.le_refl _), List.length_map, Nat.sub_self]
              rfl
            · have ed : (((pl' ++ [m]).map nI).dropLast) = pl'.map nI := by rw [map_nI_snoc, List.dropLast_concat]
              rw [ed]
              by_cases hmn : m = n
              · subst hmn
                have e0 : (!decide (V.int (m : Int) = V.int (encN (Fh.Piece.close m)))) = false := by
                  show (!decide (V.int (m : Int) = V.int (m : Int))) = false
                  rw [decide_eq_true rfl]
                  rfl
                rw [e0]
                refine iteF ?_
                have G2 := G.close_
                rw [← htk] at G2
                have b2 := I.b2
                rw [List.length_append, List.length_singleton] at b2
                refine ⟨_, _, _, _, _, rfl, G2, ⟨?_, upd_same, ⟨_, ?_, kvs', by omega⟩, by have := I.b1; omega, by omega, fun b o z1 z2 z3 e => by rw [upd_ne z2]; exact OLD b o z1 z2 z3 e⟩⟩
                · rw [upd_ne n12]
                  exact A1
                · rw [upd_ne (Ne.symm n2d), upd_same]
              · have e0 : (!decide (V.int (m : Int) = V.int (encN (Fh.Piece.close n)))) = true := by
                  rw [decide_eq_false]
                  · rfl
                  · intro z
                    have z2 : (m : Int) = (n : Int) := V.int.inj z
                    omega
                rw [e0]
                refine iteT ?_
                have hst := G.cross (n := n) hmn ((Fh.tagsOf ps).drop (i + 1))
                rw [← hsp, straight_skip] at hst
                exact k1 hst _ (sH fun b o z1 z2 z3 e => by rw [upd_ne z2]; exact OLD b o z1 z2 z3 e)
        | alone n =>
          refine ⟨_, rfl, _, rfl, _, rfl, d, _, rfl, dp, ?_⟩
          refine ⟨_, rfl, rfl, _, rfl, iteF ⟨_, rfl, rfl, _, rfl, iteF (iteF ⟨_, rfl, rfl, _, rfl, iteF (iteF ?_)⟩)⟩⟩
          have G2 := G.alone (n := n) elk
          rw [← htk] at G2
          exact ⟨_, _, _, _, _, rfl, G2, ⟨A1, A2, ⟨_, upd_same, kvs', by omega⟩, by have := I.b1; omega, by have := I.b2; omega, OLD⟩⟩
      | some k =>
        refine ⟨_, rfl, _, rfl, d, _, rfl, dg (some (.int k)) (by rw [elk]; rfl), _, rfl, iteT ⟨_, rfl, _, rfl, d, .int k, rfl, dg (some (.int k)) (by rw [elk]; rfl), rfl, _, rfl, ?_⟩⟩
        by_cases hk : k = 43
        · subst hk
          refine iteF ⟨_, rfl, rfl, _, rfl, ?_⟩
          by_cases hq : encK q = 45
          · have e0 : (!decide (V.int (encK q) = V.int 45)) = false := by rw [hq]; rfl
            rw [e0]
            refine iteF ?_
            cases q with
            | char n => cases ht
            | open_ n => cases hq
            | alone n => cases hq
            | close n =>
              have hlk : lk n = none ∨ lk n = some 43 := .inr elk
              refine ⟨_, rfl, _, rfl, _, rfl, d, _, rfl, dp, ?_⟩
              refine ⟨_, rfl, rfl, _, rfl, iteF ⟨_, rfl, rfl, _, rfl, iteT ⟨_, rfl, l2, _, rfl, .inl (SqL.of A2), rfl, _, rfl, ?_⟩⟩⟩
              rw [List.length_map]
              by_cases hpl : pl = []
              · subst hpl
                refine iteT ⟨_, rfl, .inl ⟨rfl, _, SqL.of A1⟩, _, rfl, l1, _, _, rfl, rfl, A1, (by rw [List.length_map, sizeLine_eq]; have := I.b1; omega), ?_⟩
                have G2 := G.left (n := n) hlk
                rw [← htk] at G2
                refine ⟨_, _, _, _, _, rfl, G2, ⟨?_, ?_, ⟨_, ?_, kvs', by omega⟩, by rw [List.length_append, List.length_singleton]; have := I.b1; omega, Nat.zero_le _, fun b o z1 z2 z3 e => by rw [upd_ne z1]; exact OLD b o z1 z2 z3 e⟩⟩
                · rw [upd_same, map_nI_snoc]
                  rfl
                · rw [upd_ne (Ne.symm n12)]
                  exact A2
                · rw [upd_ne (Ne.symm n1d), upd_same]
              · obtain ⟨pl', m, epl⟩ : ∃ pl' m, pl = pl' ++ [m] := ⟨pl.dropLast, pl.getLast hpl, (List.dropLast_concat_getLast hpl).symm⟩
                subst epl
                have el : decide (V.int (((pl' ++ [m]).length : Nat) : Int) = V.int 0) = false := by
                  rw [decide_eq_false]
                  intro z
                  have z := V.int.inj z
                  rw [List.length_append, List.length_singleton] at z
                  omega
                rw [el]
                refine iteF ⟨_, rfl, rfl, _, rfl, iteT ⟨_, rfl, .inl ⟨rfl, _, SqL.of A2⟩, l2, _, .int (m : Int), rfl, rfl, A2, ?_, _, rfl, rfl, _, rfl, ?_⟩⟩
                · rw [List.length_map, List.length_append, List.length_singleton, Nat.add_sub_cancel, map_nI_snoc]
                  rw [List.getElem?_append_right (by rw [List.length_map]; exact Nat.le_refl _), List.length_map, Nat.sub_self]
                  rfl
                · have ed : (((pl' ++ [m]).map nI).dropLast) = pl'.map nI := by rw [map_nI_snoc, List.dropLast_concat]
                  rw [ed]
                  by_cases hmn : m = n
                  · subst hmn
                    have e0 : (!decide (V.int (m : Int) = V.int (encN (Fh.Piece.close m)))) = false := by
                      show (!decide (V.int (m : Int) = V.int (m : Int))) = false
                      rw [decide_eq_true rfl]
                      rfl
                    rw [e0]
                    refine iteF ?_
                    have G2 := G.close_
                    rw [← htk] at G2
                    have b2 := I.b2
                    rw [List.length_append, List.length_singleton] at b2
                    refine ⟨_, _, _, _, _, rfl, G2, ⟨?_, upd_same, ⟨_, ?_, kvs', by omega⟩, by have := I.b1; omega, by omega, fun b o z1 z2 z3 e => by rw [upd_ne z2]; exact OLD b o z1 z2 z3 e⟩⟩
                    · rw [upd_ne n12]
                      exact A1
                    · rw [upd_ne (Ne.symm n2d), upd_same]
                  · have e0 : (!decide (V.int (m : Int) = V.int (encN (Fh.Piece.close n)))) = true := by
                      rw [decide_eq_false]
                      · rfl
                      · intro z
                        have z2 : (m : Int) = (n : Int) := V.int.inj z
                        omega
                    rw [e0]
                    refine iteT ?_
                    have hst := G.cross (n := n) hmn ((Fh.tagsOf ps).drop (i + 1))
                    rw [← hsp, straight_skip] at hst
                    exact k1 hst _ (sH fun b o z1 z2 z3 e => by rw [upd_ne z2]; exact OLD b o z1 z2 z3 e)
          · have e0 : (!decide (V.int (encK q) = V.int 45)) = true := by rw [decide_eq_false fun z => hq (V.int.inj z)]; rfl
            rw [e0]
            exact iteT (bad (G.bad ht elk (.inr hq) _))
        · have e0 : (!decide (V.int k = V.int 43)) = true := by rw [decide_eq_false fun z => hk (V.int.inj z)]; rfl
          rw [e0]
          exact iteT (iteT (bad (G.bad ht elk (.inl hk) _)))
    · rintro σ H' ⟨o4, o5, lk, ls, pl, rfl, G, I⟩
      rw [List.length_map, PcsAt.len pc1, List.take_length] at G
      obtain ⟨g1, g2⟩ := G.done
      rw [straight_skip] at g1
      rw [halves_skip] at g2
      refine ⟨_, rfl, _, rfl, (by show 2 ≤ sizeLine; decide), fun t ht => ?_⟩
      have st : Same H' (upd H' t (.tup [.ref l1, .ref l2])) := fun b o e => by rw [upd_ne (ne_of_none e ht)]; exact e
      exact k2 ls pl g1 g2 _ t l1 l2 upd_same (st _ _ I.a1) (st _ _ I.a2) (fun b o e => st _ _ (sH I.old b o e))
end
end Fr

namespace Fr
open PySem PySem.Spec PyProof.Rows L2
/-! ### halves as data -/
def dI (ns : List Nat) : PyData := .list (ns.map fun n : Nat => .int (n : Int))
def dH (h : List Nat × List Nat) : PyData := .tuple [dI h.1, dI h.2]
theorem lay_ints : ∀ ns : List Nat, PyData.canLayAll0 (ns.map fun n : Nat => PyData.int (n : Int)) = true
  | [] => rfl
  | n :: r => lay_ints r
theorem dep_ints : ∀ ns : List Nat, PyData.depthAll (ns.map fun n : Nat => PyData.int (n : Int)) ≤ 1
  | [] => Nat.zero_le _
  | n :: r => by
    show max 0 (PyData.depthAll (r.map fun n : Nat => PyData.int (n : Int))) ≤ 1
    have h := dep_ints r
    omega
theorem dH_shaped (h : List Nat × List Nat) : SeqAt.shaped (dH h) = true := by
  have h1 := dep_ints h.1
  have h2 := dep_ints h.2
  unfold SeqAt.shaped
  have e1 : (dH h).canLay0 = true := by
    show (PyData.canLayAll0 (h.1.map fun n : Nat => PyData.int (n : Int)) && (PyData.canLayAll0 (h.2.map fun n : Nat => PyData.int (n : Int)) && true)) = true
    rw [lay_ints, lay_ints]
    rfl
  have e2 : (dH h).depth ≤ 64 := by
    show max (PyData.depthAll (h.1.map fun n : Nat => PyData.int (n : Int)) + 1) (max (PyData.depthAll (h.2.map fun n : Nat => PyData.int (n : Int)) + 1) 0) + 1 ≤ 64
    omega
  rw [e1, decide_eq_true e2]
  rfl
theorem eqv_ints : ∀ ns ms : List Nat, PyData.eqvAll (ns.map fun n : Nat => PyData.int (n : Int)) (ms.map fun n : Nat => PyData.int (n : Int)) = decide (ns = ms)
  | [], [] => rfl
  | [], m :: s => rfl
  | n :: r, [] => rfl
  | n :: r, m :: s => by
    show ((n : Int) == (m : Int) && PyData.eqvAll (r.map fun n : Nat => PyData.int (n : Int)) (s.map fun n : Nat => PyData.int (n : Int))) = _
    rw [eqv_ints r s]
    by_cases e : n = m
    · subst e
      rw [beq_self_eq_true, Bool.true_and]
      by_cases e2 : r = s
      · subst e2
        rw [decide_eq_true rfl, decide_eq_true rfl]
      · rw [decide_eq_false e2, decide_eq_false (fun z => e2 (List.cons.inj z).2)]
    · rw [beq_false_of_ne (fun z => e (by omega)), Bool.false_and, decide_eq_false (fun z => e (List.cons.inj z).1)]
theorem dH_eqv (h k : List Nat × List Nat) : PyData.eqv (dH h) (dH k) = decide (h = k) := by
  show (PyData.eqvAll (h.1.map fun n : Nat => PyData.int (n : Int)) (k.1.map fun n : Nat => PyData.int (n : Int)) && (PyData.eqvAll (h.2.map fun n : Nat => PyData.int (n : Int)) (k.2.map fun n : Nat => PyData.int (n : Int)) && true)) = _
  rw [eqv_ints, eqv_ints, Bool.and_true]
  obtain ⟨h1, h2⟩ := h
  obtain ⟨k1, k2⟩ := k
  by_cases e1 : h1 = k1
  · by_cases e2 : h2 = k2
    · subst e1 e2
      rw [decide_eq_true rfl, decide_eq_true rfl, decide_eq_true rfl]
      rfl
    · rw [decide_eq_false e2, Bool.and_false, decide_eq_false (fun z => e2 (Prod.mk.inj z).2)]
  · rw [decide_eq_false e1, Bool.false_and, decide_eq_false (fun z => e1 (Prod.mk.inj z).1)]
theorem dp_ints {K : PySem.W.Frag} {H : Hp} : ∀ ns : List Nat, DpAll K H (ns.map nI) (ns.map fun n : Nat => PyData.int (n : Int))
  | [] => .nil
  | n :: r => .cons (.int _) (dp_ints r)
theorem dH_at {K : PySem.W.Frag} {H : Hp} {t l1 l2 : Addr} {ls pl : List Nat} (ht : H t = some (.tup [.ref l1, .ref l2])) (h1 : H l1 = some (.lst (ls.map nI))) (h2 : H l2 = some (.lst (pl.map nI))) : Dp K H (.ref t) (dH (ls, pl)) :=
  .tup (SqT.of ht) (.cons (.lst (SqL.of h1) (dp_ints ls)) (.cons (.lst (SqL.of h2) (dp_ints pl)) .nil))
end Fr

namespace Fr
open PySem PySem.Spec PyProof.Rows L2
def spAsk (f : Fh.Row → Nat) : Sp := fun vs H Q _ => ∃ (p : Addr) (bs : List Addr) (ps : Fh.Row), vs = [.ref p] ∧ H p = some (.lst (bs.map V.ref)) ∧ PcsAt H bs ps ∧ ps.length ≤ 4096 ∧ (∀ q ∈ ps, PcOk q) ∧ ∀ H', Same H H' → Q (.int (f ps : Nat)) H'
section
variable {P : Program} {w : World} {K : PySem.W.Frag} {mg : Str → Option Value} {base : Heap} {a : Adr}
theorem scQ6 : FnScope ["pieces"] ["pieces"] (defScope s_tell_paired) := ⟨rfl, rfl, rfl, by decide +kernel, rfl, by decide +kernel, by decide +kernel⟩
theorem hu64 {k : Nat} {A : Around} (hr : Room k A) : A.units + 64 < cLine := by have := hr.un; omega
theorem paired_of {ps : Fh.Row} (h : Fh.straight ps = false) : (Fh.paired ps).toNat = 0 := by
  unfold Fh.paired
  rw [h]
  rfl
theorem paired_is {ps : Fh.Row} {x : List Nat × List Nat} (h : Fh.straight ps = true) (e : Fh.halves ps = some x) : Fh.paired ps = decide (x = ([], [])) := by
  unfold Fh.paired
  rw [h, e, Bool.true_and]
  by_cases z : x = ([], [])
  · rw [z, decide_eq_true rfl]
    exact beq_self_eq_true _
  · rw [decide_eq_false z]
    exact beq_false_of_ne fun y => z (Option.some.inj y)
theorem ok_q6 (T : Txt P w K mg a) : OkF P w K mg base CX0 5 a.f_tell_paired ["pieces"] (spAsk fun r => (Fh.paired r).toNat) := by
  obtain ⟨fd, F, b⟩ := T.d_tell_paired
  obtain ⟨fdO, GO, bO, kO⟩ := ok_fh (base := base) T
  refine ⟨fd, F.ok (k := 4) scQ6 (fun vs H Q E h => ?_) (fun cdv A outer s H vs Q E hr h => ?_), b, F.kp⟩
  · obtain ⟨p, bs, ps, rfl, _⟩ := h
    rfl
  · obtain ⟨p, bs, ps, rfl, hp, hpc, hn, hq, k⟩ := h
    have hr3 : Room 3 _ := hr.mono (by decide)
    refine ⟨_, pss_one (ps_ret (pe_ifExp (pt_cmpR (op_eqD (hu64 hr)) (pe_call GO hr3 rfl T.g_find_halves kO bO .nil pass0 (pa_cons (pv 0) pa_nil)) (pe_tup (pa_cons (pe_lst pa_nil) (pa_cons (pe_lst pa_nil) pa_nil))) (nomark _)) pe_int pe_int)), ?_⟩
    have key : ∀ (v : V) (d0 : PyData) (H1 : Hp), Same H H1 → SeqAt.shaped d0 = true → (∀ H', Same H1 H' → Dp K H' v d0) → (Fh.paired ps).toNat = (PyData.eqv d0 (dH ([], []))).toNat →
        tTup (tCons (tLst tNil) (tCons (tLst tNil) tNil)) [some (.ref p)] H1 fun y H2 => rEqD K v y H2 fun x H3 => ∃ kk, x = .bl kk ∧ if kk = true then Q (.int 1) H3 else Q (.int 0) H3 := fun v d0 H1 sm sh hd0 ee => by
      refine ⟨Nat.zero_le _, fun l1 hl1 => ⟨Nat.zero_le _, fun l2 hl2 => ⟨(by show 2 ≤ sizeLine; decide), fun t ht => ?_⟩⟩⟩
      have s1 := (NewL.of (xs := []) hl1).same
      have s2 := (NewL.of (xs := []) hl2).same
      have s3 : Same (upd (upd H1 l1 (.lst [])) l2 (.lst [])) (upd (upd (upd H1 l1 (.lst [])) l2 (.lst [])) t (.tup [.ref l1, .ref l2])) := fun b o e => by rw [upd_ne (ne_of_none e ht)]; exact e
      have sA : Same H1 (upd (upd (upd H1 l1 (.lst [])) l2 (.lst [])) t (.tup [.ref l1, .ref l2])) := (s1.trans s2).trans s3
      refine ⟨d0, dH ([], []), hd0 _ sA, dH_at (ls := []) (pl := []) upd_same (s3 _ _ (s2 _ _ upd_same)) (s3 _ _ upd_same), sh, dH_shaped _, _, rfl, ?_⟩
      have kk : Q (.int (((Fh.paired ps).toNat : Nat) : Int)) _ := k _ (sm.trans sA)
      rw [ee] at kk
      cases hb : PyData.eqv d0 (dH ([], [])) with
      | true => rw [hb] at kk; exact iteT kk
      | false => rw [hb] at kk; exact iteF kk
    refine ⟨_, rfl, p, bs, ps, rfl, hp, hpc, by omega, fun hs H1 sm => ?_, fun ls pl hs hh H1 t l1 l2 ht h1 h2 sm => ?_⟩
    · exact key .non .none H1 sm rfl (fun _ _ => .non) (by rw [paired_of hs]; rfl)
    · refine key (.ref t) (dH (ls, pl)) H1 sm (dH_shaped _) (fun H' s' => dH_at (s' _ _ ht) (s' _ _ h1) (s' _ _ h2)) ?_
      show (Fh.paired ps).toNat = _
      rw [dH_eqv, paired_is hs hh]
end
end Fr

namespace Fr
open PySem PySem.Spec PyProof.Rows L2
/-! ### what is counted -/
def isW : Fh.Unit_ → Bool
  | .word _ => true
  | _ => false
theorem uG_isW (u : Fh.Unit_) : uG u = 0 ↔ isW u = true := by cases u <;> simp [uG, isW]
theorem words_eq (r : Fh.Row) : Fh.wordsIn r = ((Fh.units r).filter isW).length := by
  unfold Fh.wordsIn
  congr 1
theorem chars_len (r : Fh.Row) : (Fh.charsOf r).length + (Fh.tagsOf r).length = r.length := by
  induction r with
  | nil => rfl
  | cons q r ih =>
    cases q with
    | char c => show (c :: Fh.charsOf r).length + (Fh.tagsOf r).length = (r.length + 1); rw [List.length_cons]; omega
    | open_ n => show (Fh.charsOf r).length + (Fh.Piece.open_ n :: Fh.tagsOf r).length = (r.length + 1); rw [List.length_cons]; omega
    | close n => show (Fh.charsOf r).length + (Fh.Piece.close n :: Fh.tagsOf r).length = (r.length + 1); rw [List.length_cons]; omega
    | alone n => show (Fh.charsOf r).length + (Fh.Piece.alone n :: Fh.tagsOf r).length = (r.length + 1); rw [List.length_cons]; omega
section
variable {P : Program} {w : World} {K : PySem.W.Frag} {mg : Str → Option Value} {base : Heap} {a : Adr}
theorem OkF.mono {CX : CXT} {k k' : Nat} {f : Addr} {ps : List Str} {sp : Sp} (h : OkF P w K mg base CX k f ps sp) (hk : k ≤ k') : OkF P w K mg base CX k' f ps sp := by
  obtain ⟨fd, F, b, kp⟩ := h
  exact ⟨fd, ⟨F.len, fun A outer s H args us vs Q E hr => F.run A outer s H args us vs Q E (hr.mono hk)⟩, b, kp⟩
theorem scQ0 : FnScope ["pieces"] ["pieces"] (defScope s_count_pieces) := ⟨rfl, rfl, rfl, by decide +kernel, rfl, by decide +kernel, by decide +kernel⟩
theorem ok_q0 (T : Txt P w K mg a) : OkF P w K mg base CX0 1 a.f_count_pieces ["pieces"] (spAsk List.length) := by
  obtain ⟨fd, F, b⟩ := T.d_count_pieces
  refine ⟨fd, F.ok scQ0 (fun vs H Q E h => ?_) (fun cdv A outer s H vs Q E hr h => ?_), b, F.kp⟩
  · obtain ⟨p, bs, ps, rfl, _⟩ := h
    rfl
  · obtain ⟨p, bs, ps, rfl, hp, hpc, hn, hq, k⟩ := h
    refine ⟨_, pss_one (ps_ret (pe_callB call_len_seq (by rfl) T.b_len PySem.boot_len (pa_cons (pv 0) pa_nil))), ?_⟩
    refine ⟨_, rfl, p, _, rfl, .inl (SqL.of hp), ?_⟩
    rw [List.length_map, hpc.len]
    exact k H (same_refl H)
theorem scQ1 : FnScope ["pieces"] ["pieces"] (defScope s_count_characters) := ⟨rfl, rfl, rfl, by decide +kernel, rfl, by decide +kernel, by decide +kernel⟩
theorem ok_q1 (T : Txt P w K mg a) : OkF P w K mg base CX0 3 a.f_count_characters ["pieces"] (spAsk fun r => (Fh.charsOf r).length) := by
  obtain ⟨fd, F, b⟩ := T.d_count_characters
  obtain ⟨fdO, GO, bO, kO⟩ := ok_ot (base := base) T
  refine ⟨fd, F.ok (k := 2) scQ1 (fun vs H Q E h => ?_) (fun cdv A outer s H vs Q E hr h => ?_), b, F.kp⟩
  · obtain ⟨p, bs, ps, rfl, _⟩ := h
    rfl
  · obtain ⟨p, bs, ps, rfl, hp, hpc, hn, hq, k⟩ := h
    have hr1 : Room 1 _ := hr.mono (by decide)
    refine ⟨_, pss_one (ps_ret (pe_op op_sub (pe_callB call_len_seq (by rfl) T.b_len PySem.boot_len (pa_cons (pv 0) pa_nil)) (pe_callB call_len_seq (by rfl) T.b_len PySem.boot_len (pa_cons (pe_call GO hr1 rfl T.g_only_tags kO bO .nil pass0 (pa_cons (pv 0) pa_nil)) pa_nil)))), ?_⟩
    refine ⟨_, rfl, p, _, rfl, .inl (SqL.of hp), _, rfl, p, bs, ps, rfl, hp, hpc, by omega, fun H1 l ⟨bs1, hl, pc1, s1, nl⟩ => ⟨l, _, rfl, .inl (SqL.of hl), _, _, rfl, rfl, ?_⟩⟩
    rw [List.length_map, List.length_map, hpc.len, pc1.len]
    have e := chars_len ps
    have e2 : ((ps.length : Nat) : Int) - ((Fh.tagsOf ps).length : Nat) = (((Fh.charsOf ps).length : Nat) : Int) := by omega
    show Q (.int (((ps.length : Nat) : Int) - ((Fh.tagsOf ps).length : Nat))) H1
    rw [e2]
    exact k H1 s1
theorem scQ2 : FnScope ["pieces"] ["pieces"] (defScope s_count_tags) := ⟨rfl, rfl, rfl, by decide +kernel, rfl, by decide +kernel, by decide +kernel⟩
theorem ok_q2 (T : Txt P w K mg a) : OkF P w K mg base CX0 3 a.f_count_tags ["pieces"] (spAsk fun r => (Fh.tagsOf r).length) := by
  obtain ⟨fd, F, b⟩ := T.d_count_tags
  obtain ⟨fdO, GO, bO, kO⟩ := ok_ot (base := base) T
  refine ⟨fd, F.ok (k := 2) scQ2 (fun vs H Q E h => ?_) (fun cdv A outer s H vs Q E hr h => ?_), b, F.kp⟩
  · obtain ⟨p, bs, ps, rfl, _⟩ := h
    rfl
  · obtain ⟨p, bs, ps, rfl, hp, hpc, hn, hq, k⟩ := h
    have hr1 : Room 1 _ := hr.mono (by decide)
    refine ⟨_, pss_one (ps_ret (pe_callB call_len_seq (by rfl) T.b_len PySem.boot_len (pa_cons (pe_call GO hr1 rfl T.g_only_tags kO bO .nil pass0 (pa_cons (pv 0) pa_nil)) pa_nil))), ?_⟩
    refine ⟨_, rfl, p, bs, ps, rfl, hp, hpc, by omega, fun H1 l ⟨bs1, hl, pc1, s1, nl⟩ => ⟨l, _, rfl, .inl (SqL.of hl), ?_⟩⟩
    rw [List.length_map, pc1.len]
    exact k H1 s1
theorem scQ3 : FnScope ["pieces", "found"] ["pieces"] (defScope s_count_words) := ⟨rfl, rfl, rfl, by decide +kernel, rfl, by decide +kernel, by decide +kernel⟩
theorem ok_q3 (T : Txt P w K mg a) : OkF P w K mg base CX0 9 a.f_count_words ["pieces"] (spAsk Fh.wordsIn) := by
  obtain ⟨fd, F, b⟩ := T.d_count_words
  obtain ⟨fdO, GO, bO, kO⟩ := ok_fu (base := base) T
  refine ⟨fd, F.ok (k := 8) scQ3 (fun vs H Q E h => ?_) (fun cdv A outer s H vs Q E hr h => ?_), b, F.kp⟩
  · obtain ⟨p, bs, ps, rfl, _⟩ := h
    rfl
  · obtain ⟨p, bs, ps, rfl, hp, hpc, hn, hq, k⟩ := h
    have hr7 : Room 7 _ := hr.mono (by decide)
    refine ⟨_, pss_one (ps_ret (pe_callB call_len_seq (by rfl) T.b_len PySem.boot_len (pa_cons (pe_lc (own := [("found", 1)]) (tt := tTest (tOp rEq (tFld K (tVar 1) "group") (tC (.int 0)))) rfl scQ3.nd (pi_list (pe_call GO hr7 rfl T.g_find_units kO bO .nil pass0 (pa_cons (pv 0) pa_nil))) (blkOk_by rfl)
      (fun _ _ _ _ _ => pg_name (i := 1) scQ3.nd rfl (Or.inl rfl)) (fun _ _ _ _ _ => pts_one (pt_cmpR op_eq (pe_fld (pv 1) rfl) (pe_gi rfl T.i_WORD) (nomark _))) (fun _ _ _ _ _ => pv 1)) pa_nil))), ?_⟩
    refine ⟨_, rfl, p, bs, ps, rfl, hp, hpc, by omega, form_sm hq hn, fun H1 u xs hu U s1 nu => ?_⟩
    refine ⟨u, rfl, ⟨_, SqL.of hu⟩, fun D hD => ?_⟩
    have ul : xs.length = (Fh.units ps).length := Paired.length U
    have nD := NewL.of (xs := []) hD
    refine lc_list (K := K) (a := u) (xs := xs.map fun x : Addr × Addr => V.ref x.1) (fun i H' => ∃ acc : List V, H' D = some (.lst acc) ∧ acc.length = (((Fh.units ps).take i).filter isW).length ∧ acc.length ≤ i ∧ Same H1 H') ⟨[], upd_same, rfl, Nat.le_refl _, nD.same⟩
      (fun i H' _ ⟨_, _, _, _, s5⟩ => SqL.of (s5 _ _ hu)) (fun i y H' hi ⟨acc, h1, h2, h3, h4⟩ => ?_) fun H' ⟨acc, h1, h2, h3, h4⟩ => ?_
    · obtain ⟨x, hx, rfl⟩ := map_at hi
      obtain ⟨v, hv, hU⟩ := pair_at U hx
      obtain ⟨dy, hy⟩ := hU.ins
      have htk := take_snoc hv
      refine ⟨rfl, _, rfl, x.1, a.C_Unit, dy, _, _, rfl, h4 _ _ hy, T.c_Unit, T.n_Unit_group, uf_group _ _ _, rfl, _, rfl, ite2 (fun h => ?_) fun h => ?_⟩
      · have h : V.int (uG v) = V.int 0 := of_decide_eq_true h
        have hw := (uG_isW v).mp (V.int.inj h)
        have il : i < xs.length := (List.getElem?_eq_some_iff.mp hx).1
        refine ⟨_, rfl, _, h1, (by rw [sizeLine_eq]; have := unit_count ps; omega), _, upd_same, ?_, ?_, same_upd h4 hD⟩
        · rw [htk, List.filter_append, List.filter_cons, if_pos hw, List.length_append, List.length_append, h2]
          rfl
        · rw [List.length_append, List.length_singleton]
          omega
      · have h : ¬ uG v = 0 := fun z => h (decide_eq_true (congrArg V.int z))
        have hw : ¬ isW v = true := fun z => h ((uG_isW v).mpr z)
        refine ⟨acc, h1, ?_, by omega, h4⟩
        rw [htk, List.filter_append, List.filter_cons, if_neg hw, h2]
        simp
    · refine ⟨D, acc, rfl, .inl (SqL.of h1), ?_⟩
      rw [List.length_map, ul, List.take_length] at h2
      rw [h2, ← words_eq]
      exact k H' (s1.trans h4)
where
  unit_count (ps : Fh.Row) : (Fh.units ps).length ≤ ps.length + 1 := by
    have key : ∀ (r : Fh.Row) (wd : List Nat), (Fh.unitsFrom wd r).length ≤ r.length + (doneW wd).length := by
      intro r
      induction r with
      | nil => intro wd; rw [uf_nil]; simp
      | cons q r ih =>
        intro wd
        have d1 : ∀ w : List Nat, (doneW w).length ≤ 1 := fun w => by unfold doneW; split <;> simp
        have d0 : (doneW []).length = 0 := rfl
        have h0 := ih []
        have dw : ∀ c, (doneW (wd ++ [c])).length = 1 := fun c => by unfold doneW; rw [if_neg (by simp)]; rfl
        cases q with
        | char c =>
          by_cases hw : Fh.isWordChar c = true
          · rw [uf_word hw]
            have := ih (wd ++ [c])
            rw [dw c] at this
            rw [List.length_cons]
            omega
          · by_cases hb : c = 32
            · rw [hb, uf_blank, List.length_append, List.length_cons]
              omega
            · rw [uf_sign hw hb, List.length_append, List.length_cons, List.length_cons]
              omega
        | open_ n => rw [Fh.unitsFrom]; show (doneW wd ++ _).length ≤ _; rw [List.length_append, List.length_cons, List.length_cons]; omega
        | close n => rw [Fh.unitsFrom]; show (doneW wd ++ _).length ≤ _; rw [List.length_append, List.length_cons, List.length_cons]; omega
        | alone n => rw [Fh.unitsFrom]; show (doneW wd ++ _).length ≤ _; rw [List.length_append, List.length_cons, List.length_cons]; omega
    have z := key (Fh.formOf ps) []
    rw [form_len] at z
    have z2 : (doneW []).length = 0 := rfl
    show (Fh.unitsFrom [] (Fh.formOf ps)).length ≤ _
    omega
end
end Fr

namespace Fr
open PySem PySem.Spec PyProof.Rows L2
/-! ### documents: faults of lines -/
/-- a line's fault is wanted -/
def XL (C : Addr) (kd pl : Int) (H : Hp) (E : XK) : Prop := ∀ (H' : Hp) (dx : Addr), H' dx = some (.xd [("place", .int pl), ("kind", .int kd)]) → Same H H' → E (.ref C) (some dx) H'
theorem XL.later {C : Addr} {kd pl : Int} {H H1 : Hp} {E : XK} (x : XL C kd pl H E) (s : Same H H1) : XL C kd pl H1 E := fun H' dx h q => x H' dx h (s.trans q)
def spLI (a : Adr) : Sp := fun vs H Q _ => ∃ (x t : Addr) (v1 v2 : V), vs = [.ref x, v1, v2] ∧ H x = some (xNew a.C_LineFault t x) ∧ ∀ dx, H dx = none → dx ≠ x → Q .non (upd (upd (upd H dx (.xd [("kind", v1)])) x (xDic a.C_LineFault t dx x)) dx (.xd [("place", v2), ("kind", v1)]))
/-- raising it -/
theorem raise_L {a : Adr} {kd pl : Int} {H : Hp} {E : XK} {EE : XK} (k : XL a.C_LineFault kd pl H E) : ∀ x t, H x = none →
    spLI a (.ref x :: [.int kd, .int pl]) (upd H x (xNew a.C_LineFault t x)) (fun v H2 => v = .non ∧ ∃ dx, H2 x = some (xDic a.C_LineFault t dx x) ∧ E (.ref a.C_LineFault) (some dx) (del H2 x)) EE := fun x t hx => by
  refine ⟨x, t, .int kd, .int pl, rfl, upd_same, fun dy h1 h2 => ⟨rfl, dy, ?_, k _ dy ?_ ?_⟩⟩
  · rw [upd_ne (Ne.symm h2), upd_same]
  · rw [del_ne h2, upd_same]
  · intro c o e
    have n1 : c ≠ x := ne_of_none e hx
    have n2 : c ≠ dy := fun z => by
      rw [z] at e
      rw [upd_ne h2] at h1
      rw [h1] at e
      cases e
    rw [del_ne n1, upd_ne n2, upd_ne n1, upd_ne n2, upd_ne n1]
    exact e
def rdBy (p : Bool) : Fh.Bytes → Except Nat Fh.Row := if p = true then readG Fh.pieceHere else readG charPc
def spBM (K : PySem.W.Frag) (a : Adr) : Sp := fun vs H Q E => ∃ (p : Bool) (l : Addr) (ms : List Int) (m : Nat), vs = [.bl p, .ref l, .int m] ∧ SqL K H l (ms.map V.int) ∧ AllB ms ∧ ms.length ≤ 300000 ∧
  (∀ ps, rdBy p (FaNeutral.bytesOf ms) = .ok ps → ∀ H' u bs, H' u = some (.lst (bs.map V.ref)) → PcsAt H' bs ps → Same H H' → H u = none → Q (.ref u) H') ∧
  (∀ k : Nat, rdBy p (FaNeutral.bytesOf ms) = .error k → XL a.C_LineFault 2 ((m : Int) + (k : Int)) H E)
section
variable {P : Program} {w : World} {K : PySem.W.Frag} {mg : Str → Option Value} {base : Heap} {a : Adr}
theorem OkF.mono' {CX : CXT} {k k' : Nat} {f : Addr} {ps : List Str} {sp : Sp} (h : OkF P w K mg base CX k f ps sp) (hk : k ≤ k') : OkF P w K mg base CX k' f ps sp := by
  obtain ⟨fd, F, b, kp⟩ := h
  exact ⟨fd, ⟨F.len, fun A outer s H args us vs Q E hr => F.run A outer s H args us vs Q E (hr.mono hk)⟩, b, kp⟩
theorem scLI : FnScope ["self", "kind", "place"] ["self", "kind", "place"] (defScope s_LineFault_init) := ⟨rfl, rfl, rfl, by decide +kernel, rfl, by decide +kernel, by decide +kernel⟩
theorem ok_LI (T : Txt P w K mg a) : OkFH P w K mg base CX0 1 a.f_LineFault_init ["self", "kind", "place"] (spLI a) := by
  obtain ⟨fd, F, b⟩ := T.d_LineFault_init
  refine ⟨fd, F.okH scLI (fun vs H Q E h => ?_) (fun cdv A outer s H vs Q E hr h => ?_), b, F.kp⟩
  · obtain ⟨x, t, v1, v2, rfl, _⟩ := h
    rfl
  · obtain ⟨x, t, v1, v2, rfl, hx, k⟩ := h
    refine ⟨_, pss_cons (ps_xfld T.x_LineFault T.n_LineFault_kind (pv 0) (pv 1) rfl) (pss_one (ps_xfld2 (f0 := "kind") T.x_LineFault T.n_LineFault_place (by decide +kernel) (pv 0) (pv 2) rfl)), ?_⟩
    refine ⟨_, rfl, _, rfl, x, t, rfl, hx, fun dx h1 h2 => ⟨dx, _, rfl, _, rfl, x, t, v1, rfl, upd_same, ?_, k dx h1 h2⟩⟩
    rw [upd_ne h2, upd_same]
theorem scChars : FnScope ["t"] ["t"] (defScope s_read_characters) := ⟨rfl, rfl, rfl, by decide +kernel, rfl, by decide +kernel, by decide +kernel⟩
theorem ok_chars (T : Txt P w K mg a) : OkF P w K mg base (CXF P w a.C_Fault) 13 a.f_read_characters ["t"] (spAll charPc K a) := by
  obtain ⟨fd, F, b⟩ := T.d_read_characters
  obtain ⟨fdQ, GQ, bQ, kQ⟩ := ok_each (base := base) T ((ok_charp T).mono' (by decide))
  refine ⟨fd, F.okX (CX := CXF P w a.C_Fault) (k := 12) scChars (fun vs H Q E h => ?_) (fun cdv A outer s H vs Q E hr h => ?_), b, F.kp⟩
  · obtain ⟨t, ns, rfl, _⟩ := h
    rfl
  · obtain ⟨t, ns, rfl, hS, hb, hl, k⟩ := h
    have hr11 : Room 11 _ := hr.mono (by decide)
    refine ⟨_, pss_one (ps_ret (pe_call GQ hr11 rfl T.g_read_each kQ bQ .nil (CXF.passes fun _ _ _ h => h) (pa_cons (pv 0) (pa_cons (pe_glob (v := .ref a.f_take_character) rfl T.g_take_character rfl) pa_nil)))), ?_⟩
    exact ⟨_, rfl, t, ns, rfl, hS, hb, one_char ns, hl, k⟩
theorem scBM : FnScope ["is_paragraph", "text", "first", "fault"] ["is_paragraph", "text", "first"] (defScope s_read_behind_mark) := ⟨rfl, rfl, rfl, by decide +kernel, rfl, by decide +kernel, by decide +kernel⟩
theorem ok_bm (T : Txt P w K mg a) : OkF P w K mg base (CXG false P w a.C_LineFault) 15 a.f_read_behind_mark ["is_paragraph", "text", "first"] (spBM K a) := by
  obtain ⟨fd, F, b⟩ := T.d_read_behind_mark
  obtain ⟨fdP, GP, bP, kP⟩ := ok_pieces (base := base) T
  obtain ⟨fdC, GC, bC, kC⟩ := ok_chars (base := base) T
  obtain ⟨fdL, GL, bL, kL⟩ := ok_LI (base := base) T
  refine ⟨fd, F.okX (CX := CXG false P w a.C_LineFault) (k := 14) scBM (fun vs H Q E h => ?_) (fun cdv A outer s H vs Q E hr h => ?_), b, F.kp⟩
  · obtain ⟨p, l, ms, m, rfl, _⟩ := h
    rfl
  · obtain ⟨p, l, ms, m, rfl, hS, hb, hl, k1, k2⟩ := h
    have hr13 : Room 13 _ := hr.mono (by decide)
    have hr2 : Room 2 _ := hr.mono (by decide)
    let EX : XK := fun c d H' => ∃ (n : Nat) (dx : Addr), d = some dx ∧ rdBy p (FaNeutral.bytesOf ms) = .error n ∧ H' dx = some (.xd [("place", .int n)]) ∧ Same H H'
    refine ⟨_, pss_one (ps_tryRS (i := 3) (C2 := a.C_LineFault) (EF := EX) (E := E) (tb := tRet (tIf (tB (tVar 0)) (tCall (spAll Fh.pieceHere K a) [] EX (tCons (tVar 1) tNil)) (tCall (spAll charPc K a) [] EX (tCons (tVar 1) tNil))))
        (ts := fun x dx => tRaise a.C_LineFault (spLI a) E (tCons (tC (.int 2)) (tCons (tOp (rI0 fun i j => .int (i + j)) (tVar 2) (tXGet x dx (tVar 3) "place")) tNil)))
        T.x_Fault rfl T.g_Fault scBM.nd rfl rfl rfl rfl rfl (fun _ _ h => h)
        (fun pins σ => pss_retA (pa_ifExp (pt_val (pv 0)) (pa_callA GP hr13 rfl T.g_read_pieces kP bP .nil CXF.triesS (pa_cons (pv 1) pa_nil)) (pa_callA GC hr13 rfl T.g_read_characters kC bC .nil CXF.triesS (pa_cons (pv 1) pa_nil))))
        (fun pins x dx ox vs ec ed ef c2 => pss_one (ps_raiseH T.x_LineFault GL (hr2.toH.mark _) rfl (List.mem_append_right _ (List.mem_singleton.mpr rfl)) ef c2 rfl T.g_LineFault bL hndR_raises (pa_cons (pe_gi rfl T.i_WRONG_BYTE) (pa_cons (pe_op op_add (pv 2) (pe_xget T.x_Fault T.n_Fault_place (List.mem_append_right _ (List.mem_singleton.mpr rfl)) ec ed ef (pv 3) rfl)) pa_nil))))), ?_⟩
    refine ⟨⟨_, rfl, p, rfl, ?_⟩, fun x dx H1 hx1 hE => ?_⟩
    · cases p with
      | true => exact iteT ⟨_, rfl, l, ms, rfl, hS, hb, hl, k1, fun n hn H1 dx hdx sm => ⟨n, dx, rfl, hn, hdx, sm⟩⟩
      | false => exact iteF ⟨_, rfl, l, ms, rfl, hS, hb, hl, k1, fun n hn H1 dx hdx sm => ⟨n, dx, rfl, hn, hdx, sm⟩⟩
    · obtain ⟨n, dy, edx, hn, hdx, sm⟩ := hE
      cases edx
      refine ⟨_, rfl, _, rfl, _, _, rfl, hdx, rfl, _, _, rfl, rfl, ?_⟩
      exact raise_L ((k2 n hn).later sm)
end
end Fr

namespace Fr
open PySem PySem.Spec PyProof.Rows L2
/-! ### lines -/
def lineF (p : Bool) (l1 l2 : Addr) : List (Str × V) := putF "pieces" (.ref l2) (putF "text" (.ref l1) (putF "is_paragraph" (.bl p) []))
theorem lf_pcs (p : Bool) (l1 l2 : Addr) : (lineF p l1 l2).lookup ("pieces" : Str) = some (.ref l2) := by
  unfold lineF
  rw [lookup_putF, if_pos rfl]
theorem lf_par (p : Bool) (l1 l2 : Addr) : (lineF p l1 l2).lookup ("is_paragraph" : Str) = some (.bl p) := by
  unfold lineF
  rw [lookup_putF, if_neg (by decide +kernel), lookup_putF, if_neg (by decide +kernel), lookup_putF, if_pos rfl]
def spNI (a : Adr) : Sp := fun vs H Q _ => ∃ (x l1 l2 dx : Addr) (p : Bool), vs = [.ref x, .bl p, .ref l1, .ref l2] ∧ H x = some (.ins a.C_Line dx []) ∧ Q .non (upd H x (.ins a.C_Line dx (lineF p l1 l2)))
/-- what a line's object holds -/
def LnIs (ln : Fh.Line) (p : Bool) (tx : List Int) (ps : Fh.Row) : Prop := match ln with
  | .raw t => p = false ∧ Fh.charsRead (FaNeutral.bytesOf tx) = .ok t ∧ ps = t.map .char
  | .para r => p = true ∧ Fh.rowRead (FaNeutral.bytesOf tx) = .ok r ∧ ps = r ∧ Fh.paired r = true ∧ r.length ≤ 4096
/-- the line ln at x, apart from the list at u -/
def LineAt (C u : Addr) (H : Hp) (x : Addr) (ln : Fh.Line) : Prop := ∃ (p : Bool) (tx : List Int) (ps : Fh.Row) (dx l1 l2 : Addr) (bs : List Addr), H x = some (.ins C dx (lineF p l1 l2)) ∧ H l1 = some (.lst (tx.map V.int)) ∧ H l2 = some (.lst (bs.map V.ref)) ∧ PcsAt H bs ps ∧
  LnIs ln p tx ps ∧ AllB tx ∧ tx.length ≤ 100000 ∧ l1 ≠ u ∧ l2 ≠ u
theorem LineAt.on {C u : Addr} {H H' : Hp} {x : Addr} {ln : Fh.Line} (L : LineAt C u H x ln) (hu : ∃ xs, H u = some (.lst xs)) (s : ∀ b o, b ≠ u → H b = some o → H' b = some o) : LineAt C u H' x ln := by
  obtain ⟨p, tx, ps, dx, l1, l2, bs, h1, h2, h3, h4, h5, h6, h7, n1, n2⟩ := L
  obtain ⟨us, hu⟩ := hu
  exact ⟨p, tx, ps, dx, l1, l2, bs, s _ _ (ne_of h1 hu (by intro z; cases z)) h1, s _ _ n1 h2, s _ _ n2 h3, h4.on fun b q e => s _ _ (ne_of e hu (by intro z; cases z)) e, h5, h6, h7, n1, n2⟩
def spFE (K : PySem.W.Frag) : Sp := fun vs H Q _ => ∃ (t : Addr) (ns : List Int) (i : Nat), vs = [.ref t, .int i] ∧ SqL K H t (ns.map V.int) ∧ i ≤ ns.length ∧ ∀ j : Nat, Eol ns i j → (j = ns.length ∨ byteAt ns j = 10) → Q (.int j) H
def spRL (K : PySem.W.Frag) (a : Adr) : Sp := fun vs H Q E => ∃ (t : Addr) (ns : List Int) (i j : Nat), vs = [.ref t, .int i, .int j] ∧ SqL K H t (ns.map V.int) ∧ AllB ns ∧ ns.length ≤ 100000 ∧ i < ns.length ∧ Eol ns i j ∧ (j = ns.length ∨ byteAt ns j = 10) ∧
  (∀ ln, lineOf ns i j = .ok ln → ∀ H' x, (∀ u o, H u = some o → LineAt a.C_Line u H' x ln) → Same H H' → Q (.ref x) H') ∧ (∀ e, lineOf ns i j = .error e → XL a.C_LineFault (e.1 : Nat) (e.2 : Nat) H E)
theorem cutI {ns : List Int} {i j : Nat} (hi : i ≤ j) (hj : j ≤ ns.length) : cutV (ns.map V.int) (some (i : Int)) (some (j : Int)) = (cutB ns i j).map V.int := by
  unfold cutV cutB
  rw [HT.sIx_nat, HT.sIx_nat, List.length_map, Nat.min_eq_left hj, Nat.min_eq_left (Nat.le_trans hi hj), List.map_take, List.map_drop]
section
variable {P : Program} {w : World} {K : PySem.W.Frag} {mg : Str → Option Value} {base : Heap} {a : Adr}
theorem scNI : FnScope ["self", "is_paragraph", "text", "pieces"] ["self", "is_paragraph", "text", "pieces"] (defScope s_Line_init) := ⟨rfl, rfl, rfl, by decide +kernel, rfl, by decide +kernel, by decide +kernel⟩
theorem ok_NI (T : Txt P w K mg a) : OkF P w K mg base CX0 1 a.f_Line_init ["self", "is_paragraph", "text", "pieces"] (spNI a) := by
  obtain ⟨fd, F, b⟩ := T.d_Line_init
  refine ⟨fd, F.ok scNI (fun vs H Q E h => ?_) (fun cdv A outer s H vs Q E hr h => ?_), b, F.kp⟩
  · obtain ⟨x, l1, l2, dx, p, rfl, _⟩ := h
    rfl
  · obtain ⟨x, l1, l2, dx, p, rfl, hp, kk⟩ := h
    refine ⟨_, pss_cons (ps_fld (pv 0) (pv 1) rfl) (pss_cons (ps_fld (pv 0) (pv 2) rfl) (pss_one (ps_fld (pv 0) (pv 3) rfl))), ?_⟩
    refine ⟨_, rfl, _, rfl, x, a.C_Line, dx, [], rfl, hp, T.c_Line, T.n_Line_is_paragraph, (by show 0 < 1000; decide), ?_⟩
    refine ⟨_, rfl, _, rfl, x, a.C_Line, dx, _, rfl, upd_same, T.c_Line, T.n_Line_text, (by show 1 < 1000; decide), ?_⟩
    refine ⟨_, rfl, _, rfl, x, a.C_Line, dx, _, rfl, upd_same, T.c_Line, T.n_Line_pieces, ?_, ?_⟩
    · have h1 := length_putF "text" (.ref l1) (putF "is_paragraph" (.bl p) [])
      have h2 := length_putF "is_paragraph" (.bl p) []
      simp only [List.length_nil] at h2
      omega
    · rw [upd_upd, upd_upd]
      exact kk
theorem scFE : FnScope ["t", "start", "end"] ["t", "start"] (defScope s_find_line_end) := ⟨rfl, rfl, rfl, by decide +kernel, rfl, by decide +kernel, by decide +kernel⟩
theorem ok_fe (T : Txt P w K mg a) : OkF P w K mg base CX0 1 a.f_find_line_end ["t", "start"] (spFE K) := by
  obtain ⟨fd, F, b⟩ := T.d_find_line_end
  refine ⟨fd, F.ok scFE (fun vs H Q E h => ?_) (fun cdv A outer s H vs Q E hr h => ?_), b, F.kp⟩
  · obtain ⟨t, ns, i, rfl, _⟩ := h
    rfl
  · obtain ⟨t, ns, i, rfl, hS, hi, k⟩ := h
    refine ⟨_, pss_cons (ps_set (i := 2) scFE.nd rfl (Or.inl rfl) (pv 1))
      (pss_cons (ps_while PassesOwn.never (PW.pt (pw_and (pt_cmpR op_lt (pv 2) (pe_callB call_len_seq (by rfl) T.b_len PySem.boot_len (pa_cons (pv 0) pa_nil)) (nomark _)) (pw_and1 (pt_cmpR op_ne (pe_ix ix_list (pv 0) (pv 2) (fun _ _ => rfl)) (pe_gi rfl T.i_LINE_END) (nomark _)))))
        (pss_one (ps_aug (i := 2) scFE.nd rfl (Or.inl rfl) pe_int in_add)))
      (pss_one (ps_ret (pv 2)))), ?_⟩
    refine ⟨_, rfl, fun m σ H' => ∃ j : Nat, σ = [some (.ref t), some (.int i), some (.int j)] ∧ Eol ns i j ∧ H' = H ∧ m = ns.length - j, ⟨ns.length - i, i, rfl, ⟨Nat.le_refl _, hi, fun k a b => absurd a (by omega)⟩, rfl, rfl⟩, ?_⟩
    rintro m σ H' ⟨j, rfl, El, rfl, rfl⟩
    have jh := El.hi
    refine ⟨_, rfl, _, rfl, t, _, rfl, .inl hS, _, _, rfl, rfl, _, rfl, ?_⟩
    rw [List.length_map]
    refine ite2 (fun h => ?_) fun h => ?_
    · have h : (j : Int) < (ns.length : Int) := of_decide_eq_true h
      refine ⟨_, rfl, _, rfl, t, _, _, _, rfl, rfl, hS, at_of (j := j) rfl (byte_in (by omega)), rfl, _, rfl, ?_⟩
      by_cases h10 : byteAt ns j = 10
      · have e0 : (!decide (V.int (byteAt ns j) = V.int 10)) = false := by rw [h10]; rfl
        rw [e0]
        exact iteF ⟨_, rfl, k j El (.inr h10)⟩
      · have e0 : (!decide (V.int (byteAt ns j) = V.int 10)) = true := by rw [decide_eq_false fun z => h10 (V.int.inj z)]; rfl
        rw [e0]
        refine iteT ⟨_, fun _ _ z => z, ?_⟩
        refine ⟨_, rfl, j, 1, rfl, rfl, ns.length - (j + 1), by omega, j + 1, rfl, ⟨by have := El.le; omega, by omega, fun k a b => ?_⟩, rfl, rfl⟩
        by_cases e : k = j
        · rw [e]; exact h10
        · exact El.no k a (by omega)
    · have h : ¬ (j : Int) < (ns.length : Int) := fun z => h (decide_eq_true z)
      exact iteF ⟨_, rfl, k j El (.inl (by omega))⟩
end
end Fr

namespace Fr
open PySem PySem.Spec PyProof.Rows L2
section
variable {P : Program} {w : World} {K : PySem.W.Frag} {mg : Str → Option Value} {base : Heap} {a : Adr}
theorem scRL : FnScope ["t", "start", "end", "mark", "is_paragraph", "text", "pieces"] ["t", "start", "end"] (defScope s_read_line) := ⟨rfl, rfl, rfl, by decide +kernel, rfl, by decide +kernel, by decide +kernel⟩
theorem rdBy_true (b : Fh.Bytes) : rdBy true b = Fh.rowRead b := readG_row b
theorem rdBy_false (b : Fh.Bytes) : rdBy false b = charsUp (Fh.charsRead b) := readG_chars b
theorem ok_rl (T : Txt P w K mg a) : OkF P w K mg base (CXG false P w a.C_LineFault) 17 a.f_read_line ["t", "start", "end"] (spRL K a) := by
  obtain ⟨fd, F, b⟩ := T.d_read_line
  obtain ⟨fdM, GM, bM, kM⟩ := ok_bm (base := base) T
  obtain ⟨fdQ, GQ, bQ, kQ⟩ := ok_q6 (base := base) T
  obtain ⟨fdN, GN, bN, kN⟩ := ok_NI (base := base) T
  obtain ⟨fdL, GL, bL, kL⟩ := ok_LI (base := base) T
  refine ⟨fd, F.okX (CX := CXG false P w a.C_LineFault) (k := 16) scRL (fun vs H Q E h => ?_) (fun cdv A outer s H vs Q E hr h => ?_), b, F.kp⟩
  · obtain ⟨t, ns, i, j, rfl, _⟩ := h
    rfl
  · obtain ⟨t, ns, i, j, rfl, hS, hb, hn, hi, El, hj, k1, k2⟩ := h
    have hr15 : Room 15 _ := hr.mono (by decide)
    have hr5 : Room 5 _ := hr.mono (by decide)
    have hr2 : Room 2 _ := hr.mono (by decide)
    refine ⟨_, pss_cons (ps_set (i := 3) scRL.nd rfl (Or.inl rfl) (pe_ix ix_list (pv 0) (pv 1) (fun _ _ => rfl)))
      (pss_cons (ps_if (PW.pt (pw_and (pt_cmpR op_ne (pv 3) (pe_gi rfl T.i_RAW_MARK) (nomark _)) (pw_and1 (pt_cmpR op_ne (pv 3) (pe_gi rfl T.i_PARAGRAPH_MARK) (nomark _))))) (pss_one (ps_raise T.x_LineFault GL.ok hr2 rfl T.g_LineFault bL CXF.raises (pa_cons (pe_gi rfl T.i_NO_MARK) (pa_cons (pv 1) pa_nil)))) pss_nil)
      (pss_cons (ps_if (pt_cmpR op_eq (pv 2) (pe_callB call_len_seq (by rfl) T.b_len PySem.boot_len (pa_cons (pv 0) pa_nil)) (nomark _)) (pss_one (ps_raise T.x_LineFault GL.ok hr2 rfl T.g_LineFault bL CXF.raises (pa_cons (pe_gi rfl T.i_NOT_ENDED) (pa_cons (pv 2) pa_nil)))) pss_nil)
      (pss_cons (ps_set (i := 4) scRL.nd rfl (Or.inl rfl) (pe_cmpR op_eq (pv 3) (pe_gi rfl T.i_PARAGRAPH_MARK) (nomark _)))
      (pss_cons (ps_set (i := 5) scRL.nd rfl (Or.inl rfl) (pe_slice sl_list (pv 0) (po_some (pe_op op_add (pv 1) pe_int)) (po_some (pv 2))))
      (pss_cons (ps_set (i := 6) scRL.nd rfl (Or.inl rfl) (pe_call GM hr15 rfl T.g_read_behind_mark kM bM .nil (CXF.passes fun _ _ _ h => h) (pa_cons (pv 4) (pa_cons (pv 5) (pa_cons (pe_op op_add (pv 1) pe_int) pa_nil)))))
      (pss_cons (ps_if (pt_cmpR op_gt (pe_callB call_len_seq (by rfl) T.b_len PySem.boot_len (pa_cons (pv 6) pa_nil)) (pe_gi rfl T.i_MOST_PIECES) (nomark _)) (pss_one (ps_raise T.x_LineFault GL.ok hr2 rfl T.g_LineFault bL CXF.raises (pa_cons (pe_gi rfl T.i_LINE_TOO_LARGE) (pa_cons (pv 1) pa_nil)))) pss_nil)
      (pss_cons (ps_if (PW.pt (pw_and (pt_val (pv 4)) (pw_and1 (pt_cmpR op_eq (pe_call GQ hr5 rfl T.g_tell_paired kQ bQ .nil pass0 (pa_cons (pv 6) pa_nil)) pe_int (nomark _))))) (pss_one (ps_raise T.x_LineFault GL.ok hr2 rfl T.g_LineFault bL CXF.raises (pa_cons (pe_gi rfl T.i_NOT_PAIRED) (pa_cons (pv 1) pa_nil)))) pss_nil)
      (pss_one (ps_ret (pe_make T.mk_Line GN hr2 rfl T.g_Line bN .nil pass0 (pa_cons (pv 4) (pa_cons (pv 5) (pa_cons (pv 6) pa_nil))))))))))))), ?_⟩
    refine ⟨_, rfl, _, rfl, t, _, _, _, rfl, rfl, hS, at_of (j := i) rfl (byte_in hi), ?_⟩
    have dn : ∀ m : Int, byteAt ns i ≠ m → (!decide (V.int (byteAt ns i) = V.int m)) = true := fun m h => by rw [decide_eq_false fun z => h (V.int.inj z)]; rfl
    have dy : ∀ m : Int, byteAt ns i = m → (!decide (V.int (byteAt ns i) = V.int m)) = false := fun m h => by rw [h, decide_eq_true rfl]; rfl
    have eU : lineOf ns i j = lineOf ns i j := rfl
    -- behind the first test
    by_cases hmk : byteAt ns i ≠ 124 ∧ byteAt ns i ≠ 62
    · have el : lineOf ns i j = .error (1, i) := by unfold lineOf; rw [if_pos hmk]
      refine ⟨_, rfl, rfl, _, rfl, ?_⟩
      rw [dn 124 hmk.1]
      refine iteT ⟨_, rfl, rfl, _, rfl, ?_⟩
      rw [dn 62 hmk.2]
      exact iteT ⟨_, rfl, raise_L (k2 _ el)⟩
    · have first : ∀ R : Bool → Hp → Prop, R false H → (tAnd (tTest (tOp rNe (tVar 3) (tC (.int 124)))) (tTest (tOp rNe (tVar 3) (tC (.int 62))))) [some (.ref t), some (.int i), some (.int j), some (.int (byteAt ns i)), none, none, none] H R := fun R hR => by
        refine ⟨_, rfl, rfl, _, rfl, ?_⟩
        by_cases h124 : byteAt ns i = 124
        · rw [dy 124 h124]
          exact iteF hR
        · rw [dn 124 h124]
          refine iteT ⟨_, rfl, rfl, _, rfl, ?_⟩
          have h62 : byteAt ns i = 62 := by
            by_cases z : byteAt ns i = 62
            · exact z
            · exact absurd ⟨h124, z⟩ hmk
          rw [dy 62 h62]
          exact hR
      refine first _ (iteF ?_)
      refine ⟨_, rfl, _, rfl, t, _, rfl, .inl hS, rfl, _, rfl, ?_⟩
      rw [List.length_map]
      by_cases hjl : j = ns.length
      · have el : lineOf ns i j = .error (5, j) := by unfold lineOf; rw [if_neg hmk, if_pos hjl]
        rw [decide_eq_true (show V.int (j : Int) = V.int (ns.length : Int) by rw [hjl])]
        exact iteT ⟨_, rfl, raise_L (k2 _ el)⟩
      · rw [decide_eq_false (show ¬ V.int (j : Int) = V.int (ns.length : Int) from fun z => hjl (by have := V.int.inj z; omega))]
        refine iteF ⟨_, rfl, rfl, ?_⟩
        have h10 := hj.resolve_left hjl
        have hlt : i < j := by
          have := El.le
          by_cases z : i = j
          · rw [← z] at h10
            exact absurd ⟨by rw [h10]; decide, by rw [h10]; decide⟩ hmk
          · omega
        have jh := El.hi
        -- the text
        generalize hp : decide (V.int (byteAt ns i) = V.int 62) = p
        have hp2 : p = true ↔ byteAt ns i = 62 := by
          rw [← hp, decide_eq_true_iff]
          exact ⟨fun z => V.int.inj z, fun z => congrArg V.int z⟩
        refine ⟨_, rfl, _, rfl, _, _, rfl, rfl, _, rfl, _, rfl, _, rfl, t, _, rfl, hS, fun l1 hl1 => ?_⟩
        have ecut : cutV (ns.map V.int) (some ((i : Int) + 1)) (some (j : Int)) = (cutB ns (i + 1) j).map V.int := cutI (i := i + 1) (by omega) jh
        rw [ecut]
        have n1 := NewL.of (xs := (cutB ns (i + 1) j).map V.int) hl1
        have lc := cutB_len ns (i + 1) j
        refine ⟨_, rfl, _, rfl, _, rfl, _, _, rfl, rfl, p, l1, cutB ns (i + 1) j, i + 1, rfl, SqL.of n1.at_, cutB_all hb _ _, by omega, fun ps hps H2 u bs hu pc s2 nu => ?_, fun k hk => ?_⟩
        · -- it is read
          have s12 : Same H H2 := n1.same.trans s2
          refine ⟨_, rfl, u, _, rfl, .inl (SqL.of hu), _, _, rfl, rfl, _, rfl, ?_⟩
          rw [List.length_map, pc.len]
          -- what the line is
          have el : (4096 < ps.length → lineOf ns i j = .error (4, i)) ∧ (¬ 4096 < ps.length → p = true → Fh.paired ps = false → lineOf ns i j = .error (3, i)) := by
            unfold lineOf
            rw [if_neg hmk, if_neg hjl]
            cases p with
            | true =>
              rw [rdBy_true] at hps
              rw [if_pos (hp2.mp rfl), hps]
              refine ⟨fun h4 => ?_, fun h4 _ h3 => ?_⟩
              · show (if 4096 < ps.length then Except.error (4, i) else _) = _
                rw [if_pos h4]
              · show (if 4096 < ps.length then Except.error (4, i) else if Fh.paired ps = false then _ else _) = _
                rw [if_neg h4, if_pos h3]
            | false =>
              have n62 : ¬ byteAt ns i = 62 := fun z => by have := hp2.mpr z; cases this
              rw [rdBy_false] at hps
              rw [if_neg n62]
              cases ec : Fh.charsRead (FaNeutral.bytesOf (cutB ns (i + 1) j)) with
              | error k => rw [ec] at hps; cases hps
              | ok tt =>
                rw [ec] at hps
                have eps : tt.map Fh.Piece.char = ps := by cases hps; rfl
                refine ⟨fun h4 => ?_, fun h4 z => nomatch z⟩
                rw [← eps, List.length_map] at h4
                show (if 4096 < tt.length then Except.error (4, i) else _) = _
                rw [if_pos h4]
          refine ite2 (fun h4 => ?_) fun h4 => ?_
          · have h4 : (4096 : Int) < (ps.length : Int) := of_decide_eq_true h4
            exact ⟨_, rfl, raise_L ((k2 _ (el.1 (by omega))).later s12)⟩
          · have h4 : ¬ (4096 : Int) < (ps.length : Int) := fun z => h4 (decide_eq_true z)
            have made : ∀ ln, LnIs ln p (cutB ns (i + 1) j) ps → lineOf ns i j = .ok ln → ∀ H3, Same H2 H3 → ∀ σ, σ[4]? = some (some (V.bl p)) → σ[5]? = some (some (V.ref l1)) → σ[6]? = some (some (V.ref u)) → tMake a.C_Line (spNI a) [] E0 (tCons (tVar 4) (tCons (tVar 5) (tCons (tVar 6) tNil))) σ H3 Q := fun ln hln hok H3 s3 σ g4 g5 g6 => by
              refine ⟨_, g4, _, g5, _, g6, fun x dx nx nd ne => ⟨x, l1, u, dx, p, rfl, upd_same, rfl, ?_⟩⟩
              have kk : ∀ b o, H3 b = some o → upd (upd (upd H3 dx (.own x)) x (.ins a.C_Line dx [])) x (.ins a.C_Line dx (lineF p l1 u)) b = some o := fun b o e => by
                rw [upd_upd, upd_ne (ne_of_none e nx), upd_ne (ne_of_none e nd)]
                exact e
              refine k1 ln hok _ x (fun v o hv => ?_) fun b o e => kk b o (s3 b o (s12 b o e))
              exact ⟨p, cutB ns (i + 1) j, ps, dx, l1, u, bs, upd_same, kk _ _ (s3 _ _ (s2 _ _ n1.at_)), kk _ _ (s3 _ _ hu), pc.on fun b q e => kk _ _ (s3 _ _ e), hln, cutB_all hb _ _, by omega, Ne.symm (ne_of_none hv hl1), Ne.symm (ne_of_none (n1.same _ _ hv) nu)⟩
            refine ⟨_, rfl, p, rfl, ?_⟩
            cases p with
            | true =>
              rw [rdBy_true] at hps
              refine iteT ⟨_, rfl, u, bs, ps, rfl, hu, pc, by omega, rowRead_ok hps, fun H3 s3 => ?_⟩
              refine ⟨rfl, _, rfl, ?_⟩
              cases hpr : Fh.paired ps with
              | false =>
                show if decide (V.int (((Fh.paired ps).toNat : Nat) : Int) = V.int 0) = true then _ else _
                rw [hpr, show decide (V.int (((false : Bool).toNat : Nat) : Int) = V.int 0) = true from decide_eq_true rfl]
                exact iteT ⟨_, rfl, raise_L ((k2 _ (el.2 (by omega) rfl hpr)).later (s12.trans s3))⟩
              | true =>
                show if decide (V.int (((Fh.paired ps).toNat : Nat) : Int) = V.int 0) = true then _ else _
                rw [hpr, show decide (V.int (((true : Bool).toNat : Nat) : Int) = V.int 0) = false from decide_eq_false fun z => nomatch z]
                have hok : lineOf ns i j = .ok (.para ps) := by
                  unfold lineOf
                  rw [if_neg hmk, if_neg hjl, if_pos (hp2.mp rfl), hps]
                  show (if 4096 < ps.length then Except.error (4, i) else if Fh.paired ps = false then _ else _) = _
                  rw [if_neg (by omega), if_neg (by rw [hpr]; decide)]
                exact iteF (made (.para ps) ⟨rfl, hps, rfl, hpr, by omega⟩ hok H3 s3 _ rfl rfl rfl)
            | false =>
              rw [rdBy_false] at hps
              cases ec : Fh.charsRead (FaNeutral.bytesOf (cutB ns (i + 1) j)) with
              | error k => rw [ec] at hps; cases hps
              | ok tt =>
                rw [ec] at hps
                have eps : tt.map Fh.Piece.char = ps := by cases hps; rfl
                have n62 : ¬ byteAt ns i = 62 := fun z => by have := hp2.mpr z; cases this
                have hok : lineOf ns i j = .ok (.raw tt) := by
                  unfold lineOf
                  rw [if_neg hmk, if_neg hjl, if_neg n62, ec]
                  show (if 4096 < tt.length then Except.error (4, i) else _) = _
                  have : ps.length = tt.length := by rw [← eps, List.length_map]
                  rw [if_neg (by omega)]
                exact iteF (iteF (made (.raw tt) ⟨rfl, ec, eps.symm⟩ hok H2 (same_refl _) _ rfl rfl rfl))
        · -- a byte is wrong
          have el : lineOf ns i j = .error (2, i + 1 + k) := by
            unfold lineOf
            rw [if_neg hmk, if_neg hjl]
            cases p with
            | true =>
              rw [rdBy_true] at hk
              rw [if_pos (hp2.mp rfl), hk]
            | false =>
              have n62 : ¬ byteAt ns i = 62 := fun z => by have := hp2.mpr z; cases this
              rw [rdBy_false] at hk
              rw [if_neg n62]
              cases ec : Fh.charsRead (FaNeutral.bytesOf (cutB ns (i + 1) j)) with
              | ok tt => rw [ec] at hk; cases hk
              | error k' => rw [ec] at hk; cases hk; rfl
          exact (k2 _ el).later n1.same
end
end Fr

namespace Fr
open PySem PySem.Spec PyProof.Rows L2
def spLs (K : PySem.W.Frag) (a : Adr) : Sp := fun vs H Q E => ∃ (t : Addr) (ns : List Int), vs = [.ref t] ∧ SqL K H t (ns.map V.int) ∧ AllB ns ∧ ns.length ≤ 100000 ∧
  (∀ d, Fh.docRead (FaNeutral.bytesOf ns) = .ok d → ∀ H' u xs, H' u = some (.lst (xs.map V.ref)) → Paired (LineAt a.C_Line u H') xs d → Same H H' → Q (.ref u) H') ∧
  (∀ e, Fh.docRead (FaNeutral.bytesOf ns) = .error e → XL a.C_LineFault (e.1 : Nat) (e.2 : Nat) H E)
section
variable {P : Program} {w : World} {K : PySem.W.Frag} {mg : Str → Option Value} {base : Heap} {a : Adr}
theorem scLs : FnScope ["t", "lines", "start", "end"] ["t"] (defScope s_read_lines) := ⟨rfl, rfl, rfl, by decide +kernel, rfl, by decide +kernel, by decide +kernel⟩
theorem ok_lines (T : Txt P w K mg a) : OkF P w K mg base (CXG false P w a.C_LineFault) 19 a.f_read_lines ["t"] (spLs K a) := by
  obtain ⟨fd, F, b⟩ := T.d_read_lines
  obtain ⟨fdR, GR, bR, kR⟩ := ok_rl (base := base) T
  obtain ⟨fdE, GE, bE, kE⟩ := ok_fe (base := base) T
  obtain ⟨fdL, GL, bL, kL⟩ := ok_LI (base := base) T
  refine ⟨fd, F.okX (CX := CXG false P w a.C_LineFault) (k := 18) scLs (fun vs H Q E h => ?_) (fun cdv A outer s H vs Q E hr h => ?_), b, F.kp⟩
  · obtain ⟨t, ns, rfl, _⟩ := h
    rfl
  · obtain ⟨t, ns, rfl, hS, hb, hn, k1, k2⟩ := h
    have hr17 : Room 17 _ := hr.mono (by decide)
    have hr2 : Room 2 _ := hr.mono (by decide)
    have hr1 : Room 1 _ := hr.mono (by decide)
    refine ⟨_, pss_cons (ps_set (i := 1) scLs.nd rfl (Or.inl rfl) (pe_lst pa_nil))
      (pss_cons (ps_set (i := 2) scLs.nd rfl (Or.inl rfl) pe_int)
      (pss_cons (ps_while PassesOwn.leaving (pt_cmpR op_lt (pv 2) (pe_callB call_len_seq (by rfl) T.b_len PySem.boot_len (pa_cons (pv 0) pa_nil)) (nomark _))
        (pss_cons (ps_if (pt_cmpR op_eq (pe_callB call_len_seq (by rfl) T.b_len PySem.boot_len (pa_cons (pv 1) pa_nil)) (pe_gi rfl T.i_MOST_LINES) (nomark _)) (pss_one (ps_raise T.x_LineFault GL.ok hr2 rfl T.g_LineFault bL CXF.raises (pa_cons (pe_gi rfl T.i_TOO_MANY_LINES) (pa_cons (pv 2) pa_nil)))) pss_nil)
        (pss_cons (ps_set (i := 3) scLs.nd rfl (Or.inl rfl) (pe_call GE hr1 rfl T.g_find_line_end kE bE .nil pass0 (pa_cons (pv 0) (pa_cons (pv 2) pa_nil))))
        (pss_cons (ps_expr (pe_bm PySem.F.plainAttrs_list PySem.F.slot_list_append PySem.F.type_list_append mt_append (pv 1) (pa_cons (pe_call GR hr17 rfl T.g_read_line kR bR .nil (CXF.passes fun _ _ _ h => h) (pa_cons (pv 0) (pa_cons (pv 2) (pa_cons (pv 3) pa_nil)))) pa_nil)))
        (pss_one (ps_set (i := 2) scLs.nd rfl (Or.inl rfl) (pe_op op_add (pv 3) pe_int)))))))
      (pss_one (ps_ret (pv 1))))), ?_⟩
    refine ⟨Nat.zero_le _, fun l hl0 => ?_⟩
    have n0 := NewL.of (xs := []) hl0
    refine ⟨fun m σ H' => ∃ (i : Nat) (d : Fh.Document) (xs : List Addr) (en : Option V), σ = [some (.ref t), some (.ref l), some (.int i), en] ∧ DocI ns i d ∧ d.length ≤ 16384 ∧ H' l = some (.lst (xs.map V.ref)) ∧ Paired (LineAt a.C_Line l H') xs d ∧ Same H H' ∧ m = ns.length - i,
      ⟨ns.length, 0, [], [], none, rfl, DocI.start ns, Nat.zero_le _, n0.at_, .nil, n0.same, rfl⟩, ?_⟩
    rintro m σ H' ⟨i, d, xs, en, rfl, D, dl, hl', pr, sm, rfl⟩
    have hS' := sm.seq hS
    have xl : xs.length = d.length := Paired.length pr
    refine ⟨_, rfl, _, rfl, t, _, rfl, .inl hS', _, _, rfl, rfl, _, rfl, ?_⟩
    rw [List.length_map]
    refine ite2 (fun h => ?_) fun h => ?_
    · have h : (i : Int) < (ns.length : Int) := of_decide_eq_true h
      have hi : i < ns.length := by omega
      refine ⟨_, fun _ _ z => z, ?_⟩
      refine ⟨_, rfl, l, _, rfl, .inl (SqL.of hl'), rfl, _, rfl, ?_⟩
      rw [List.length_map, xl]
      by_cases hm : d.length = 16384
      · rw [decide_eq_true (show V.int (d.length : Int) = V.int 16384 by rw [hm]; rfl)]
        exact iteT ⟨_, rfl, raise_L ((k2 _ (D.many hb hi (by omega))).later sm)⟩
      · rw [decide_eq_false (show ¬ V.int (d.length : Int) = V.int 16384 from fun z => hm (by have := V.int.inj z; omega))]
        refine iteF ⟨_, rfl, _, rfl, t, ns, i, rfl, hS', by omega, fun j El hj => ?_⟩
        have st := D.step hb hi (by omega) El hj
        refine ⟨_, rfl, .inl ⟨rfl, _, SqL.of hl'⟩, _, rfl, _, rfl, _, rfl, t, ns, i, j, rfl, hS', hb, hn, hi, El, hj, fun ln hln H2 x hx s2 => ?_, fun e he => (k2 _ (st.1 e he)).later sm⟩
        obtain ⟨jl, D2⟩ := st.2 ln hln
        have hl2 := s2 _ _ hl'
        refine ⟨l, _, _, rfl, rfl, hl2, (by rw [List.length_map, sizeLine_eq]; omega), ?_⟩
        have smm : Same H (upd H2 l (.lst (xs.map V.ref ++ [.ref x]))) := same_upd (sm.trans s2) n0.new
        have lift : ∀ y ln', LineAt a.C_Line l H2 y ln' → LineAt a.C_Line l (upd H2 l (.lst (xs.map V.ref ++ [.ref x]))) y ln' := fun y ln' L => L.on ⟨_, hl2⟩ fun b o nb e => by rw [upd_ne nb]; exact e
        refine ⟨_, rfl, j, 1, rfl, rfl, ns.length - (j + 1), by have := El.le; omega, j + 1, d ++ [ln], xs ++ [x], _, rfl, D2, by rw [List.length_append, List.length_singleton]; omega, ?_, ?_, smm, rfl⟩
        · rw [upd_same, List.map_append]
          rfl
        · exact Paired.snoc (Paired.mapP pr fun y ln' L => lift y ln' (L.on ⟨_, hl'⟩ fun b o _ e => s2 b o e)) (lift x ln (hx l _ hl'))
    · have h : ¬ (i : Int) < (ns.length : Int) := fun z => h (decide_eq_true z)
      exact ⟨_, rfl, k1 d (D.done hb (by omega)) H' l xs hl' pr sm⟩
end
end Fr

namespace Fr
open PySem PySem.Spec PyProof.Rows L2
def spDoc (K : PySem.W.Frag) (a : Adr) : Sp := fun vs H Q _ => ∃ (t : Addr) (ns : List Int), vs = [.ref t] ∧ SqL K H t (ns.map V.int) ∧ AllB ns ∧ ns.length ≤ 100000 ∧
  (∀ d, Fh.docRead (FaNeutral.bytesOf ns) = .ok d → ∀ H' x l r dx xs, H' x = some (.ins a.C_Reading dx (readF l r)) → H' r = some (.lst []) → H' l = some (.lst (xs.map V.ref)) → Paired (LineAt a.C_Line l H') xs d → Same H H' → Q (.ref x) H') ∧
  (∀ e, Fh.docRead (FaNeutral.bytesOf ns) = .error e → ∀ H' x l r dx, H' x = some (.ins a.C_Reading dx (readF l r)) → H' r = some (.lst [.int (-5), .int (e.1 : Nat), .int (e.2 : Nat)]) → Same H H' → Q (.ref x) H')
section
variable {P : Program} {w : World} {K : PySem.W.Frag} {mg : Str → Option Value} {base : Heap} {a : Adr}
theorem scDoc : FnScope ["t", "fault"] ["t"] (defScope s_read_document) := ⟨rfl, rfl, rfl, by decide +kernel, rfl, by decide +kernel, by decide +kernel⟩
theorem ok_doc (T : Txt P w K mg a) : OkF P w K mg base CX0 21 a.f_read_document ["t"] (spDoc K a) := by
  obtain ⟨fd, F, b⟩ := T.d_read_document
  obtain ⟨fdQ, GQ, bQ, kQ⟩ := ok_lines (base := base) T
  obtain ⟨fdR, GR, bR, kR⟩ := ok_RI (base := base) T
  refine ⟨fd, F.ok (k := 20) scDoc (fun vs H Q E h => ?_) (fun cdv A outer s H vs Q E hr h => ?_), b, F.kp⟩
  · obtain ⟨t, ns, rfl, _⟩ := h
    rfl
  · obtain ⟨t, ns, rfl, hS, hb, hn, k1, k2⟩ := h
    have hr2 : Room 2 _ := hr.mono (by decide)
    have hr19 : Room 19 _ := hr.mono (by decide)
    let EX : XK := fun c d H' => ∃ (e : Fh.Bad) (dx : Addr), d = some dx ∧ Fh.docRead (FaNeutral.bytesOf ns) = .error e ∧ H' dx = some (.xd [("place", .int (e.2 : Nat)), ("kind", .int (e.1 : Nat))]) ∧ Same H H'
    refine ⟨_, pss_cons (ps_if (pt_cmpR op_gt (pe_callB call_len_seq (by rfl) T.b_len PySem.boot_len (pa_cons (pv 0) pa_nil)) (pe_gi rfl T.i_MOST_DOCUMENT_BYTES) (nomark _)) (pss_one (ps_ret (pe_make T.mk_Reading GR.ok hr2 rfl T.g_Reading bR .nil pass0 (pa_cons (pe_lst pa_nil) (pa_cons (pe_lst (pa_cons (pe_gi rfl T.i_TOO_LARGE) pa_nil)) pa_nil))))) pss_nil)
      (pss_one (ps_try (cn := false) (i := 1) (E := EX) (tb := tRet (tMake a.C_Reading (spRI a) [] E0 (tCons (tCall (spLs K a) [] EX (tCons (tVar 0) tNil)) (tCons (tLst tNil) tNil))))
          (ts := fun x dx => tRet (tMake a.C_Reading (spRI a) [] E0 (tCons (tLst tNil) (tCons (tLst (tCons (tC (.int (-5))) (tCons (tXGet x dx (tVar 1) "kind") (tCons (tXGet x dx (tVar 1) "place") tNil)))) tNil))))
          T.x_LineFault rfl T.g_LineFault scDoc.nd rfl rfl rfl rfl
          (fun pins => pss_one (ps_ret (pe_make T.mk_Reading GR.ok hr2 rfl T.g_Reading bR .nil pass0 (pa_cons (pe_call GQ hr19 rfl T.g_read_lines kQ bQ .nil CXF.tries (pa_cons (pv 0) pa_nil)) (pa_cons (pe_lst pa_nil) pa_nil)))))
          (fun pins x dx ox vs ec ed ef => pss_one (ps_ret (pe_makeH T.mk_Reading GR (hr2.toH.mark _) rfl T.g_Reading bR .nil pass0 (pa_cons (pe_lst pa_nil) (pa_cons (pe_lst (pa_cons (pe_gi rfl T.i_NO_SUCH_TEXT) (pa_cons (pe_xget T.x_LineFault T.n_LineFault_kind (List.mem_append_right _ (List.mem_singleton.mpr rfl)) ec ed ef (pv 1) rfl) (pa_cons (pe_xget T.x_LineFault T.n_LineFault_place (List.mem_append_right _ (List.mem_singleton.mpr rfl)) ec ed ef (pv 1) rfl) pa_nil)))) pa_nil))))))), ?_⟩
    refine ⟨_, rfl, t, _, rfl, .inl hS, _, _, rfl, rfl, _, rfl, ?_⟩
    rw [List.length_map]
    refine ite2 (fun h => ?_) fun _ => ?_
    · have h : (262144 : Int) < (ns.length : Int) := of_decide_eq_true h
      omega
    · -- a reading made behind a list
      have kk : ∀ (H1 : Hp) (x dx l r : Addr), H1 x = none → H1 dx = none → dx ≠ x → ∀ b o, H1 b = some o → upd (upd (upd H1 dx (.own x)) x (.ins a.C_Reading dx [])) x (.ins a.C_Reading dx (readF l r)) b = some o := fun H1 x dx l r nx nd ne b o e => by
        rw [upd_upd, upd_ne (ne_of_none e nx), upd_ne (ne_of_none e nd)]
        exact e
      refine ⟨⟨_, rfl, t, ns, rfl, hS, hb, hn, fun d hd H1 u xs hu pr sm => ?_, fun e he H1 dx hdx sm => ⟨e, dx, rfl, he, hdx, sm⟩⟩, fun x dx H1 hx1 hE => ?_⟩
      · refine ⟨Nat.zero_le _, fun r hr0 x dx nx nd ne => ?_⟩
        have n1 := NewL.of (xs := []) hr0
        have k3 := kk _ x dx u r nx nd ne
        refine ⟨x, u, r, dx, rfl, upd_same, rfl, k1 d hd _ x u r dx xs upd_same (k3 _ _ n1.at_) (k3 _ _ (n1.same _ _ hu)) (Paired.mapP pr fun y ln L => L.on ⟨_, hu⟩ fun b o _ e => k3 _ _ (n1.same _ _ e)) fun b o e => k3 _ _ (n1.same _ _ (sm _ _ e))⟩
      · obtain ⟨e, dy, edx, he, hdx, sm⟩ := hE
        cases edx
        refine ⟨Nat.zero_le _, fun l hl0 => ?_⟩
        have n1 := NewL.of (xs := []) hl0
        have hdx1 := n1.same _ _ hdx
        refine ⟨_, rfl, _, _, rfl, hdx1, rfl, _, rfl, _, _, rfl, hdx1, rfl, (by show 3 ≤ sizeLine; decide), fun r hr0 y dy ny nd ne => ?_⟩
        have n2 := NewL.of (xs := [V.int (-5), V.int (e.1 : Nat), V.int (e.2 : Nat)]) hr0
        have k3 := kk _ y dy l r ny nd ne
        exact ⟨y, l, r, dy, rfl, upd_same, rfl, k2 e he _ y l r dy upd_same (k3 _ _ n2.at_) fun b o e => k3 _ _ (n2.same _ _ (n1.same _ _ (sm _ _ e)))⟩
end
end Fr

namespace L2
open PySem PySem.Spec PyProof.Rows
/-- a call of what a name holds, one of several functions -/
def tCallW (i : Nat) (S : Addr → Sp → Prop) (dvs : List V) (E : XK) (t : TA) : TE := fun σ H Q => ∃ f sp, S f sp ∧ tCallV i f sp dvs E t σ H Q
theorem pe_callW {X : Cx} {CX : CXT} {k i : Nat} {S : Addr → Sp → Prop} {ps : List Str} {dvs : List V} {ds : List Value} {E : XK} {x : Str} {p pos : Pos} {e : Expr} {es : List Expr} {t : TA}
    (hS : ∀ f sp, S f sp → ∃ fd, FnOk X.prog X.w X.K X.mg X.base CX k f fd ps sp ∧ Binds X.K fd ps ds ∧ PySem.W.keepIn X.K (.ref f) = true) (hr : Room k X.A) (hd : Vals dvs ds) (hx : Passes CX X E)
    (ha : PA X (e :: es) t) (hN : X.N[i]? = some x := by rfl) (hv : Vis X.env.scope x := by first | exact Or.inl rfl | exact Or.inr (Or.inl rfl) | exact Or.inr (Or.inr rfl)) (hdb : (x == ("__debug__" : Str)) = false := by decide)
    (hcd : (x == ("__classdict__" : Str)) = false := by decide) (he : starEach (e :: es) X.env = (false, eval e X.env) :: starEach es X.env := by rfl) (hpl : (backTo pos (starEach es X.env)).any (·.1) = false := by rfl) :
    PE X (.Call (.Name x p) (e :: es) [] pos) (tCallW i S dvs E t) := by
  intro pins s σ H Q I ⟨f, sp, hs, h⟩
  obtain ⟨fd, F, b, kp⟩ := hS f sp hs
  exact pe_callV F hr kp b hd hx ha hN hv hdb hcd he hpl pins s σ H Q I h
theorem yes_t {σ : St} {H : Hp} {F G : Hp → Prop} (h : F H) : tYes σ H fun b H3 => if b = true then F H3 else G H3 := (iteT h : if true = true then F H else G H)
end L2
namespace Fr
open PySem PySem.Spec PyProof.Rows L2
/-! ### counts -/
theorem count_is {ns : List Int} (h : ns.length ≤ 262144) : PyYqfhaa.count ns = match Fh.docRead (FaNeutral.bytesOf ns) with
    | .error _ => [-5]
    | .ok d => 0 :: (FhRows.countsOf d).map fun n : Nat => (n : Int) := by
  show FaNeutral.numbers (FhRows.ofDoc (FaNeutral.bytesOf ns) _) = _
  unfold FhRows.ofDoc FhRows.docGiven
  rw [if_neg (by rw [bytes_len]; show ¬ 262144 < ns.length; omega)]
  cases Fh.docRead (FaNeutral.bytesOf ns) <;> rfl
def cnt : Nat → Fh.Row → Nat
  | 0 => List.length
  | 1 => fun r => (Fh.charsOf r).length
  | 2 => fun r => (Fh.tagsOf r).length
  | _ => Fh.wordsIn
theorem sum_int (f : Fh.Row → Nat) : ∀ l : List Fh.Row, (l.map fun r => ((f r : Nat) : Int)).sum = (((l.map f).sum : Nat) : Int)
  | [] => rfl
  | r :: l => by
    rw [List.map_cons, List.map_cons, List.sum_cons, List.sum_cons, sum_int f l]
    omega
theorem paras_snoc (d : Fh.Document) (ln : Fh.Line) : FhRows.paras (d ++ [ln]) = FhRows.paras d ++ (match ln with | .para r => [r] | .raw _ => []) := by
  unfold FhRows.paras
  rw [List.filterMap_append]
  cases ln <;> rfl
theorem docFrom_len : ∀ (f p n : Nat) (d : Fh.Document) (b : Fh.Bytes) (e : Fh.Document), Fh.docFrom f p n d b = .ok e → d.length = n → n ≤ 16384 → e.length ≤ 16384
  | f, p, n, d, [], e, h, hn, hm => by
    rw [df_nil] at h
    cases h
    rw [List.length_reverse]
    omega
  | 0, p, n, d, c :: b, e, h, _, _ => by rw [Fh.docFrom] at h; cases h
  | f + 1, p, n, d, c :: b, e, h, hn, hm => by
    rw [df_cons] at h
    split at h
    · cases h
    · rename_i h1
      have h1 : ¬ 16384 ≤ n := h1
      split at h
      · split at h <;> cases h
      · split at h
        · cases h
        · exact docFrom_len f _ _ _ _ e h (by rw [List.length_cons, hn]) (by omega)
theorem doc_len {b : Fh.Bytes} {d : Fh.Document} (h : Fh.docRead b = .ok d) : d.length ≤ 16384 := docFrom_len _ _ _ _ _ _ h rfl (by decide)
/-- a paragraph's pieces at u -/
def ParAt (H : Hp) (u : Addr) (r : Fh.Row) : Prop := ∃ bs, H u = some (.lst (bs.map V.ref)) ∧ PcsAt H bs r ∧ r.length ≤ 4096 ∧ ∀ q ∈ r, PcOk q
theorem ParAt.on {H H' : Hp} {u : Addr} {r : Fh.Row} (h : ParAt H u r) (s : Same H H') : ParAt H' u r := by
  obtain ⟨bs, h1, h2, h3, h4⟩ := h
  exact ⟨bs, s _ _ h1, h2.on fun b q e => s _ _ e, h3, h4⟩
section
variable {P : Program} {w : World} {K : PySem.W.Frag} {mg : Str → Option Value} {base : Heap} {a : Adr}
def Tells (a : Adr) (f : Addr) (sp : Sp) : Prop := ∃ j, [V.ref a.f_count_pieces, .ref a.f_count_characters, .ref a.f_count_tags, .ref a.f_count_words][j]? = some (V.ref f) ∧ sp = spAsk (cnt j)
theorem tells_ok (T : Txt P w K mg a) : ∀ f sp, Tells a f sp → ∃ fd, FnOk P w K mg base CX0 9 f fd ["pieces"] sp ∧ Binds K fd ["pieces"] [] ∧ PySem.W.keepIn K (.ref f) = true := by
  rintro f sp ⟨j, hj, rfl⟩
  match j, hj with
  | 0, hj => cases hj; exact (ok_q0 T).mono (by decide)
  | 1, hj => cases hj; exact (ok_q1 T).mono (by decide)
  | 2, hj => cases hj; exact (ok_q2 T).mono (by decide)
  | 3, hj => cases hj; exact ok_q3 T
  | j + 4, hj => cases hj
end
end Fr

namespace Fr
open PySem PySem.Spec PyProof.Rows L2
abbrev spTop (K : PySem.W.Frag) : Sp := spT1 PyYqfhaa.count K
section
variable {P : Program} {w : World} {K : PySem.W.Frag} {mg : Str → Option Value} {base : Heap} {a : Adr}
theorem scTop : FnScope ["t", "reading", "paragraphs", "answer", "tell", "found", "pieces"] ["t"] (defScope s_count) := ⟨rfl, rfl, rfl, by decide +kernel, rfl, by decide +kernel, by decide +kernel⟩
theorem ok_top {f : Addr} {fd : FuncData} (F : Fun K "count" "count" s_count f fd) (T : Txt P w K mg a) : FnOk P w K mg base CX0 23 f fd ["t"] (spTop K) := by
  obtain ⟨fdQ, GQ, bQ, kQ⟩ := ok_doc (base := base) T
  refine F.ok (k := 22) scTop (fun vs H Q E h => ?_) (fun cdv A outer s H vs Q E hr h => ?_)
  · obtain ⟨t, ns, rfl, _⟩ := h
    rfl
  · obtain ⟨t, ns, rfl, hS, hb, hl, k⟩ := h
    have hr21 : Room 21 _ := hr.mono (by decide)
    have hr9 : Room 9 _ := hr.mono (by decide)
    refine ⟨_, pss_cons (ps_set (i := 1) scTop.nd rfl (Or.inl rfl) (pe_call GQ hr21 rfl T.g_read_document kQ bQ .nil pass0 (pa_cons (pv 0) pa_nil)))
      (pss_cons (ps_if (pt_cmpR op_gt (pe_callB call_len_seq (by rfl) T.b_len PySem.boot_len (pa_cons (pe_fld (pv 1) rfl) pa_nil)) pe_int (nomark _)) (pss_one (ps_ret (pe_slice sl_list (pe_fld (pv 1) rfl) po_none (po_some pe_int)))) pss_nil)
      (pss_cons (ps_setLc (i := 2) (own := [("found", 5)]) (tt := tTest (tFld K (tVar 5) "is_paragraph")) (te := tFld K (tVar 5) "pieces") rfl scTop.nd rfl rfl (sw_true rfl rfl rfl rfl) (pi_list (pe_fld (pv 1) rfl)) (blkOk_by rfl)
          (fun _ _ _ _ _ => pg_name (i := 5) scTop.nd rfl (Or.inl rfl)) (fun _ _ _ _ _ => pts_one (pt_val (pe_fld (pv 5) rfl))) (fun _ _ _ _ _ => pe_fld (pv 5) rfl))
      (pss_cons (ps_set (i := 3) scTop.nd rfl (Or.inl rfl) (pe_lst (pa_cons (pe_gi rfl T.i_DONE) (pa_cons (pe_callB call_len_seq (by rfl) T.b_len PySem.boot_len (pa_cons (pe_fld (pv 1) rfl) pa_nil)) (pa_cons (pe_callB call_len_seq (by rfl) T.b_len PySem.boot_len (pa_cons (pv 2) pa_nil)) pa_nil)))))
      (pss_cons (ps_for PassesOwn.never rfl (pi_tup (pe_glob (v := .ref a.a_COUNTED) rfl T.g_COUNTED rfl)) (pg_name (i := 4) scTop.nd rfl (Or.inr rfl))
        (pss_one (ps_expr (pe_bm PySem.F.plainAttrs_list PySem.F.slot_list_append PySem.F.type_list_append mt_append (pv 3) (pa_cons (pe_callB (cr_sum rfl) (by rfl) T.b_sum PyProof.Rows.boot_sum (pa_cons
          (pe_lc (own := [("pieces", 6)]) (tt := tYes) (te := tCallW 4 (Tells a) [] E0 (tCons (tVar 6) tNil)) rfl scTop.nd (pi_list (pv 2)) (blkOk_by rfl)
            (fun _ _ _ _ _ => pg_name (i := 6) scTop.nd rfl (Or.inl rfl)) (fun _ _ _ _ _ => pts_nil) (fun _ _ _ _ _ => pe_callW (tells_ok T) hr9 .nil pass0 (pa_cons (pv 6) pa_nil))) pa_nil)) pa_nil)))))
      (pss_one (ps_ret (pv 3))))))), ?_⟩
    refine ⟨_, rfl, t, ns, rfl, hS, hb, hl, fun d hd H1 x l r dx xs hx hr' hu pr sm => ?_, fun e he H1 x l r dx hx hr' sm => ?_⟩
    · refine ⟨_, rfl, x, a.C_Reading, dx, _, _, rfl, hx, T.c_Reading, T.n_Reading_refusal, rf_ref _ _, r, _, rfl, .inl (SqL.of hr'), _, _, rfl, rfl, _, rfl, iteF ?_⟩
      have dl := doc_len hd
      have xl : xs.length = d.length := Paired.length pr
      refine ⟨_, rfl, x, a.C_Reading, dx, _, _, rfl, hx, T.c_Reading, T.n_Reading_parts, rf_pcs _ _, l, rfl, ⟨_, SqL.of hu⟩, fun D hD => ?_⟩
      have nD := NewL.of (xs := []) hD
      refine lc_list (K := K) (a := l) (xs := xs.map V.ref) (fun i H' => ∃ us : List Addr, H' D = some (.lst (us.map V.ref)) ∧ Paired (ParAt H1) us (FhRows.paras (d.take i)) ∧ us.length ≤ i ∧ Same H1 H') ⟨[], upd_same, .nil, Nat.le_refl _, nD.same⟩
        (fun i H' _ ⟨_, _, _, _, s5⟩ => SqL.of (s5 _ _ hu)) (fun i y H' hi ⟨us, h1, h2, h3, h4⟩ => ?_) fun H2 ⟨us, h1, h2, h3, h4⟩ => ?_
      · obtain ⟨y0, hy0, rfl⟩ := map_at hi
        obtain ⟨ln, hv, hU⟩ := pair_at pr hy0
        obtain ⟨p, tx, ps, dy, l1, l2, bs, hy, ht, hbs, pcs, li, tb, tn, _, _⟩ := hU
        have htk := take_snoc hv
        have il : i < xs.length := (List.getElem?_eq_some_iff.mp hy0).1
        refine ⟨rfl, _, rfl, y0, a.C_Line, dy, _, _, rfl, h4 _ _ hy, T.c_Line, T.n_Line_is_paragraph, lf_par _ _ _, p, rfl, ?_⟩
        cases ln with
        | raw tt =>
          obtain ⟨rfl, _, _⟩ := li
          refine iteF ⟨us, h1, ?_, by omega, h4⟩
          rw [htk, paras_snoc]
          show Paired _ us (_ ++ [])
          rw [List.append_nil]
          exact h2
        | para r =>
          obtain ⟨rfl, hrd, rfl, _, hrl⟩ := li
          refine iteT ⟨_, rfl, y0, a.C_Line, dy, _, _, rfl, h4 _ _ hy, T.c_Line, T.n_Line_pieces, lf_pcs _ _ _, _, h1, (by rw [List.length_map, sizeLine_eq]; omega), us ++ [l2], ?_, ?_, ?_, same_upd h4 hD⟩
          · rw [upd_same, List.map_append]
            rfl
          · rw [htk, paras_snoc]
            exact Paired.snoc h2 ⟨bs, hbs, pcs, hrl, rowRead_ok hrd⟩
          · rw [List.length_append, List.length_singleton]
            omega
      · rw [List.length_map, xl, List.take_length] at h2
        rw [List.length_map, xl] at h3
        have ul : us.length = (FhRows.paras d).length := Paired.length h2
        refine ⟨_, rfl, x, a.C_Reading, dx, _, _, rfl, h4 _ _ hx, T.c_Reading, T.n_Reading_parts, rf_pcs _ _, l, _, rfl, .inl (SqL.of (h4 _ _ hu)), _, rfl, D, _, rfl, .inl (SqL.of h1), (by show 3 ≤ sizeLine; decide), fun An hAn => ?_⟩
        have nA := NewL.of (xs := [V.int 0, V.int ((xs.map V.ref).length : Int), V.int ((us.map V.ref).length : Int)]) hAn
        refine ⟨a.a_COUNTED, rfl, ⟨_, T.t_COUNTED _⟩, for_tup (K := K) (a := a.a_COUNTED) (xs := [V.ref a.f_count_pieces, .ref a.f_count_characters, .ref a.f_count_tags, .ref a.f_count_words])
          (fun i σ H3 => ∃ o4 : Option V, σ = [some (.ref t), some (.ref x), some (.ref D), some (.ref An), o4, none, none] ∧ H3 An = some (.lst ((([0, (d.length : Int), ((FhRows.paras d).length : Int)] ++ (([0, 1, 2, 3] : List Nat).take i).map fun j => ((((FhRows.paras d).map (cnt j)).sum : Nat) : Int))).map V.int)) ∧ Same H2 H3)
          ⟨none, rfl, ?_, nA.same⟩ (fun _ _ H _ _ => T.t_COUNTED H) ?_ ?_⟩
        · rw [nA.at_, List.length_map, List.length_map, xl, ul]
          rfl
        · rintro i y σ H3 hi ⟨o4, rfl, hA, s3⟩
          obtain ⟨f, rfl⟩ : ∃ f, y = V.ref f := by
            match i, hi with
            | 0, hi => cases hi; exact ⟨_, rfl⟩
            | 1, hi => cases hi; exact ⟨_, rfl⟩
            | 2, hi => cases hi; exact ⟨_, rfl⟩
            | 3, hi => cases hi; exact ⟨_, rfl⟩
            | i + 4, hi => cases hi
          have i4 : i < 4 := (List.getElem?_eq_some_iff.mp hi).1
          refine ⟨_, rfl, .inl ⟨rfl, _, SqL.of hA⟩, _, rfl, D, rfl, ⟨_, SqL.of (s3 _ _ h1)⟩, fun E2 hE2 => ?_⟩
          have nE := NewL.of (xs := []) hE2
          refine lc_list (K := K) (a := D) (xs := us.map V.ref) (fun m H4 => H4 E2 = some (.lst ((((FhRows.paras d).take m).map fun r => ((cnt i r : Nat) : Int)).map V.int)) ∧ Same H3 H4) ⟨upd_same, nE.same⟩
            (fun m H4 _ ⟨_, s5⟩ => SqL.of (s5 _ _ (s3 _ _ h1))) (fun m y H4 hm ⟨e4, s4⟩ => ?_) fun H4 ⟨e4, s4⟩ => ?_
          · obtain ⟨u0, hu0, rfl⟩ := map_at hm
            obtain ⟨r0, hr0, pa⟩ := pair_at h2 hu0
            have hr0k := take_snoc hr0
            have ml : m < us.length := (List.getElem?_eq_some_iff.mp hu0).1
            obtain ⟨bs, hbs, pcs, hrl, hok⟩ := pa.on ((h4.trans s3).trans s4)
            refine ⟨rfl, ?_⟩
            refine yes_t ⟨f, _, ⟨i, hi, rfl⟩, rfl, _, rfl, u0, bs, r0, rfl, hbs, pcs, hrl, hok, fun H5 s5 => ⟨_, s5 _ _ e4, ?_, ?_, same_upd (s4.trans s5) hE2⟩⟩
            · rw [List.length_map, List.length_map, List.length_take, sizeLine_eq]
              omega
            · rw [upd_same, hr0k, List.map_append, List.map_append]
              rfl
          · rw [List.length_map, ul, List.take_length] at e4
            refine ⟨E2, _, rfl, SqL.of e4, An, _, _, rfl, rfl, s4 _ _ hA, ?_, some (.ref f), rfl, ?_, same_upd (s3.trans s4) hAn⟩
            · rw [List.length_map, List.length_append, List.length_map, List.length_take, sizeLine_eq]
              show 3 + min i 4 < _
              omega
            · rw [upd_same, sum_int]
              have e5 : ([0, 1, 2, 3] : List Nat)[i]? = some i := by
                match i, i4 with
                | 0, _ => rfl
                | 1, _ => rfl
                | 2, _ => rfl
                | 3, _ => rfl
              rw [take_snoc e5, List.map_append, List.map_append, List.map_append, List.map_append, List.append_assoc]
              rfl
        · rintro σ H3 ⟨o4, rfl, hA, s3⟩
          refine ⟨_, rfl, k H3 An ?_⟩
          rw [hA, count_is (by omega), hd]
          all_goals rfl
    · refine ⟨_, rfl, x, a.C_Reading, dx, _, _, rfl, hx, T.c_Reading, T.n_Reading_refusal, rf_ref _ _, r, _, rfl, .inl (SqL.of hr'), _, _, rfl, rfl, _, rfl, iteT ?_⟩
      refine ⟨_, rfl, x, a.C_Reading, dx, _, _, rfl, hx, T.c_Reading, T.n_Reading_refusal, rf_ref _ _, _, rfl, r, _, rfl, SqL.of hr', fun p hp => k _ p ?_⟩
      rw [upd_same, count_is (by omega), he]
      all_goals rfl
end
end Fr

end
namespace Fr
open PySem PySem.Spec PyProof.Rows L2
theorem all_of {P : Program} {w : World} {K : PySem.W.Frag} {mg : Str → Option Value} {a : Adr} {fa : Addr} (hfa : mg "count" = some (.ref fa)) (T : Txt P w K mg a) :
    ∃ fd : FuncData, (∀ (s : Shared) (us : List Value), us.length = (["t"] : List Str).length → BindsTo s fd ⟨us, []⟩ ((["t"] : List Str).zip us)) ∧ ∀ base : Heap, K.In base → base.Ns mainGlobals mg → FnOk P w K mg base CX0 23 fa fd ["t"] (spTop K) := by
  obtain ⟨fd, F, b⟩ := T.d_count
  have e := hfa.symm.trans T.g_count
  cases e
  refine ⟨fd, ?_, fun base _ _ => ok_top F T⟩
  obtain ⟨oc, od, kV, doc, pm, an, cdv, ct, osl, rfl, lk, hcd⟩ := F.ex
  exact fun s us hu => match us, hu with | [_], _ => .of_eq rfl
end Fr
def PySem.W.Fast.tw7674653660480201312 : Nat := 0
def PySem.W.Fast.tw8729701426637759361 : Nat := 0
def PySem.W.Fast.tw15641920910727314659 : Nat := 0
def PySem.W.Fast.tw13870702273475586663 : Nat := 0
def PySem.W.Fast.tw4902108436588562343 : Nat := 0
def PySem.W.Fast.tw1675076921475925578 : Nat := 0
def PySem.W.Fast.tw5400173336483644843 : Nat := 0
def PySem.W.Fast.tw11299818909704850509 : Nat := 0
def PySem.W.Fast.tw5153536379607831408 : Nat := 0
def PySem.W.Fast.tw6186608567861538993 : Nat := 0
def PySem.W.Fast.tw17523821475631621717 : Nat := 0
def PySem.W.Fast.tw2352904400691165338 : Nat := 0
open PySem PySem.W PyProof.Rows
set_option maxRecDepth 100000 in
set_option maxHeartbeats 0 in
theorem PySem.Challenge.cw_ferryrows_s10_count_holds : PySem.Challenge.rw_ferryrows_s10_count.Holds := by
  w_on; k_headS; (case hw => exact ⟨[.list []], by decide +kernel, by decide +kernel⟩)
  k_fillS
  refine L2.walk_specK (r := PySem.Challenge.rw_ferryrows_s10_count) (k := 23) (CX := L2.CX0) (ps := ["t"]) (sp := Fr.spTop) (by decide +kernel) rfl rfl ⟨rfl, by decide, by decide⟩ (fun w h Y => PySem.W.kIn_of Y) ?F ?S (fun _ _ _ _ z => z)
  case F =>
    intro w mg fa h Y KX G hmg
    refine' Fr.all_of hmg (Fr.txt_mk KX G ?haa_Fault ?hxC_Fault ?hok_Fault ?hin_Fault ?hsa_Fault ?hga_Fault ?hgb_Fault ?hpl_Fault_place ?hkp_Fault ?hoc_is_Fault ?haa_LineFault ?hxC_LineFault ?hok_LineFault ?hin_LineFault ?hsa_LineFault ?hga_LineFault ?hgb_LineFault ?hpl_LineFault_kind ?hpl_LineFault_place ?hkp_LineFault ?hoc_is_LineFault ?haa_Scan ?hpg_Scan ?hhd_Scan ?hpo_Scan ?hsa_Scan ?hmk_Scan ?hkc_Scan ?hnn_Scan_t ?hnn_Scan_at ?ham_Scan_init ?his_Scan_init ?ham_Scan_peek ?his_Scan_peek ?ham_Scan_take ?his_Scan_take ?haa_Unit ?hpg_Unit ?hhd_Unit ?hpo_Unit ?hsa_Unit ?hmk_Unit ?hkc_Unit ?hnn_Unit_group ?hnn_Unit_tag_kind ?hnn_Unit_text ?ham_Unit_init ?his_Unit_init ?haa_Reading ?hpg_Reading ?hhd_Reading ?hpo_Reading ?hsa_Reading ?hmk_Reading ?hkc_Reading ?hnn_Reading_parts ?hnn_Reading_refusal ?ham_Reading_init ?his_Reading_init ?haa_Line ?hpg_Line ?hhd_Line ?hpo_Line ?hsa_Line ?hmk_Line ?hkc_Line ?hnn_Line_is_paragraph ?hnn_Line_text ?hnn_Line_pieces ?ham_Line_init ?his_Line_init ?hag_tail_length ?hag_with_tail_byte ?hag_take_code ?hag_take_character ?hag_take_number ?hag_take_tag ?hag_take_piece ?hag_read_each ?hag_read_pieces ?hag_read_characters ?hag_tail_byte ?hag_write_character ?hag_write_number ?hag_only_tags ?hag_find_places ?hag_rename_numbers ?hag_find_halves ?hag_is_sign ?hag_is_of_word ?hag_make_unit ?hag_find_units ?hag_count_pieces ?hag_count_characters ?hag_count_tags ?hag_count_words ?hag_tell_paired ?hag_read_behind_mark ?hag_read_line ?hag_find_line_end ?hag_read_lines ?hag_read_document ?hag_count ?hl_Fault_init ?hc_Fault_init ?hk_Fault_init ?hl_LineFault_init ?hc_LineFault_init ?hk_LineFault_init ?hl_Scan_init ?hc_Scan_init ?hk_Scan_init ?hl_Scan_peek ?hc_Scan_peek ?hk_Scan_peek ?hl_Scan_take ?hc_Scan_take ?hk_Scan_take ?hl_Unit_init ?hc_Unit_init ?hk_Unit_init ?hl_Reading_init ?hc_Reading_init ?hk_Reading_init ?hl_Line_init ?hc_Line_init ?hk_Line_init ?hl_tail_length ?hc_tail_length ?hk_tail_length ?hl_with_tail_byte ?hc_with_tail_byte ?hk_with_tail_byte ?hl_take_code ?hc_take_code ?hk_take_code ?hl_take_character ?hc_take_character ?hk_take_character ?hl_take_number ?hc_take_number ?hk_take_number ?hl_take_tag ?hc_take_tag ?hk_take_tag ?hl_take_piece ?hc_take_piece ?hk_take_piece ?hl_read_each ?hc_read_each ?hk_read_each ?hl_read_pieces ?hc_read_pieces ?hk_read_pieces ?hl_read_characters ?hc_read_characters ?hk_read_characters ?hl_tail_byte ?hc_tail_byte ?hk_tail_byte ?hl_write_character ?hc_write_character ?hk_write_character ?hl_write_number ?hc_write_number ?hk_write_number ?hl_only_tags ?hc_only_tags ?hk_only_tags ?hl_find_places ?hc_find_places ?hk_find_places ?hl_rename_numbers ?hc_rename_numbers ?hk_rename_numbers ?hl_find_halves ?hc_find_halves ?hk_find_halves ?hl_is_sign ?hc_is_sign ?hk_is_sign ?hl_is_of_word ?hc_is_of_word ?hk_is_of_word ?hl_make_unit ?hc_make_unit ?hk_make_unit ?hl_find_units ?hc_find_units ?hk_find_units ?hl_count_pieces ?hc_count_pieces ?hk_count_pieces ?hl_count_characters ?hc_count_characters ?hk_count_characters ?hl_count_tags ?hc_count_tags ?hk_count_tags ?hl_count_words ?hc_count_words ?hk_count_words ?hl_tell_paired ?hc_tell_paired ?hk_tell_paired ?hl_read_behind_mark ?hc_read_behind_mark ?hk_read_behind_mark ?hl_read_line ?hc_read_line ?hk_read_line ?hl_find_line_end ?hc_find_line_end ?hk_find_line_end ?hl_read_lines ?hc_read_lines ?hk_read_lines ?hl_read_document ?hc_read_document ?hk_read_document ?hl_count ?hc_count ?hk_count ?hgi_CHARACTER ?hgi_OPENING ?hgi_CLOSING ?hgi_ALONE ?hgi_WORD ?hgi_SIGN ?hgi_TAG ?hgi_BLANK ?hgi_NOUGHT ?hgi_ONE ?hgi_NINE ?hgi_LEFT_BRACE ?hgi_RIGHT_BRACE ?hgi_NO_BYTE ?hgi_DONE ?hgi_NO_SUCH_TEXT ?hgi_TOO_LARGE ?hgi_MOST_PIECES ?hgi_MOST_DOCUMENT_BYTES ?hgi_MOST_LINES ?hgi_LINE_END ?hgi_RAW_MARK ?hgi_PARAGRAPH_MARK ?hgi_TOO_MANY_LINES ?hgi_NO_MARK ?hgi_NOT_ENDED ?hgi_WRONG_BYTE ?hgi_LINE_TOO_LARGE ?hgi_NOT_PAIRED ?hbb_len ?hbb_range ?hbb_ord ?hbb_str ?hbb_sum ?hgg_TAIL_BYTES ?hgg_SIGNS ?hgg_COUNTED ?hgg_SECOND_BYTES ?hld_SECOND_BYTES ?hnd_SECOND_BYTES ?hz_SECOND_BYTES_0 ?hz_SECOND_BYTES_1 ?hz_SECOND_BYTES_2 ?hz_SECOND_BYTES_3 ?hz_SECOND_BYTES_4 ?hlt_SIGNS ?hlt_TAIL_BYTES ?hlt_SECOND_BYTES_0 ?hlt_SECOND_BYTES_1 ?hlt_SECOND_BYTES_2 ?hlt_SECOND_BYTES_3 ?hlt_SECOND_BYTES_4 ?hlt_SIGNS_0 ?hlt_SIGNS_1 ?hlt_SIGNS_2 ?hlt_SIGNS_3 ?hlt_SIGNS_4 ?hlt_SIGNS_5 ?hlt_SIGNS_6 ?hlt_SIGNS_7 ?hlt_SIGNS_8 ?hlt_COUNTED)
    (case haa_Fault => k_is)
    (case hxC_Fault => k_is)
    (case hin_Fault => k_is)
    (case hsa_Fault => k_is)
    (case hga_Fault => k_is)
    (case hgb_Fault => k_is)
    (case hpl_Fault_place => k_is)
    (case hkp_Fault => k_is)
    (case haa_LineFault => k_is)
    (case hxC_LineFault => k_is)
    (case hin_LineFault => k_is)
    (case hsa_LineFault => k_is)
    (case hga_LineFault => k_is)
    (case hgb_LineFault => k_is)
    (case hpl_LineFault_kind => k_is)
    (case hpl_LineFault_place => k_is)
    (case hkp_LineFault => k_is)
    (case haa_Scan => k_is)
    (case hpg_Scan => k_is)
    (case hhd_Scan => k_is)
    (case hpo_Scan => k_is)
    (case hsa_Scan => k_is)
    (case hmk_Scan => k_is)
    (case hkc_Scan => k_is)
    (case hnn_Scan_t => k_is)
    (case hnn_Scan_at => k_is)
    (case ham_Scan_init => k_is)
    (case his_Scan_init => k_is)
    (case ham_Scan_peek => k_is)
    (case his_Scan_peek => k_is)
    (case ham_Scan_take => k_is)
    (case his_Scan_take => k_is)
    (case haa_Unit => k_is)
    (case hpg_Unit => k_is)
    (case hhd_Unit => k_is)
    (case hpo_Unit => k_is)
    (case hsa_Unit => k_is)
    (case hmk_Unit => k_is)
    (case hkc_Unit => k_is)
    (case hnn_Unit_group => k_is)
    (case hnn_Unit_tag_kind => k_is)
    (case hnn_Unit_text => k_is)
    (case ham_Unit_init => k_is)
    (case his_Unit_init => k_is)
    (case haa_Reading => k_is)
    (case hpg_Reading => k_is)
    (case hhd_Reading => k_is)
    (case hpo_Reading => k_is)
    (case hsa_Reading => k_is)
    (case hmk_Reading => k_is)
    (case hkc_Reading => k_is)
    (case hnn_Reading_parts => k_is)
    (case hnn_Reading_refusal => k_is)
    (case ham_Reading_init => k_is)
    (case his_Reading_init => k_is)
    (case haa_Line => k_is)
    (case hpg_Line => k_is)
    (case hhd_Line => k_is)
    (case hpo_Line => k_is)
    (case hsa_Line => k_is)
    (case hmk_Line => k_is)
    (case hkc_Line => k_is)
    (case hnn_Line_is_paragraph => k_is)
    (case hnn_Line_text => k_is)
    (case hnn_Line_pieces => k_is)
    (case ham_Line_init => k_is)
    (case his_Line_init => k_is)
    (case hag_tail_length => k_is)
    (case hag_with_tail_byte => k_is)
    (case hag_take_code => k_is)
    (case hag_take_character => k_is)
    (case hag_take_number => k_is)
    (case hag_take_tag => k_is)
    (case hag_take_piece => k_is)
    (case hag_read_each => k_is)
    (case hag_read_pieces => k_is)
    (case hag_read_characters => k_is)
    (case hag_tail_byte => k_is)
    (case hag_write_character => k_is)
    (case hag_write_number => k_is)
    (case hag_only_tags => k_is)
    (case hag_find_places => k_is)
    (case hag_rename_numbers => k_is)
    (case hag_find_halves => k_is)
    (case hag_is_sign => k_is)
    (case hag_is_of_word => k_is)
    (case hag_make_unit => k_is)
    (case hag_find_units => k_is)
    (case hag_count_pieces => k_is)
    (case hag_count_characters => k_is)
    (case hag_count_tags => k_is)
    (case hag_count_words => k_is)
    (case hag_tell_paired => k_is)
    (case hag_read_behind_mark => k_is)
    (case hag_read_line => k_is)
    (case hag_find_line_end => k_is)
    (case hag_read_lines => k_is)
    (case hag_read_document => k_is)
    (case hag_count => k_is)
    (case hl_Fault_init => k_is)
    (case hc_Fault_init => k_is)
    (case hk_Fault_init => k_is)
    (case hl_LineFault_init => k_is)
    (case hc_LineFault_init => k_is)
    (case hk_LineFault_init => k_is)
    (case hl_Scan_init => k_is)
    (case hc_Scan_init => k_is)
    (case hk_Scan_init => k_is)
    (case hl_Scan_peek => k_is)
    (case hc_Scan_peek => k_is)
    (case hk_Scan_peek => k_is)
    (case hl_Scan_take => k_is)
    (case hc_Scan_take => k_is)
    (case hk_Scan_take => k_is)
    (case hl_Unit_init => k_is)
    (case hc_Unit_init => k_is)
    (case hk_Unit_init => k_is)
    (case hl_Reading_init => k_is)
    (case hc_Reading_init => k_is)
    (case hk_Reading_init => k_is)
    (case hl_Line_init => k_is)
    (case hc_Line_init => k_is)
    (case hk_Line_init => k_is)
    (case hl_tail_length => k_is)
    (case hc_tail_length => k_is)
    (case hk_tail_length => k_is)
    (case hl_with_tail_byte => k_is)
    (case hc_with_tail_byte => k_is)
    (case hk_with_tail_byte => k_is)
    (case hl_take_code => k_is)
    (case hc_take_code => k_is)
    (case hk_take_code => k_is)
    (case hl_take_character => k_is)
    (case hc_take_character => k_is)
    (case hk_take_character => k_is)
    (case hl_take_number => k_is)
    (case hc_take_number => k_is)
    (case hk_take_number => k_is)
    (case hl_take_tag => k_is)
    (case hc_take_tag => k_is)
    (case hk_take_tag => k_is)
    (case hl_take_piece => k_is)
    (case hc_take_piece => k_is)
    (case hk_take_piece => k_is)
    (case hl_read_each => k_is)
    (case hc_read_each => k_is)
    (case hk_read_each => k_is)
    (case hl_read_pieces => k_is)
    (case hc_read_pieces => k_is)
    (case hk_read_pieces => k_is)
    (case hl_read_characters => k_is)
    (case hc_read_characters => k_is)
    (case hk_read_characters => k_is)
    (case hl_tail_byte => k_is)
    (case hc_tail_byte => k_is)
    (case hk_tail_byte => k_is)
    (case hl_write_character => k_is)
    (case hc_write_character => k_is)
    (case hk_write_character => k_is)
    (case hl_write_number => k_is)
    (case hc_write_number => k_is)
    (case hk_write_number => k_is)
    (case hl_only_tags => k_is)
    (case hc_only_tags => k_is)
    (case hk_only_tags => k_is)
    (case hl_find_places => k_is)
    (case hc_find_places => k_is)
    (case hk_find_places => k_is)
    (case hl_rename_numbers => k_is)
    (case hc_rename_numbers => k_is)
    (case hk_rename_numbers => k_is)
    (case hl_find_halves => k_is)
    (case hc_find_halves => k_is)
    (case hk_find_halves => k_is)
    (case hl_is_sign => k_is)
    (case hc_is_sign => k_is)
    (case hk_is_sign => k_is)
    (case hl_is_of_word => k_is)
    (case hc_is_of_word => k_is)
    (case hk_is_of_word => k_is)
    (case hl_make_unit => k_is)
    (case hc_make_unit => k_is)
    (case hk_make_unit => k_is)
    (case hl_find_units => k_is)
    (case hc_find_units => k_is)
    (case hk_find_units => k_is)
    (case hl_count_pieces => k_is)
    (case hc_count_pieces => k_is)
    (case hk_count_pieces => k_is)
    (case hl_count_characters => k_is)
    (case hc_count_characters => k_is)
    (case hk_count_characters => k_is)
    (case hl_count_tags => k_is)
    (case hc_count_tags => k_is)
    (case hk_count_tags => k_is)
    (case hl_count_words => k_is)
    (case hc_count_words => k_is)
    (case hk_count_words => k_is)
    (case hl_tell_paired => k_is)
    (case hc_tell_paired => k_is)
    (case hk_tell_paired => k_is)
    (case hl_read_behind_mark => k_is)
    (case hc_read_behind_mark => k_is)
    (case hk_read_behind_mark => k_is)
    (case hl_read_line => k_is)
    (case hc_read_line => k_is)
    (case hk_read_line => k_is)
    (case hl_find_line_end => k_is)
    (case hc_find_line_end => k_is)
    (case hk_find_line_end => k_is)
    (case hl_read_lines => k_is)
    (case hc_read_lines => k_is)
    (case hk_read_lines => k_is)
    (case hl_read_document => k_is)
    (case hc_read_document => k_is)
    (case hk_read_document => k_is)
    (case hl_count => k_is)
    (case hc_count => k_is)
    (case hk_count => k_is)
    (case hgi_CHARACTER => k_is)
    (case hgi_OPENING => k_is)
    (case hgi_CLOSING => k_is)
    (case hgi_ALONE => k_is)
    (case hgi_WORD => k_is)
    (case hgi_SIGN => k_is)
    (case hgi_TAG => k_is)
    (case hgi_BLANK => k_is)
    (case hgi_NOUGHT => k_is)
    (case hgi_ONE => k_is)
    (case hgi_NINE => k_is)
    (case hgi_LEFT_BRACE => k_is)
    (case hgi_RIGHT_BRACE => k_is)
    (case hgi_NO_BYTE => k_is)
    (case hgi_DONE => k_is)
    (case hgi_NO_SUCH_TEXT => k_is)
    (case hgi_TOO_LARGE => k_is)
    (case hgi_MOST_PIECES => k_is)
    (case hgi_MOST_DOCUMENT_BYTES => k_is)
    (case hgi_MOST_LINES => k_is)
    (case hgi_LINE_END => k_is)
    (case hgi_RAW_MARK => k_is)
    (case hgi_PARAGRAPH_MARK => k_is)
    (case hgi_TOO_MANY_LINES => k_is)
    (case hgi_NO_MARK => k_is)
    (case hgi_NOT_ENDED => k_is)
    (case hgi_WRONG_BYTE => k_is)
    (case hgi_LINE_TOO_LARGE => k_is)
    (case hgi_NOT_PAIRED => k_is)
    (case hbb_len => k_is)
    (case hbb_range => k_is)
    (case hbb_ord => k_is)
    (case hbb_str => k_is)
    (case hbb_sum => k_is)
    (case hgg_TAIL_BYTES => k_is)
    (case hgg_SIGNS => k_is)
    (case hgg_COUNTED => k_is)
    (case hgg_SECOND_BYTES => k_is)
    (case hld_SECOND_BYTES => k_is)
    (case hlt_SIGNS => k_is)
    (case hlt_TAIL_BYTES => k_is)
    (case hlt_SECOND_BYTES_0 => k_is)
    (case hlt_SECOND_BYTES_1 => k_is)
    (case hlt_SECOND_BYTES_2 => k_is)
    (case hlt_SECOND_BYTES_3 => k_is)
    (case hlt_SECOND_BYTES_4 => k_is)
    (case hlt_SIGNS_0 => k_is)
    (case hlt_SIGNS_1 => k_is)
    (case hlt_SIGNS_2 => k_is)
    (case hlt_SIGNS_3 => k_is)
    (case hlt_SIGNS_4 => k_is)
    (case hlt_SIGNS_5 => k_is)
    (case hlt_SIGNS_6 => k_is)
    (case hlt_SIGNS_7 => k_is)
    (case hlt_SIGNS_8 => k_is)
    (case hlt_COUNTED => k_is)
    (case hok_Fault => first | kernel_rfl | decide +kernel | rfl)
    (case hoc_is_Fault => first | rfl | kernel_rfl | decide +kernel)
    (case hok_LineFault => first | kernel_rfl | decide +kernel | rfl)
    (case hoc_is_LineFault => first | rfl | kernel_rfl | decide +kernel)
    (case hnd_SECOND_BYTES => first | rfl | kernel_rfl | decide +kernel)
    (case hz_SECOND_BYTES_0 => first | rfl | kernel_rfl | decide +kernel)
    (case hz_SECOND_BYTES_1 => first | rfl | kernel_rfl | decide +kernel)
    (case hz_SECOND_BYTES_2 => first | rfl | kernel_rfl | decide +kernel)
    (case hz_SECOND_BYTES_3 => first | rfl | kernel_rfl | decide +kernel)
    (case hz_SECOND_BYTES_4 => first | rfl | kernel_rfl | decide +kernel)
  case S =>
    intro K H xs a hO hwi hask hx
    cases hx with
    | cons h1 h2 =>
      cases h2
      cases h1 with
      | lst hs ha =>
        have e := L2.ints_dw a.1 _ ha
        subst e
        have q : ((Codec.inLen 0 100000 a.1 && a.1.all (Codec.inInt 0 255)) && true) = true := hwi
        rw [Bool.and_eq_true, Bool.and_eq_true] at q
        exact ⟨_, a.1, rfl, hs, Fr.allB_of q.1.2, (Codec.inNat_iff.mp q.1.1).2, fun H' p hp => .lst (L2.SqL.of hp) (L2.dw_ints _)⟩

#print axioms PySem.Challenge.cw_ferryrows_s10_count_holds
