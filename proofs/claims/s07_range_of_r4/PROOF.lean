import PyProof.Rows.All
import Wide.All
import OpenK.AllK
import Wide.FinOn
import PyProof.EqAt
import PyProof.EqKinds
import PyProof.TupleCall
import KE.BitLaws
import Open.SpecLaws
import KE.OsHead
import KE.OsGo
import KE.KTryMore
import KE.RegKTryMore
import PyProof.ExcInit
import PyProof.StationsW
import PyProof.InstStore
import PyProof.PassesOwn
import PyProof.RulesTry
import PyProof.ExcArgsOwn
import PyProof.InstStoreFacts
import PyProof.ExcBaseAll.Exception
import PyProof.RulesAs
import PyProof.ExcAttrAll.Exception
import PyProof.Draws
import PyProof.EnumMake
import PyProof.Rows.InDataRows
import PySem.Challenge.RW_fieldsheets_s07_range_of
set_option Elab.async false
set_option linter.all false
set_option maxRecDepth 100000
/-! THE HAND LAYER, for ints, bools, texts, own classes, lists, tuples, dicts, comprehensions, walks over dicts, enumerate, zip, reversed, texts, calls, loops. Paste it whole ahead of your own text; what your proof does not reach may be deleted. -/
namespace L2
open PySem PySem.Spec PyProof.Rows

/-- a key: an int or a str -/
abbrev Key := Sum Int Str
def keyIs : Key → Value → Bool
  | .inl k, v => Value.isInt k v
  | .inr x, v => Value.isStrOf x v
def keyH (w : World) : Key → Int
  | .inl k => hashInt k
  | .inr x => hashStr w x
theorem keyIs_shape : ∀ {k : Key} {v : Value}, keyIs k v = true → (∃ i t, k = Sum.inl i ∧ v = Value.int i t) ∨ (∃ x t, k = Sum.inr x ∧ v = Value.str x t)
  | .inl i, v, h => by
    obtain ⟨t, e⟩ := Value.isInt_shape (k := i) (v := v) h
    exact .inl ⟨i, t, rfl, e⟩
  | .inr x, v, h => by
    obtain ⟨t, e⟩ := Value.isStrOf_shape (x := x) (v := v) h
    exact .inr ⟨x, t, rfl, e⟩
theorem keyIs_int (i : Int) (t : Tok) : keyIs (.inl i) (.int i t) = true := by simp [keyIs, Value.isInt]
theorem keyIs_str (x : Str) (t : Tok) : keyIs (.inr x) (.str x t) = true := by simp [keyIs, Value.isStrOf]
theorem key_ll (a b : Int) : decide ((Sum.inl a : Key) = Sum.inl b) = (a == b) := by
  by_cases e : a = b
  · subst e; simp
  · have h : ¬ (Sum.inl a : Key) = Sum.inl b := fun q => e (Sum.inl.inj q)
    rw [decide_eq_false h]
    exact (beq_eq_false_iff_ne.mpr e).symm
theorem key_rr (a b : Str) : decide ((Sum.inr a : Key) = Sum.inr b) = decide (a = b) := by
  by_cases e : a = b
  · subst e; simp
  · have h : ¬ (Sum.inr a : Key) = Sum.inr b := fun q => e (Sum.inr.inj q)
    rw [decide_eq_false h, decide_eq_false e]
theorem key_lr (a : Int) (b : Str) : decide ((Sum.inl a : Key) = Sum.inr b) = false := decide_eq_false (fun q => nomatch q)
theorem key_rl (a : Str) (b : Int) : decide ((Sum.inr a : Key) = Sum.inl b) = false := decide_eq_false (fun q => nomatch q)

def mixKind (prog : Program) (w : World) : PySem.KeyKind prog w Key where
  is := keyIs
  hash := keyH w
  inj := fun v a b ha hb => by
    rcases keyIs_shape ha with ⟨i, t, rfl, rfl⟩ | ⟨x, t, rfl, rfl⟩
    · rcases keyIs_shape hb with ⟨j, u, rfl, e⟩ | ⟨y, u, rfl, e⟩
      · injection e with e1 _; rw [e1]
      · exact nomatch e
    · rcases keyIs_shape hb with ⟨j, u, rfl, e⟩ | ⟨y, u, rfl, e⟩
      · exact nomatch e
      · injection e with e1 _; rw [e1]
  byValue := fun k v h => by
    rcases keyIs_shape h with ⟨i, t, rfl, rfl⟩ | ⟨x, t, rfl, rfl⟩ <;> rfl
  pyHash := fun hv h => by
    rcases keyIs_shape hv with ⟨i, t, rfl, rfl⟩ | ⟨x, t, rfl, rfl⟩
    · exact wpAny_pyHash_int h
    · exact wpAny_pyHash_str h
  eqBool := fun hu hv h => by
    rcases keyIs_shape hu with ⟨i, t, rfl, rfl⟩ | ⟨x, t, rfl, rfl⟩
    · rcases keyIs_shape hv with ⟨j, u, rfl, rfl⟩ | ⟨y, u, rfl, rfl⟩
      · rw [key_ll] at h; exact wpAny_eqBool_int h
      · rw [key_lr] at h; exact SeqAt.EqAt.int_str i t y u _ _ _ _ h
    · rcases keyIs_shape hv with ⟨j, u, rfl, rfl⟩ | ⟨y, u, rfl, rfl⟩
      · rw [key_rl] at h; exact SeqAt.EqAt.str_int x t j u _ _ _ _ h
      · rw [key_rr] at h; exact wpAny_eqBool_str h
  «strs» := fun k x t v h => by
    rcases keyIs_shape h with ⟨i, u, rfl, e⟩ | ⟨y, u, rfl, e⟩
    · exact nomatch e
    · injection e with e1 _
      subst e1
      cases v <;> rfl

theorem mixKind_int (prog : Program) (w : World) (i : Int) (t : Tok) : (mixKind prog w).is (.inl i) (.int i t) = true := keyIs_int i t
theorem mixKind_str (prog : Program) (w : World) (x : Str) (t : Tok) : (mixKind prog w).is (.inr x) (.str x t) = true := keyIs_str x t
end L2

namespace L2
open PySem PySem.Spec PyProof.Rows

/-- a value, without the heap -/
inductive V where
  | non | bl (b : Bool) | int (i : Int) | str (x : Str) | byt (b : Array UInt8) | flt (b : UInt64) | ref (a : Addr) | ty (n : String)
  deriving DecidableEq

def RelV : V → Value → Prop
  | .non, u => u = Value.none
  | .bl b, u => u = Value.bool b
  | .int i, u => ∃ t, u = Value.int i t
  | .str x, u => ∃ t, u = Value.str x t
  | .byt b, u => ∃ t, u = Value.bytes b t
  | .flt b, u => ∃ t, u = Value.float b t
  | .ref a, u => u = Value.ref a
  | .ty n, u => u = Value.type n

abbrev Vals : List V → List Value → Prop := Paired RelV
theorem Vals.length {xs : List V} {us : List Value} (r : Vals xs us) : xs.length = us.length := Paired.length r
theorem Vals.get : ∀ {xs : List V} {us : List Value} {i : Nat} {x : V}, Vals xs us → xs[i]? = some x → ∃ u, us[i]? = some u ∧ RelV x u
  | _, _, _, _, .nil, e => by simp at e
  | _, _, 0, _, .cons r _, e => by simp at e; subst e; exact ⟨_, rfl, r⟩
  | _, _, i + 1, x, .cons _ t, e => by
    obtain ⟨u, h1, h2⟩ := Vals.get (i := i) (x := x) t (by simpa using e)
    exact ⟨u, by simpa using h1, h2⟩
theorem Vals.append : ∀ {xs ys : List V} {us ws : List Value}, Vals xs us → Vals ys ws → Vals (xs ++ ys) (us ++ ws)
  | _, _, _, _, .nil, s => s
  | _, _, _, _, .cons r t, s => .cons r (Vals.append t s)
theorem Vals.take : ∀ {xs : List V} {us : List Value} (n : Nat), Vals xs us → Vals (xs.take n) (us.take n)
  | _, _, 0, _ => .nil
  | _, _, _ + 1, .nil => .nil
  | _, _, n + 1, .cons r t => .cons r (Vals.take n t)
theorem Vals.drop : ∀ {xs : List V} {us : List Value} (n : Nat), Vals xs us → Vals (xs.drop n) (us.drop n)
  | _, _, 0, r => r
  | _, _, _ + 1, .nil => .nil
  | _, _, n + 1, .cons _ t => Vals.drop n t

def RelO : Option V → Option Value → Prop
  | some v, some u => RelV v u
  | none, none => True
  | _, _ => False
def KV {κ : Type} : List (κ × V) → List (κ × Value) → Prop := Paired fun (p : κ × V) (q : κ × Value) => p.1 = q.1 ∧ RelV p.2 q.2

/-- a key of a dict (00_mix): an int or a text -/
def kV : Key → V
  | .inl i => .int i
  | .inr x => .str x

/-- what stands at a tracked address -/
inductive HO where
  /-- a list -/
  | lst (xs : List V)
  /-- a tuple (never changes) -/
  | tup (xs : List V)
  /-- a dict whose keys are ints and texts; one whose keys are tuples of ints and texts (the empty one is both) -/
  | dK (kvs : List (Key × V)) | dT (kvs : List (List Key × V))
  /-- a set of ints: its members, its size -/
  | set (S : Int → Bool) (n : Nat)
  /-- an instance of the class at C, its dict at dx, its attributes -/
  | ins (C dx : Addr) (fs : List (Str × V))
  /-- the dict of the instance at x -/
  | own (x : Addr)
  /-- the dict of an exception -/
  | xd (fs : List (Str × V))
  /-- a bound method, f of x -/
  | met (f x : Addr)
  /-- a range object lo, lo + 1, .. below hi -/
  | rng (lo hi : Int)
  /-- a thing that is known to the object (the script; a dict while a loop walks it): read, never written while it is so -/
  | frz (o : Obj) (u : HO)
  /-- a code object's table -/
  | tbl (ps : Array Value)
  /-- any other thing, by what is true of its one object (a def of one's own: SetO a S n := HO.ext fun h => ..) -/
  | ext (φ : Heap → Prop)

abbrev Hp := Addr → Option HO
def upd (H : Hp) (a : Addr) (o : HO) : Hp := fun b => if b = a then some o else H b
theorem upd_same {H : Hp} {a : Addr} {o : HO} : upd H a o a = some o := by unfold upd; rw [if_pos rfl]
theorem upd_ne {H : Hp} {a b : Addr} {o : HO} (h : b ≠ a) : upd H a o b = H b := by unfold upd; rw [if_neg h]
theorem upd_upd {H : Hp} {a : Addr} {o u : HO} : upd (upd H a o) a u = upd H a u := by
  funext b; unfold upd; split <;> rfl
/-- two objects of different content stand apart -/
theorem ne_of {H : Hp} {a b : Addr} {o u : HO} (h : H a = some o) (h' : H b = some u) (d : o ≠ u) : a ≠ b := by
  intro e; subst e; rw [h] at h'; exact d (Option.some.inj h')
theorem ne_of_none {H : Hp} {a b : Addr} {o : HO} (h : H a = some o) (h' : H b = none) : a ≠ b := by
  intro e; subst e; rw [h] at h'; cases h'

section
variable (P : Program) (w : World)
def ObjOk (H : Hp) (h : Heap) (a : Addr) : HO → Prop
  | .lst xs => xs.length ≤ sizeLine ∧ ∃ (its : List Value) (n : Nat), Vals xs its ∧ h.get? a = some { cls := .type "list", data := .seq its.toArray n }
  | .tup xs => xs.length ≤ sizeLine ∧ ∃ its : List Value, Vals xs its ∧ IsTup h a its.toArray
  | .dK kvs => kvs.length ≤ sizeLine ∧ (a == sysModules) = false ∧ ∃ vs, KV kvs vs ∧ h.DictOf (mixKind P w) a vs
  | .dT kvs => kvs.length ≤ sizeLine ∧ (a == sysModules) = false ∧ ∃ xs : List (List Key × Addr × Value),
      Paired (fun (p : List Key × V) (q : List Key × Addr × Value) => p.1 = q.1 ∧ H q.2.1 = some (.tup (p.1.map kV)) ∧ RelV p.2 q.2.2) kvs xs ∧
      ∃ o es ep, h.get? a = some o ∧ o.ExactDict ∧ o.data = .dict es ep ∧ es.toList = xs.map (entryOfKey (tupleKind (mixKind P w))) ∧ (xs.map (·.1)).Nodup
  | .set S n => h.SetOf (intKind P w) a S n
  | .ins C dx fs => H dx = some (.own a) ∧ fs.length ≤ 1000 ∧ dx ≠ a ∧ h.get? a = some (PySem.W.instObj C dx) ∧
      ∃ mA, h.Ns1 dx mA ∧ (∀ f, RelO (fs.lookup f) (mA f)) ∧ PySem.Within mA (fs.map (·.1))
  | .own _ => ∃ o, h.get? a = some o
  | .xd fs => ∃ mA, h.Ns1 a mA ∧ ∀ f, RelO (fs.lookup f) (mA f)
  | .rng lo hi => ∃ t u v, h.get? a = some { cls := .type "range", data := .fields #[.int lo t, .int hi u, .int 1 v] }
  | .frz o u => h.get? a = some o ∧ ObjOk H h a u
  | .tbl ps => h.get? a = some { cls := .none, data := .fields ps }
  | .met f x => h.get? a = some (PySem.W.methodObj (.ref f) (.ref x))
  | .ext φ => φ h ∧ (∃ o, h.get? a = some o) ∧ ∀ h1 h2 : Heap, φ h1 → (∀ o, h1.get? a = some o → h2.get? a = some o) → φ h2
/-- the abstract heap is held -/
def HOk (H : Hp) (h : Heap) : Prop := ∀ a o, H a = some o → ObjOk P w H h a o
end

section
variable {P : Program} {w : World} {H H' : Hp} {h h' : Heap} {a : Addr} {o : HO}
theorem ObjOk.lt (x : ObjOk P w H h a o) : a < h.objs.size := by
  cases o with
  | lst xs => obtain ⟨_, _, _, _, e⟩ := x; exact Heap.lt_size e
  | tup xs => obtain ⟨_, _, _, p⟩ := x; exact p.lt
  | dK kvs => obtain ⟨_, _, _, _, o, _, _, e, _⟩ := x; exact Heap.lt_size e
  | dT kvs => obtain ⟨_, _, _, _, o, _, _, e, _⟩ := x; exact Heap.lt_size e
  | set S n => obtain ⟨o, _, _, _, e, _⟩ := x; exact Heap.lt_size e
  | ins C dx fs => obtain ⟨_, _, _, e, _⟩ := x; exact Heap.lt_size e
  | own y => obtain ⟨_, e⟩ := x; exact Heap.lt_size e
  | xd fs => obtain ⟨_, ⟨_, _, _, e, _⟩, _⟩ := x; exact Heap.lt_size e
  | rng lo hi => obtain ⟨_, _, _, e⟩ := x; exact Heap.lt_size e
  | frz ob u => obtain ⟨e, _⟩ := x; exact Heap.lt_size e
  | tbl ps => exact Heap.lt_size (show h.get? a = some _ from x)
  | met f y => exact Heap.lt_size (show h.get? a = some _ from x)
  | ext φ => obtain ⟨_, ⟨_, e⟩, _⟩ := x; exact Heap.lt_size e
theorem Paired.mapP {α β : Type} {F G : α → β → Prop} : ∀ {l₁ : List α} {l₂ : List β}, Paired F l₁ l₂ → (∀ a b, F a b → G a b) → Paired G l₁ l₂
  | _, _, .nil, _ => .nil
  | _, _, .cons r t, f => .cons (f _ _ r) (Paired.mapP t f)
/-- what an object's description leans on: its own object, its own dict, the tuples -/
theorem ObjOk.stay (x : ObjOk P w H h a o) (k : ∀ b u, (b = a ∨ H b = some (.own a)) → h.get? b = some u → h'.get? b = some u)
    (ho : ∀ b, H b = some (.own a) → H' b = some (.own a)) (ht : ∀ b xs, H b = some (.tup xs) → H' b = some (.tup xs)) : ObjOk P w H' h' a o := by
  induction o with
  | lst xs => obtain ⟨z, its, n, r, e⟩ := x; exact ⟨z, its, n, r, k _ _ (.inl rfl) e⟩
  | tup xs => obtain ⟨z, its, r, ob, e, c⟩ := x; exact ⟨z, its, r, ob, k _ _ (.inl rfl) e, c⟩
  | dK kvs => obtain ⟨z, y, vs, r, ob, es, ep, e, c⟩ := x; exact ⟨z, y, vs, r, ob, es, ep, k _ _ (.inl rfl) e, c⟩
  | dT kvs =>
    obtain ⟨z, y, xs, r, ob, es, ep, e, c⟩ := x
    exact ⟨z, y, xs, Paired.mapP r fun p q z => ⟨z.1, ht _ _ z.2.1, z.2.2⟩, ob, es, ep, k _ _ (.inl rfl) e, c⟩
  | set S n => obtain ⟨ob, es, ep, t, e, c⟩ := x; exact ⟨ob, es, ep, t, k _ _ (.inl rfl) e, c⟩
  | ins C dx fs =>
    obtain ⟨d, z, ne, e, mA, ⟨od, es, ep, e2, c⟩, r⟩ := x
    exact ⟨ho _ d, z, ne, k _ _ (.inl rfl) e, mA, ⟨od, es, ep, k _ _ (.inr d) e2, c⟩, r⟩
  | own y => obtain ⟨ob, e⟩ := x; exact ⟨ob, k _ _ (.inl rfl) e⟩
  | xd fs => obtain ⟨mA, ⟨od, es, ep, e, c⟩, r⟩ := x; exact ⟨mA, ⟨od, es, ep, k _ _ (.inl rfl) e, c⟩, r⟩
  | rng lo hi => obtain ⟨t, u, v, e⟩ := x; exact ⟨t, u, v, k _ _ (.inl rfl) e⟩
  | frz ob u ih => obtain ⟨e, q⟩ := x; exact ⟨k _ _ (.inl rfl) e, ih q⟩
  | tbl ps =>
    have e : h.get? a = some { cls := .none, data := .fields ps } := x
    show h'.get? a = some { cls := .none, data := .fields ps }
    exact k a _ (.inl rfl) e
  | met f y =>
    have e : h.get? a = some (PySem.W.methodObj (.ref f) (.ref y)) := x
    show h'.get? a = some (PySem.W.methodObj (.ref f) (.ref y))
    exact k a _ (.inl rfl) e
  | ext φ => obtain ⟨p, ⟨o, e⟩, st⟩ := x; exact ⟨st _ _ p fun o q => k _ _ (.inl rfl) q, ⟨o, k _ _ (.inl rfl) e⟩, st⟩
theorem HOk.lt (x : HOk P w H h) (e : H a = some o) : a < h.objs.size := (x a o e).lt
theorem HOk.fresh (x : HOk P w H h) (e : h.objs.size ≤ a) : H a = none := by
  cases q : H a with
  | none => rfl
  | some u => exact absurd (Nat.lt_of_lt_of_le (x.lt q) e) (Nat.lt_irrefl _)
/-- every object of the heap is kept -/
theorem HOk.kept (x : HOk P w H h) (k : ∀ b u, h.get? b = some u → h'.get? b = some u) : HOk P w H h' := fun a o e =>
  (x a o e).stay (fun b u _ q => k b u q) (fun _ q => q) fun _ _ q => q
/-- a new object is laid and tracked -/
theorem HOk.laid (x : HOk P w H h) (k : ∀ b u, h.get? b = some u → h'.get? b = some u) (hp : h.objs.size ≤ a) (new : ObjOk P w (upd H a o) h' a o) : HOk P w (upd H a o) h' := fun b u e => by
  have hn := x.fresh hp
  by_cases hb : b = a
  · subst hb; rw [upd_same] at e; cases e; exact new
  · rw [upd_ne hb] at e
    exact (x b u e).stay (fun c v _ q => k c v q) (fun c q => by rw [upd_ne (ne_of_none q hn)]; exact q) fun c xs q => by rw [upd_ne (ne_of_none q hn)]; exact q
end

/-- what may be read as u: it is u, or a known u -/
def Rd (H : Hp) (a : Addr) (u : HO) : Prop := H a = some u ∨ ∃ o, H a = some (.frz o u)
theorem Rd.ok {P : Program} {w : World} {H : Hp} {h : Heap} {a : Addr} {u : HO} (r : Rd H a u) (x : HOk P w H h) : ObjOk P w H h a u := by
  rcases r with r | ⟨o, r⟩
  · exact x a u r
  · obtain ⟨_, q⟩ := x a _ r
    exact q
/-- what may be written -/
def Mut : Option HO → Prop
  | some (.lst _) => True
  | some (.dK _) => True
  | some (.dT _) => True
  | some (.set _ _) => True
  | some (.ins _ _ _) => True
  | some (.ext _) => True
  | _ => False
section
variable {P : Program} {w : World} {H : Hp} {h h' : Heap} {x e : Addr} {o' : HO}
/-- the object at e is changed: x itself, or the dict of the instance x -/
theorem HOk.write (ok : HOk P w H h) (mu : Mut (H x)) (he : e = x ∨ H e = some (.own x)) (k : ∀ b u, b ≠ e → h.get? b = some u → h'.get? b = some u) (heo : ∃ u, h'.get? e = some u)
    (new : ObjOk P w (upd H x o') h' x o') : HOk P w (upd H x o') h' := fun b u q => by
  have nown : ∀ c y, H c = some (.own y) → c ≠ x := fun c y r z => by subst z; rw [r] at mu; exact mu
  have ntup : ∀ c xs, H c = some (.tup xs) → c ≠ x := fun c xs r z => by subst z; rw [r] at mu; exact mu
  by_cases hb : b = x
  · subst hb; rw [upd_same] at q; cases q; exact new
  · rw [upd_ne hb] at q
    by_cases hbe : b = e
    · have q' : H b = some (.own x) := by
        rcases he with z | z
        · exact absurd (hbe.trans z) hb
        · rw [hbe]; exact z
      rw [q] at q'; cases q'
      obtain ⟨v, hv⟩ := heo
      exact ⟨v, by rw [hbe]; exact hv⟩
    · refine (ok b u q).stay (fun c v hc r => k c v ?_ r) (fun c r => by rw [upd_ne (nown c b r)]; exact r) fun c xs r => by rw [upd_ne (ntup c xs r)]; exact r
      rcases hc with rfl | hc
      · exact hbe
      · rintro rfl
        rcases he with z | z
        · exact nown c b hc z
        · rw [hc] at z; cases z; exact hb rfl
end

/-! ### kept unless tracked; of the frames at fs (the callers') the slots may change (an exception that passes writes there); of the records at ex (iterators) nothing is said -/
structure Un (fs ex : List Addr) (H H' : Hp) (h h' : Heap) : Prop where
  keep : ∀ b o, h.get? b = some o → H b = none → b ∉ fs → b ∉ ex → h'.get? b = some o
  slot : ∀ b o, h.get? b = some o → H b = none → b ∈ fs → b ∉ ex → ∃ sl, h'.get? b = some { o with slots := sl }
  free : ∀ b o, h.get? b = some o → H b = none → b ∉ ex → H' b = none
  there : ∀ b o, h.get? b = some o → b ∉ ex → ∃ o', h'.get? b = some o'
  tups : ∀ b xs, H b = some (.tup xs) → H' b = some (.tup xs)
  frzs : ∀ b o u, H b = some (.frz o u) → H' b = some (.frz o u)
  tbls : ∀ b ps, H b = some (.tbl ps) → ∃ more, H' b = some (.tbl (ps ++ more))
section
variable {fs fs' ex ex' : List Addr} {H H1 H2 : Hp} {h h1 h2 h' : Heap} {a x e : Addr} {o : HO}
theorem Un.any (u : Un fs ex H H1 h h1) {b : Addr} {ob : Obj} (q : h.get? b = some ob) (n : H b = none) (hx : b ∉ ex) : ∃ sl, h1.get? b = some { ob with slots := sl } := by
  by_cases hb : b ∈ fs
  · exact u.slot b ob q n hb hx
  · exact ⟨ob.slots, u.keep b ob q n hb hx⟩
theorem Un.kept (k : ∀ b u, h.get? b = some u → h'.get? b = some u) : Un fs ex H H h h' :=
  ⟨fun b ob q _ _ _ => k b ob q, fun b ob q _ _ _ => ⟨ob.slots, k b ob q⟩, fun _ _ _ n _ => n, fun b ob q _ => ⟨ob, k b ob q⟩, fun _ _ q => q, fun _ _ _ q => q, fun _ ps q => ⟨#[], by rw [q]; simp⟩⟩
theorem Un.refl : Un fs ex H H h h := Un.kept fun _ _ q => q
theorem Un.laid (k : ∀ b u, h.get? b = some u → h'.get? b = some u) (hp : h.objs.size ≤ a) (hn : H a = none) : Un fs ex H (upd H a o) h h' where
  keep := fun b u q _ _ _ => k b u q
  slot := fun b u q _ _ _ => ⟨u.slots, k b u q⟩
  free := fun b u q n _ => by rw [upd_ne (Nat.ne_of_lt (Nat.lt_of_lt_of_le (Heap.lt_size q) hp))]; exact n
  there := fun b u q _ => ⟨u, k b u q⟩
  tups := fun b xs q => by rw [upd_ne (ne_of_none q hn)]; exact q
  frzs := fun b u xs q => by rw [upd_ne (ne_of_none q hn)]; exact q
  tbls := fun b ps q => ⟨#[], by rw [upd_ne (ne_of_none q hn), q]; simp⟩
theorem Un.write (mu : Mut (H x)) (he : e = x ∨ H e = some (.own x)) (k : ∀ b u, b ≠ e → h.get? b = some u → h'.get? b = some u) (heo : ∃ u, h'.get? e = some u) : Un fs ex H (upd H x o) h h' := by
  have hx : ∀ b, H b = none → b ≠ x := fun b n z => by subst z; rw [n] at mu; exact mu
  have hb : ∀ b, H b = none → b ≠ e := fun b n z => by
    subst z
    rcases he with r | r
    · exact hx b n r
    · rw [n] at r; cases r
  have hm : ∀ b u, H b = some u → ¬ Mut (some u) → b ≠ x := fun b u q nm z => by subst z; rw [q] at mu; exact nm mu
  refine ⟨fun b u q n _ _ => k b u (hb b n) q, fun b u q n _ _ => ⟨u.slots, k b u (hb b n) q⟩, fun b u q n _ => by rw [upd_ne (hx b n)]; exact n, fun b u q _ => ?_,
    fun b xs q => by rw [upd_ne (hm b _ q fun z => z)]; exact q, fun b u xs q => by rw [upd_ne (hm b _ q fun z => z)]; exact q, fun b ps q => ⟨#[], by rw [upd_ne (hm b _ q fun z => z), q]; simp⟩⟩
  by_cases hbe : b = e
  · subst hbe; exact heo
  · exact ⟨u, k b u hbe q⟩
end

/-! ### the heap without what is tracked -/
def trk (h : Heap) (H : Hp) : List Addr := (List.range h.objs.size).filter fun a => (H a).isSome
def hidT (h : Heap) (H : Hp) : Heap := PySem.W.hideAll h (trk h H)
theorem hidT_size (h : Heap) (H : Hp) : (hidT h H).objs.size = h.objs.size := PySem.W.hideAll_size _ _
theorem hidT_get {h : Heap} {H : Hp} {b : Addr} {o : Obj} (e : h.get? b = some o) (n : H b = none) : (hidT h H).get? b = some o :=
  PySem.W.hideAll_get _ e fun hm => by
    have q : (H b).isSome = true := (List.mem_filter.mp hm).2
    rw [n] at q; simp at q
theorem of_hidT {h : Heap} {H : Hp} {b : Addr} {o : Obj} (e : (hidT h H).get? b = some o) : h.get? b = some o ∧ H b = none := by
  have e' : h.get? b = some o := PySem.W.of_hideAll (trk h H) e
  refine ⟨e', ?_⟩
  cases q : H b with
  | none => rfl
  | some x =>
    have hm : b ∈ trk h H := List.mem_filter.mpr ⟨List.mem_range.mpr (Heap.lt_size e'), by simp [q]⟩
    have z : (hidT h H).get? b = none := PySem.W.hideAll_none (trk h H) hm
    rw [z] at e; cases e

/-! ### OpenK's ledger, filled with every new object but one -/
end L2

namespace L2
open PySem PySem.Spec PyProof.Rows

/-- the module's facts, over the base: the heap at the law's entry without what is tracked there -/
structure Mod (K : PySem.W.Frag) (mg : Str → Option Value) (base : Heap) : Prop where
  kin : K.In base
  glob : base.Ns mainGlobals mg
  blt : ∃ mb, base.Ns builtinsNs mb ∧ ∀ x : Str, x ≠ "__name__" → mb x = bootBuiltins x
  nolimit : base.NoLimit

/-- the context: a def's body (or a comprehension's block) running. base: fixed through the whole law; s₀, H₀: the entry; outer: the frames whose slots others may change (a def's callers); stack: all frames that run;
   ex: iterators that were made ahead of the entry and are walked here (a comprehension's); fn: the names whose cells were made at the entry (a def: all; a comprehension's block: its own); calm: not within an except suite; pn: pins that every state bears; xe: what is wanted of an exception that leaves the code -/
structure Cx where
  prog : Program
  w : World
  K : PySem.W.Frag
  mg : Str → Option Value
  base : Heap
  A : Around
  N : List Str
  s_0 : Shared
  H_0 : Hp
  env : Env
  outer : List Env
  stack : List Env
  ex : List Addr
  fn : Str → Bool
  calm : Bool
  pn : List (Addr × Obj)
  xe : Value → Shared → Prop
/-- the callers' frames -/
def frs (l : List Env) : List Addr := l.filterMap (·.frame)
abbrev Cx.fs (X : Cx) : List Addr := frs X.outer

def Vis (sc : Scope) (x : Str) : Prop := sc.names.lookup x = some .local ∨ sc.names.lookup x = some .cell ∨ sc.names.lookup x = some .free
def Loc (sc : Scope) (x : Str) : Prop := sc.names.lookup x = some .local ∨ sc.names.lookup x = some .cell
def Look (env : Env) (h : Heap) (m : Str → Option Value) (x : Str) (u : Value) : Prop :=
  (env.kindOf x = some .local ∧ m x = some u) ∨ ((env.kindOf x = some .cell ∨ env.kindOf x = some .free) ∧ ∃ c, env.cells.lookup x = some c ∧ h.IsCell c (some u))

structure Cx.Ok (X : Cx) : Prop where
  mod : Mod X.K X.mg X.base
  kind : X.env.scope.kind = .function
  glob : X.env.globals = mainGlobals
  blt : X.env.builtins = builtinsNs
  above : X.s_0.heap.objs.size ≤ X.env.locals
  inj : ∀ x y c, X.env.cells.lookup x = some c → X.env.cells.lookup y = some c → x = y
  has : ∀ x, (X.env.kindOf x = some .cell ∨ X.env.kindOf x = some .free) → ∃ c, X.env.cells.lookup x = some c
  cab : ∀ x c, X.fn x = true → X.env.cells.lookup x = some c → X.s_0.heap.objs.size ≤ c
  hd : X.calm = true → X.A.handled = none
  frames : X.A.frames = some X.stack
  stk : X.stack = X.outer ∨ (X.stack = X.env :: X.outer ∧ X.env.frame = some X.env.locals)
  exf : ∀ b ∈ X.ex, b ≠ X.env.locals ∧ ∀ x c, X.env.cells.lookup x = some c → c ≠ b
  bs : ∀ b o, X.base.get? b = some o → X.s_0.heap.get? b = some o ∧ X.H_0 b = none
  bsz : X.base.objs.size ≤ X.s_0.heap.objs.size
  noex : ∀ b o, X.base.get? b = some o → b ∉ X.ex
  exfs : ∀ b ∈ X.ex, b ∉ X.fs
  funs : X.s_0.heap.FunFrames X.base X.outer
  frf : ∀ b ∈ X.fs, X.H_0 b = none

structure Inv (X : Cx) (pins : List (Addr × Obj)) (σ : List (Option V)) (H : Hp) (s : Shared) : Prop where
  ok : X.Ok
  os : s.os = X.s_0.os
  bare : AllBare s.gens
  base : Un X.fs X.ex X.H_0 H X.s_0.heap s.heap
  loc : ∃ m, s.heap.Ns X.env.locals m ∧ ∀ (i : Nat) (x : Str) (v : V), X.N[i]? = some x → σ[i]? = some (some v) → Vis X.env.scope x → ∃ u, RelV v u ∧ Look X.env s.heap m x u
  cell : ∀ x c, X.env.cells.lookup x = some c → ∃ v, s.heap.IsCell c v
  free : H X.env.locals = none
  freeC : ∀ x c, X.env.cells.lookup x = some c → H c = none
  pin : ∀ p ∈ X.pn ++ pins, s.heap.get? p.1 = some p.2 ∧ H p.1 = none ∧ p.1 ≠ X.env.locals ∧ p.1 ∉ X.fs ∧ ∀ v, p.2.data ≠ .cell v
  hok : HOk X.prog X.w H s.heap
  len : σ.length = X.N.length

section
variable {X : Cx} {pins : List (Addr × Obj)} {σ : List (Option V)} {H H' : Hp} {s : Shared} {h' : Heap}

theorem Cx.Ok.nofr (ok : X.Ok) {b : Addr} {o : Obj} (e : X.base.get? b = some o) : b ∉ X.fs := fun hb => by
  have := (ok.funs.mem hb).1
  rw [e] at this; cases this
theorem Inv.bs (I : Inv X pins σ H s) : ∀ b o, X.base.get? b = some o → s.heap.get? b = some o ∧ H b = none := fun b o e =>
  ⟨I.base.keep b o (I.ok.bs b o e).1 (I.ok.bs b o e).2 (I.ok.nofr e) (I.ok.noex b o e), I.base.free b o (I.ok.bs b o e).1 (I.ok.bs b o e).2 (I.ok.noex b o e)⟩
theorem Inv.bk (I : Inv X pins σ H s) : ∀ b o, X.base.get? b = some o → s.heap.get? b = some o := fun b o e => (I.bs b o e).1
theorem Inv.mod (I : Inv X pins σ H s) : Mod X.K X.mg X.base := I.ok.mod
theorem Inv.kIn (I : Inv X pins σ H s) : X.K.In s.heap := I.ok.mod.kin.keeps I.bk
theorem Inv.lt (I : Inv X pins σ H s) : X.env.locals < s.heap.objs.size := let ⟨_, hn, _⟩ := I.loc; hn.lt
theorem Inv.sz (I : Inv X pins σ H s) : X.s_0.heap.objs.size ≤ s.heap.objs.size := Nat.le_trans I.ok.above (Nat.le_of_lt I.lt)
theorem Inv.nofs (I : Inv X pins σ H s) {a : Addr} (h : s.heap.objs.size ≤ a) : a ∉ X.fs := fun hb => by
  obtain ⟨_, o, ho, _⟩ := I.ok.funs.mem hb
  exact absurd (Nat.lt_of_lt_of_le (Heap.lt_size ho) (Nat.le_trans I.sz h)) (Nat.lt_irrefl _)
theorem Inv.cne (I : Inv X pins σ H s) : ∀ x c, X.env.cells.lookup x = some c → c ≠ X.env.locals := fun x c e z => by
  obtain ⟨v, o, ho, hd⟩ := I.cell x c e
  obtain ⟨m, ⟨o', es, ep, ho', hd', _⟩, _⟩ := I.loc
  rw [z, ho'] at ho; cases ho; rw [hd'] at hd; cases hd
theorem Inv.funs (I : Inv X pins σ H s) : s.heap.FunFrames X.base X.outer := by
  have all : ∀ (l : List Env), (∀ b ∈ frs l, b ∈ X.fs) → X.s_0.heap.FunFrames X.base l → s.heap.FunFrames X.base l := by
    intro l
    induction l with
    | nil => intro _ _; trivial
    | cons env r ih =>
      intro hs hl
      obtain ⟨hk, ⟨L, o, hf, hn, ho, hd⟩, hr⟩ := hl
      have hL : L ∈ X.fs := hs L (by unfold frs; rw [List.filterMap_cons, hf]; exact List.mem_cons_self)
      obtain ⟨sl, e⟩ := I.base.slot L o ho (I.ok.frf L hL) hL fun z => I.ok.exfs L z hL
      exact ⟨hk, ⟨L, _, hf, hn, e, hd⟩, ih (fun b hb => hs b (by unfold frs; rw [List.filterMap_cons, hf]; exact List.mem_cons_of_mem _ hb)) hr⟩
  exact all X.outer (fun _ hb => hb) I.ok.funs

/-- the frames that run, for a call -/
theorem Inv.stack (I : Inv X pins σ H s) : s.heap.FunFrames X.base X.stack := by
  rcases I.ok.stk with e | ⟨e, hf⟩
  · rw [e]; exact I.funs
  · rw [e]
    obtain ⟨m, hn, _⟩ := I.loc
    refine .cons (by rw [I.ok.kind]; decide) hf hn ?_ I.funs
    exact Heap.get?_none_of_le (Nat.le_trans I.ok.bsz I.ok.above)
theorem Inv.stkSub (I : Inv X pins σ H s) : ∀ b ∈ frs X.stack, b ∈ X.env.locals :: X.fs := fun b hb => by
  rcases I.ok.stk with e | ⟨e, hf⟩
  · rw [e] at hb; exact List.mem_cons_of_mem _ hb
  · rw [e] at hb
    unfold frs at hb
    rw [List.filterMap_cons, hf] at hb
    exact hb
theorem Inv.stkFree (I : Inv X pins σ H s) : ∀ b ∈ frs X.stack, H b = none := fun b hb => by
  rcases List.mem_cons.mp (I.stkSub b hb) with e | hb
  · rw [e]; exact I.free
  · obtain ⟨_, o, ho, _⟩ := I.ok.funs.mem hb
    exact I.base.free b o ho (I.ok.frf b hb) fun z => I.ok.exfs b z hb

/-- THE STEP: the untracked objects but the frame and the records at ch are kept (the callers' frames up to slots), the frame's map is kept, the new abstract heap is held -/
theorem Inv.step {g' : Array GenState} {t' : Nat} {d' : Drawn} {ch : List Addr} (I : Inv X pins σ H s)
    (hch : ∀ b ∈ ch, (b ∈ X.ex ∨ X.s_0.heap.objs.size ≤ b) ∧ b ≠ X.env.locals ∧ (∀ x c, X.env.cells.lookup x = some c → c ≠ b) ∧ ∀ p ∈ X.pn ++ pins, p.1 ≠ b)
    (keep : ∀ b o, b ≠ X.env.locals → b ∉ X.fs → b ∉ ch → s.heap.get? b = some o → H b = none → h'.get? b = some o)
    (slot : ∀ b o, b ≠ X.env.locals → b ∈ X.fs → b ∉ ch → s.heap.get? b = some o → H b = none → ∃ sl, h'.get? b = some { o with slots := sl }) (free : ∀ b o, b ∉ ch → s.heap.get? b = some o → H b = none → H' b = none)
    (there : ∀ b o, b ∉ ch → s.heap.get? b = some o → ∃ o', h'.get? b = some o')
    (tups : ∀ b xs, H b = some (.tup xs) → H' b = some (.tup xs)) (frzs : ∀ b o u, H b = some (.frz o u) → H' b = some (.frz o u)) (tbls : ∀ b ps, H b = some (.tbl ps) → ∃ more, H' b = some (.tbl (ps ++ more)))
    (ns : ∀ m, s.heap.Ns X.env.locals m → h'.Ns X.env.locals m) (hok : HOk X.prog X.w H' h') (hg : AllBare g') :
    Inv X pins σ H' { s with heap := h', gens := g', drawn := d', toks := t' } := by
  have neL : ∀ b o, X.s_0.heap.get? b = some o → b ≠ X.env.locals := fun b o e => Nat.ne_of_lt (Nat.lt_of_lt_of_le (Heap.lt_size e) I.ok.above)
  have neC : ∀ b o, X.s_0.heap.get? b = some o → b ∉ X.ex → b ∉ ch := fun b o e hx hb => by
    rcases (hch b hb).1 with z | z
    · exact hx z
    · exact absurd (Nat.lt_of_lt_of_le (Heap.lt_size e) z) (Nat.lt_irrefl _)
  have cellK : ∀ x c, X.env.cells.lookup x = some c → ∀ v, s.heap.IsCell c v → h'.IsCell c v := fun x c e v ⟨o, ho, hd⟩ => by
    have nch : c ∉ ch := fun z => (hch c z).2.2.1 x c e rfl
    by_cases hc : c ∈ X.fs
    · obtain ⟨sl, q⟩ := slot c o (I.cne x c e) hc nch ho (I.freeC x c e)
      exact ⟨_, q, hd⟩
    · exact ⟨o, keep c o (I.cne x c e) hc nch ho (I.freeC x c e), hd⟩
  refine ⟨I.ok, I.os, hg, ⟨fun b o e n hb hx => ?_, fun b o e n hb hx => ?_, fun b o e n hx => ?_, fun b o e hx => ?_, fun b xs e => tups b xs (I.base.tups b xs e), fun b o xs e => frzs b o xs (I.base.frzs b o xs e), fun b ps e => ?_⟩, ?_, fun x c e => ?_, ?_, fun x c e => ?_, fun p hp => ?_, hok, I.len⟩
  · exact keep b o (neL b o e) hb (neC b o e hx) (I.base.keep b o e n hb hx) (I.base.free b o e n hx)
  · obtain ⟨sl, e1⟩ := I.base.slot b o e n hb hx
    obtain ⟨sl', e2⟩ := slot b _ (neL b o e) hb (neC b o e hx) e1 (I.base.free b o e n hx)
    exact ⟨sl', e2⟩
  · obtain ⟨o', e1⟩ := I.base.there b o e hx
    exact free b o' (neC b o e hx) e1 (I.base.free b o e n hx)
  · obtain ⟨o', e1⟩ := I.base.there b o e hx
    exact there b o' (neC b o e hx) e1
  · obtain ⟨m1, e1⟩ := I.base.tbls b ps e
    obtain ⟨m2, e2⟩ := tbls b _ e1
    exact ⟨m1 ++ m2, by rw [e2, Array.append_assoc]⟩
  · obtain ⟨m, hn, hl⟩ := I.loc
    refine ⟨m, ns m hn, fun i x v e1 e2 e3 => ?_⟩
    obtain ⟨u, r, l⟩ := hl i x v e1 e2 e3
    refine ⟨u, r, ?_⟩
    rcases l with l | ⟨k, c, e, z⟩
    · exact .inl l
    · exact .inr ⟨k, c, e, cellK x c e _ z⟩
  · obtain ⟨v, z⟩ := I.cell x c e
    exact ⟨v, cellK x c e v z⟩
  · obtain ⟨m, ⟨o, _, _, ho, _⟩, _⟩ := I.loc
    exact free _ o (fun z => (hch _ z).2.1 rfl) ho I.free
  · obtain ⟨v, o, ho, hd⟩ := I.cell x c e
    exact free c o (fun z => (hch c z).2.2.1 x c e rfl) ho (I.freeC x c e)
  · obtain ⟨e, n, ne, nf, d⟩ := I.pin p hp
    have nch : p.1 ∉ ch := fun z => (hch p.1 z).2.2.2 p hp rfl
    exact ⟨keep p.1 p.2 ne nf nch e n, free p.1 p.2 nch e n, ne, nf, d⟩
/-- .. where the frame's own object is kept too -/
theorem Inv.un {t' : Nat} (I : Inv X pins σ H s) (u : Un X.fs [] H H' s.heap h') (hok : HOk X.prog X.w H' h') : Inv X pins σ H' { s with heap := h', toks := t' } := by
  obtain ⟨m, ⟨o, es, ep, ho, r⟩, _⟩ := id I.loc
  obtain ⟨sl, hL⟩ := u.any ho I.free (by simp)
  exact I.step (g' := s.gens) (d' := s.drawn) (ch := []) (fun _ z => nomatch z) (fun b o _ hb _ e n => u.keep b o e n hb (by simp)) (fun b o _ hb _ e n => u.slot b o e n hb (by simp)) (fun b o _ e n => u.free b o e n (by simp)) (fun b o _ e => u.there b o e (by simp)) u.tups u.frzs u.tbls (fun m' hm => by
    obtain ⟨o', es', ep', ho', r'⟩ := hm
    rw [ho] at ho'; cases ho'
    exact ⟨_, es', ep', hL, r'⟩) hok I.bare
/-- behind a call (or a comprehension's block): the slots of this frame may have changed too, the records at ch may have turned -/
theorem Inv.call {g' : Array GenState} {t' : Nat} {d' : Drawn} {ch : List Addr} (I : Inv X pins σ H s) (u : Un (frs X.stack) ch H H' s.heap h') (hok : HOk X.prog X.w H' h') (hg : AllBare g')
    (hch : ∀ b ∈ ch, (b ∈ X.ex ∨ X.s_0.heap.objs.size ≤ b) ∧ b ≠ X.env.locals ∧ (∀ x c, X.env.cells.lookup x = some c → c ≠ b) ∧ ∀ p ∈ X.pn ++ pins, p.1 ≠ b) :
    Inv X pins σ H' { s with heap := h', gens := g', drawn := d', toks := t' } := by
  obtain ⟨m, ⟨o, es, ep, ho, r⟩, _⟩ := id I.loc
  obtain ⟨sl, hL⟩ := u.any ho I.free fun z => (hch _ z).2.1 rfl
  exact I.step (ch := ch) hch (fun b o hL hb hc e n => u.keep b o e n (fun z => (List.mem_cons.mp (I.stkSub b z)).elim hL hb) hc) (fun b o _ _ hc e n => u.any e n hc) (fun b o hc e n => u.free b o e n hc) (fun b o hc e => u.there b o e hc) u.tups u.frzs u.tbls (fun m' hm => by
    obtain ⟨o', es', ep', ho', r'⟩ := hm
    rw [ho] at ho'; cases ho'
    exact ⟨_, es', ep', hL, r'⟩) hok hg
/-- an untracked record of ours (an iterator) has turned -/
theorem Inv.turned {t' : Nat} {it : Addr} (I : Inv X pins σ H s) (k : ∀ b o, b ≠ it → s.heap.get? b = some o → h'.get? b = some o) (hn : H it = none) (hL : it ≠ X.env.locals)
    (h1 : it ∈ X.ex ∨ X.s_0.heap.objs.size ≤ it) (h2 : ∀ x c, X.env.cells.lookup x = some c → c ≠ it) (h3 : ∀ p ∈ X.pn ++ pins, p.1 ≠ it) : Inv X pins σ H { s with heap := h', toks := t' } := by
  have nit : ∀ b u, H b = some u → b ≠ it := fun b u e z => by rw [z, hn] at e; cases e
  refine I.step (g' := s.gens) (d' := s.drawn) (ch := [it]) (fun b hb => ?_) (fun b o _ _ hc e _ => k b o (fun z => hc (by simp [z])) e) (fun b o _ _ hc e _ => ⟨o.slots, k b o (fun z => hc (by simp [z])) e⟩) (fun _ _ _ _ n => n)
    (fun b o hc e => ⟨o, k b o (fun z => hc (by simp [z])) e⟩) (fun _ _ e => e) (fun _ _ _ e => e) (fun b ps e => ⟨#[], by rw [e]; simp⟩) (fun m hm => ?_) (fun b u e => ?_) I.bare
  · have e : b = it := by simpa using hb
    subst e
    exact ⟨h1, hL, h2, h3⟩
  · obtain ⟨o, es, ep, ho, r⟩ := hm
    exact ⟨o, es, ep, k _ o (Ne.symm hL) ho, r⟩
  · refine (I.hok b u e).stay (fun c v hc q => k c v ?_ q) (fun _ q => q) fun _ _ q => q
    rcases hc with z | z
    · rw [z]; exact nit b u e
    · exact nit c _ z
theorem Inv.tok (I : Inv X pins σ H s) (t : Nat) : Inv X pins σ H { s with toks := t } := I.un (h' := s.heap) (t' := t) Un.refl I.hok
/-- all objects kept -/
theorem Inv.kept {t' : Nat} (I : Inv X pins σ H s) (k : ∀ b u, s.heap.get? b = some u → h'.get? b = some u) : Inv X pins σ H { s with heap := h', toks := t' } := I.un (Un.kept k) (I.hok.kept k)
/-- a new object laid and tracked -/
theorem Inv.laid {a : Addr} {o : HO} {t' : Nat} (I : Inv X pins σ H s) (k : ∀ b u, s.heap.get? b = some u → h'.get? b = some u) (hp : s.heap.objs.size ≤ a) (new : ObjOk X.prog X.w (upd H a o) h' a o) :
    Inv X pins σ (upd H a o) { s with heap := h', toks := t' } := I.un (Un.laid k hp (I.hok.fresh hp)) (I.hok.laid k hp new)
/-- an object written -/
theorem Inv.write {x e : Addr} {o : HO} {t' : Nat} (I : Inv X pins σ H s) (mu : Mut (H x)) (he : e = x ∨ H e = some (.own x)) (k : ∀ b u, b ≠ e → s.heap.get? b = some u → h'.get? b = some u) (heo : ∃ u, h'.get? e = some u)
    (new : ObjOk X.prog X.w (upd H x o) h' x o) : Inv X pins σ (upd H x o) { s with heap := h', toks := t' } := I.un (Un.write mu he k heo) (I.hok.write mu he k heo new)
/-- forgetting slots, pins -/
theorem Inv.weak {σ' : List (Option V)} (I : Inv X pins σ H s) (hl : σ'.length = σ.length) (w : ∀ (i : Nat) v, σ'[i]? = some (some v) → σ[i]? = some (some v)) : Inv X pins σ' H s :=
  ⟨I.ok, I.os, I.bare, I.base, let ⟨m, hn, hl'⟩ := I.loc; ⟨m, hn, fun i x v e1 e2 e3 => hl' i x v e1 (w i v e2) e3⟩, I.cell, I.free, I.freeC, I.pin, I.hok, hl.trans I.len⟩
theorem Inv.pins_of {pins' : List (Addr × Obj)} (I : Inv X pins σ H s) (h : ∀ p ∈ pins', s.heap.get? p.1 = some p.2 ∧ H p.1 = none ∧ p.1 ≠ X.env.locals ∧ p.1 ∉ X.fs ∧ ∀ v, p.2.data ≠ .cell v) : Inv X pins' σ H s :=
  ⟨I.ok, I.os, I.bare, I.base, I.loc, I.cell, I.free, I.freeC, fun p hp => (List.mem_append.mp hp).elim (fun z => I.pin p (List.mem_append_left _ z)) (h p), I.hok, I.len⟩

theorem nodup_ix {N : List Str} (hN : N.Nodup) {i j : Nat} {x : Str} (a : N[i]? = some x) (b : N[j]? = some x) : i = j := by
  obtain ⟨h1, e1⟩ := List.getElem?_eq_some_iff.mp a
  obtain ⟨h2, e2⟩ := List.getElem?_eq_some_iff.mp b
  exact (List.getElem_inj hN).mp (e1.trans e2.symm)

/-- a name is stored; what changed -/
theorem store_ok2 {M : Model} {A : Around} {E : Value → Shared → Prop} {i : Nat} {x : Str} {v : V} {u : Value} {Q : Unit → Shared → Prop} (I : Inv X pins σ H s) (hN : X.N.Nodup) (hi : X.N[i]? = some x) (hx : Loc X.env.scope x) (r : RelV v u)
    (h : ∀ s', Inv X pins (σ.set i (some v)) H s' → (∃ a, Heap.SameBut a s.heap s'.heap ∧ (a = X.env.locals ∨ X.env.cells.lookup x = some a)) → Q () s') (hf : X.fn x = true ∨ X.env.scope.names.lookup x = some .local := by first | exact .inl rfl | exact .inr rfl | assumption) : wpAny M A (storeName X.env x u) Q E s := by
  obtain ⟨m, hn, hl⟩ := id I.loc
  have hcls : (X.env.scope.kind == .class || (X.env.scope.kind == .module && X.env.locals != X.env.globals)) = false := by rw [I.ok.kind]; rfl
  have hiσ : i < σ.length := by rw [I.len]; exact (List.getElem?_eq_some_iff.mp hi).1
  have cne := I.cne
  have tracked : ∀ {a : Addr} {h' : Heap}, (∃ o, s.heap.get? a = some o ∧ H a = none) → Heap.SameBut a s.heap h' → HOk X.prog X.w H h' := fun {a h'} ha hs b ob e => by
    obtain ⟨_, _, hfree⟩ := ha
    refine (I.hok b ob e).stay (fun c w' hc q => (hs.2 c ?_).trans q) (fun _ q => q) fun _ _ q => q
    rintro rfl
    rcases hc with rfl | hc
    · rw [hfree] at e; cases e
    · rw [hfree] at hc; cases hc
  rcases hx with hk | hk
  · refine wpAny_storeName_local hk hn (fun h' hn' hs => ?_) hcls
    obtain ⟨oL, _, _, hoL, _⟩ := id hn
    refine h _ ⟨I.ok, I.os, I.bare, ⟨fun b o e n hb hx => ?_, fun b o e n hb hx => ?_, I.base.free, fun b o e hx => ?_, I.base.tups, I.base.frzs, I.base.tbls⟩, ⟨_, hn', fun j y v' e1 e2 e3 => ?_⟩, fun y c e => ?_, I.free, I.freeC, fun p hp => ?_, tracked ⟨oL, hoL, I.free⟩ hs, by simpa using I.len⟩ ⟨_, hs, .inl rfl⟩
    · exact (hs.2 b (Nat.ne_of_lt (Nat.lt_of_lt_of_le (Heap.lt_size e) I.ok.above))).trans (I.base.keep b o e n hb hx)
    · obtain ⟨sl, e1⟩ := I.base.slot b o e n hb hx
      exact ⟨sl, (hs.2 b (Nat.ne_of_lt (Nat.lt_of_lt_of_le (Heap.lt_size e) I.ok.above))).trans e1⟩
    · obtain ⟨o', e1⟩ := I.base.there b o e hx
      exact ⟨o', (hs.2 b (Nat.ne_of_lt (Nat.lt_of_lt_of_le (Heap.lt_size e) I.ok.above))).trans e1⟩
    · by_cases hj : j = i
      · subst hj
        rw [hi] at e1; cases e1
        rw [List.getElem?_set_self hiσ] at e2
        cases e2
        exact ⟨u, r, .inl ⟨hk, by simp⟩⟩
      · rw [List.getElem?_set_ne (Ne.symm hj)] at e2
        obtain ⟨u', r', q⟩ := hl j y v' e1 e2 e3
        refine ⟨u', r', ?_⟩
        rcases q with ⟨k, e⟩ | ⟨k, c, e, z⟩
        · refine .inl ⟨k, ?_⟩
          have : y ≠ x := fun e => hj (nodup_ix hN e1 (e ▸ hi))
          simp [this, e]
        · exact .inr ⟨k, c, e, z.sameBut hs (cne y c e)⟩
    · obtain ⟨w', z⟩ := I.cell y c e
      exact ⟨w', z.sameBut hs (cne y c e)⟩
    · obtain ⟨e, n, ne, nf, d⟩ := I.pin p hp
      exact ⟨(hs.2 p.1 ne).trans e, n, ne, nf, d⟩
  · have hfn : X.fn x = true := by
      rcases hf with z | z
      · exact z
      · rw [z] at hk; cases hk
    obtain ⟨c, hc⟩ := I.ok.has x (.inl hk)
    obtain ⟨w', z⟩ := I.cell x c hc
    refine wpAny_storeName_cell I.ok.kind hk hc z (fun h' hc' hs => ?_)
    obtain ⟨oc, hoc, hocd⟩ := id z
    refine h { s with heap := h' } ⟨I.ok, I.os, I.bare, ⟨fun b o e n hb hx => ?_, fun b o e n hb hx => ?_, I.base.free, fun b o e hx => ?_, I.base.tups, I.base.frzs, I.base.tbls⟩, ⟨m, hn.sameBut hs (Ne.symm (cne x c hc)), fun j y v' e1 e2 e3 => ?_⟩, fun y c' e => ?_, I.free, I.freeC, fun p hp => ?_, tracked ⟨oc, hoc, I.freeC x c hc⟩ hs, by simpa using I.len⟩ ⟨c, hs, .inr hc⟩
    · exact (hs.2 b (Nat.ne_of_lt (Nat.lt_of_lt_of_le (Heap.lt_size e) (I.ok.cab x c hfn hc)))).trans (I.base.keep b o e n hb hx)
    · obtain ⟨sl, e1⟩ := I.base.slot b o e n hb hx
      exact ⟨sl, (hs.2 b (Nat.ne_of_lt (Nat.lt_of_lt_of_le (Heap.lt_size e) (I.ok.cab x c hfn hc)))).trans e1⟩
    · obtain ⟨o', e1⟩ := I.base.there b o e hx
      exact ⟨o', (hs.2 b (Nat.ne_of_lt (Nat.lt_of_lt_of_le (Heap.lt_size e) (I.ok.cab x c hfn hc)))).trans e1⟩
    · by_cases hj : j = i
      · subst hj
        rw [hi] at e1; cases e1
        rw [List.getElem?_set_self hiσ] at e2
        cases e2
        exact ⟨u, r, .inr ⟨.inl hk, c, hc, hc'⟩⟩
      · rw [List.getElem?_set_ne (Ne.symm hj)] at e2
        obtain ⟨u', r', q⟩ := hl j y v' e1 e2 e3
        refine ⟨u', r', ?_⟩
        rcases q with q | ⟨k, c', e, z'⟩
        · exact .inl q
        · refine .inr ⟨k, c', e, z'.sameBut hs ?_⟩
          rintro rfl
          exact hj (nodup_ix hN e1 (I.ok.inj _ _ _ e hc ▸ hi))
    · by_cases hcc : c' = c
      · subst hcc; exact ⟨_, hc'⟩
      · obtain ⟨w2, z2⟩ := I.cell y c' e
        exact ⟨w2, z2.sameBut hs hcc⟩
    · obtain ⟨e, n, ne, nf, d⟩ := I.pin p hp
      refine ⟨(hs.2 p.1 ?_).trans e, n, ne, nf, d⟩
      intro q
      rw [q, hoc] at e
      have q' : oc = p.2 := Option.some.inj e
      exact d w' (by rw [← q']; exact hocd)
theorem store_ok {M : Model} {A : Around} {E : Value → Shared → Prop} {i : Nat} {x : Str} {v : V} {u : Value} {Q : Unit → Shared → Prop} (I : Inv X pins σ H s) (hN : X.N.Nodup) (hi : X.N[i]? = some x) (hx : Loc X.env.scope x) (r : RelV v u)
    (h : ∀ s', Inv X pins (σ.set i (some v)) H s' → Q () s') (hf : X.fn x = true ∨ X.env.scope.names.lookup x = some .local := by first | exact .inl rfl | exact .inr rfl | assumption) : wpAny M A (storeName X.env x u) Q E s :=
  store_ok2 I hN hi hx r (fun s' I' _ => h s' I') hf
/-- behind a call or a block, the state as it is -/
theorem Inv.call' {s' : Shared} {ch : List Addr} (I : Inv X pins σ H s) (ho : s'.os = s.os) (u : Un (frs X.stack) ch H H' s.heap s'.heap) (hok : HOk X.prog X.w H' s'.heap) (hg : AllBare s'.gens)
    (hch : ∀ b ∈ ch, (b ∈ X.ex ∨ X.s_0.heap.objs.size ≤ b) ∧ b ≠ X.env.locals ∧ (∀ x c, X.env.cells.lookup x = some c → c ≠ b) ∧ ∀ p ∈ X.pn ++ pins, p.1 ≠ b) : Inv X pins σ H' s' := by
  obtain ⟨h', g', d', t', o'⟩ := s'
  have e : o' = s.os := ho
  subst e
  exact I.call (g' := g') (t' := t') (d' := d') u hok hg hch
end

/-! ### the judgements -/
/-- an exception: its class, its own dict's address (where it has one), the abstract heap behind it -/
abbrev XK := Value → Option Addr → Hp → Prop
abbrev St := List (Option V)
abbrev VK := V → Hp → Prop
/-- an expression's reading; a test's; an argument list's -/
abbrev TE := St → Hp → VK → Prop
abbrev TT := St → Hp → (Bool → Hp → Prop) → Prop
abbrev TA := St → Hp → (List V → Hp → Prop) → Prop
/-- what is wanted behind a statement -/
structure Ends where
  nx : St → Hp → Prop
  rt : VK
  bk : St → Hp → Prop := fun _ _ => False
  ct : St → Hp → Prop := fun _ _ => False
abbrev TS := Ends → St → Hp → Prop

def EP (X : Cx) (pins : List (Addr × Obj)) (σ : St) (Q : VK) (u : Value) (s' : Shared) : Prop := ∃ v H', Inv X pins σ H' s' ∧ RelV v u ∧ Q v H'
def TP (X : Cx) (pins : List (Addr × Obj)) (σ : St) (Q : Bool → Hp → Prop) (b : Bool) (s' : Shared) : Prop := ∃ H', Inv X pins σ H' s' ∧ Q b H'
def AP (X : Cx) (pins : List (Addr × Obj)) (σ : St) (Q : List V → Hp → Prop) (us : List Value) (s' : Shared) : Prop := ∃ vs H', Inv X pins σ H' s' ∧ Vals vs us ∧ Q vs H'
def SP (X : Cx) (pins : List (Addr × Obj)) (D : Ends) (f : Flow) (s' : Shared) : Prop :=
  match f with
  | .next => ∃ σ' H', Inv X pins σ' H' s' ∧ D.nx σ' H'
  | .brk => ∃ σ' H', Inv X pins σ' H' s' ∧ D.bk σ' H'
  | .cont => ∃ σ' H', Inv X pins σ' H' s' ∧ D.ct σ' H'
  | .ret u => ∃ v σ' H', Inv X pins σ' H' s' ∧ RelV v u ∧ D.rt v H'

def PE (X : Cx) (e : Expr) (t : TE) : Prop :=
  ∀ (pins : List (Addr × Obj)) (s : Shared) (σ : St) (H : Hp) (Q : VK), Inv X pins σ H s → t σ H Q → wpAny (model X.prog X.w) X.A (eval e X.env) (EP X pins σ Q) X.xe s
def PT (X : Cx) (e : Expr) (t : TT) : Prop :=
  ∀ (pins : List (Addr × Obj)) (s : Shared) (σ : St) (H : Hp) (Q : Bool → Hp → Prop), Inv X pins σ H s → t σ H Q → wpAny (model X.prog X.w) X.A (isTrue e X.env (eval e X.env)) (TP X pins σ Q) X.xe s
/-- a test whatever its 'whole' is (and, or) -/
def PW (X : Cx) (e : Expr) (t : TT) : Prop :=
  ∀ (whole : Sem Value) (pins : List (Addr × Obj)) (s : Shared) (σ : St) (H : Hp) (Q : Bool → Hp → Prop), Inv X pins σ H s → t σ H Q → wpAny (model X.prog X.w) X.A (isTrue e X.env whole) (TP X pins σ Q) X.xe s
theorem PW.pt {X : Cx} {e : Expr} {t : TT} (h : PW X e t) : PT X e t := h _
/-- an argument list (no star), from the left -/
def PA (X : Cx) (es : List Expr) (t : TA) : Prop :=
  ∀ (pos : Pos) (pins : List (Addr × Obj)) (s : Shared) (σ : St) (H : Hp) (Q : List V → Hp → Prop), Inv X pins σ H s → t σ H Q → wpAny (model X.prog X.w) X.A (spliced (backTo pos (starEach es X.env))) (AP X pins σ Q) X.xe s
def PS (X : Cx) (st : Stmt) (t : TS) : Prop :=
  ∀ (pins : List (Addr × Obj)) (s : Shared) (σ : St) (H : Hp) (D : Ends), Inv X pins σ H s → t D σ H → wpAny (model X.prog X.w) X.A (exec st X.env) (SP X pins D) X.xe s
def PSs (X : Cx) (st : List Stmt) (t : TS) : Prop :=
  ∀ (pins : List (Addr × Obj)) (s : Shared) (σ : St) (H : Hp) (D : Ends), Inv X pins σ H s → t D σ H → wpAny (model X.prog X.w) X.A (execs st X.env) (SP X pins D) X.xe s
/-- weaken the end -/
theorem thn {α : Type} {t : Sem α} {Q Q' : α → Shared → Prop} {M : Model} {A : Around} {E : Value → Shared → Prop} {s : Shared} (h : wpAny M A t Q E s) (hQ : ∀ a s, Q a s → Q' a s) : wpAny M A t Q' E s := wpAny_mono h hQ fun _ _ x => x
end L2

namespace L2
open PySem PySem.Spec PyProof.Rows
section
variable {X : Cx}


/-! ### names and constants -/
def tVar (i : Nat) : TE := fun σ H Q => ∃ v, σ[i]? = some (some v) ∧ Q v H
def tC (v : V) : TE := fun _ H Q => Q v H
theorem pe_var {i : Nat} {x : Str} {pos : Pos} (hN : X.N[i]? = some x) (hv : Vis X.env.scope x) (hd : (x == ("__debug__" : Str)) = false := by decide) (hcd : (x == ("__classdict__" : Str)) = false := by decide) : PE X (.Name x pos) (tVar i) := by
  intro pins s σ H Q I h
  obtain ⟨v, e, h⟩ := h
  obtain ⟨m, hn, hl⟩ := I.loc
  obtain ⟨u, r, l⟩ := hl i x v hN e hv
  have fin : EP X pins σ Q u s := ⟨v, H, I, r, h⟩
  rcases l with ⟨hk, hm⟩ | ⟨hk, c, hc, hcell⟩
  · exact wpAny_Name (wpAny_loadName_local I.ok.kind hk hn hm fin) hd
  · rcases hk with hk | hk
    · exact wpAny_Name (wpAny_loadName_cell I.ok.kind hk hc hcell fin) hd
    · exact wpAny_Name (wpAny_loadName_free I.ok.kind hk hc hcell fin hcd) hd
theorem pe_int {i j pos} : PE X (.Constant (.int i) j pos) (tC (.int i)) := fun _ _ _ H _ I h => wpAny_Constant_int ⟨.int i, H, I.tok _, ⟨_, rfl⟩, h⟩
theorem pe_bl {b j pos} : PE X (.Constant (.bool b) j pos) (tC (.bl b)) := fun _ _ _ H _ I h => Constant_bool ⟨.bl b, H, I, rfl, h⟩
theorem pe_str {x j pos} : PE X (.Constant (.str x) j pos) (tC (.str x)) := fun _ _ _ H _ I h => Calls.Constant_str ⟨.str x, H, I.tok _, ⟨_, rfl⟩, h⟩

/-- a global name of the def -/
def Gl (X : Cx) (x : Str) : Prop := X.env.kindOf x = some .globalImplicit
theorem ld_glob {E : Value → Shared → Prop} {pins : List (Addr × Obj)} {s : Shared} {σ : St} {H : Hp} {x : Str} {u : Value} {pos : Pos} {Q : Value → Shared → Prop} (I : Inv X pins σ H s) (hg : Gl X x) (hm : X.mg x = some u) (h : Q u s)
    (hd : (x == ("__debug__" : Str)) = false := by decide) : wpAny (model X.prog X.w) X.A (eval (.Name x pos) X.env) Q E s :=
  Calls.Name_function_global I.ok.kind hg (Calls.loadGlobal_global (by rw [I.ok.glob]; exact I.mod.glob.keeps I.bk) hm h) hd
theorem ld_blt {E : Value → Shared → Prop} {pins : List (Addr × Obj)} {s : Shared} {σ : St} {H : Hp} {x : Str} {u : Value} {pos : Pos} {Q : Value → Shared → Prop} (I : Inv X pins σ H s) (hg : Gl X x) (hm : X.mg x = none) (hv : bootBuiltins x = some u) (h : Q u s)
    (hn : x ≠ "__name__" := by decide) (hd : (x == ("__debug__" : Str)) = false := by decide) : wpAny (model X.prog X.w) X.A (eval (.Name x pos) X.env) Q E s := by
  obtain ⟨mb, h1, h2⟩ := I.mod.blt
  exact Calls.Name_function_global I.ok.kind hg (Calls.loadGlobal_builtin (by rw [I.ok.glob]; exact I.mod.glob.keeps I.bk) hm (by rw [I.ok.blt]; exact h1.keeps I.bk) ((h2 x hn).trans hv) h) hd
/-- a module's constant, a class, a function, as a value -/
theorem pe_glob {x : Str} {v : V} {u : Value} {pos : Pos} (hg : Gl X x) (hm : X.mg x = some u) (r : RelV v u) (hd : (x == ("__debug__" : Str)) = false := by decide) : PE X (.Name x pos) (tC v) :=
  fun _ _ _ H _ I h => ld_glob I hg hm ⟨v, H, I, r, h⟩ hd

/-! ### arithmetic -/
variable {a b : Expr} {ta tb : TE} {pos : Pos}

/-! ### comparisons -/
def PC (X : Cx) (op : CmpOp) (a b : Expr) (t : TE) : Prop :=
  ∀ (pins : List (Addr × Obj)) (s : Shared) (σ : St) (H : Hp) (Q : VK), Inv X pins σ H s → t σ H Q →
    wpAny (model X.prog X.w) X.A (eval a X.env) (fun v s₁ => wpAny (model X.prog X.w) X.A (eval b X.env) (fun u s₂ => wpAny (model X.prog X.w) X.A (compareOp op v u) (EP X pins σ Q) X.xe s₂) X.xe s₁) X.xe s
/-- a comparison as a value, as a test -/
def tB (t : TE) : TT := fun σ H Q => t σ H fun x H1 => ∃ c, x = .bl c ∧ Q c H1
theorem pt_cmp {op : CmpOp} {t : TE} (h : PC X op a b t) (h1 : behindInMarks op b = false := by first | exact nobehind _ (by decide) (by decide) | rfl) : PT X (.Compare a [op] [b] pos) (tB t) := by
  intro pins s σ H Q I hw
  refine wpAny_isTrue_Compare1 (thn (h pins s σ H _ I hw) fun v s1 h1 => thn h1 fun u s2 h2 => thn h2 fun c s3 ⟨x, H1, I1, r1, q1⟩ => ?_) h1
  obtain ⟨d, rfl, q⟩ := q1
  cases r1
  exact wpAny_truthy_bool ⟨H1, I1, q⟩
/-- an expression whose value is a bool, as a test -/
theorem pt_val {e : Expr} {t : TE} (h : PE X e t) (he : ∀ whole, isTrue e X.env whole = (do let v ← whole; standAt e.pos; holding [v] (truthy v)) := by intro _; rfl) : PT X e (tB t) := by
  intro pins s σ H Q I hw
  refine isTrue_plain (thn (h pins s σ H _ I hw) fun v s1 ⟨x, H1, I1, r1, q1⟩ => ?_) (he _)
  obtain ⟨d, rfl, q⟩ := q1
  cases r1
  exact wpAny_truthy_bool ⟨H1, I1, q⟩

/-! ### and, or, not -/
variable {tA tB' : TT} {rest : List Expr}
def tAnd (t u : TT) : TT := fun σ H Q => t σ H fun c H1 => if c = true then u σ H1 Q else Q false H1
def tOr (t u : TT) : TT := fun σ H Q => t σ H fun c H1 => if c = true then Q true H1 else u σ H1 Q
def tNot (t : TT) : TT := fun σ H Q => t σ H fun c H1 => Q (!c) H1
theorem pw_and1 (ha : PT X a tA) : PW X (.BoolOp .And [a] pos) tA := by
  intro wh pins s σ H Q I h
  refine isTrue_and (thn (ha pins s σ H Q I h) fun c s1 e => ?_)
  cases c with
  | true => exact isTrue_and_nil e
  | false => exact e
theorem pw_or1 (ha : PT X a tA) : PW X (.BoolOp .Or [a] pos) tA := by
  intro wh pins s σ H Q I h
  refine isTrue_or (thn (ha pins s σ H Q I h) fun c s1 e => ?_)
  cases c with
  | false => exact isTrue_or_nil e
  | true => exact e
theorem pw_and (ha : PT X a tA) (hb : PW X (.BoolOp .And (b :: rest) pos) tB') : PW X (.BoolOp .And (a :: b :: rest) pos) (tAnd tA tB') := by
  intro wh pins s σ H Q I h
  refine isTrue_and (thn (ha pins s σ H _ I h) fun c s1 ⟨H1, I1, q1⟩ => ?_)
  cases c with
  | true => exact hb wh pins s1 σ H1 Q I1 q1
  | false => exact ⟨H1, I1, q1⟩
theorem pw_or (ha : PT X a tA) (hb : PW X (.BoolOp .Or (b :: rest) pos) tB') : PW X (.BoolOp .Or (a :: b :: rest) pos) (tOr tA tB') := by
  intro wh pins s σ H Q I h
  refine isTrue_or (thn (ha pins s σ H _ I h) fun c s1 ⟨H1, I1, q1⟩ => ?_)
  cases c with
  | true => exact ⟨H1, I1, q1⟩
  | false => exact hb wh pins s1 σ H1 Q I1 q1
theorem pt_not (ha : PT X a tA) : PT X (.UnaryOp .Not a pos) (tNot tA) := by
  intro pins s σ H Q I h
  exact isTrue_not (ha pins s σ H (fun c H1 => Q (!c) H1) I h)
/-- .. as values (bools) -/
def tAndV (ta tb : TE) : TE := fun σ H Q => ta σ H fun x H1 => ∃ c, x = .bl c ∧ if c = true then tb σ H1 Q else Q (.bl false) H1
def tOrV (ta tb : TE) : TE := fun σ H Q => ta σ H fun x H1 => ∃ c, x = .bl c ∧ if c = true then Q (.bl true) H1 else tb σ H1 Q
theorem pe_one {op} {t : TE} (h : PE X a t) : PE X (.BoolOp op [a] pos) t := fun pins s σ H Q I hw => BoolOp_one (h pins s σ H Q I hw)
theorem pe_and (ha : PE X a ta) (hb : PE X (.BoolOp .And (b :: rest) pos) tb) : PE X (.BoolOp .And (a :: b :: rest) pos) (tAndV ta tb) := by
  intro pins s σ H Q I h
  refine BoolOp_and (thn (ha pins s σ H _ I h) fun v s1 ⟨x, H1, I1, r1, q1⟩ => ?_)
  obtain ⟨c, rfl, q1⟩ := q1
  cases r1
  refine wpAny_truthy_bool ?_
  cases c with
  | true => exact hb pins s1 σ H1 Q I1 q1
  | false => exact ⟨.bl false, H1, I1, rfl, q1⟩
theorem pe_or (ha : PE X a ta) (hb : PE X (.BoolOp .Or (b :: rest) pos) tb) : PE X (.BoolOp .Or (a :: b :: rest) pos) (tOrV ta tb) := by
  intro pins s σ H Q I h
  refine BoolOp_or (thn (ha pins s σ H _ I h) fun v s1 ⟨x, H1, I1, r1, q1⟩ => ?_)
  obtain ⟨c, rfl, q1⟩ := q1
  cases r1
  refine wpAny_truthy_bool ?_
  cases c with
  | false => exact hb pins s1 σ H1 Q I1 q1
  | true => exact ⟨.bl true, H1, I1, rfl, q1⟩
end
end L2

namespace L2
open PySem PySem.Spec PyProof.Rows

/-! ### a list, a tuple that is read: tracked, frozen, or an object of the module -/
def SqL (K : PySem.W.Frag) (H : Hp) (a : Addr) (xs : List V) : Prop :=
  Rd H a (.lst xs) ∨
    ∃ (o : Obj) (its : Array Value) (n : Nat), K.lookup a = some o ∧ o.cls = .type "list" ∧ o.dict = none ∧ o.data = .seq its n ∧ its.size ≤ sizeLine ∧ Vals xs its.toList
def SqT (K : PySem.W.Frag) (H : Hp) (a : Addr) (xs : List V) : Prop :=
  Rd H a (.tup xs) ∨
    ∃ (o : Obj) (its : Array Value) (n : Nat), K.lookup a = some o ∧ o.cls = .type "tuple" ∧ o.data = .seq its n ∧ its.size ≤ sizeLine ∧ Vals xs its.toList
def absV : Value → Option V
  | .none => some .non
  | .bool b => some (.bl b)
  | .int i _ => some (.int i)
  | .str x _ => some (.str x)
  | .bytes b _ => some (.byt b)
  | .float b _ => some (.flt b)
  | .ref a => some (.ref a)
  | .type n => some (.ty n)
  | _ => none
theorem RelV.abs {x : V} {u : Value} (r : RelV x u) : absV u = some x := by
  cases x with
  | non => cases r; rfl
  | bl _ => cases r; rfl
  | int _ => obtain ⟨t, rfl⟩ := r; rfl
  | str _ => obtain ⟨t, rfl⟩ := r; rfl
  | byt _ => obtain ⟨t, rfl⟩ := r; rfl
  | flt _ => obtain ⟨t, rfl⟩ := r; rfl
  | ref _ => cases r; rfl
  | ty _ => cases r; rfl
theorem RelV.inj {x y : V} {u : Value} (r : RelV x u) (q : RelV y u) : x = y := Option.some.inj (r.abs.symm.trans q.abs)
theorem Vals.inj : ∀ {xs ys : List V} {us : List Value}, Vals xs us → Vals ys us → xs = ys
  | _, _, _, .nil, .nil => rfl
  | _, _, _, .cons r t, .cons r' t' => by rw [r.inj r', Vals.inj t t']
section
variable {X : Cx} {pins : List (Addr × Obj)} {σ : St} {H : Hp} {s : Shared} {a : Addr} {xs ys : List V}
theorem SqL.of {K : PySem.W.Frag} (h : H a = some (.lst xs)) : SqL K H a xs := .inl (.inl h)
theorem SqT.of {K : PySem.W.Frag} (h : H a = some (.tup xs)) : SqT K H a xs := .inl (.inl h)
theorem Inv.list (I : Inv X pins σ H s) (h : SqL X.K H a xs) : ∃ its : List Value, Vals xs its ∧ PlainL s.heap a its.toArray ∧ xs.length ≤ sizeLine := by
  rcases h with h | ⟨o, its, n, hk, hc, hd, hs, hz, r⟩
  · obtain ⟨z, its, n, r, e⟩ := h.ok I.hok
    exact ⟨its, r, ⟨_, n, e, rfl, rfl, rfl⟩, z⟩
  · refine ⟨its.toList, r, ⟨o, n, I.kIn a o hk, hc, hd, by simpa using hs⟩, ?_⟩
    have e := r.length
    simp only [Array.length_toList] at e
    omega
theorem Inv.tuple (I : Inv X pins σ H s) (h : SqT X.K H a xs) : ∃ its : List Value, Vals xs its ∧ IsTup s.heap a its.toArray ∧ xs.length ≤ sizeLine := by
  rcases h with h | ⟨o, its, n, hk, hc, hs, hz, r⟩
  · obtain ⟨z, its, r, p⟩ := h.ok I.hok
    exact ⟨its, r, p, z⟩
  · refine ⟨its.toList, r, ⟨o, I.kIn a o hk, hc, n, by simpa using hs⟩, ?_⟩
    have e := r.length
    simp only [Array.length_toList] at e
    omega
theorem Inv.list_inj (I : Inv X pins σ H s) (h : SqL X.K H a xs) (h' : SqL X.K H a ys) : xs = ys := by
  obtain ⟨its, r, ⟨o, n, e, _, _, d⟩, _⟩ := I.list h
  obtain ⟨its', r', ⟨o', n', e', _, _, d'⟩, _⟩ := I.list h'
  rw [e] at e'; cases e'
  rw [d] at d'
  injection d' with d1 _
  have : its = its' := by simpa using congrArg Array.toList d1
  subst this
  exact r.inj r'
theorem Inv.tuple_inj (I : Inv X pins σ H s) (h : SqT X.K H a xs) (h' : SqT X.K H a ys) : xs = ys := by
  obtain ⟨its, r, ⟨o, e, _, n, d⟩, _⟩ := I.tuple h
  obtain ⟨its', r', ⟨o', e', _, n', d'⟩, _⟩ := I.tuple h'
  rw [e] at e'; cases e'
  rw [d] at d'
  injection d' with d1 _
  have : its = its' := by simpa using congrArg Array.toList d1
  subst this
  exact r.inj r'
end

/-! ### another wish about exceptions -/
abbrev Cx.wish (X : Cx) (E : Value → Shared → Prop) : Cx := { X with xe := E }
/-- no exception leaves -/
abbrev Cx.nox (X : Cx) : Cx := X.wish fun _ _ => False
theorem Cx.Ok.wish {X : Cx} (ok : X.Ok) (E : Value → Shared → Prop) : (X.wish E).Ok :=
  ⟨ok.mod, ok.kind, ok.glob, ok.blt, ok.above, ok.inj, ok.has, ok.cab, ok.hd, ok.frames, ok.stk, ok.exf, ok.bs, ok.bsz, ok.noex, ok.exfs, ok.funs, ok.frf⟩
theorem Cx.Ok.unwish {X : Cx} {E : Value → Shared → Prop} (ok : (X.wish E).Ok) : X.Ok :=
  ⟨ok.mod, ok.kind, ok.glob, ok.blt, ok.above, ok.inj, ok.has, ok.cab, ok.hd, ok.frames, ok.stk, ok.exf, ok.bs, ok.bsz, ok.noex, ok.exfs, ok.funs, ok.frf⟩
section
variable {X : Cx} {pins : List (Addr × Obj)} {σ : St} {H : Hp} {s : Shared} {E : Value → Shared → Prop}
theorem Inv.wish (I : Inv X pins σ H s) (E : Value → Shared → Prop) : Inv (X.wish E) pins σ H s := ⟨I.ok.wish E, I.os, I.bare, I.base, I.loc, I.cell, I.free, I.freeC, I.pin, I.hok, I.len⟩
theorem Inv.unwish (I : Inv (X.wish E) pins σ H s) : Inv X pins σ H s := ⟨I.ok.unwish, I.os, I.bare, I.base, I.loc, I.cell, I.free, I.freeC, I.pin, I.hok, I.len⟩
theorem SP.unwish {D : Ends} {f : Flow} {s' : Shared} (h : SP (X.wish E) pins D f s') : SP X pins D f s' := by
  cases f with
  | next => obtain ⟨σ', H', I, q⟩ := h; exact ⟨σ', H', I.unwish, q⟩
  | brk => obtain ⟨σ', H', I, q⟩ := h; exact ⟨σ', H', I.unwish, q⟩
  | cont => obtain ⟨σ', H', I, q⟩ := h; exact ⟨σ', H', I.unwish, q⟩
  | ret u => obtain ⟨v, σ', H', I, r, q⟩ := h; exact ⟨v, σ', H', I.unwish, r, q⟩
theorem PSs.nox {st : List Stmt} {t : TS} (h : PSs X.nox st t) : PSs X st t := fun pins s σ H D I hw =>
  wpAny_mono (h pins s σ H D (I.wish _) hw) (fun _ _ q => q.unwish) fun _ _ z => False.elim z
end

/-! ### blocks and small statements -/
section
variable {X : Cx} {st : Stmt} {rest : List Stmt} {t u : TS} {e : Expr} {te : TE} {pos : Pos}
def tNext : TS := fun D σ H => D.nx σ H
def tSeq (t u : TS) : TS := fun D σ H => t { D with nx := u D } σ H
theorem pss_nil : PSs X [] tNext := fun _ _ σ H _ I h => wpAny_execs_nil ⟨σ, H, I, h⟩
theorem pss_cons (h1 : PS X st t) (h2 : PSs X rest u) : PSs X (st :: rest) (tSeq t u) := by
  intro pins s σ H D I h
  refine wpAny_execs_cons (thn (h1 pins s σ H { D with nx := u D } I h) fun f s1 q => ?_)
  cases f with
  | next =>
    obtain ⟨σ', H', I', q⟩ := q
    exact h2 pins s1 σ' H' D I' q
  | ret v => exact q
  | brk => exact q
  | cont => exact q
theorem pss_one (h1 : PS X st t) : PSs X [st] t := by
  intro pins s σ H D I h
  refine wpAny_execs_cons (thn (h1 pins s σ H D I h) fun f s1 q => ?_)
  cases f with
  | next => exact wpAny_execs_nil q
  | ret v => exact q
  | brk => exact q
  | cont => exact q
/-- in a def's body nothing is shown -/
theorem Inv.quiet {pins : List (Addr × Obj)} {σ : St} {H : Hp} {s : Shared} (I : Inv X pins σ H s) : interactive X.env = false := by simp [interactive, I.ok.kind]
/-- an expression whose value is dropped -/
def tDrop (te : TE) : TS := fun D σ H => te σ H fun _ H1 => D.nx σ H1
theorem ps_expr (he : PE X e te) (hs : swapsWith e none pos.line X.env = pure false := by rfl) : PS X (.Expr e pos) (tDrop te) := by
  intro pins s σ H D I h
  exact wpAny_Expr_any (thn (he pins s σ H _ I h) fun v s1 ⟨x, H1, I1, r1, q1⟩ => ⟨σ, H1, I1, q1⟩) I.quiet hs
def tRet (te : TE) : TS := fun D σ H => te σ H D.rt
theorem ps_ret (he : PE X e te) : PS X (.Return (some e) pos) (tRet te) := by
  intro pins s σ H D I h
  exact wpAny_Return_some (thn (he pins s σ H _ I h) fun v s1 ⟨x, H1, I1, r1, q1⟩ => ⟨x, σ, H1, I1, r1, q1⟩)
def tIfS (c : TT) (t u : TS) : TS := fun D σ H => c σ H fun b H1 => if b = true then t D σ H1 else u D σ H1
theorem ps_if {c : Expr} {a b : List Stmt} {tc : TT} (hc : PT X c tc) (ha : PSs X a t) (hb : PSs X b u) : PS X (.If c a b pos) (tIfS tc t u) := by
  intro pins s σ H D I h
  refine wpAny_If (thn (hc pins s σ H _ I h) fun d s1 ⟨H1, I1, q1⟩ => ?_)
  cases d with
  | true => exact ha pins s1 σ H1 D I1 q1
  | false => exact hb pins s1 σ H1 D I1 q1
end

/-! ### targets -/
abbrev TG := V → St → Hp → (St → Hp → Prop) → Prop
abbrev TGs := List V → St → Hp → (St → Hp → Prop) → Prop
def PG (X : Cx) (target : Expr) (t : TG) : Prop :=
  ∀ (pins : List (Addr × Obj)) (s : Shared) (σ : St) (H : Hp) (v : V) (u : Value) (Q : St → Hp → Prop), Inv X pins σ H s → RelV v u → t v σ H Q →
    wpAny (model X.prog X.w) X.A (assign target X.env u) (fun _ s' => ∃ σ' H', Inv X pins σ' H' s' ∧ Q σ' H') X.xe s
/-- several targets, one after another -/
def PGs (X : Cx) (ts : List Expr) (t : TGs) : Prop :=
  ∀ (pins : List (Addr × Obj)) (s : Shared) (σ : St) (H : Hp) (vs : List V) (us : List Value) (Q : St → Hp → Prop), Inv X pins σ H s → Vals vs us → t vs σ H Q →
    wpAny (model X.prog X.w) X.A (assignInOrder ((assignEach ts X.env).map (·.2)) us) (fun _ s' => ∃ σ' H', Inv X pins σ' H' s' ∧ Q σ' H') X.xe s
section
variable {X : Cx} {pos : Pos}
def gName (i : Nat) : TG := fun v σ H Q => Q (σ.set i (some v)) H
theorem pg_name {i : Nat} {x : Str} (hN : X.N.Nodup) (hi : X.N[i]? = some x) (hx : Loc X.env.scope x) (hf : X.fn x = true ∨ X.env.scope.names.lookup x = some .local := by first | exact .inl rfl | exact .inr rfl | assumption) : PG X (.Name x pos) (gName i) := by
  intro pins s σ H v u Q I r h
  exact wpAny_assign_Name (store_ok I hN hi hx r (fun s' I' => ⟨_, H, I', h⟩) hf)
def gNil : TGs := fun vs σ H Q => vs = [] ∧ Q σ H
def gCons (t : TG) (u : TGs) : TGs := fun vs σ H Q => ∃ v r, vs = v :: r ∧ t v σ H fun σ' H' => u r σ' H' Q
theorem pgs_nil : PGs X [] gNil := by
  intro pins s σ H vs us Q I r h
  obtain ⟨e, h⟩ := h
  subst e
  cases r
  exact assignInOrder_nil ⟨σ, H, I, h⟩
theorem pgs_cons {e : Expr} {es : List Expr} {t : TG} {u : TGs} (h1 : PG X e t) (h2 : PGs X es u)
    (hs : (assignEach (e :: es) X.env).map (·.2) = assign e X.env :: (assignEach es X.env).map (·.2) := by rfl) : PGs X (e :: es) (gCons t u) := by
  intro pins s σ H vs us Q I r h
  obtain ⟨v, vr, e1, h⟩ := h
  subst e1
  cases r with
  | cons r rr =>
    rw [hs]
    refine assignInOrder_cons (thn (h1 pins s σ H _ _ _ I r h) fun _ s1 ⟨σ1, H1, I1, q1⟩ => ?_)
    exact h2 pins s1 σ1 H1 _ _ Q I1 rr q1
/-- (a, b, ..) = a tuple of that length -/
def gTup (K : PySem.W.Frag) (n : Nat) (t : TGs) : TG := fun v σ H Q => ∃ a xs, v = .ref a ∧ SqT K H a xs ∧ xs.length = n ∧ t xs σ H Q
theorem pg_tup {es : List Expr} {k : Nat} {t : TGs} {n : Nat} (hc : X.calm = true) (h : PGs X es t)
    (hn : (assignEach es X.env).length = n := by rfl) (hst : (assignEach es X.env).findIdx? (·.1) = none := by rfl) : PG X (.Tuple es k pos) (gTup X.K n t) := by
  intro pins s σ H v u Q I r hw
  obtain ⟨a, xs, e1, hq, hl, hw⟩ := hw
  subst e1
  cases r
  obtain ⟨its, rv, ht, hz⟩ := I.tuple hq
  refine assign_Tuple_tuple (I.ok.hd hc) ht (by simp [hn, ← hl, rv.length]) hst fun h' hx => ?_
  have I1 : Inv X pins σ H { s with heap := h' } := I.kept (t' := s.toks) fun b o e => hx b o (Nat.ne_of_lt (Heap.lt_size e)) e
  exact h pins _ σ H xs _ Q I1 (by simpa using rv) hw
/-- target = value -/
def tAsg (te : TE) (g : TG) : TS := fun D σ H => te σ H fun x H1 => g x σ H1 D.nx
/-- name = value -/
theorem ps_set {i : Nat} {x : Str} {e : Expr} {te : TE} {pos' : Pos} (hN : X.N.Nodup) (hi : X.N[i]? = some x) (hx : Loc X.env.scope x) (he : PE X e te) (hs : swapsWith e (some (.Name x pos')) pos.line X.env = pure false := by rfl) (hf : X.fn x = true ∨ X.env.scope.names.lookup x = some .local := by first | exact .inl rfl | exact .inr rfl | assumption) :
    PS X (.Assign [.Name x pos'] e pos) (tAsg te (gName i)) := by
  intro pins s σ H D I h
  refine wpAny_Assign_Name (thn (he pins s σ H _ I h) fun v s1 ⟨y, H1, I1, r1, q1⟩ => ?_) hs
  exact store_ok I1 hN hi hx r1 (fun s2 I2 => ⟨_, H1, I2, q1⟩) hf
end

/-! ### while -/
section
variable {X : Cx} {pos : Pos}
/-- the invariant W with its measure -/
def tWhile (c : TT) (tb : TS) : TS := fun D σ H => ∃ W : Nat → St → Hp → Prop, (∃ m, W m σ H) ∧ ∀ m σ H, W m σ H →
  c σ H fun b H1 => if b = true then ∃ N : St → Hp → Prop, (∀ σ' H', N σ' H' → ∃ m', m' < m ∧ W m' σ' H') ∧ tb { D with nx := N, ct := N, bk := D.nx } σ H1 else D.nx σ H1
theorem ps_while {c : Expr} {body : List Stmt} {tc : TT} {tb : TS} (hp : PassesOwn (model X.prog X.w) X.A X.env X.xe) (hc : PT X c tc) (hb : PSs X body tb) : PS X (.While c body [] pos) (tWhile tc tb) := by
  intro pins s σ H D I h
  obtain ⟨W, ⟨m0, w0⟩, turn⟩ := h
  refine wpAny_While (codeAny_whileLoop (fun n s' => ∃ σ' H', Inv X pins σ' H' s' ∧ W n σ' H') ?_ m0 ⟨σ, H, I, w0⟩)
  rintro n s1 ⟨σ1, H1, I1, w1⟩
  refine wpAny_passesOwn hp (thn (hc pins s1 σ1 H1 _ I1 (turn n σ1 H1 w1)) fun b s2 ⟨H2, I2, q2⟩ => ?_)
  cases b with
  | true =>
    obtain ⟨N, hN, q2⟩ := q2
    rw [if_pos rfl]
    refine wpAny_passesOwn hp (thn (hb pins s2 σ1 H2 _ I2 q2) fun f s3 q3 => ?_)
    cases f with
    | next =>
      obtain ⟨σ3, H3, I3, n3⟩ := q3
      obtain ⟨m', hm, w3⟩ := hN σ3 H3 n3
      exact ⟨m', hm, σ3, H3, I3, w3⟩
    | cont =>
      obtain ⟨σ3, H3, I3, n3⟩ := q3
      obtain ⟨m', hm, w3⟩ := hN σ3 H3 n3
      exact ⟨m', hm, σ3, H3, I3, w3⟩
    | brk => exact q3
    | ret v => exact q3
  | false =>
    rw [if_neg Bool.false_ne_true]
    exact wpAny_execs_nil ⟨σ1, H2, I2, q2⟩
end

/-! ### what a loop or a comprehension walks -/
/-- at turn i: it yields x (the heap may grow), or it stops -/
structure It where
  go : Nat → Hp → Prop
  yld : Nat → Hp → V → Hp → Prop
  stop : Nat → Hp → Prop
/-- the iterator's own objects may turn: they are not the frame's, not pinned, younger than the entry (or a comprehension's own) -/
def FpOk (X : Cx) (pins : List (Addr × Obj)) (H : Hp) (b : Addr) : Prop :=
  H b = none ∧ b ≠ X.env.locals ∧ b ∉ X.fs ∧ (b ∈ X.ex ∨ X.s_0.heap.objs.size ≤ b) ∧ (∀ x c, X.env.cells.lookup x = some c → c ≠ b) ∧ ∀ p ∈ X.pn ++ pins, p.1 ≠ b
theorem Inv.fpOk {X : Cx} {pins : List (Addr × Obj)} {σ : St} {H H' : Hp} {s : Shared} {b : Addr} (I : Inv X pins σ H s) (hb : s.heap.objs.size ≤ b) (hn : H' b = none) : FpOk X pins H' b := by
  refine ⟨hn, Nat.ne_of_gt (Nat.lt_of_lt_of_le I.lt hb), I.nofs hb, .inr (Nat.le_trans I.sz hb), fun x c e z => ?_, fun p hp z => ?_⟩
  · obtain ⟨v, q⟩ := I.cell x c e
    exact absurd (Nat.lt_of_lt_of_le q.lt (by rw [z]; exact hb)) (Nat.lt_irrefl _)
  · exact absurd (Nat.lt_of_lt_of_le (Heap.lt_size (I.pin p hp).1) (by rw [z]; exact hb)) (Nat.lt_irrefl _)
structure Turn (P : Program) (w : World) (K : PySem.W.Frag) (tg : Expr) (J : It) (fp : List Addr) (it : Addr) (tn : Nat → Heap → Prop) : Prop where
  mem : it ∈ fp
  obj : ∀ i h, tn i h → ∀ b ∈ fp, ∃ o, h.get? b = some o ∧ ∀ v, o.data ≠ .cell v
  keep : ∀ i h h', tn i h → (∀ b ∈ fp, ∀ o, h.get? b = some o → h'.get? b = some o) → tn i h'
  item : ∀ (X : Cx), X.prog = P → X.w = w → X.K = K → X.calm = true → ∀ (i : Nat) (pins : List (Addr × Obj)) (s : Shared) (σ : St) (H : Hp) (E : Value → Shared → Prop), Inv X pins σ H s → (∀ b ∈ fp, FpOk X pins H b) → tn i s.heap → J.go i H →
    wpAny (model P w) X.A (pyNext (.ref it)) (fun r s1 => ∃ u, r = some u ∧
      wpAny (model P w) X.A (letOwnedTupleGo tg (.ref it) u) (fun _ s2 => ∃ x H', Inv X pins σ H' s2 ∧ RelV x u ∧ J.yld i H x H' ∧ tn (i + 1) s2.heap ∧ ∀ b ∈ fp, H' b = none) E s1) E s
  done : ∀ (X : Cx), X.prog = P → X.w = w → X.K = K → X.calm = true → ∀ (i : Nat) (pins : List (Addr × Obj)) (s : Shared) (σ : St) (H : Hp) (E : Value → Shared → Prop), Inv X pins σ H s → (∀ b ∈ fp, FpOk X pins H b) → tn i s.heap → J.stop i H →
    wpAny (model P w) X.A (pyNext (.ref it)) (fun r s1 => r = none ∧ Inv X pins σ H s1) E s
  self : ∀ (A : Around) (i : Nat) (s : Shared) (Q : Value → Shared → Prop) (E : Value → Shared → Prop), tn i s.heap → Q (.ref it) s → wpAny (model P w) A (pyIter (.ref it)) Q E s
abbrev TI := St → Hp → (It → Hp → Prop) → Prop
/-- an iterator has come -/
def PIE (X : Cx) (pins : List (Addr × Obj)) (σ : St) (tg : Expr) (R : It → Hp → Prop) (itv : Value) (s2 : Shared) : Prop :=
  ∃ (it : Addr) (fp : List Addr) (tn : Nat → Heap → Prop) (J : It) (H' : Hp), itv = .ref it ∧ Inv X pins σ H' s2 ∧ Turn X.prog X.w X.K tg J fp it tn ∧ tn 0 s2.heap ∧ (∀ b ∈ fp, FpOk X pins H' b) ∧ R J H'
def PI (X : Cx) (tg iter : Expr) (wi : TI) : Prop :=
  ∀ (pins : List (Addr × Obj)) (s : Shared) (σ : St) (H : Hp) (R : It → Hp → Prop), Inv X pins σ H s → wi σ H R →
    wpAny (model X.prog X.w) X.A (eval iter X.env) (fun v s1 => wpAny (model X.prog X.w) X.A (pyIter v) (PIE X pins σ tg R) X.xe s1) X.xe s

/-- the step ahead of the store is nothing for an iterator that keeps no tuple -/
theorem go_of {M : Model} {A : Around} {E : Value → Shared → Prop} {s : Shared} {tg : Expr} {it : Addr} {u : Value} {o : Obj} {n : String} {vs : Array Value} {Q : Unit → Shared → Prop} (ho : s.heap.get? it = some o) (hc : o.cls = .type n) (hd : o.data = .fields vs)
    (hn : ["enumerate", "zip", "dict_itemiterator", "dict_reverseitemiterator", "odict_iterator", "itertools.zip_longest", "itertools.pairwise"].contains n = false) (hQ : Q () s) : wpAny M A (letOwnedTupleGo tg (.ref it) u) Q E s := by
  unfold letOwnedTupleGo
  cases tg <;> first
    | exact wpAny_pure hQ
    | (cases u <;> first
        | exact wpAny_pure hQ
        | (refine wpAny_bind (wpAny_load ho ?_)
           rw [hc, hd]
           show wpAny M A (if (["enumerate", "zip", "dict_itemiterator", "dict_reverseitemiterator", "odict_iterator", "itertools.zip_longest", "itertools.pairwise"].contains n && vs[0]? == some (rawInt _)) = true then _ else _) Q E s
           rw [if_neg (by intro h; rw [hn, Bool.false_and] at h; cases h)]
           exact wpAny_pure hQ))

/-- the list at a, as it stands at each turn (a loop may append to it) -/
def Itl (K : PySem.W.Frag) (a : Addr) : It :=
  ⟨fun i H => ∃ xs x, SqL K H a xs ∧ xs[i]? = some x, fun i H x H' => H' = H ∧ ∀ xs, SqL K H a xs → xs[i]? = some x, fun i H => ∃ xs, SqL K H a xs ∧ xs.length ≤ i⟩
def Itt (K : PySem.W.Frag) (a : Addr) : It :=
  ⟨fun i H => ∃ xs x, SqT K H a xs ∧ xs[i]? = some x, fun i H x H' => H' = H ∧ ∀ xs, SqT K H a xs → xs[i]? = some x, fun i H => ∃ xs, SqT K H a xs ∧ xs.length ≤ i⟩
/-- lo, lo + 1, .. (n of them) -/
def Itr (lo : Int) (n : Nat) : It := ⟨fun i _ => i < n, fun i H x H' => H' = H ∧ x = .int (lo + i), fun i _ => n ≤ i⟩
theorem turn_list {P : Program} {w : World} {K : PySem.W.Frag} {tg : Expr} (a it : Addr) : Turn P w K tg (Itl K a) [it] it (fun i h => h.IsListIter it a i) where
  mem := by simp
  obj := fun i h st b hb => by
    have e : b = it := by simpa using hb
    subst e
    obtain ⟨o, e, c, d⟩ := st
    exact ⟨o, e, fun v z => by rw [d] at z; cases z⟩
  keep := fun i h h' st k => st.at fun o e => k it (by simp) o e
  item := by
    intro X hP hw hK hc i pins s σ H E I hf st hg
    subst hP hw hK
    obtain ⟨xs, x, hq, hx⟩ := hg
    obtain ⟨its, rv, p, hz⟩ := I.list hq
    obtain ⟨u, hu, ru⟩ := rv.get hx
    obtain ⟨f0, f1, f2, f3, f4, f5⟩ := hf it (by simp)
    refine wpAny_pyNext_list_item st p.isList (x := u) (by simpa using hu) fun h' st' sb => ?_
    have I1 : Inv X pins σ H { s with heap := h' } := I.turned (t' := s.toks) (fun b o hb e => (sb.2 b hb).trans e) f0 f1 f3 f4 f5
    obtain ⟨o, e, c, d⟩ := id st'
    exact ⟨u, rfl, go_of (s := { s with heap := h' }) e c d (by decide) ⟨x, H, I1, ru, ⟨rfl, fun ys hy => by rw [I.list_inj hy hq]; exact hx⟩, st', fun b hb => (hf b hb).1⟩⟩
  done := by
    intro X hP hw hK hc i pins s σ H E I hf st hg
    subst hP hw hK
    obtain ⟨xs, hq, hx⟩ := hg
    obtain ⟨its, rv, p, hz⟩ := I.list hq
    obtain ⟨f0, f1, f2, f3, f4, f5⟩ := hf it (by simp)
    have hl := rv.length
    exact wpAny_pyNext_list_end (I.ok.hd hc) st p.isList (by simp; omega) fun h' eb => ⟨rfl, I.turned (t' := s.toks) (fun b o hb e => eb b o hb e) f0 f1 f3 f4 f5⟩
  self := fun _ _ _ _ _ st h => wpAny_pyIter_listiter st h
theorem turn_tuple {P : Program} {w : World} {K : PySem.W.Frag} {tg : Expr} (a it : Addr) : Turn P w K tg (Itt K a) [it] it (fun i h => h.IsTupleIter it a i) where
  mem := by simp
  obj := fun i h st b hb => by
    have e : b = it := by simpa using hb
    subst e
    obtain ⟨o, e, c, d⟩ := st
    exact ⟨o, e, fun v z => by rw [d] at z; cases z⟩
  keep := fun i h h' st k => st.at fun o e => k it (by simp) o e
  item := by
    intro X hP hw hK hc i pins s σ H E I hf st hg
    subst hP hw hK
    obtain ⟨xs, x, hq, hx⟩ := hg
    obtain ⟨its, rv, p, hz⟩ := I.tuple hq
    obtain ⟨u, hu, ru⟩ := rv.get hx
    obtain ⟨f0, f1, f2, f3, f4, f5⟩ := hf it (by simp)
    refine wpAny_pyNext_tuple_item st (show s.heap.IsTuple a its.toArray from p) (x := u) (by simpa using hu) fun h' st' sb => ?_
    have I1 : Inv X pins σ H { s with heap := h' } := I.turned (t' := s.toks) (fun b o hb e => (sb.2 b hb).trans e) f0 f1 f3 f4 f5
    obtain ⟨o, e, c, d⟩ := id st'
    exact ⟨u, rfl, go_of (s := { s with heap := h' }) e c d (by decide) ⟨x, H, I1, ru, ⟨rfl, fun ys hy => by rw [I.tuple_inj hy hq]; exact hx⟩, st', fun b hb => (hf b hb).1⟩⟩
  done := by
    intro X hP hw hK hc i pins s σ H E I hf st hg
    subst hP hw hK
    obtain ⟨xs, hq, hx⟩ := hg
    obtain ⟨its, rv, p, hz⟩ := I.tuple hq
    obtain ⟨f0, f1, f2, f3, f4, f5⟩ := hf it (by simp)
    have hl := rv.length
    exact wpAny_pyNext_tuple_end (I.ok.hd hc) st (show s.heap.IsTuple a its.toArray from p) (by simp; omega) fun h' eb => ⟨rfl, I.turned (t' := s.toks) (fun b o hb e => eb b o hb e) f0 f1 f3 f4 f5⟩
  self := fun _ _ _ _ _ st h => wpAny_pyIter_tupleiter st h
theorem turn_range {P : Program} {w : World} {K : PySem.W.Frag} {tg : Expr} (it : Addr) (lo : Int) (n : Nat) : Turn P w K tg (Itr lo n) [it] it (fun i h => IsRangeIter h it (lo + (i : Nat) * 1) ((n : Int) - (i : Nat)) 1) where
  mem := by simp
  obj := fun i h st b hb => by
    have e : b = it := by simpa using hb
    subst e
    exact ⟨_, st, fun v z => by
      have z' : Data.fields _ = Data.cell v := z
      cases z'⟩
  keep := fun i h h' st k => k it (by simp) _ st
  item := by
    intro X hP hw hK hc i pins s σ H E I hf st hg
    subst hP hw hK
    obtain ⟨f0, f1, f2, f3, f4, f5⟩ := hf it (by simp)
    have W := Walks.range (prog := X.prog) (w := X.w) (I.ok.hd hc) it lo 1 n
    refine W.item i s _ _ hg st fun v h' tk hv st' kk => ?_
    obtain ⟨t, rfl⟩ := hv
    have I1 : Inv X pins σ H { s with heap := h', toks := tk } := I.turned (fun b o hb e => kk b o (by simpa using hb) e) f0 f1 f3 f4 f5
    refine ⟨_, rfl, go_of (s := { s with heap := h', toks := tk }) (n := "range_iterator") st' rfl rfl (by decide) ⟨.int (lo + i), H, I1, ⟨t, ?_⟩, ⟨rfl, rfl⟩, st', fun b hb => (hf b hb).1⟩⟩
    rw [Int.mul_one]
  done := by
    intro X hP hw hK hc i pins s σ H E I hf st hg
    subst hP hw hK
    obtain ⟨f0, f1, f2, f3, f4, f5⟩ := hf it (by simp)
    exact wpAny_pyNext_range_end (I.ok.hd hc) st (by have : n ≤ i := hg; omega) fun h' eb => ⟨rfl, I.turned (t' := s.toks) (fun b o hb e => eb b o hb e) f0 f1 f3 f4 f5⟩
  self := fun _ _ _ _ _ st h => wpAny_pyIter_rangeiter st h
end L2

namespace L2
open PySem PySem.Spec PyProof.Rows
section
variable {X : Cx} {tg : Expr}
def iList (K : PySem.W.Frag) (tl : TE) : TI := fun σ H R => tl σ H fun x H1 => ∃ a, x = .ref a ∧ (∃ xs, SqL K H1 a xs) ∧ R (Itl K a) H1
def iTup (K : PySem.W.Frag) (tl : TE) : TI := fun σ H R => tl σ H fun x H1 => ∃ a, x = .ref a ∧ (∃ xs, SqT K H1 a xs) ∧ R (Itt K a) H1
theorem pi_list {l : Expr} {tl : TE} (hl : PE X l tl) : PI X tg l (iList X.K tl) := by
  intro pins s σ H R I h
  refine thn (hl pins s σ H _ I h) fun v s1 ⟨x, H1, I1, r1, q1⟩ => ?_
  obtain ⟨a, e, ⟨xs, hq⟩, q⟩ := q1
  subst e
  cases r1
  obtain ⟨its, rv, p, hz⟩ := I1.list hq
  refine wpAny_pyIter_list p.isList ?_
  refine ⟨s1.heap.objs.size, [s1.heap.objs.size], _, _, H1, rfl, I1.kept (t' := s1.toks) fun b o e => Heap.get?_push_of_some _ e, turn_list a _, ⟨_, Heap.get?_push_size _ rfl, rfl, rfl⟩, fun b hb => ?_, q⟩
  have e : b = s1.heap.objs.size := by simpa using hb
  subst e
  exact I1.fpOk (Nat.le_refl _) (I1.hok.fresh (Nat.le_refl _))
theorem pi_tup {l : Expr} {tl : TE} (hl : PE X l tl) : PI X tg l (iTup X.K tl) := by
  intro pins s σ H R I h
  refine thn (hl pins s σ H _ I h) fun v s1 ⟨x, H1, I1, r1, q1⟩ => ?_
  obtain ⟨a, e, ⟨xs, hq⟩, q⟩ := q1
  subst e
  cases r1
  obtain ⟨its, rv, p, hz⟩ := I1.tuple hq
  refine wpAny_pyIter_tuple (show s1.heap.IsTuple a its.toArray from p) ?_
  refine ⟨s1.heap.objs.size, [s1.heap.objs.size], _, _, H1, rfl, I1.kept (t' := s1.toks) fun b o e => Heap.get?_push_of_some _ e, turn_tuple a _, ⟨_, Heap.get?_push_size _ rfl, rfl, rfl⟩, fun b hb => ?_, q⟩
  have e : b = s1.heap.objs.size := by simpa using hb
  subst e
  exact I1.fpOk (Nat.le_refl _) (I1.hok.fresh (Nat.le_refl _))
/-- a range object just made, walked -/
theorem range_it {pins : List (Addr × Obj)} {σ : St} {H : Hp} {s : Shared} {R : It → Hp → Prop} {E : Value → Shared → Prop} {lo hi : Int} {t u v : Tok} {tk : Nat} (I : Inv X pins σ H s) (h1 : -(2 ^ 62) ≤ lo) (h2 : lo < 2 ^ 62) (h3 : -(2 ^ 62) ≤ hi) (h4 : hi < 2 ^ 62)
    (q : R (Itr lo (hi - lo).toNat) H) : wpAny (model X.prog X.w) X.A (pyIter (.ref s.heap.objs.size)) (PIE X pins σ tg R) E { s with heap := s.heap.push { cls := .type "range", data := .fields #[.int lo t, .int hi u, .int 1 v] }, toks := tk } := by
  refine wpAny_pyIter_range (IsRange.new ..) (small_one h1 h2 h3 h4) ?_
  have I1 : Inv X pins σ H { s with heap := s.heap.push { cls := .type "range", data := .fields #[.int lo t, .int hi u, .int 1 v] }, toks := tk } := I.kept fun b o e => Heap.get?_push_of_some _ e
  refine ⟨(s.heap.push { cls := .type "range", data := .fields #[.int lo t, .int hi u, .int 1 v] }).objs.size, [(s.heap.push { cls := .type "range", data := .fields #[.int lo t, .int hi u, .int 1 v] }).objs.size], _, _, H, rfl,
    I1.kept (t' := tk) fun b o e => Heap.get?_push_of_some _ e, turn_range _ lo (hi - lo).toNat, ?_, fun b hb => ?_, q⟩
  · have e1 : lo + ((0 : Nat) : Int) * 1 = lo := by simp
    have e2 : (((hi - lo).toNat : Nat) : Int) - ((0 : Nat) : Int) = Builtin.Range.rangeSize lo hi 1 := by rw [rangeSize_one]; split <;> omega
    show IsRangeIter _ _ (lo + ((0 : Nat) : Int) * 1) ((((hi - lo).toNat : Nat) : Int) - ((0 : Nat) : Int)) 1
    rw [e1, e2]
    exact Heap.get?_push_size _ rfl
  · have e : b = (s.heap.push { cls := .type "range", data := .fields #[.int lo t, .int hi u, .int 1 v] }).objs.size := by simpa using hb
    subst e
    exact I1.fpOk (Nat.le_refl _) (I1.hok.fresh (Nat.le_refl _))
def iRng1 (ta : TA) : TI := fun σ H R => ta σ H fun vs H1 => ∃ j : Int, vs = [.int j] ∧ -(2 ^ 62) ≤ j ∧ j < 2 ^ 62 ∧ R (Itr 0 j.toNat) H1
theorem pi_range1 {a : Expr} {ta : TA} {p pos : Pos} (hg : Gl X "range") (hm : X.mg "range" = none) (ha : PA X [a] ta) (hs : starEach [a] X.env = [(false, eval a X.env)] := by rfl) : PI X tg (.Call (.Name "range" p) [a] [] pos) (iRng1 ta) := by
  intro pins s σ H R I h
  refine Call_ (ld_blt I hg hm boot_range (PyProof.Rows.callWith_type1 (thn (ha pos pins s σ H _ I h) fun us s1 ⟨vs, H1, I1, r1, q1⟩ => ?_) hs rfl))
  obtain ⟨j, e, q1, q2, q⟩ := q1
  subst e
  cases r1 with
  | cons r rr =>
    cases rr
    obtain ⟨t, rfl⟩ := r
    exact call_range_1 (range_it I1 (by omega) (by omega) q1 q2 (by simpa using q))

/-! ### for -/
/-- W: the invariant by the turn and a measure; N: what the body is to reach -/
def tFor (wi : TI) (g : TG) (tb : TS) : TS := fun D σ H => wi σ H fun J H1 => ∃ W : Nat → Nat → St → Hp → Prop, (∃ m, W 0 m σ H1) ∧ ∀ i m σ H, W i m σ H →
  (J.stop i H ∧ D.nx σ H) ∨ (J.go i H ∧ ∃ N : St → Hp → Prop, (∀ σ' H', N σ' H' → ∃ m', m' < m ∧ W (i + 1) m' σ' H') ∧ ∀ x H', J.yld i H x H' → g x σ H' fun σ2 H2 => tb { D with nx := N, ct := N, bk := D.nx } σ2 H2)
/-- the records at fp as they stand -/
def pinsAt (fp : List Addr) (h : Heap) : List (Addr × Obj) := fp.filterMap fun b => (h.get? b).map fun o => (b, o)
theorem mem_pinsAt {fp : List Addr} {h : Heap} {b : Addr} {o : Obj} (hb : b ∈ fp) (e : h.get? b = some o) : (b, o) ∈ pinsAt fp h := List.mem_filterMap.mpr ⟨b, hb, by rw [e]; rfl⟩
theorem of_pinsAt {fp : List Addr} {h : Heap} {p : Addr × Obj} (hp : p ∈ pinsAt fp h) : p.1 ∈ fp ∧ h.get? p.1 = some p.2 := by
  obtain ⟨b, hb, e⟩ := List.mem_filterMap.mp hp
  cases q : h.get? b with
  | none => rw [q] at e; cases e
  | some o =>
    rw [q] at e
    have e' : (b, o) = p := Option.some.inj e
    subst e'
    exact ⟨hb, q⟩
theorem Inv.pinned {pins : List (Addr × Obj)} {σ : St} {H : Hp} {s : Shared} {fp : List Addr} (I : Inv X pins σ H s) (hf : ∀ b ∈ fp, FpOk X pins H b) (ho : ∀ b ∈ fp, ∃ o, s.heap.get? b = some o ∧ ∀ v, o.data ≠ .cell v) : Inv X (pins ++ pinsAt fp s.heap) σ H s :=
  I.pins_of fun p hp => (List.mem_append.mp hp).elim (fun z => I.pin p (List.mem_append_right _ z)) fun z => by
    obtain ⟨hb, e⟩ := of_pinsAt z
    obtain ⟨f0, f1, f2, _⟩ := hf p.1 hb
    obtain ⟨o, e', d⟩ := ho p.1 hb
    rw [e] at e'; cases e'
    exact ⟨e, f0, f1, f2, d⟩
theorem Inv.unpinned {pins pl : List (Addr × Obj)} {σ : St} {H : Hp} {s : Shared} (I : Inv X (pins ++ pl) σ H s) : Inv X pins σ H s := I.pins_of fun p hp => I.pin p (List.mem_append_right _ (List.mem_append_left _ hp))
theorem ps_for {iter : Expr} {body : List Stmt} {wi : TI} {g : TG} {tb : TS} {pos : Pos} (hp : PassesOwn (model X.prog X.w) X.A X.env X.xe) (hc : X.calm = true) (hi : PI X tg iter wi) (hg : PG X tg g) (hb : PSs X body tb)
    (hs : ∀ x, foldedSetIterable iter X.env x = pure x := by intro _; rfl) : PS X (.For tg iter body [] pos) (tFor wi g tb) := by
  intro pins s σ H D I h
  refine wpAny_For (thn (hi pins s σ H _ I h) fun v s1 h1 => thn h1 fun itv s2 h2 => ?_) hs
  obtain ⟨it, fp, tn, J, H2, e, I2, T, st2, f2, W, ⟨m0, w0⟩, turn⟩ := h2
  subst e
  -- what stays true of the iterator's objects through the loop
  have stat : ∀ {H' : Hp}, (∀ b ∈ fp, H' b = none) → ∀ b ∈ fp, FpOk X pins H' b := fun hn b hb => ⟨hn b hb, (f2 b hb).2⟩
  refine codeAny_forLoop_any (fun n s' => ∃ i σ' H', Inv X pins σ' H' s' ∧ tn i s'.heap ∧ (∀ b ∈ fp, H' b = none) ∧ W i n σ' H') ?_ m0 ⟨0, σ, H2, I2, st2, fun b hb => (f2 b hb).1, w0⟩
  rintro n s3 ⟨i, σ3, H3, I3, st3, fr3, w3⟩
  rcases turn i n σ3 H3 w3 with ⟨stop, qn⟩ | ⟨go, N, hN, step⟩
  · refine wpAny_passesOwn hp (thn (T.done X rfl rfl rfl hc i pins s3 σ3 H3 X.xe I3 (stat fr3) st3 stop) fun r s4 ⟨hr, I4⟩ => ?_)
    subst hr
    exact wpAny_execs_nil ⟨σ3, H3, I4, qn⟩
  · refine wpAny_passesOwn hp (thn (T.item X rfl rfl rfl hc i pins s3 σ3 H3 X.xe I3 (stat fr3) st3 go) fun r s4 ⟨u, hr, h4⟩ => ?_)
    subst hr
    refine wpAny_passesOwn hp (thn h4 fun _ s5 ⟨x, H5, I5, r5, y5, st5, fr5⟩ => ?_)
    have I5' := I5.pinned (stat fr5) (T.obj _ _ st5)
    refine wpAny_passesOwn hp (thn (hg _ s5 σ3 H5 x u _ I5' r5 (step x H5 y5)) fun _ s6 ⟨σ6, H6, I6, q6⟩ => ?_)
    refine wpAny_passesOwn hp (thn (hb _ s6 σ6 H6 _ I6 q6) fun f s7 q7 => ?_)
    have again : ∀ {σ7 : St} {H7 : Hp}, Inv X (pins ++ pinsAt fp s5.heap) σ7 H7 s7 → N σ7 H7 → ∃ m, m < n ∧ ∃ i σ' H', Inv X pins σ' H' s7 ∧ tn i s7.heap ∧ (∀ b ∈ fp, H' b = none) ∧ W i m σ' H' := fun {σ7 H7} I7 n7 => by
      obtain ⟨m', hm, w7⟩ := hN σ7 H7 n7
      refine ⟨m', hm, i + 1, σ7, H7, I7.unpinned, T.keep _ _ _ st5 fun b hb o e => (I7.pin (b, o) (List.mem_append_right _ (List.mem_append_right _ (mem_pinsAt hb e)))).1, fun b hb => ?_, w7⟩
      obtain ⟨o, e, d⟩ := T.obj _ _ st5 b hb
      exact (I7.pin (b, o) (List.mem_append_right _ (List.mem_append_right _ (mem_pinsAt hb e)))).2.1
    cases f with
    | next => obtain ⟨σ7, H7, I7, n7⟩ := q7; exact again I7 n7
    | cont => obtain ⟨σ7, H7, I7, n7⟩ := q7; exact again I7 n7
    | brk => obtain ⟨σ7, H7, I7, q7⟩ := q7; exact ⟨σ7, H7, I7.unpinned, q7⟩
    | ret v => obtain ⟨x7, σ7, H7, I7, r7, q7⟩ := q7; exact ⟨x7, σ7, H7, I7.unpinned, r7, q7⟩
end

/-! ### the forms one uses -/
/-- over a list that the body leaves as it is -/
theorem for_list {K : PySem.W.Frag} {a : Addr} {xs : List V} {g : TG} {tb : TS} {D : Ends} {σ : St} {H : Hp} (Pv : Nat → St → Hp → Prop) (h0 : Pv 0 σ H) (hl : ∀ i σ H, i ≤ xs.length → Pv i σ H → SqL K H a xs)
    (hs : ∀ i x σ H, xs[i]? = some x → Pv i σ H → g x σ H fun σ2 H2 => tb { D with nx := Pv (i + 1), ct := Pv (i + 1), bk := D.nx } σ2 H2) (hd : ∀ σ H, Pv xs.length σ H → D.nx σ H) :
    ∃ W : Nat → Nat → St → Hp → Prop, (∃ m, W 0 m σ H) ∧ ∀ i m σ H, W i m σ H →
      ((Itl K a).stop i H ∧ D.nx σ H) ∨ ((Itl K a).go i H ∧ ∃ N : St → Hp → Prop, (∀ σ' H', N σ' H' → ∃ m', m' < m ∧ W (i + 1) m' σ' H') ∧ ∀ x H', (Itl K a).yld i H x H' → g x σ H' fun σ2 H2 => tb { D with nx := N, ct := N, bk := D.nx } σ2 H2) := by
  refine ⟨fun i m σ H => m = xs.length - i ∧ i ≤ xs.length ∧ Pv i σ H, ⟨xs.length, by simp, Nat.zero_le _, h0⟩, ?_⟩
  rintro i m σ H ⟨rfl, hi, p⟩
  have q := hl i σ H hi p
  by_cases hlt : i < xs.length
  · refine .inr ⟨⟨xs, xs[i], q, by simp [hlt]⟩, Pv (i + 1), fun σ' H' p' => ⟨xs.length - (i + 1), by omega, rfl, hlt, p'⟩, fun x H' y => ?_⟩
    obtain ⟨e, y⟩ := y
    subst e
    exact hs i x σ _ (y xs q) p
  · have e : i = xs.length := by omega
    subst e
    exact .inl ⟨⟨xs, q, Nat.le_refl _⟩, hd σ H p⟩
theorem for_tup {K : PySem.W.Frag} {a : Addr} {xs : List V} {g : TG} {tb : TS} {D : Ends} {σ : St} {H : Hp} (Pv : Nat → St → Hp → Prop) (h0 : Pv 0 σ H) (hl : ∀ i σ H, i ≤ xs.length → Pv i σ H → SqT K H a xs)
    (hs : ∀ i x σ H, xs[i]? = some x → Pv i σ H → g x σ H fun σ2 H2 => tb { D with nx := Pv (i + 1), ct := Pv (i + 1), bk := D.nx } σ2 H2) (hd : ∀ σ H, Pv xs.length σ H → D.nx σ H) :
    ∃ W : Nat → Nat → St → Hp → Prop, (∃ m, W 0 m σ H) ∧ ∀ i m σ H, W i m σ H →
      ((Itt K a).stop i H ∧ D.nx σ H) ∨ ((Itt K a).go i H ∧ ∃ N : St → Hp → Prop, (∀ σ' H', N σ' H' → ∃ m', m' < m ∧ W (i + 1) m' σ' H') ∧ ∀ x H', (Itt K a).yld i H x H' → g x σ H' fun σ2 H2 => tb { D with nx := N, ct := N, bk := D.nx } σ2 H2) := by
  refine ⟨fun i m σ H => m = xs.length - i ∧ i ≤ xs.length ∧ Pv i σ H, ⟨xs.length, by simp, Nat.zero_le _, h0⟩, ?_⟩
  rintro i m σ H ⟨rfl, hi, p⟩
  have q := hl i σ H hi p
  by_cases hlt : i < xs.length
  · refine .inr ⟨⟨xs, xs[i], q, by simp [hlt]⟩, Pv (i + 1), fun σ' H' p' => ⟨xs.length - (i + 1), by omega, rfl, hlt, p'⟩, fun x H' y => ?_⟩
    obtain ⟨e, y⟩ := y
    subst e
    exact hs i x σ _ (y xs q) p
  · have e : i = xs.length := by omega
    subst e
    exact .inl ⟨⟨xs, q, Nat.le_refl _⟩, hd σ H p⟩
end L2

namespace L2
open PySem PySem.Spec PyProof.Rows

abbrev R2 := V → V → Hp → VK → Prop
/-- a two-place operation on values: f is binaryOp op, inplaceOp op or compareOp op -/
def OpR (X : Cx) (f : Value → Value → Sem Value) (r : R2) : Prop :=
  ∀ (pins : List (Addr × Obj)) (s : Shared) (σ : St) (H : Hp) (x y : V) (v u : Value) (Q : VK), Inv X pins σ H s → RelV x v → RelV y u → r x y H Q →
    wpAny (model X.prog X.w) X.A (f v u) (EP X pins σ Q) X.xe s
/-- a one-place operation -/
def UnR (X : Cx) (f : Value → Sem Value) (r : V → Hp → VK → Prop) : Prop :=
  ∀ (pins : List (Addr × Obj)) (s : Shared) (σ : St) (H : Hp) (x : V) (v : Value) (Q : VK), Inv X pins σ H s → RelV x v → r x H Q →
    wpAny (model X.prog X.w) X.A (f v) (EP X pins σ Q) X.xe s
/-- a call of a value that is known (a builtin, a type) with values -/
def CallR (X : Cx) (f : Value) (r : List V → Hp → VK → Prop) : Prop :=
  ∀ (pins : List (Addr × Obj)) (s : Shared) (σ : St) (H : Hp) (xs : List V) (us : List Value) (Q : VK), Inv X pins σ H s → Vals xs us → r xs H Q →
    wpAny (model X.prog X.w) X.A (call f us) (EP X pins σ Q) X.xe s

def tOp (r : R2) (ta tb : TE) : TE := fun σ H Q => ta σ H fun x H1 => tb σ H1 fun y H2 => r x y H2 Q
def tUn (r : V → Hp → VK → Prop) (ta : TE) : TE := fun σ H Q => ta σ H fun x H1 => r x H1 Q
/-- ints in, under C, and a value out -/
def rI (C : Int → Int → Prop) (g : Int → Int → V) : R2 := fun x y H Q => ∃ i j, x = .int i ∧ y = .int j ∧ C i j ∧ Q (g i j) H
def rI0 (g : Int → Int → V) : R2 := fun x y H Q => ∃ i j, x = .int i ∧ y = .int j ∧ Q (g i j) H
def rU (g : Int → V) : V → Hp → VK → Prop := fun x H Q => ∃ i, x = .int i ∧ Q (g i) H

section
variable {X : Cx} {a b c : Expr} {ta tb tc : TE} {pos : Pos}

theorem binT (ha : PE X a ta) (hb : PE X b tb) {pins : List (Addr × Obj)} {s : Shared} {σ : St} {H : Hp} {R : V → V → Hp → Prop} (I : Inv X pins σ H s)
    (h : ta σ H fun x H1 => tb σ H1 fun y H2 => R x y H2) {Q : Value → Shared → Prop} {f : Value → Value → Sem Value}
    (hf : ∀ v u s2 x y H2, Inv X pins σ H2 s2 → RelV x v → RelV y u → R x y H2 → wpAny (model X.prog X.w) X.A (f v u) Q X.xe s2) :
    wpAny (model X.prog X.w) X.A (eval a X.env) (fun v s₁ => wpAny (model X.prog X.w) X.A (eval b X.env) (fun u s₂ => wpAny (model X.prog X.w) X.A (f v u) Q X.xe s₂) X.xe s₁) X.xe s := by
  refine thn (ha pins s σ H _ I h) fun v s1 ⟨x, H1, I1, r1, q1⟩ => ?_
  refine thn (hb pins s1 σ H1 _ I1 q1) fun u s2 ⟨y, H2, I2, r2, q2⟩ => ?_
  exact hf v u s2 x y H2 I2 r1 r2 q2

theorem pe_op {op : Operator} {r : R2} (ho : OpR X (binaryOp op) r) (ha : PE X a ta) (hb : PE X b tb) : PE X (.BinOp a op b pos) (tOp r ta tb) := by
  intro pins s σ H Q I h
  exact wpAny_BinOp (binT ha hb I h fun v u s2 x y H2 I2 rx ry q => ho pins s2 σ H2 x y v u Q I2 rx ry q)
theorem pe_un {op : UnaryOp} {r : V → Hp → VK → Prop} (ho : UnR X (unaryOp op) r) (ha : PE X a ta) : PE X (.UnaryOp op a pos) (tUn r ta) := by
  intro pins s σ H Q I h
  exact UnaryOp_ (thn (ha pins s σ H _ I h) fun v s1 ⟨x, H1, I1, r1, q1⟩ => ho pins s1 σ H1 x v Q I1 r1 q1)

/-! ### ints -/
theorem opI {f : Value → Value → Sem Value} {C : Int → Int → Prop} {g : Int → Int → Int}
    (rule : ∀ (i j : Int) (t u : Tok) (s : Shared) (Q : Value → Shared → Prop) (E : Value → Shared → Prop), C i j → Q (.int (g i j) s.toks) { s with toks := s.toks + 1 } → wpAny (model X.prog X.w) X.A (f (.int i t) (.int j u)) Q E s) :
    OpR X f (rI C fun i j => .int (g i j)) := by
  intro pins s σ H x y v u Q I rx ry h
  obtain ⟨i, j, rfl, rfl, hc, q⟩ := h
  obtain ⟨t, rfl⟩ := rx
  obtain ⟨t', rfl⟩ := ry
  exact rule i j t t' s _ _ hc ⟨.int (g i j), H, I.tok _, ⟨_, rfl⟩, q⟩
theorem opI0 {f : Value → Value → Sem Value} {g : Int → Int → Int}
    (rule : ∀ (i j : Int) (t u : Tok) (s : Shared) (Q : Value → Shared → Prop) (E : Value → Shared → Prop), Q (.int (g i j) s.toks) { s with toks := s.toks + 1 } → wpAny (model X.prog X.w) X.A (f (.int i t) (.int j u)) Q E s) :
    OpR X f (rI0 fun i j => .int (g i j)) := by
  intro pins s σ H x y v u Q I rx ry h
  obtain ⟨i, j, rfl, rfl, q⟩ := h
  obtain ⟨t, rfl⟩ := rx
  obtain ⟨t', rfl⟩ := ry
  exact rule i j t t' s _ _ ⟨.int (g i j), H, I.tok _, ⟨_, rfl⟩, q⟩
theorem opB0 {f : Value → Value → Sem Value} {g : Int → Int → Bool}
    (rule : ∀ (i j : Int) (t u : Tok) (s : Shared) (Q : Value → Shared → Prop) (E : Value → Shared → Prop), Q (.bool (g i j)) s → wpAny (model X.prog X.w) X.A (f (.int i t) (.int j u)) Q E s) :
    OpR X f (rI0 fun i j => .bl (g i j)) := by
  intro pins s σ H x y v u Q I rx ry h
  obtain ⟨i, j, rfl, rfl, q⟩ := h
  obtain ⟨t, rfl⟩ := rx
  obtain ⟨t', rfl⟩ := ry
  exact rule i j t t' s _ _ ⟨.bl (g i j), H, I, rfl, q⟩

def CDiv (i j : Int) : Prop := 0 < j ∧ j < 1073741824
def CMul (i j : Int) : Prop := (-(2 ^ 64) < i ∧ i < 2 ^ 64) ∨ (-(2 ^ 64) < j ∧ j < 2 ^ 64)
theorem CMul.ok {i j : Int} (h : CMul i j) : IntMulOk i j := by
  rcases h with ⟨h1, h2⟩ | ⟨h1, h2⟩
  · exact .of_left (intBits_le_64 h1 h2)
  · exact .of_right (intBits_le_64 h1 h2)

theorem op_add : OpR X (binaryOp .Add) (rI0 fun i j => .int (i + j)) := opI0 fun _ _ _ _ _ _ _ q => add_int q
theorem op_sub : OpR X (binaryOp .Sub) (rI0 fun i j => .int (i - j)) := opI0 fun _ _ _ _ _ _ _ q => sub_int q
theorem op_mul : OpR X (binaryOp .Mult) (rI CMul fun i j => .int (i * j)) := opI fun _ _ _ _ _ _ _ hc q => mul_int q hc.ok
/-- // by a positive divisor -/
theorem op_fdiv : OpR X (binaryOp .FloorDiv) (rI CDiv fun i j => .int (i / j)) := opI fun i j _ _ _ _ _ hc q => by
  have h1 : (0 : Int) < j := hc.1
  have h2 : j < 1073741824 := hc.2
  exact floordiv_int (by omega) (by rw [Int.fdiv_eq_ediv_of_nonneg i (by omega)]; exact q) (.inl (PyProof.noPylong_small (by omega)))


theorem unI {f : Value → Sem Value} {g : Int → Int}
    (rule : ∀ (i : Int) (t : Tok) (s : Shared) (Q : Value → Shared → Prop) (E : Value → Shared → Prop), Q (.int (g i) s.toks) { s with toks := s.toks + 1 } → wpAny (model X.prog X.w) X.A (f (.int i t)) Q E s) :
    UnR X f (rU fun i => .int (g i)) := by
  intro pins s σ H x v Q I rx h
  obtain ⟨i, rfl, q⟩ := h
  obtain ⟨t, rfl⟩ := rx
  exact rule i t s _ _ ⟨.int (g i), H, I.tok _, ⟨_, rfl⟩, q⟩
theorem un_neg : UnR X (unaryOp .USub) (rU fun i => .int (-i)) := unI fun _ _ _ _ _ q => neg_int q

/-! ### bools among ints: n += (a < b) -/
end

/-! ### comparisons -/
/-- the scalars that == tells apart as data does -/
def scal : V → V → Bool
  | .non, .non => true | .non, .int _ => true | .int _, .non => true | .non, .bl _ => true | .bl _, .non => true | .non, .str _ => true | .str _, .non => true
  | .int _, .int _ => true | .bl _, .bl _ => true | .str _, .str _ => true | .byt _, .byt _ => true
  | .int _, .str _ => true | .str _, .int _ => true | .bl _, .str _ => true | .str _, .bl _ => true
  | _, _ => false
def rEq : R2 := fun x y H Q => scal x y = true ∧ Q (.bl (decide (x = y))) H
def rNe : R2 := fun x y H Q => scal x y = true ∧ Q (.bl (!decide (x = y))) H

theorem dec_int {i j : Int} : decide (V.int i = V.int j) = (i == j) := by
  rw [Bool.eq_iff_iff]
  simp
theorem dec_bl {i j : Bool} : decide (V.bl i = V.bl j) = (i == j) := by
  rw [Bool.eq_iff_iff]
  simp
theorem dec_str {i j : Str} : decide (V.str i = V.str j) = (i == j) := by
  rw [Bool.eq_iff_iff]
  simp
theorem dec_byt {i j : Array UInt8} : decide (V.byt i = V.byt j) = (i.toList == j.toList) := by
  rw [Bool.eq_iff_iff]
  cases i
  cases j
  simp

section
variable {X : Cx} {a b c : Expr} {ta tb tc : TE} {pos : Pos}
theorem fin_bl {pins : List (Addr × Obj)} {σ : St} {H : Hp} {s : Shared} {Q : VK} {k k' : Bool} (I : Inv X pins σ H s) (q : Q (.bl k) H) (e : k = k') : EP X pins σ Q (.bool k') s := by
  subst e
  exact ⟨.bl k, H, I, rfl, q⟩
theorem op_eq : OpR X (compareOp .Eq) rEq := by
  intro pins s σ H x y v u Q I rx ry h
  obtain ⟨hs, q⟩ := h
  cases x with
  | non =>
    cases rx
    cases y with
    | non => cases ry; exact PySem.EqNone.eq_none_none (fin_bl I q (by simp))
    | bl j => cases ry; exact PySem.EqNone.eq_none_bool (fin_bl I q (by simp))
    | int j => obtain ⟨t', rfl⟩ := ry; exact PySem.EqNone.eq_none_int (fin_bl I q (by simp))
    | str j => obtain ⟨t', rfl⟩ := ry; exact PySem.EqNone.eq_none_str (fin_bl I q (by simp))
    | _ => exact absurd (show false = true from hs) Bool.false_ne_true
  | bl i =>
    cases rx
    cases y with
    | non => cases ry; exact PySem.EqNone.eq_bool_none (fin_bl I q (by simp))
    | bl j => cases ry; exact eq_bool (fin_bl I q dec_bl)
    | str j => obtain ⟨t', rfl⟩ := ry; exact PySem.EqMixed.eq_bool_str (fin_bl I q (by simp))
    | _ => exact absurd (show false = true from hs) Bool.false_ne_true
  | int i =>
    obtain ⟨t, rfl⟩ := rx
    cases y with
    | non => cases ry; exact PySem.EqNone.eq_int_none (fin_bl I q (by simp))
    | int j => obtain ⟨t', rfl⟩ := ry; exact eq_int (fin_bl I q dec_int)
    | str j => obtain ⟨t', rfl⟩ := ry; exact PySem.EqMixed.eq_int_str (fin_bl I q (by simp))
    | _ => exact absurd (show false = true from hs) Bool.false_ne_true
  | str i =>
    obtain ⟨t, rfl⟩ := rx
    cases y with
    | non => cases ry; exact PySem.EqNone.eq_str_none (fin_bl I q (by simp))
    | bl j => cases ry; exact PySem.EqMixed.eq_str_bool (fin_bl I q (by simp))
    | int j => obtain ⟨t', rfl⟩ := ry; exact PySem.EqMixed.eq_str_int (fin_bl I q (by simp))
    | str j => obtain ⟨t', rfl⟩ := ry; exact eq_str (fin_bl I q dec_str)
    | _ => exact absurd (show false = true from hs) Bool.false_ne_true
  | byt i =>
    obtain ⟨t, rfl⟩ := rx
    cases y with
    | byt j => obtain ⟨t', rfl⟩ := ry; exact PySem.W.eq_bytes (fin_bl I q dec_byt)
    | _ => exact absurd (show false = true from hs) Bool.false_ne_true
  | _ => cases y <;> exact absurd (show false = true from hs) Bool.false_ne_true
theorem op_ne : OpR X (compareOp .NotEq) rNe := by
  intro pins s σ H x y v u Q I rx ry h
  obtain ⟨hs, q⟩ := h
  cases x with
  | non =>
    cases rx
    cases y with
    | non => cases ry; exact PySem.EqNone.ne_none_none (fin_bl I q (by simp))
    | bl j => cases ry; exact PySem.EqNone.ne_none_bool (fin_bl I q (by simp))
    | int j => obtain ⟨t', rfl⟩ := ry; exact PySem.EqNone.ne_none_int (fin_bl I q (by simp))
    | str j => obtain ⟨t', rfl⟩ := ry; exact PySem.EqNone.ne_none_str (fin_bl I q (by simp))
    | _ => exact absurd (show false = true from hs) Bool.false_ne_true
  | bl i =>
    cases rx
    cases y with
    | non => cases ry; exact PySem.EqNone.ne_bool_none (fin_bl I q (by simp))
    | bl j => cases ry; exact ne_bool (fin_bl I q (congrArg not dec_bl))
    | str j => obtain ⟨t', rfl⟩ := ry; exact PySem.EqMixed.ne_bool_str (fin_bl I q (by simp))
    | _ => exact absurd (show false = true from hs) Bool.false_ne_true
  | int i =>
    obtain ⟨t, rfl⟩ := rx
    cases y with
    | non => cases ry; exact PySem.EqNone.ne_int_none (fin_bl I q (by simp))
    | int j => obtain ⟨t', rfl⟩ := ry; exact ne_int (fin_bl I q (congrArg not dec_int))
    | str j => obtain ⟨t', rfl⟩ := ry; exact PySem.EqMixed.ne_int_str (fin_bl I q (by simp))
    | _ => exact absurd (show false = true from hs) Bool.false_ne_true
  | str i =>
    obtain ⟨t, rfl⟩ := rx
    cases y with
    | non => cases ry; exact PySem.EqNone.ne_str_none (fin_bl I q (by simp))
    | bl j => cases ry; exact PySem.EqMixed.ne_str_bool (fin_bl I q (by simp))
    | int j => obtain ⟨t', rfl⟩ := ry; exact PySem.EqMixed.ne_str_int (fin_bl I q (by simp))
    | str j => obtain ⟨t', rfl⟩ := ry; exact ne_str (fin_bl I q (congrArg not dec_str))
    | _ => exact absurd (show false = true from hs) Bool.false_ne_true
  | byt i =>
    obtain ⟨t, rfl⟩ := rx
    cases y with
    | byt j => obtain ⟨t', rfl⟩ := ry; exact PySem.W.ne_bytes (fin_bl I q (congrArg not dec_byt))
    | _ => exact absurd (show false = true from hs) Bool.false_ne_true
  | _ => cases y <;> exact absurd (show false = true from hs) Bool.false_ne_true

theorem op_lt : OpR X (compareOp .Lt) (rI0 fun i j => .bl (decide (i < j))) := opB0 fun _ _ _ _ _ _ _ q => lt_int q
theorem op_le : OpR X (compareOp .LtE) (rI0 fun i j => .bl (decide (i ≤ j))) := opB0 fun _ _ _ _ _ _ _ q => le_int q
theorem op_gt : OpR X (compareOp .Gt) (rI0 fun i j => .bl (decide (j < i))) := opB0 fun _ _ _ _ _ _ _ q => gt_int q
theorem op_ge : OpR X (compareOp .GtE) (rI0 fun i j => .bl (decide (j ≤ i))) := opB0 fun _ _ _ _ _ _ _ q => ge_int q




theorem nomark (b : Expr) {op : CmpOp} (h : op ≠ .In := by decide) (h2 : op ≠ .NotIn := by decide) : behindInMarks op b = false := by
  have e1 : (op == CmpOp.In) = false := by cases op <;> first | rfl | exact absurd rfl h
  have e2 : (op == CmpOp.NotIn) = false := by cases op <;> first | rfl | exact absurd rfl h2
  cases b <;> simp [behindInMarks, e1, e2]
/-- a comparison as a value; hm: nomark b, or (for in, not in) by with_unfolding_all rfl -/
theorem pe_cmpR {op : CmpOp} {r : R2} (ho : OpR X (compareOp op) r) (ha : PE X a ta) (hb : PE X b tb) (hm : behindInMarks op b = false) : PE X (.Compare a [op] [b] pos) (tOp r ta tb) := by
  intro pins s σ H Q I h
  exact wpAny_Compare1 (binT ha hb I h fun v u s2 x y H2 I2 rx ry q => ho pins s2 σ H2 x y v u Q I2 rx ry q) hm
/-- a reading of a value as a test -/
def tTest (t : TE) : TT := fun σ H Q => t σ H fun x H' => ∃ k, x = .bl k ∧ Q k H'
theorem pt_cmpR {op : CmpOp} {r : R2} (ho : OpR X (compareOp op) r) (ha : PE X a ta) (hb : PE X b tb) (hm : behindInMarks op b = false) : PT X (.Compare a [op] [b] pos) (tTest (tOp r ta tb)) := by
  intro pins s σ H Q I h
  refine wpAny_isTrue_Compare1 (thn (ha pins s σ H _ I h) fun v s1 ⟨x, H1, I1, r1, q1⟩ => thn (hb pins s1 σ H1 _ I1 q1) fun u s2 ⟨y, H2, I2, r2, q2⟩ =>
    thn (ho pins s2 σ H2 x y v u _ I2 r1 r2 q2) fun c s3 ⟨z, H3, I3, r3, k, e, q3⟩ => ?_) hm
  subst e
  cases r3
  exact wpAny_truthy_bool ⟨H3, I3, q3⟩
/-- a op1 b op2 c -/
def tChain (r r' : R2) (ta tb tc : TE) : TE := fun σ H Q => ta σ H fun x H1 => tb σ H1 fun y H2 => r x y H2 fun z H3 => ∃ k, z = .bl k ∧
  (if k = true then tc σ H3 fun w' H4 => r' y w' H4 Q else Q (.bl false) H3)
theorem pe_chain {op op' : CmpOp} {r r' : R2} (ho : OpR X (compareOp op) r) (ho' : OpR X (compareOp op') r') (ha : PE X a ta) (hb : PE X b tb) (hc : PE X c tc)
    (hm : lastMarks [op, op'] [b, c] = false := by with_unfolding_all rfl) : PE X (.Compare a [op, op'] [b, c] pos) (tChain r r' ta tb tc) := by
  intro pins s σ H Q I h
  refine Compare_chain (thn (ha pins s σ H _ I h) fun v s1 ⟨x, H1, I1, r1, q1⟩ => chain_link (thn (hb pins s1 σ H1 _ I1 q1) fun u s2 ⟨y, H2, I2, r2, q2⟩ =>
    thn (ho pins s2 σ H2 x y v u _ I2 r1 r2 q2) fun d s3 ⟨z, H3, I3, r3, k, e, q3⟩ => ?_)) hm
  subst e
  cases r3
  refine wpAny_truthy_bool ?_
  cases k with
  | false => exact ite_ff ⟨.bl false, H3, I3, rfl, q3⟩
  | true => exact ite_tt (chain_last (thn (hc pins s3 σ H3 _ I3 q3) fun w' s4 ⟨z', H4, I4, r4, q4⟩ => ho' pins s4 σ H4 y z' u w' Q I4 r2 r4 q4))

/-! ### truth -/
theorem line63 : (sizeLine : Nat) < 2 ^ 63 := by rw [sizeLine_eq]; decide

/-! ### strs and bytes -/

/-! ### scalar builtins, by CallR -/
theorem vals1 {x : V} {us : List Value} (r : Vals [x] us) : ∃ u, us = [u] ∧ RelV x u := by
  cases r with
  | cons r1 r2 => cases r2; exact ⟨_, rfl, r1⟩
theorem vals2 {x y : V} {us : List Value} (r : Vals [x, y] us) : ∃ u w', us = [u, w'] ∧ RelV x u ∧ RelV y w' := by
  cases r with
  | cons r1 r2 =>
    cases r2 with
    | cons r3 r4 => cases r4; exact ⟨_, _, rfl, r1, r3⟩
theorem call_max2 (hc : X.calm = true) : CallR X (.builtin "max") (fun xs H Q => ∃ i j, xs = [.int i, .int j] ∧ Q (.int (if j > i then j else i)) H) := by
  intro pins s σ H xs us Q I r h
  obtain ⟨i, j, rfl, q⟩ := h
  obtain ⟨u, w', rfl, ⟨t, rfl⟩, ⟨t', rfl⟩⟩ := vals2 r
  refine max_two_ints (I.ok.hd hc) fun h' tk k => ⟨_, H, I.kept k, ?_, q⟩
  by_cases hj : j > i
  · rw [if_pos hj, if_pos hj]; exact ⟨_, rfl⟩
  · rw [if_neg hj, if_neg hj]; exact ⟨_, rfl⟩
theorem call_ord : CallR X (.builtin "ord") (fun xs H Q => ∃ x, xs = [.str x] ∧ x.length = 1 ∧ Q (.int (x.cps.getD 0 0 : Nat)) H) := by
  intro pins s σ H xs us Q I r h
  obtain ⟨x, rfl, hz, q⟩ := h
  obtain ⟨u, rfl, t, rfl⟩ := vals1 r
  exact ord_of_one hz ⟨.int _, H, I.tok _, ⟨_, rfl⟩, q⟩
end
end L2

namespace L2
open PySem PySem.Spec PyProof.Rows

/-! ### an instance, its attributes a map -/
structure ObjM (h : Heap) (x dx C : Addr) (mA : Str → Option Value) : Prop where
  obj : h.get? x = some (PySem.W.instObj C dx)
  ns : h.Ns1 dx mA
  ne : dx ≠ x

theorem lookIn_ns {h : Heap} {dx : Addr} {mA : Str → Option Value} (n : h.Ns1 dx mA) : ∃ od, h.get? dx = some od ∧ ∀ name, PySem.W.lookIn name od = some (mA name) := by
  obtain ⟨o, es, ep, ho, hd, hk, _, hm⟩ := n
  refine ⟨o, ho, fun name => ?_⟩
  have e := hm name
  unfold nsFind findBy at e
  rw [← Array.find?_toList] at e
  unfold PySem.W.lookIn
  rw [hd]
  dsimp only
  split
  · rename_i y q
    rw [q] at e
    exact congrArg some e
  · rename_i q
    rw [q] at e
    have a : es.toList.any (·.refKey) = false := by
      rw [List.any_eq_false]
      intro y hy
      obtain ⟨z, t, hkey⟩ := hk y (Array.mem_toList_iff.mp hy)
      simp [DictEntry.refKey, hkey]
    have a' : ¬ es.toList.any (·.refKey) = true := by rw [a]; exact Bool.false_ne_true
    rw [if_neg a']
    exact congrArg some e

theorem ObjM.look {h : Heap} {x dx C : Addr} {mA : Str → Option Value} (I : ObjM h x dx C mA) : ∃ od, PySem.W.InstAt h x (PySem.W.instObj C dx) C (some od) ∧ ∀ name, PySem.W.lookIn name od = some (mA name) :=
  let ⟨od, ho, hl⟩ := lookIn_ns I.ns
  ⟨od, ⟨I.obj, rfl, rfl, ho⟩, hl⟩

section
variable {prog : Program} {w : World} {A : Around} {E : Value → Shared → Prop} {s : Shared} {K : PySem.W.Frag} {x dx C f : Addr} {mA : Str → Option Value} {name : Str} {v : Value}

theorem get_map {expr : Bool} {Q : Value → Shared → Prop} (X : K.In s.heap) (I : ObjM s.heap x dx C mA) (hg : PySem.W.plainGet K C name = true) (hh : PySem.W.hasDictIn K C = true)
    (ha : PySem.W.findIn K (.ref C) name = some none) (hv : mA name = some v) (hv' : PySem.W.handedIn v = true) (h : Q v { s with toks := s.toks + 1 }) :
    wpAny (model prog w) A (getAttr (.ref x) name expr) Q E s := by
  obtain ⟨od, J, hl⟩ := I.look
  exact PySem.W.get_value X J (PySem.W.plainGet_of hg).1 (PySem.W.findObj_own hh ha rfl (by rw [hl, hv])) hv' h


theorem get_meth {pl : Sem Bool} {Q : Value × List Value → Shared → Prop} (X : K.In s.heap) (I : ObjM s.heap x dx C mA) (hg : PySem.W.plainGet K C name = true)
    (hf : PySem.W.findIn K (.ref C) name = some (some (.ref f))) (ht : PySem.W.isFn K (.ref f) = true) (hv : mA name = none) (h : Q (.ref f, [.ref x]) s) :
    wpAny (model prog w) A (getMethod (.ref x) name pl) Q E s := by
  obtain ⟨od, J, hl⟩ := I.look
  exact PySem.W.method_fn X J (PySem.W.plainGet_of hg).1 (PySem.W.plainGet_of hg).2 hf (beq_iff_eq.mp ht) (by show (PySem.W.lookIn name od).map (·.isSome) = some false; rw [hl, hv]; rfl) h

theorem set_map {ns : List Str} {Q : Unit → Shared → Prop} (X : K.In s.heap) (I : ObjM s.heap x dx C mA)
    (hs : PySem.W.findIn K (.ref C) "__setattr__" = some (some (.builtin "object.__setattr__"))) (hp : PySem.W.plainOver K C = true) (ht : PySem.W.takerIn K C name = some none) (hh : PySem.W.hasDictIn K C = true)
    (hw : PySem.Within mA ns) (hsz : ns.length ≤ sizeLine)
    (h : ∀ h', ObjM h' x dx C (fun y => if y = name then some v else mA y) → Heap.SameBut dx s.heap h' → Q () { s with heap := h', toks := s.toks + 2 }) :
    wpAny (model prog w) A (setAttr (.ref x) name v) Q E s := by
  obtain ⟨od, J, hl⟩ := I.look
  refine PySem.W.set_plain X J hs (PySem.W.osa_open (s := { s with toks := s.toks + 1 }) (r := none) X J hp ht fun b => ?_)
  obtain ⟨cd, hc, hd'⟩ := PySem.W.any_some hh
  have hx : s.heap.get? x = some ⟨.ref C, some dx, .plain, #[]⟩ := I.obj
  refine wpAny_bind (wpAny_pure (wpAny_bind (wpAny_bind (wpAny_loadPart hx (wpAny_bind (PySem.W.Looks.here (s := { s with toks := s.toks + 1 }) (PySem.W.looks_clsIn X hc) ?_))))))
  rw [hd']
  refine wpAny_pure (a := some dx) (wpAny_bind (wpAny_pure (wpAny_bind ?_)))
  refine wpAny_nsSet1 (s := { s with toks := s.toks + 1 }) I.ns fun h' hn2 hs2 => ?_
  obtain ⟨oD, esD, epD, hoD, hdD, hcD⟩ := hn2.count (PySem.Within.cons name v hw)
  refine wpAny_bind (wpAny_lookBehind hoD (by rw [hdD]; exact pastItsLine_dict (Nat.le_trans hcD (by rw [List.length_cons]; omega))) ?_)
  exact wpAny_pure (h _ ⟨(hs2.2 _ (Ne.symm I.ne)).trans I.obj, hn2, I.ne⟩ hs2)

/-- C(..): the dict at the heap's end, the instance behind it; then its __init__ -/
theorem make_map {R : Result → Shared → Prop} {vs : List Value} {kw : List (Str × Value)} (X : K.In s.heap) (hm : PySem.W.makesIn K C = true)
    (hi : PySem.W.findIn K (.ref C) "__init__" = some (some (.ref f))) (hf : PySem.W.typeIn K (.ref f) = some (.type "function"))
    (h : codeAny (model prog w) (A.under (.builtin "type.__call__" ⟨.ref C :: vs, kw⟩)) (.call (.ref f) ⟨.ref (s.heap.objs.size + 1) :: vs, kw⟩) (PySem.W.InitBack (s.heap.objs.size + 1) R)
      { s with heap := (s.heap.push PySem.W.emptyDict).push (PySem.W.instObj C s.heap.objs.size) }) :
    codeAny (model prog w) A (.call (.ref C) ⟨vs, kw⟩) R s := by
  obtain ⟨hh, g, d, t, os⟩ := s
  exact PySem.W.make_core (PySem.W.makes_of X hm) (PySem.W.looks_findIn X hi) (fun self => PySem.W.bind_fn X self hf) (.inl rfl) h
end

/-! ### the attributes as a list of pairs -/
def putF (f : Str) (v : V) : List (Str × V) → List (Str × V)
  | [] => [(f, v)]
  | (g, x) :: r => if g = f then (g, v) :: r else (g, x) :: putF f v r
theorem lookup_putF (f g : Str) (v : V) : ∀ fs : List (Str × V), (putF f v fs).lookup g = if g = f then some v else fs.lookup g
  | [] => by
    show List.lookup g [(f, v)] = _
    by_cases h : g = f
    · have hb : (g == f) = true := beq_iff_eq.mpr h
      simp only [List.lookup, hb, if_pos h]
    · have hb : (g == f) = false := beq_eq_false_iff_ne.mpr h
      simp only [List.lookup, hb, if_neg h]
  | (k, x) :: r => by
    have ih := lookup_putF f g v r
    rw [show putF f v ((k, x) :: r) = (if k = f then (k, v) :: r else (k, x) :: putF f v r) from rfl]
    by_cases hk : k = f
    · rw [if_pos hk]
      by_cases h : g = k
      · have hb : (g == k) = true := beq_iff_eq.mpr h
        simp only [List.lookup, hb, if_pos (h.trans hk)]
      · have hb : (g == k) = false := beq_eq_false_iff_ne.mpr h
        simp only [List.lookup, hb, if_neg (fun e : g = f => h (e.trans hk.symm))]
    · rw [if_neg hk]
      by_cases h : g = k
      · have hb : (g == k) = true := beq_iff_eq.mpr h
        simp only [List.lookup, hb, if_neg (fun e : g = f => hk (h.symm.trans e))]
      · have hb : (g == k) = false := beq_eq_false_iff_ne.mpr h
        simp only [List.lookup, hb]
        exact ih
theorem keys_putF (f : Str) (v : V) : ∀ fs : List (Str × V), f ∈ (putF f v fs).map (·.1) ∧ ∀ g, g ∈ fs.map (·.1) → g ∈ (putF f v fs).map (·.1)
  | [] => ⟨by simp [putF], fun g h => by simp at h⟩
  | (k, x) :: r => by
    obtain ⟨i1, i2⟩ := keys_putF f v r
    rw [show putF f v ((k, x) :: r) = (if k = f then (k, v) :: r else (k, x) :: putF f v r) from rfl]
    by_cases hk : k = f
    · rw [if_pos hk]
      subst hk
      exact ⟨by simp, fun g h => by simpa using h⟩
    · rw [if_neg hk]
      refine ⟨?_, fun g h => ?_⟩
      · rw [List.map_cons]
        exact List.mem_cons_of_mem _ i1
      · rw [List.map_cons] at h ⊢
        rcases List.mem_cons.mp h with e | e
        · exact List.mem_cons.mpr (.inl e)
        · exact List.mem_cons_of_mem _ (i2 g e)
theorem length_putF (f : Str) (v : V) : ∀ fs : List (Str × V), (putF f v fs).length ≤ fs.length + 1
  | [] => by simp [putF]
  | (k, x) :: r => by
    have ih := length_putF f v r
    rw [show putF f v ((k, x) :: r) = (if k = f then (k, v) :: r else (k, x) :: putF f v r) from rfl]
    by_cases hk : k = f
    · rw [if_pos hk, List.length_cons, List.length_cons]; omega
    · rw [if_neg hk, List.length_cons, List.length_cons]; omega

theorem RelO.some_of {v : V} {o : Option Value} (r : RelO (some v) o) : ∃ u, o = some u ∧ RelV v u := by
  cases o with
  | none => exact (show False from r).elim
  | some u => exact ⟨u, rfl, r⟩
theorem RelO.none_of {o : Option Value} (r : RelO none o) : o = none := by
  cases o with
  | none => rfl
  | some u => exact (show False from r).elim
theorem handed_of {v : V} {u : Value} (r : RelV v u) : PySem.W.handedIn u = true := by
  cases v with
  | non => cases (show u = Value.none from r); rfl
  | bl b => cases (show u = Value.bool b from r); rfl
  | int i => obtain ⟨t, e⟩ := (show ∃ t, u = Value.int i t from r); cases e; rfl
  | str x => obtain ⟨t, e⟩ := (show ∃ t, u = Value.str x t from r); cases e; rfl
  | byt b => obtain ⟨t, e⟩ := (show ∃ t, u = Value.bytes b t from r); cases e; rfl
  | flt b => obtain ⟨t, e⟩ := (show ∃ t, u = Value.float b t from r); cases e; rfl
  | ref a => cases (show u = Value.ref a from r); rfl
  | ty n => cases (show u = Value.type n from r); rfl

section
variable {P : Program} {w : World} {H H' : Hp} {h h' : Heap} {a C dx : Addr} {fs fs' : List (Str × V)}
theorem ins_get (hok : HOk P w H h) (e : H a = some (.ins C dx fs)) : ∃ mA, ObjM h a dx C mA ∧ (∀ f, RelO (fs.lookup f) (mA f)) ∧ PySem.Within mA (fs.map (·.1)) ∧ fs.length ≤ 1000 ∧ H dx = some (.own a) := by
  obtain ⟨d, z, ne, ob, mA, n, r, q⟩ := (show ObjOk P w H h a (.ins C dx fs) from hok a _ e)
  exact ⟨mA, ⟨ob, n, ne⟩, r, q, z, d⟩
end

/-! ### what of the text a class must have -/
structure Cls (K : PySem.W.Frag) (C : Addr) : Prop where
  pg : PySem.W.plainGet K C Str.empty = true
  hd : PySem.W.hasDictIn K C = true
  po : PySem.W.plainOver K C = true
  sa : PySem.W.findIn K (.ref C) "__setattr__" = some (some (.builtin "object.__setattr__"))
theorem Cls.get {K : PySem.W.Frag} {C : Addr} (c : Cls K C) (f : Str) : PySem.W.plainGet K C f = true := c.pg
/-- no class of it has the name -/
def NoAttr (K : PySem.W.Frag) (C : Addr) (f : Str) : Prop := PySem.W.findIn K (.ref C) f = some none
theorem NoAttr.taker {K : PySem.W.Frag} {C : Addr} {f : Str} (n : NoAttr K C f) : PySem.W.takerIn K C f = some none := by
  unfold PySem.W.takerIn
  rw [show PySem.W.findIn K (.ref C) f = some none from n]
  rfl
/-- a method: a plain def of the class or of one above it -/
structure Meth (K : PySem.W.Frag) (C : Addr) (m : Str) (f : Addr) : Prop where
  at_ : PySem.W.findIn K (.ref C) m = some (some (.ref f))
  fn : PySem.W.isFn K (.ref f) = true
  kp : PySem.W.keepIn K (.ref f) = true

section
variable {X : Cx} {pins : List (Addr × Obj)} {σ : St} {H : Hp} {s : Shared} {a C dx : Addr} {fs : List (Str × V)} {f : Str} {v : V} {A : Around} {E : Value → Shared → Prop}

theorem getattr_ok {b : Bool} {Q : Value → Shared → Prop} (I : Inv X pins σ H s) (e : H a = some (.ins C dx fs)) (c : Cls X.K C) (n : NoAttr X.K C f) (l : fs.lookup f = some v)
    (h : ∀ u s', Inv X pins σ H s' → RelV v u → Q u s') : wpAny (model X.prog X.w) A (getAttr (.ref a) f b) Q E s := by
  obtain ⟨mA, O, r, _, _, _⟩ := ins_get I.hok e
  obtain ⟨u, hu, ru⟩ := RelO.some_of (v := v) (o := mA f) (by rw [← l]; exact r f)
  exact get_map I.kIn O (c.get f) c.hd n hu (handed_of ru) (h u _ (I.tok _) ru)


theorem getmeth_ok {m : Str} {g : Addr} {pl : Sem Bool} {Q : Value × List Value → Shared → Prop} (I : Inv X pins σ H s) (e : H a = some (.ins C dx fs)) (c : Cls X.K C) (k : Meth X.K C m g) (l : fs.lookup m = none)
    (h : Q (.ref g, [.ref a]) s) : wpAny (model X.prog X.w) A (getMethod (.ref a) m pl) Q E s := by
  obtain ⟨mA, O, r, _, _, _⟩ := ins_get I.hok e
  have hn : mA m = none := RelO.none_of (by rw [← l]; exact r m)
  exact get_meth I.kIn O (c.get m) k.at_ k.fn hn h

theorem setattr_ok {y : V} {u : Value} {Q : Unit → Shared → Prop} (I : Inv X pins σ H s) (e : H a = some (.ins C dx fs)) (c : Cls X.K C) (n : NoAttr X.K C f) (hl : fs.length < 1000) (ry : RelV y u)
    (h : ∀ s', Inv X pins σ (upd H a (.ins C dx (putF f y fs))) s' → Q () s') : wpAny (model X.prog X.w) A (setAttr (.ref a) f u) Q E s := by
  obtain ⟨mA, O, r, wi, _, ho⟩ := ins_get I.hok e
  have hz : (fs.map (·.1)).length ≤ sizeLine := by rw [List.length_map, sizeLine_eq]; omega
  refine set_map I.kIn O c.sa c.po n.taker c.hd wi hz fun h' O' sb => h _ ?_
  have hd : ∃ o, h'.get? dx = some o := let ⟨o, _, _, e', _⟩ := O'.ns; ⟨o, e'⟩
  refine I.write (x := a) (e := dx) (by rw [e]; exact True.intro) (.inr ho) (fun b q hb z => (sb.2 b hb).trans z) hd ?_
  refine ⟨by rw [upd_ne O.ne]; exact ho, ?_, O.ne, O'.obj, _, O'.ns, fun g => ?_, fun g hg => ?_⟩
  · have := length_putF f y fs; omega
  · show RelO ((putF f y fs).lookup g) (if g = f then some u else mA g)
    rw [lookup_putF]
    by_cases q : g = f
    · rw [if_pos q, if_pos q]; exact ry
    · rw [if_neg q, if_neg q]; exact r g
  · by_cases q : g = f
    · rw [q]; exact (keys_putF f y fs).1
    · refine (keys_putF f y fs).2 g (wi g fun z => hg ?_)
      show (if g = f then some u else mA g) = none
      rw [if_neg q]; exact z

/-- a new instance, tracked, without attributes -/
theorem Inv.made (I : Inv X pins σ H s) : Inv X pins σ (upd (upd H s.heap.objs.size (.own (s.heap.objs.size + 1))) (s.heap.objs.size + 1) (.ins C s.heap.objs.size []))
    { s with heap := (s.heap.push PySem.W.emptyDict).push (PySem.W.instObj C s.heap.objs.size) } := by
  have e1 : (s.heap.push PySem.W.emptyDict).get? s.heap.objs.size = some PySem.W.emptyDict := Heap.get?_push_size s.heap rfl
  have e2 : ((s.heap.push PySem.W.emptyDict).push (PySem.W.instObj C s.heap.objs.size)).get? (s.heap.objs.size + 1) = some (PySem.W.instObj C s.heap.objs.size) := by
    have := Heap.get?_push_size (s.heap.push PySem.W.emptyDict) (o := PySem.W.instObj C s.heap.objs.size) rfl
    rwa [Heap.size_push] at this
  have e3 : (s.heap.push PySem.W.emptyDict).Ns s.heap.objs.size (fun _ => none) := ⟨PySem.W.emptyDict, #[], _, e1, rfl, (fun e he => absurd he (by simp)), fun _ => rfl⟩
  have I1 := I.laid (a := s.heap.objs.size) (o := .own (s.heap.objs.size + 1)) (h' := s.heap.push PySem.W.emptyDict) (t' := s.toks) (fun b u q => Heap.get?_push_of_some _ q) (Nat.le_refl _) ⟨_, e1⟩
  refine I1.laid (a := s.heap.objs.size + 1) (o := .ins C s.heap.objs.size []) (t' := s.toks) (fun b u q => Heap.get?_push_of_some _ q) (Nat.le_of_eq (Heap.size_push _ _)) ?_
  have ne : s.heap.objs.size ≠ s.heap.objs.size + 1 := Nat.ne_of_lt (Nat.lt_succ_self _)
  refine ⟨by rw [upd_ne ne, upd_same], Nat.zero_le _, ne, e2, fun _ => none, (Heap.Ns1.of_empty e3).at fun o q => Heap.get?_push_of_some _ q, fun _ => True.intro, fun y hy => absurd rfl hy⟩

/-- e.f where nothing but the object is asked: through attributeBase (super) and the last hold -/
theorem attr_of {prog : Program} {w : World} {env : Env} {e : Expr} {f : Str} {pos : Pos} {s : Shared} {Q : Value → Shared → Prop} (hb : attributeBase e f env (eval e env) = eval e env)
    (h : wpAny (model prog w) A (eval e env) (fun o s₁ => wpAny (model prog w) A (getAttr o f true) Q E s₁) E s) : wpAny (model prog w) A (eval (.Attribute e f pos) env) Q E s :=
  Attribute_any_ h (by rw [arm_eval_Attribute, hb])
end

/-! ### readings and rules -/
/-- e.f, an attribute of the instance -/
def tFld (K : PySem.W.Frag) (ta : TE) (f : Str) : TE := fun σ H Q => ta σ H fun x H1 => ∃ a C dx fs v, x = .ref a ∧ H1 a = some (.ins C dx fs) ∧ Cls K C ∧ NoAttr K C f ∧ fs.lookup f = some v ∧ Q v H1
/-- e.f = value -/
def sFld (K : PySem.W.Frag) (ta tv : TE) (f : Str) : TS := fun D σ H => tv σ H fun y H1 => ta σ H1 fun x H2 => ∃ a C dx fs, x = .ref a ∧ H2 a = some (.ins C dx fs) ∧ Cls K C ∧ NoAttr K C f ∧ fs.length < 1000 ∧
  D.nx σ (upd H2 a (.ins C dx (putF f y fs)))
/-- an augmented operator on two values -/
def InOp (X : Cx) (op : Operator) (rd : V → V → Hp → VK → Prop) : Prop :=
  ∀ (pins : List (Addr × Obj)) (s : Shared) (σ : St) (H : Hp) (x y : V) (u v : Value) (Q : VK), Inv X pins σ H s → RelV x u → RelV y v → rd x y H Q → wpAny (model X.prog X.w) X.A (inplaceOp op u v) (EP X pins σ Q) X.xe s
/-- e.f op= value -/
def sFldAug (K : PySem.W.Frag) (ta tv : TE) (rd : V → V → Hp → VK → Prop) (f : Str) : TS := fun D σ H => ta σ H fun x H1 => ∃ a C dx fs v, x = .ref a ∧ H1 a = some (.ins C dx fs) ∧ Cls K C ∧ NoAttr K C f ∧ fs.lookup f = some v ∧
  tv σ H1 fun y H2 => rd v y H2 fun z H3 => ∃ dx' fs', H3 a = some (.ins C dx' fs') ∧ fs'.length < 1000 ∧ D.nx σ (upd H3 a (.ins C dx' (putF f z fs')))

section
variable {X : Cx} {o e value : Expr} {f : Str} {pos pos' tpos : Pos} {ta tv : TE}
theorem pe_fld (he : PE X e ta) (hb : attributeBase e f X.env (eval e X.env) = eval e X.env) : PE X (.Attribute e f pos) (tFld X.K ta f) := by
  intro pins s σ H Q I h
  refine attr_of hb (thn (he pins s σ H _ I h) fun u s1 ⟨x, H1, I1, rx, a, C, dx, fs, v, ex, ea, c, n, l, q⟩ => ?_)
  subst ex
  obtain rfl : u = Value.ref a := rx
  exact getattr_ok I1 ea c n l fun u' s2 I2 ru => ⟨v, H1, I2, ru, q⟩
theorem ps_fld (ha : PE X o ta) (hv : PE X value tv) (hs : swapsWith value (some (.Attribute o f pos')) pos.line X.env = pure false) : PS X (.Assign [.Attribute o f pos'] value pos) (sFld X.K ta tv f) := by
  intro pins s σ H D I h
  refine plainObj_wpAny_Assign_Attribute (thn (hv pins s σ H _ I h) fun u s1 ⟨y, H1, I1, ry, q⟩ => thn (ha pins s1 σ H1 _ I1 q) fun ov s2 ⟨x, H2, I2, rx, a, C, dx, fs, ex, ea, c, n, l, q2⟩ => ?_) hs
  subst ex
  obtain rfl : ov = Value.ref a := rx
  exact setattr_ok I2 ea c n l ry fun s3 I3 => ⟨σ, _, I3, q2⟩
theorem ps_fldaug {op : Operator} {rd : V → V → Hp → VK → Prop} (ha : PE X o ta) (hv : PE X value tv) (hop : InOp X op rd) : PS X (.AugAssign (.Attribute o f tpos) op value pos) (sFldAug X.K ta tv rd f) := by
  intro pins s σ H D I h
  refine wpAny_AugAssign_AttributeAny (thn (ha pins s σ H _ I h) fun ov s1 ⟨x, H1, I1, rx, a, C, dx, fs, v, ex, ea, c, n, l, q⟩ => ?_)
  subst ex
  obtain rfl : ov = Value.ref a := rx
  refine getattr_ok I1 ea c n l fun u s2 I2 ru => thn (hv pins s2 σ H1 _ I2 q) fun w3 s3 ⟨y, H2, I3, ry, q3⟩ => thn (hop pins s3 σ H2 v y u w3 _ I3 ru ry q3) fun w4 s4 ⟨z, H3, I4, rz, dx', fs', ea', l', q4⟩ => ?_
  exact setattr_ok I4 ea' c n l' rz fun s5 I5 => ⟨σ, _, I5, q4⟩
def rAdd : V → V → Hp → VK → Prop := fun x y H Q => ∃ i j, x = .int i ∧ y = .int j ∧ Q (.int (i + j)) H
theorem in_add : InOp X .Add rAdd := by
  rintro pins s σ H x y u v Q I rx ry ⟨i, j, rfl, rfl, q⟩
  obtain ⟨t, rfl⟩ := (show ∃ t, u = Value.int i t from rx)
  obtain ⟨t', rfl⟩ := (show ∃ t', v = Value.int j t' from ry)
  exact PyProof.Rows.iadd_int ⟨.int (i + j), H, I.tok _, ⟨_, rfl⟩, q⟩

end

/-! ### room -/
structure Room (k : Nat) (A : Around) : Prop where
  hd : A.handled = none
  dp : A.depth + 3 * k + 5 < recursionLimit
  un : A.units + 16 * k + 200 < cLine
theorem Room.mono {j k : Nat} {A : Around} (r : Room k A) (h : j ≤ k) : Room j A := ⟨r.hd, by have := r.dp; omega, by have := r.un; omega⟩
theorem Room.deeper {k : Nat} {A : Around} (r : Room (k + 1) A) (env : Env) : Room k (A.deeper env) :=
  ⟨r.hd, by have := r.dp; show A.depth + 1 + 3 * k + 5 < _; omega, by have := r.un; show A.units + 3 + 16 * k + 200 < _; omega⟩
theorem make_depth {A : Around} {C : Addr} {us : List Value} {kw : List (Str × Value)} : (A.under (.builtin "type.__call__" ⟨.ref C :: us, kw⟩)).depth = A.depth + 1 := by
  first | rfl | simp [Around.under, Code.weight, Code.isCreation, Code.isGuard, Code.isCaller, Code.frames, Code.isFrame, guardIds]
theorem make_units {A : Around} {C : Addr} {us : List Value} {kw : List (Str × Value)} : (A.under (.builtin "type.__call__" ⟨.ref C :: us, kw⟩)).units = A.units + 1 := by
  first | rfl | simp [Around.under, Code.cUnits, Code.frames, Code.isFrame]
theorem Room.make {k : Nat} {A : Around} (r : Room (k + 1) A) (C : Addr) (us : List Value) (kw : List (Str × Value)) : Room k (A.under (.builtin "type.__call__" ⟨.ref C :: us, kw⟩)) :=
  ⟨r.hd, by have := r.dp; rw [make_depth]; omega, by have := r.un; rw [make_units]; omega⟩
theorem Room.depth {k : Nat} {A : Around} (r : Room k A) : A.depth < recursionLimit := by have := r.dp; omega

/-! ### argument lists and displays -/
def tNil : TA := fun _ H Q => Q [] H
def tCons (ta : TE) (tr : TA) : TA := fun σ H Q => ta σ H fun x H1 => tr σ H1 fun xs H2 => Q (x :: xs) H2
section
variable {X : Cx} {e : Expr} {es : List Expr} {te : TE} {t : TA} {pos : Pos}
theorem pa_nil : PA X [] tNil := fun _ _ _ _ H Q I h => Calls.spliced_nil ⟨[], H, I, .nil, h⟩
theorem pa_cons (ha : PE X e te) (hr : PA X es t) (hs : starEach (e :: es) X.env = (false, eval e X.env) :: starEach es X.env := by rfl) : PA X (e :: es) (tCons te t) := by
  intro pos pins s σ H Q I h
  rw [hs]
  show wpAny _ _ (spliced ((false, eval e X.env) :: backTo pos (starEach es X.env))) _ _ s
  refine Calls.spliced_cons (thn (ha pins s σ H _ I h) fun u s1 ⟨x, H1, I1, r1, q1⟩ => ?_)
  exact thn (hr pos pins s1 σ H1 _ I1 q1) fun us s2 ⟨xs, H2, I2, r2, q2⟩ => ⟨x :: xs, H2, I2, .cons r1 r2, q2⟩

/-- a tuple, a list of written items -/
def tTup (t : TA) : TE := fun σ H Q => t σ H fun xs H1 => xs.length ≤ sizeLine ∧ ∀ p, H1 p = none → Q (.ref p) (upd H1 p (.tup xs))
def tLst (t : TA) : TE := fun σ H Q => t σ H fun xs H1 => xs.length ≤ sizeLine ∧ ∀ p, H1 p = none → Q (.ref p) (upd H1 p (.lst xs))
theorem pe_tup {x1} (h : PA X es t) : PE X (.Tuple es x1 pos) (tTup t) := by
  intro pins s σ H Q I hq
  refine wpAny_Tuple_spliced (thn (h pos pins s σ H _ I hq) fun us s1 ⟨xs, H1, I1, r, z, q⟩ => ⟨by rw [← r.length]; exact z, ?_⟩)
  have hf : H1 s1.heap.objs.size = none := I1.hok.fresh (Nat.le_refl _)
  refine ⟨.ref s1.heap.objs.size, upd H1 s1.heap.objs.size (.tup xs), I1.laid (t' := s1.toks) (fun b u e => Heap.get?_push_of_some _ e) (Nat.le_refl _) ?_, rfl, q _ hf⟩
  exact ⟨z, us, r, ⟨_, Heap.get?_push_size _ rfl, rfl, _, rfl⟩⟩
theorem pe_lst (h : PA X es t) : PE X (.List es pos) (tLst t) := by
  intro pins s σ H Q I hq
  refine wpAny_List_spliced (thn (h pos pins s σ H _ I hq) fun us s1 ⟨xs, H1, I1, r, z, q⟩ => ⟨by rw [← r.length]; exact z, ?_⟩)
  have hf : H1 s1.heap.objs.size = none := I1.hok.fresh (Nat.le_refl _)
  refine ⟨.ref s1.heap.objs.size, upd H1 s1.heap.objs.size (.lst xs), I1.laid (t' := s1.toks) (fun b u e => Heap.get?_push_of_some _ e) (Nat.le_refl _) ?_, rfl, q _ hf⟩
  exact ⟨z, us, 0, r, Heap.get?_push_size _ rfl⟩
end

/-! ### what a def promises -/
/-- a def's promise: the bound arguments in the parameters' order, the heap, the wanted end, the wanted exception -/
abbrev Sp := List V → Hp → VK → XK → Prop
/-- how an exception lies behind a call (file 08 gives it): the callers' frames, abstract heap and state ahead of the call, the wish, the exception, the state -/
abbrev CXT := List Env → Hp → Shared → XK → Value → Shared → Prop

/-- the state at a call -/
structure Env0 (P : Program) (w : World) (K : PySem.W.Frag) (mg : Str → Option Value) (base : Heap) (A : Around) (outer : List Env) (s : Shared) (H : Hp) : Prop where
  frames : A.frames = some outer
  mod : Mod K mg base
  bs : ∀ b o, base.get? b = some o → s.heap.get? b = some o ∧ H b = none
  bsz : base.objs.size ≤ s.heap.objs.size
  funs : s.heap.FunFrames base outer
  frf : ∀ b ∈ frs outer, H b = none
  hok : HOk P w H s.heap
  bare : AllBare s.gens
/-- a call's end -/
def CE (outer : List Env) (P : Program) (w : World) (H : Hp) (s : Shared) (Q : VK) (u : Value) (s' : Shared) : Prop :=
  ∃ v H', s'.os = s.os ∧ AllBare s'.gens ∧ Un (frs outer) [] H H' s.heap s'.heap ∧ HOk P w H' s'.heap ∧ RelV v u ∧ Q v H'
def CR (CX : CXT) (outer : List Env) (P : Program) (w : World) (H : Hp) (s : Shared) (Q : VK) (E : XK) (r : Result) (s' : Shared) : Prop :=
  match r with
  | .ok (.ret u) => CE outer P w H s Q u s'
  | .ok _ => False
  | .error e => CX outer H s E e s'
structure FnOk (P : Program) (w : World) (K : PySem.W.Frag) (mg : Str → Option Value) (base : Heap) (CX : CXT) (k : Nat) (f : Addr) (fd : FuncData) (ps : List Str) (sp : Sp) : Prop where
  len : ∀ vs H Q E, sp vs H Q E → vs.length = ps.length
  run : ∀ (A : Around) (outer : List Env) (s : Shared) (H : Hp) (args : Args) (us : List Value) (vs : List V) (Q : VK) (E : XK), Room k A → Env0 P w K mg base A outer s H → BindsTo s fd args (ps.zip us) → Vals vs us → sp vs H Q E →
    codeAny (model P w) A (.call (.ref f) args) (CR CX outer P w H s Q E) s

theorem Env0.make {P : Program} {w : World} {K : PySem.W.Frag} {mg : Str → Option Value} {base : Heap} {A : Around} {outer : List Env} {s : Shared} {H : Hp} (e : Env0 P w K mg base A outer s H) (C : Addr) (us : List Value) (kw : List (Str × Value)) :
    Env0 P w K mg base (A.under (.builtin "type.__call__" ⟨.ref C :: us, kw⟩)) outer s H := ⟨by first | exact e.frames | (simpa [Around.under, Code.envs, Code.isFrame, pushEnvs] using e.frames), e.mod, e.bs, e.bsz, e.funs, e.frf, e.hok, e.bare⟩

section
variable {X : Cx} {pins : List (Addr × Obj)} {σ : St} {H : Hp} {s s' : Shared}
/-- from a body: what a callee wants -/
theorem Inv.env0 (I : Inv X pins σ H s) : Env0 X.prog X.w X.K X.mg X.base X.A X.stack s H :=
  ⟨I.ok.frames, I.ok.mod, I.bs, Nat.le_trans I.ok.bsz I.sz, I.stack, I.stkFree, I.hok, I.bare⟩
/-- behind a call -/
theorem Inv.after {Q : VK} {u : Value} (I : Inv X pins σ H s) (h : CE X.stack X.prog X.w H s Q u s') : EP X pins σ Q u s' := by
  obtain ⟨v, H', os, bare, un, hok, r, q⟩ := h
  obtain ⟨hh, g, d, t, os'⟩ := s'
  obtain rfl : os' = s.os := os
  exact ⟨v, H', I.call (h' := hh) (g' := g) (d' := d) (t' := t) (ch := []) un hok bare (fun b z => absurd z (by simp)), r, q⟩
end

/-! ### calls -/
/-- f(..): the written arguments, then the defaults dvs; E: what is wanted of an exception -/
def tCall (sp : Sp) (dvs : List V) (E : XK) (t : TA) : TE := fun σ H Q => t σ H fun vs H1 => sp (vs ++ dvs) H1 Q E
/-- o.m(..) of an instance of the class at C -/
def tMeth (C : Addr) (m : Str) (sp : Sp) (dvs : List V) (E : XK) (ta : TE) (t : TA) : TE := fun σ H Q => ta σ H fun x H1 => ∃ a dx fs, x = .ref a ∧ H1 a = some (.ins C dx fs) ∧ fs.lookup m = none ∧
  t σ H1 fun vs H2 => sp (x :: (vs ++ dvs)) H2 Q E
/-- C(..): a new instance and its dict, then __init__ -/
def tMake (C : Addr) (sp : Sp) (dvs : List V) (E : XK) (t : TA) : TE := fun σ H Q => t σ H fun vs H1 => ∀ x dx, H1 x = none → H1 dx = none → dx ≠ x →
  sp (.ref x :: (vs ++ dvs)) (upd (upd H1 dx (.own x)) x (.ins C dx [])) (fun v H2 => v = .non ∧ Q (.ref x) H2) E

/-- how the parameters are bound: us the positional arguments, kw the keywords' values by name, ds the defaults that fill up -/
def Binds (K : PySem.W.Frag) (fd : FuncData) (ps : List Str) (ds : List Value) : Prop :=
  ∀ (s : Shared) (us : List Value), K.In s.heap → (us ++ ds).length = ps.length → BindsTo s fd ⟨us, []⟩ (ps.zip (us ++ ds))
/-- every parameter is given -/
theorem Binds.all {K : PySem.W.Frag} {fd : FuncData} {ps : List Str} (h : ∀ us : List Value, us.length = ps.length → bindArgs fd ⟨us, []⟩ = pure (ps.zip us)) : Binds K fd ps [] := fun s us _ hl => by
  rw [List.append_nil] at hl ⊢
  exact .of_eq (h us hl)

/-- an exception of a callee reaches what this body wants of exceptions -/
def Passes (CX : CXT) (X : Cx) (E : XK) : Prop := ∀ (pins : List (Addr × Obj)) (σ : St) (H : Hp) (s : Shared) (e : Value) (s' : Shared), Inv X pins σ H s → CX X.stack H s E e s' → X.xe e s'

section
variable {X : Cx} {CX : CXT} {k : Nat} {f C : Addr} {fd : FuncData} {ps : List Str} {sp : Sp} {dvs : List V} {ds : List Value} {E : XK} {x m : Str} {p pos apos : Pos} {e o : Expr} {es : List Expr} {ta : TE} {t : TA}

/-- the callee runs -/
theorem run_fn {pins : List (Addr × Obj)} {σ : St} {H : Hp} {s : Shared} {Q : VK} {us : List Value} {vs : List V} (F : FnOk X.prog X.w X.K X.mg X.base CX k f fd ps sp) (hr : Room k X.A) (hb : Binds X.K fd ps ds) (hd : Vals dvs ds) (hx : Passes CX X E)
    (I : Inv X pins σ H s) (r : Vals vs us) (h : sp (vs ++ dvs) H Q E) : wpAny (model X.prog X.w) X.A (call (.ref f) us) (EP X pins σ Q) X.xe s := by
  have r2 : Vals (vs ++ dvs) (us ++ ds) := r.append hd
  have hl : (us ++ ds).length = ps.length := by rw [← r2.length]; exact F.len _ _ _ _ h
  refine wpAny_call (codeAny_mono (F.run X.A X.stack s H ⟨us, []⟩ (us ++ ds) (vs ++ dvs) Q E hr I.env0 (hb s us I.kIn hl) r2 h) fun r s' hq => ?_)
  cases r with
  | error e => exact hx pins σ H s e s' I hq
  | ok fl =>
    cases fl with
    | ret u => exact I.after hq
    | next => exact False.elim hq
    | brk => exact False.elim hq
    | cont => exact False.elim hq

theorem pe_call (F : FnOk X.prog X.w X.K X.mg X.base CX k f fd ps sp) (hr : Room k X.A) (hg : Gl X x) (hm : X.mg x = some (.ref f)) (hk : PySem.W.keepIn X.K (.ref f) = true) (hb : Binds X.K fd ps ds) (hd : Vals dvs ds) (hx : Passes CX X E)
    (ha : PA X (e :: es) t) (hdb : (x == ("__debug__" : Str)) = false := by decide) (he : starEach (e :: es) X.env = (false, eval e X.env) :: starEach es X.env := by rfl) (hpl : (backTo pos (starEach es X.env)).any (·.1) = false := by rfl) :
    PE X (.Call (.Name x p) (e :: es) [] pos) (tCall sp dvs E t) := by
  intro pins s σ H Q I h
  refine wpAny_Call_Name_kw (ld_glob I hg hm ?_ hdb)
  refine PySem.W.callWith_K (h₀ := X.base) I.ok.mod.kin hk (thn (ha pos pins s σ H _ I h) fun us s1 ⟨vs, H1, I1, r, q⟩ => ⟨I1.kIn, ?_⟩) he hpl
  exact run_fn F hr hb hd hx I1 r q

/-- o.m(e, ..) -/
theorem pe_meth {pl : Sem Bool} (he : PE X o ta) (c : Cls X.K C) (hm : Meth X.K C m f) (F : FnOk X.prog X.w X.K X.mg X.base CX k f fd ps sp) (hr : Room k X.A) (hb : Binds X.K fd ps ds) (hd : Vals dvs ds) (hx : Passes CX X E) (ha : PA X (e :: es) t)
    (hst : starEach (e :: es) X.env = (false, eval e X.env) :: starEach es X.env := by rfl) (hpl : (backTo pos (starEach es X.env)).any (·.1) = false := by rfl)
    (ht : eval (.Call (.Attribute o m apos) (e :: es) [] pos) X.env = (do
      let ov ← eval o X.env
      standAt apos.atName
      let (f, first) ← holding [ov] (getMethod ov m pl)
      callWith pos f first (backTo pos (starEach (e :: es) X.env)) (backToKw pos (keywordEach [] X.env))) := by rfl) :
    PE X (.Call (.Attribute o m apos) (e :: es) [] pos) (tMeth C m sp dvs E ta t) := by
  intro pins s σ H Q I h
  refine PySem.W.methodCall_KW (pl := pl) (thn (he pins s σ H _ I h) fun u s1 ⟨x, H1, I1, rx, a, dx, fs, ex, ea, l, q⟩ => ?_) ht
  subst ex
  obtain rfl : u = Value.ref a := rx
  refine getmeth_ok I1 ea c hm l ?_
  refine PySem.W.callWith_K (first := [.ref a]) (h₀ := X.base) I.ok.mod.kin hm.kp (thn (ha pos pins s1 σ H1 _ I1 q) fun us s2 ⟨vs, H2, I2, r, q2⟩ => ⟨I2.kIn, ?_⟩) hst hpl
  exact run_fn (us := .ref a :: us) (vs := .ref a :: vs) F hr hb hd hx I2 (.cons rfl r) q2
/-- o.m() -/
theorem pe_meth0 {pl : Sem Bool} (he : PE X o ta) (c : Cls X.K C) (hm : Meth X.K C m f) (F : FnOk X.prog X.w X.K X.mg X.base CX k f fd ps sp) (hr : Room k X.A) (hb : Binds X.K fd ps ds) (hd : Vals dvs ds) (hx : Passes CX X E)
    (ht : eval (.Call (.Attribute o m apos) [] [] pos) X.env = (do
      let ov ← eval o X.env
      standAt apos.atName
      let (f, first) ← holding [ov] (getMethod ov m pl)
      callWith pos f first (backTo pos (starEach [] X.env)) (backToKw pos (keywordEach [] X.env))) := by rfl) :
    PE X (.Call (.Attribute o m apos) [] [] pos) (tMeth C m sp dvs E ta tNil) := by
  intro pins s σ H Q I h
  refine PySem.W.methodCall_KW (pl := pl) (thn (he pins s σ H _ I h) fun u s1 ⟨x, H1, I1, rx, a, dx, fs, ex, ea, l, q⟩ => ?_) ht
  subst ex
  obtain rfl : u = Value.ref a := rx
  refine getmeth_ok I1 ea c hm l ?_
  exact PySem.W.callWith_K0 (first := [.ref a]) I1.kIn hm.kp (run_fn (us := [.ref a]) (vs := [.ref a]) F hr hb hd hx I1 (.cons rfl .nil) q)

/-- what a class must have to be made -/
structure Mk (K : PySem.W.Frag) (C f : Addr) : Prop where
  makes : PySem.W.makesIn K C = true
  init : PySem.W.findIn K (.ref C) "__init__" = some (some (.ref f))
  fn : PySem.W.isFn K (.ref f) = true
  kp : PySem.W.keepIn K (.ref C) = true

theorem run_make {pins : List (Addr × Obj)} {σ : St} {H : Hp} {s : Shared} {Q : VK} {us : List Value} {vs : List V} (M : Mk X.K C f) (F : FnOk X.prog X.w X.K X.mg X.base CX k f fd ps sp) (hr : Room (k + 1) X.A) (hb : Binds X.K fd ps ds) (hd : Vals dvs ds)
    (hx : Passes CX X E) (I : Inv X pins σ H s) (r : Vals vs us)
    (h : ∀ x dx, H x = none → H dx = none → dx ≠ x → sp (.ref x :: (vs ++ dvs)) (upd (upd H dx (.own x)) x (.ins C dx [])) (fun v H2 => v = .non ∧ Q (.ref x) H2) E) :
    wpAny (model X.prog X.w) X.A (call (.ref C) us) (EP X pins σ Q) X.xe s := by
  have hq := h (s.heap.objs.size + 1) s.heap.objs.size (I.hok.fresh (Nat.le_succ _)) (I.hok.fresh (Nat.le_refl _)) (Nat.ne_of_lt (Nat.lt_succ_self _))
  have I2 := Inv.made (C := C) I
  have r2 : Vals (V.ref (s.heap.objs.size + 1) :: (vs ++ dvs)) (Value.ref (s.heap.objs.size + 1) :: (us ++ ds)) := .cons rfl (r.append hd)
  have hl : (Value.ref (s.heap.objs.size + 1) :: us ++ ds).length = ps.length := by
    have e := r2.length
    rw [F.len _ _ _ _ hq] at e
    exact e.symm
  refine wpAny_call (make_map (f := f) I.kIn M.makes M.init (beq_iff_eq.mp M.fn) (codeAny_mono (F.run _ X.stack _ _ ⟨Value.ref (s.heap.objs.size + 1) :: us, []⟩ (Value.ref (s.heap.objs.size + 1) :: (us ++ ds)) _ _ E (hr.make C us [])
    (I2.env0.make C us []) (hb _ (Value.ref (s.heap.objs.size + 1) :: us) I2.kIn hl) r2 hq) fun r s' hq' => ?_))
  cases r with
  | error e => exact hx pins σ _ _ e s' I2 hq'
  | ok fl =>
    cases fl with
    | ret u =>
      obtain ⟨v, H', I3, rv, ev, q3⟩ := I2.after hq'
      subst ev
      exact ⟨rv, ⟨V.ref (s.heap.objs.size + 1), H', I3, rfl, q3⟩⟩
    | next => exact False.elim hq'
    | brk => exact False.elim hq'
    | cont => exact False.elim hq'
theorem pe_make (M : Mk X.K C f) (F : FnOk X.prog X.w X.K X.mg X.base CX k f fd ps sp) (hr : Room (k + 1) X.A) (hg : Gl X x) (hm : X.mg x = some (.ref C)) (hb : Binds X.K fd ps ds) (hd : Vals dvs ds) (hx : Passes CX X E)
    (ha : PA X (e :: es) t) (hdb : (x == ("__debug__" : Str)) = false := by decide) (he : starEach (e :: es) X.env = (false, eval e X.env) :: starEach es X.env := by rfl) (hpl : (backTo pos (starEach es X.env)).any (·.1) = false := by rfl) :
    PE X (.Call (.Name x p) (e :: es) [] pos) (tMake C sp dvs E t) := by
  intro pins s σ H Q I h
  refine wpAny_Call_Name_kw (ld_glob I hg hm ?_ hdb)
  refine PySem.W.callWith_K (h₀ := X.base) I.ok.mod.kin M.kp (thn (ha pos pins s σ H _ I h) fun us s1 ⟨vs, H1, I1, r, q⟩ => ⟨I1.kIn, ?_⟩) he hpl
  exact run_make M F hr hb hd hx I1 r q
end

/-! ### keywords -/
section
variable {X : Cx} {CX : CXT} {k : Nat} {f C : Addr} {fd : FuncData} {ps ks : List Str} {sp : Sp} {E : XK} {x m : Str} {p pos apos kpos : Pos} {e o : Expr} {es : List Expr} {kws : List Keyword} {te ta : TE} {t tk : TA} {nm : Option Str}

variable {g : List Value → List Value → List Value} {gV : List V → List V → List V}
end

/-! ### a def's body keeps its promise -/
/-- names: the parameters first -/
structure FnScope (N P : List Str) (sc : Scope) : Prop where
  kind : sc.kind = .function
  co : sc.isCoroutine = false
  gen : sc.isGenerator = false
  nd : N.Nodup
  pre : N.take P.length = P
  par : ∀ x ∈ P, sc.names.lookup x = some .local ∨ sc.names.lookup x = some .cell
  nofree : ∀ y ∈ sc.names, y.2 ≠ .free

theorem bindL_out {kindOf : Str → Option NameKind} {x : Str} : ∀ {binds : List (Str × Value)} {m : Str → Option Value}, (∀ v, (x, v) ∉ binds) → bindL kindOf binds m x = m x
  | [], _, _ => rfl
  | (n, v) :: r, m, h => by
    unfold bindL
    rw [bindL_out fun w hw => h w (List.mem_cons_of_mem _ hw)]
    split
    · have : x ≠ n := by rintro rfl; exact h v List.mem_cons_self
      simp [this]
    · rfl
theorem bindC_out {kindOf : Str → Option NameKind} {x : Str} : ∀ {binds : List (Str × Value)} {m : Str → Option Value}, (∀ v, (x, v) ∉ binds) → bindC kindOf binds m x = m x
  | [], _, _ => rfl
  | (n, v) :: r, m, h => by
    unfold bindC
    rw [bindC_out fun w hw => h w (List.mem_cons_of_mem _ hw)]
    split
    · rfl
    · have : x ≠ n := by rintro rfl; exact h v List.mem_cons_self
      simp [this]
theorem bindL_get {kindOf : Str → Option NameKind} {x : Str} {v : Value} : ∀ {P : List Str} {vs : List Value} {i : Nat} {m : Str → Option Value}, P.Nodup → P[i]? = some x → vs[i]? = some v → kindOf x = some .local →
    bindL kindOf (P.zip vs) m x = some v
  | [], _, _, _, _, h, _, _ => by simp at h
  | _ :: _, [], _, _, _, _, h, _ => by simp at h
  | p :: P, w :: vs, 0, m, nd, h1, h2, hk => by
    simp at h1 h2; subst h1; subst h2
    show bindL kindOf ((p, w) :: P.zip vs) m p = _
    unfold bindL
    rw [bindL_out fun v hv => (List.nodup_cons.mp nd).1 (List.of_mem_zip hv).1, if_pos hk]
    simp
  | p :: P, w :: vs, i + 1, m, nd, h1, h2, hk => by
    show bindL kindOf ((p, w) :: P.zip vs) m x = _
    unfold bindL
    exact bindL_get (i := i) (List.nodup_cons.mp nd).2 (by simpa using h1) (by simpa using h2) hk
theorem bindC_get {kindOf : Str → Option NameKind} {x : Str} {v : Value} : ∀ {P : List Str} {vs : List Value} {i : Nat} {m : Str → Option Value}, P.Nodup → P[i]? = some x → vs[i]? = some v → kindOf x ≠ some .local →
    bindC kindOf (P.zip vs) m x = some v
  | [], _, _, _, _, h, _, _ => by simp at h
  | _ :: _, [], _, _, _, _, h, _ => by simp at h
  | p :: P, w :: vs, 0, m, nd, h1, h2, hk => by
    simp at h1 h2; subst h1; subst h2
    show bindC kindOf ((p, w) :: P.zip vs) m p = _
    unfold bindC
    rw [bindC_out fun v hv => (List.nodup_cons.mp nd).1 (List.of_mem_zip hv).1, if_neg hk]
    simp
  | p :: P, w :: vs, i + 1, m, nd, h1, h2, hk => by
    show bindC kindOf ((p, w) :: P.zip vs) m x = _
    unfold bindC
    exact bindC_get (i := i) (List.nodup_cons.mp nd).2 (by simpa using h1) (by simpa using h2) hk

/-- the names' values at the entry -/
def start (N : List Str) (vs : List V) : St := vs.map some ++ List.replicate (N.length - vs.length) none

/-- the context of a def's body, at its entry; an exception leaves the frame, then lies as CX says -/
def cxOf (CX : CXT) (P : Program) (w : World) (K : PySem.W.Frag) (mg : Str → Option Value) (base : Heap) (N : List Str) (qual : Str) (scope : Scope) (f : Addr) (cd : Value) (A : Around) (outer : List Env) (s : Shared) (H : Hp) (E : XK) : Cx where
  prog := P
  w := w
  K := K
  mg := mg
  base := base
  A := A.deeper (envOfC qual scope s.heap.objs.size f cd)
  N := N
  s_0 := s
  H_0 := H
  env := envOfC qual scope s.heap.objs.size f cd
  outer := outer
  stack := envOfC qual scope s.heap.objs.size f cd :: outer
  ex := []
  calm := true
  fn := fun _ => true
  pn := []
  xe := fun e s' => wpAny (model P w) (A.deeper (envOfC qual scope s.heap.objs.size f cd)) (leaving (envOfC qual scope s.heap.objs.size f cd) e) (fun _ s'' => CX outer H s E e s'') (fun e' s'' => CX outer H s E e' s'') s'

theorem cell_has {sc : Scope} {n : Nat} {x : Str} (h : sc.names.lookup x = some .cell) : ∃ c, (cellsFrom n sc.names []).lookup x = some c := by
  have q := PySem.W.cellsFrom_some sc.names n [] (.inl h)
  exact Option.isSome_iff_exists.mp q

theorem inv_start {CX : CXT} {P : Program} {w : World} {K : PySem.W.Frag} {mg : Str → Option Value} {base : Heap} {N ps : List Str} {qual : Str} {scope : Scope} {f : Addr} {cd : Value} {A : Around} {outer : List Env} {s s1 : Shared} {H : Hp} {E : XK} {us : List Value} {vs : List V}
    (S : FnScope N ps scope) (hd : A.handled = none) (e0 : Env0 P w K mg base A outer s H) (hl : vs.length = ps.length) (r : Vals vs us)
    (x : InCallC s s.heap.objs.size (bindL (envOfC qual scope s.heap.objs.size f cd).kindOf (ps.zip us) fun _ => none) (cellsFrom (s.heap.objs.size + 1) scope.names []) (bindC (envOfC qual scope s.heap.objs.size f cd).kindOf (ps.zip us) fun _ => none) s1) :
    Inv (cxOf CX P w K mg base N qual scope f cd A outer s H E) [] (start N vs) H s1 := by
  have hpl : ps.length ≤ N.length := by have := congrArg List.length S.pre; rw [List.length_take] at this; omega
  obtain ⟨h1, tk, rfl, hk⟩ := x.done
  have noA : ∀ b : Addr, b ∉ (cxOf CX P w K mg base N qual scope f cd A outer s H E).ex := fun b z => absurd (show b ∈ ([] : List Addr) from z) (by simp)
  refine ⟨⟨e0.mod, S.kind, rfl, rfl, Nat.le_refl _, fun y z c h1 h2 => ?_, fun y hy => ?_, fun y c _ h => ?_, fun _ => hd, Around.frames_deeper e0.frames, .inr ⟨rfl, rfl⟩, fun b z => absurd z (noA b), e0.bs, e0.bsz, fun b _ _ => noA b, fun b z => absurd z (noA b), e0.funs, e0.frf⟩,
    rfl, e0.bare, Un.kept hk, ⟨_, x.toInCall.ns, fun i y v h1 h2 h3 => ?_⟩, fun y c h => ⟨_, x.cell y c h⟩, e0.hok.fresh (Nat.le_refl _), fun y c h => ?_, fun p hp => absurd (show p ∈ ([] : List (Addr × Obj)) from hp) (by simp), e0.hok.kept hk, ?_⟩
  · exact name_of_addr x.apart (PySem.mem_of_lookup h1) (PySem.mem_of_lookup h2)
  · have hy : scope.names.lookup y = some .cell ∨ scope.names.lookup y = some .free := hy
    rcases hy with hy | hy
    · exact cell_has hy
    · exact absurd rfl (S.nofree _ (PySem.mem_of_lookup hy))
  · exact Nat.le_of_lt (x.above y c (PySem.mem_of_lookup h))
  · have hi : i < vs.length := by
      unfold start at h2
      by_cases hi : i < vs.length
      · exact hi
      · rw [List.getElem?_append_right (by simpa using hi)] at h2
        rw [List.getElem?_replicate] at h2
        split at h2 <;> cases h2
    have ha : vs[i]? = some v := by
      unfold start at h2
      rw [List.getElem?_append_left (by simpa using hi), List.getElem?_map] at h2
      cases e : vs[i]? with
      | none => rw [e] at h2; cases h2
      | some a => rw [e] at h2; cases h2; rfl
    obtain ⟨u, hu, rv⟩ := r.get ha
    have hp : ps[i]? = some y := by
      rw [← S.pre, List.getElem?_take_of_lt (by omega)]; exact h1
    have ndP : ps.Nodup := by rw [← S.pre]; exact S.nd.sublist (List.take_sublist _ _)
    refine ⟨u, rv, ?_⟩
    rcases S.par y (List.mem_of_getElem? hp) with k | k
    · exact .inl ⟨k, bindL_get ndP hp hu k⟩
    · obtain ⟨c, e⟩ := cell_has (n := s.heap.objs.size + 1) k
      refine .inr ⟨.inl k, c, e, ?_⟩
      have q := x.cell y c e
      rw [bindC_get ndP hp hu (by show scope.names.lookup y ≠ _; rw [k]; decide)] at q
      exact q
  · exact e0.hok.fresh (Nat.le_of_lt (x.above y c (PySem.mem_of_lookup h)))
  · unfold start
    show _ = N.length
    rw [List.length_append, List.length_map, List.length_replicate]
    omega

/-- THE RULE: a def (or a method) of the text, by its body. The body's reading t is chosen for each entry; it is run at the parameters' values -/
theorem fn_of {CX : CXT} {P : Program} {w : World} {K : PySem.W.Frag} {mg : Str → Option Value} {base : Heap} {k : Nat} {f : Addr} {name qual : Str} {params : Arguments} {body : List Stmt} {scope : Scope} {dV kV doc pm cdv ct oc : Value} {an od : Option Addr}
    {osl : Array (Option Value)} {N ps : List Str} {sp : Sp} (lk : K.lookup f = some ⟨oc, od, .func (PySem.W.fnOf name qual params body scope dV kV doc pm an cdv ct), osl⟩) (hcd : PySem.W.codeIn K cdv qual = true) (S : FnScope N ps scope)
    (len : ∀ vs H Q E, sp vs H Q E → vs.length = ps.length)
    (hbody : ∀ (A : Around) (outer : List Env) (s : Shared) (H : Hp) (vs : List V) (Q : VK) (E : XK), Room k (A.deeper (envOfC qual scope s.heap.objs.size f cdv)) → sp vs H Q E →
      ∃ t, PSs (cxOf CX P w K mg base N qual scope f cdv A outer s H E) body t ∧ t { nx := fun _ H' => Q .non H', rt := Q } (start N vs) H) :
    FnOk P w K mg base CX (k + 1) f (PySem.W.fnOf name qual params body scope dV kV doc pm an cdv ct) ps sp := by
  refine ⟨len, fun A outer s H args us vs Q E hr e0 hb r hsp => ?_⟩
  have hl := len _ _ _ _ hsp
  have KX : K.In s.heap := e0.mod.kin.keeps fun b o e => (e0.bs b o e).1
  have lim : s.heap.NoLimit := e0.mod.nolimit.keeps fun b o e => (e0.bs b o e).1
  have hkind : ∀ y ∈ ps.zip us, scope.names.lookup y.1 = some .local ∨ (scope.names.lookup y.1 = some .cell ∧ ((cellsFrom (s.heap.objs.size + 1) scope.names []).lookup y.1).isSome = true) := fun ⟨n, v⟩ hy => by
    rcases S.par n (List.of_mem_zip hy).1 with q | q
    · exact .inl q
    · exact .inr ⟨q, PySem.W.cellsFrom_some _ _ _ (.inl q)⟩
  refine codeAny_call_function hr.depth (KX _ _ lk) rfl S.co S.gen rfl (PySem.W.codeRec_of KX hcd) (hb _ _ _ _ ?_)
  refine wpAny_newFunctionEnv_cells S.kind hkind fun env he s1 x => ?_
  subst he
  refine ⟨lim.keeps x.toInCall.keep, codeAny_func ?_⟩
  obtain ⟨t, ht, hq⟩ := hbody A outer s H vs Q E (hr.deeper _) hsp
  have I : Inv (cxOf CX P w K mg base N qual scope f cdv A outer s H E) [] (start N vs) H s1 := inv_start S hr.hd e0 hl r x
  refine wpAny_mono (ht [] s1 (start N vs) H _ I hq) (fun fl s' hs => ?_) fun e s' hs => hs
  have fin : ∀ {σ' : St} {H' : Hp} {v : V} {u : Value}, Inv (cxOf CX P w K mg base N qual scope f cdv A outer s H E) [] σ' H' s' → RelV v u → Q v H' → CE outer P w H s Q u s' :=
    fun {σ' H' v u} J rv q => ⟨v, H', J.os, J.bare, J.base, J.hok, rv, q⟩
  cases fl with
  | ret u =>
    obtain ⟨v, σ', H', J, rv, q⟩ := hs
    exact fin J rv q
  | next =>
    obtain ⟨σ', H', J, q⟩ := hs
    exact fin (v := V.non) (u := Value.none) J rfl q
  | brk =>
    obtain ⟨_, _, _, q⟩ := hs
    exact False.elim q
  | cont =>
    obtain ⟨_, _, _, q⟩ := hs
    exact False.elim q
end L2

namespace L2
open PySem PySem.Spec PyProof.Rows
section
variable {X : Cx} {x : Str} {p pos : Pos} {e : Expr} {es : List Expr} {t : TA} {id T : String} {r : List V → Hp → VK → Prop}

def tCB (r : List V → Hp → VK → Prop) (t : TA) : TE := fun σ H Q => t σ H fun vs H1 => r vs H1 Q
/-- f(e, ..), f a built-in function -/
theorem pe_callB (hc : CallR X (.builtin id) r) (hg : Gl X x) (hm : X.mg x = none) (hv : bootBuiltins x = some (.builtin id)) (ha : PA X (e :: es) t) (hn : x ≠ "__name__" := by decide) (hdb : (x == ("__debug__" : Str)) = false := by decide)
    (he : starEach (e :: es) X.env = (false, eval e X.env) :: starEach es X.env := by rfl) (hpl : (backTo pos (starEach es X.env)).any (·.1) = false := by rfl) : PE X (.Call (.Name x p) (e :: es) [] pos) (tCB r t) := by
  intro pins s σ H Q I h
  refine wpAny_Call_Name_kw (ld_blt I hg hm hv ?_ hn hdb)
  exact PyProof.Rows.callWith_builtin1 (thn (ha pos pins s σ H _ I h) fun us s1 ⟨vs, H1, I1, r1, q1⟩ => hc pins s1 σ H1 vs us Q I1 r1 q1) he hpl
/-- T(e, ..), T a built-in type -/
theorem pe_callTy (hc : CallR X (.type T) r) (hg : Gl X x) (hm : X.mg x = none) (hv : bootBuiltins x = some (.type T)) (ha : PA X (e :: es) t) (hn : x ≠ "__name__" := by decide) (hdb : (x == ("__debug__" : Str)) = false := by decide)
    (he : starEach (e :: es) X.env = (false, eval e X.env) :: starEach es X.env := by rfl) (hpl : (backTo pos (starEach es X.env)).any (·.1) = false := by rfl) : PE X (.Call (.Name x p) (e :: es) [] pos) (tCB r t) := by
  intro pins s σ H Q I h
  refine wpAny_Call_Name_kw (ld_blt I hg hm hv ?_ hn hdb)
  exact PyProof.Rows.callWith_type1 (thn (ha pos pins s σ H _ I h) fun us s1 ⟨vs, H1, I1, r1, q1⟩ => hc pins s1 σ H1 vs us Q I1 r1 q1) he hpl
end
end L2

namespace HT
open PySem PyProof.Rows



section
open PySem.SeqAt
open PySem.AutoSeq1 (wpAny_loadPart')
open PySem.MeetsSeq PySem.MeetsSeq2 PySem.MeetsSeq3

end

section
variable {prog : Program} {w : World} {A : Around} {E : Value → Shared → Prop} {s : Shared}



/-! ### t[a:b], not the whole -/
/-- a slice's bound as a place among n (d where it is left out) -/
def sIx (n d : Nat) : Option Int → Nat
  | none => d
  | some v => if v < 0 then (v + (n : Int)).toNat else min v.toNat n
theorem sIx_none (n d : Nat) : sIx n d none = d := rfl
theorem sIx_nat (n d k : Nat) : sIx n d (some (k : Int)) = min k n := by
  show (if (k : Int) < 0 then ((k : Int) + (n : Int)).toNat else min (k : Int).toNat n) = min k n
  rw [if_neg (by omega), Int.toNat_natCast]

end
end HT

namespace L2
open PySem PySem.Spec PyProof.Rows

/-! ### the parts of a slice -/
abbrev TO := St → Hp → (Option Int → Hp → Prop) → Prop
/-- a slice's part (left out, or an int) -/
def PO (X : Cx) (e : Option Expr) (t : TO) : Prop :=
  ∀ (pins : List (Addr × Obj)) (s : Shared) (σ : St) (H : Hp) (Q : Option Int → Hp → Prop), Inv X pins σ H s → t σ H Q →
    wpAny (model X.prog X.w) X.A (evalPart e X.env) (fun u s' => ∃ o H', Inv X pins σ H' s' ∧ IsPart u o ∧ Q o H') X.xe s
def tNoPart : TO := fun _ H Q => Q none H
def tPart (t : TE) : TO := fun σ H Q => t σ H fun x H1 => ∃ i, x = .int i ∧ Q (some i) H1


section
variable {X : Cx} {e : Expr} {te : TE} {lo hi : Option Expr} {tl th : TO} {pos p2 : Pos}

theorem po_none : PO X none tNoPart := by
  intro pins s σ H Q I h
  rw [evalPart_none]
  exact wpAny_pure ⟨none, H, I, .none, h⟩
theorem po_some (h : PE X e te) : PO X (some e) (tPart te) := by
  intro pins s σ H Q I hw
  rw [evalPart_some]
  refine thn (h pins s σ H _ I hw) fun u s1 ⟨x, H1, I1, r1, q1⟩ => ?_
  obtain ⟨i, rfl, q⟩ := q1
  obtain ⟨t, rfl⟩ := r1
  exact ⟨some i, H1, I1, .int i t, q⟩

/-- what a slice of a value is, by values: the slice object stands at sl -/
def SlR (X : Cx) (r : V → Option Int → Option Int → Hp → VK → Prop) : Prop :=
  ∀ (pins : List (Addr × Obj)) (s : Shared) (σ : St) (H : Hp) (x : V) (v vl vu : Value) (lo hi : Option Int) (sl : Addr) (Q : VK), Inv X pins σ H s → RelV x v → s.heap.IsSliceOf sl vl vu .none → IsPart vl lo → IsPart vu hi → r x lo hi H Q →
    ∃ T id, typeLookup (.type T) "__getitem__" = pure (some (.builtin id)) ∧ s.TypeIs v T ∧ wpAny (model X.prog X.w) X.A (getItem v (.ref sl)) (EP X pins σ Q) X.xe s
def tSl (r : V → Option Int → Option Int → Hp → VK → Prop) (te : TE) (tl th : TO) : TE := fun σ H Q => te σ H fun x H1 => tl σ H1 fun l H2 => th σ H2 fun u H3 => r x l u H3 Q
/-- a[lo:hi], any a -/
theorem pe_slice {r : V → Option Int → Option Int → Hp → VK → Prop} (hr : SlR X r) (he : PE X e te) (hl : PO X lo tl) (hu : PO X hi th) : PE X (.Subscript e (.Slice lo hi none p2) pos) (tSl r te tl th) := by
  intro pins s σ H Q I h
  refine Subscript_ (thn (he pins s σ H _ I h) fun v s1 ⟨x, H1, I1, r1, q1⟩ => ?_)
  refine wpAny_Slice (thn (hl pins s1 σ H1 _ I1 q1) fun vl s2 ⟨l, H2, I2, pl, q2⟩ => thn (hu pins s2 σ H2 _ I2 q2) fun vu s3 ⟨u, H3, I3, pu, q3⟩ => ?_)
  rw [evalPart_none]
  refine wpAny_pure ?_
  have I4 : Inv X pins σ H3 { s3 with heap := s3.heap.push { cls := .type "slice", data := .fields #[vl, vu, .none] } } := I3.kept (t' := s3.toks) fun b ob q => Heap.get?_push_of_some _ q
  obtain ⟨T, id, hT, ht, hg⟩ := hr pins { s3 with heap := s3.heap.push { cls := .type "slice", data := .fields #[vl, vu, .none] } } σ H3 x v vl vu l u s3.heap.objs.size Q I4 r1 (Heap.IsSliceOf.new ..) pl pu q3
  show wpAny (model X.prog X.w) X.A (subscriptTail e (.Slice lo hi none p2) v (.ref s3.heap.objs.size)) (EP X pins σ Q) X.xe { s3 with heap := s3.heap.push { cls := .type "slice", data := .fields #[vl, vu, .none] } }
  exact tail_any (ops := [.ref s3.heap.objs.size, v]) ht hT hg (by with_unfolding_all rfl)

/-- the items of xs[lo:hi] -/
def cutV (xs : List V) (lo hi : Option Int) : List V := (xs.drop (HT.sIx xs.length 0 lo)).take (HT.sIx xs.length xs.length hi - HT.sIx xs.length 0 lo)
theorem cutV_length (xs : List V) (lo hi : Option Int) : (cutV xs lo hi).length ≤ xs.length := by
  unfold cutV
  rw [List.length_take, List.length_drop]
  omega

/-! ### t < u, t + u -/
end
end L2

namespace L2
open PySem PySem.Spec PyProof.Rows

/-! ### places -/
/-- the place that an index of any sign means -/
def ixN (n : Nat) (i : Int) : Option Nat := if 0 ≤ i then (if i < n then some i.toNat else none) else if -(n : Int) ≤ i then some (i + n).toNat else none
def atI {α : Type} (xs : List α) (i : Int) : Option α := (ixN xs.length i).bind fun j => xs[j]?
theorem ixN_seq {n : Nat} {i : Int} {j : Nat} (h : ixN n i = some j) : seqIndex? i n = some j ∧ j < n ∧ -(n : Int) ≤ i ∧ i < n := by
  unfold ixN at h
  by_cases h0 : 0 ≤ i
  · rw [if_pos h0] at h
    by_cases h1 : i < n
    · rw [if_pos h1] at h
      have e : i.toNat = j := Option.some.inj h
      exact ⟨by rw [seqIndex_of h0 h1, e], by omega, by omega, h1⟩
    · rw [if_neg h1] at h; cases h
  · rw [if_neg h0] at h
    by_cases h1 : -(n : Int) ≤ i
    · rw [if_pos h1] at h
      have e : (i + n).toNat = j := Option.some.inj h
      exact ⟨by rw [seqIndex_neg (by omega) h1, e], by omega, h1, by omega⟩
    · rw [if_neg h1] at h; cases h
theorem atI_get {α : Type} {xs : List α} {i : Int} {v : α} (h : atI xs i = some v) : ∃ j, seqIndex? i xs.length = some j ∧ xs[j]? = some v ∧ j < xs.length ∧ -(xs.length : Int) ≤ i ∧ i < xs.length := by
  unfold atI at h
  cases e : ixN xs.length i with
  | none => rw [e] at h; cases h
  | some j =>
    rw [e] at h
    obtain ⟨h1, h2, h3, h4⟩ := ixN_seq e
    exact ⟨j, h1, h, h2, h3, h4⟩
theorem atI_nat {α : Type} {xs : List α} {j : Nat} {v : α} (h : xs[j]? = some v) : atI xs (j : Int) = some v := by
  have hj : j < xs.length := (List.getElem?_eq_some_iff.mp h).1
  have e : ixN xs.length (j : Int) = some j := by
    unfold ixN
    rw [if_pos (by omega), if_pos (by omega)]; simp
  unfold atI; rw [e]; exact h

/-! ### what may be subscripted -/
/-- what stands as an index of a plain subscript -/
def PlainIx (b : Expr) : Prop := ∀ o i, subscripted b false o i = operate [o, i] (getItem o i)
/-- a subscript by values -/
def IxR (X : Cx) (r : R2) : Prop :=
  ∀ (value slice : Expr) (pins : List (Addr × Obj)) (s : Shared) (σ : St) (H : Hp) (x y : V) (v u : Value) (Q : VK), Inv X pins σ H s → RelV x v → RelV y u → r x y H Q →
    subscripted slice false v u = operate [v, u] (getItem v u) → wpAny (model X.prog X.w) X.A (subscriptTail value slice v u) (EP X pins σ Q) X.xe s
/-- a call of a builtin's method by values: the receiver, the arguments -/
def MtR (X : Cx) (id : String) (r : V → List V → Hp → VK → Prop) : Prop :=
  ∀ (pins : List (Addr × Obj)) (s : Shared) (σ : St) (H : Hp) (x : V) (xs : List V) (v : Value) (us : List Value) (Q : VK), Inv X pins σ H s → RelV x v → Vals xs us → r x xs H Q →
    wpAny (model X.prog X.w) X.A (call (.builtin id) (v :: us)) (EP X pins σ Q) X.xe s
section
variable {X : Cx} {a b : Expr} {ta tb : TE} {pos : Pos}
/-- a[b] -/
theorem pe_ix {r : R2} (hr : IxR X r) (ha : PE X a ta) (hb : PE X b tb) (hs : PlainIx b) : PE X (.Subscript a b pos) (tOp r ta tb) := by
  intro pins s σ H Q I h
  exact Subscript_ (binT ha hb I h fun v u s2 x y H2 I2 rx ry q => hr a b pins s2 σ H2 x y v u Q I2 rx ry q (hs _ _))

def rIxL (K : PySem.W.Frag) : R2 := fun x y H Q => ∃ p xs i v, x = .ref p ∧ y = .int i ∧ SqL K H p xs ∧ atI xs i = some v ∧ Q v H
def rIxT (K : PySem.W.Frag) : R2 := fun x y H Q => ∃ p xs i v, x = .ref p ∧ y = .int i ∧ SqT K H p xs ∧ atI xs i = some v ∧ Q v H
def rIxS : R2 := fun x y H Q => ∃ z i c, x = .str z ∧ y = .int i ∧ z.length ≤ sizeLine ∧ atI z.cps.toList i = some c ∧ Q (.str ⟨#[c]⟩) H
theorem ix_list : IxR X (rIxL X.K) := by
  intro value slice pins s σ H x y v u Q I rx ry h hs
  obtain ⟨p, xs, i, z, rfl, rfl, hq, he, q⟩ := h
  cases rx
  obtain ⟨t, rfl⟩ := ry
  obtain ⟨its, r, pl, hz⟩ := I.list hq
  obtain ⟨j, h1, h2, h3, h4, h5⟩ := atI_get he
  obtain ⟨w, ew, rw'⟩ := r.get h2
  have hl := r.length
  have hn := line63
  have fin : EP X pins σ Q w s := ⟨z, H, I, rw', q⟩
  by_cases h0 : 0 ≤ i
  · have hj : i.toNat = j := by
      rw [seqIndex_of h0 h5] at h1
      exact Option.some.inj h1
    exact item_listR pl.isList h0 (by omega) (by rw [hj]; simpa using ew) fin hs
  · have hj : (i + (its.toArray.size : Int)).toNat = j := by
      rw [seqIndex_neg (by omega) h4] at h1
      rw [List.size_toArray, ← hl]
      exact Option.some.inj h1
    exact subscriptTail_builtinR (x := w) pl.isList.typeIs slot_list_getitem.lookup
      (wpAny_getItem_list_neg (Q := fun r s' => r = w ∧ EP X pins σ Q r s') pl.isList (by omega) (by rw [List.size_toArray] <;> omega) (by omega) (by rw [hj]; simpa using ew) ⟨rfl, fin⟩) hs
theorem ix_tup : IxR X (rIxT X.K) := by
  intro value slice pins s σ H x y v u Q I rx ry h hs
  obtain ⟨p, xs, i, z, rfl, rfl, hq, he, q⟩ := h
  cases rx
  obtain ⟨t, rfl⟩ := ry
  obtain ⟨its, r, pl, hz⟩ := I.tuple hq
  obtain ⟨j, h1, h2, h3, h4, h5⟩ := atI_get he
  obtain ⟨w, ew, rw'⟩ := r.get h2
  have hl := r.length
  have hn := line63
  have fin : EP X pins σ Q w s := ⟨z, H, I, rw', q⟩
  exact subscriptTail_builtinR (x := w) pl.typeIs slot_tuple_getitem.lookup
    (getItem_tuple (j := j) (Q := fun r s' => r = w ∧ EP X pins σ Q r s') pl (by omega) (by omega) (by rw [List.size_toArray, ← hl]; exact h1) (by simpa using ew) ⟨rfl, fin⟩) hs
theorem ix_str : IxR X rIxS := by
  intro value slice pins s σ H x y v u Q I rx ry h hs
  obtain ⟨z, i, c, rfl, rfl, hz, he, q⟩ := h
  obtain ⟨t, rfl⟩ := rx
  obtain ⟨t', rfl⟩ := ry
  obtain ⟨j, h1, h2, h3, h4, h5⟩ := atI_get he
  have hl : z.cps.toList.length = z.length := by simp [Str.length]
  rw [hl] at h1 h4 h5
  have hn := line63
  exact tail_any (typeIs_str s z t) slot_str_getitem.lookup (getItem_str (c := c) (by
    have e1 : decide (i < -(2 ^ 63 : Int)) = false := decide_eq_false (by omega)
    have e2 : decide (i ≥ 2 ^ 63) = false := decide_eq_false (by omega)
    rw [e1, e2, Bool.or_false]) (by rw [h1]; simpa using h2) ⟨.str ⟨#[c]⟩, H, I.tok _, ⟨_, rfl⟩, q⟩) hs

/-! ### xs[i] = v, any sign -/
/-! ### slices -/
theorem slice_bounds (lo hi : Option Int) (n : Nat) : (sliceBounds lo hi none n).1 = ((HT.sIx n 0 lo : Nat) : Int) ∧ (sliceBounds lo hi none n).2.1 = ((HT.sIx n n hi : Nat) : Int) ∧ (sliceBounds lo hi none n).2.2 = 1 := by
  refine ⟨?_, ?_, rfl⟩
  · cases lo with
    | none => simp [sliceBounds, HT.sIx]
    | some i =>
      simp only [sliceBounds, HT.sIx, Option.getD_none, show (1 : Int) > 0 by decide, if_true]
      by_cases h : i < 0
      · simp only [h, if_true] <;> omega
      · simp only [h, if_false] <;> omega
  · cases hi with
    | none => simp [sliceBounds, HT.sIx]
    | some i =>
      simp only [sliceBounds, HT.sIx, Option.getD_none, show (1 : Int) > 0 by decide, if_true]
      by_cases h : i < 0
      · simp only [h, if_true] <;> omega
      · simp only [h, if_false] <;> omega
theorem slicePick_cut (its : List Value) (lo hi : Option Int) : slicePick its.toArray lo hi none = ((its.drop (HT.sIx its.length 0 lo)).take (HT.sIx its.length its.length hi - HT.sIx its.length 0 lo)).toArray := by
  obtain ⟨h1, h2, h3⟩ := slice_bounds lo hi its.toArray.size
  unfold slicePick
  rw [h1, h2, h3]
  simp only [sliceRange_one, pick_run, List.size_toArray] <;> rfl
/-- xs[lo:hi] of a list: a new list -/
def rSlL (K : PySem.W.Frag) : V → Option Int → Option Int → Hp → VK → Prop := fun x lo hi H Q => ∃ a xs, x = .ref a ∧ SqL K H a xs ∧ ∀ p, H p = none → Q (.ref p) (upd H p (.lst (cutV xs lo hi)))
theorem sl_list : SlR X (rSlL X.K) := by
  intro pins s σ H x v vl vu lo hi sl Q I rx hs pl pu h
  obtain ⟨a, xs, rfl, hx, q⟩ := h
  cases rx
  obtain ⟨its, r, ht, hz⟩ := I.list hx
  have hlen := r.length
  refine ⟨"list", _, slot_list_getitem.lookup, ht.isList.typeIs, ?_⟩
  refine wpAny_getItem_list_slice ht.isList hs pl pu .none (by simp) ?_ (by rw [List.size_toArray] <;> omega)
  rw [slicePick_cut, ← hlen]
  refine ⟨.ref s.heap.objs.size, _, I.laid (t' := s.toks) (o := .lst (cutV xs lo hi)) (fun b ob q => Heap.get?_push_of_some _ q) (Nat.le_refl _) ?_, rfl, q _ (I.hok.fresh (Nat.le_refl _))⟩
  exact ⟨Nat.le_trans (cutV_length xs lo hi) hz, _, 0, (r.drop (HT.sIx xs.length 0 lo)).take (HT.sIx xs.length xs.length hi - HT.sIx xs.length 0 lo), Heap.get?_push_size _ rfl⟩

/-! ### in, not in: flat items -/
def flatV : V → Bool
  | .non => true
  | .bl _ => true
  | .int _ => true
  | .str _ => true
  | _ => false
/-- == of flat values -/
def eqV : V → V → Bool
  | .non, .non => true
  | .bl a, .bl b => a == b
  | .bl a, .int b => (if a then 1 else 0) == b
  | .int a, .bl b => a == (if b then 1 else 0)
  | .int a, .int b => a == b
  | .str a, .str b => a == b
  | _, _ => false
theorem eqAt_V {A : Around} {s : Shared} {y x : V} {u v : Value} (ry : RelV y u) (rx : RelV x v) (fy : flatV y = true) (fx : flatV x = true) : SeqAt.EqAt A s u v (eqV y x) := by
  cases y with
  | non =>
    cases ry
    cases x with
    | non => cases rx; exact SeqAt.EqAt.same _
    | bl b => cases rx; exact SeqAt.EqAt.none_bool b
    | int b => obtain ⟨t, rfl⟩ := rx; exact SeqAt.EqAt.none_int b t
    | str b => obtain ⟨t, rfl⟩ := rx; exact SeqAt.EqAt.none_str b t
    | _ => exact absurd (show false = true from fx) Bool.false_ne_true
  | bl a =>
    cases ry
    cases x with
    | non => cases rx; exact SeqAt.EqAt.bool_none a
    | bl b => cases rx; exact SeqAt.EqAt.bool_bool a b
    | int b => obtain ⟨t, rfl⟩ := rx; exact SeqAt.EqAt.bool_int a b t
    | str b => obtain ⟨t, rfl⟩ := rx; exact SeqAt.EqAt.bool_str a b t
    | _ => exact absurd (show false = true from fx) Bool.false_ne_true
  | int a =>
    obtain ⟨t', rfl⟩ := ry
    cases x with
    | non => cases rx; exact SeqAt.EqAt.int_none a t'
    | bl b => cases rx; exact SeqAt.EqAt.int_bool a t' b
    | int b => obtain ⟨t, rfl⟩ := rx; exact SeqAt.EqAt.int_int a t' b t
    | str b => obtain ⟨t, rfl⟩ := rx; exact SeqAt.EqAt.int_str a t' b t
    | _ => exact absurd (show false = true from fx) Bool.false_ne_true
  | str a =>
    obtain ⟨t', rfl⟩ := ry
    cases x with
    | non => cases rx; exact SeqAt.EqAt.str_none a t'
    | bl b => cases rx; exact SeqAt.EqAt.str_bool a t' b
    | int b => obtain ⟨t, rfl⟩ := rx; exact SeqAt.EqAt.str_int a t' b t
    | str b => obtain ⟨t, rfl⟩ := rx; exact SeqAt.EqAt.str_str a t' b t
    | _ => exact absurd (show false = true from fx) Bool.false_ne_true
  | _ => exact absurd (show false = true from fy) Bool.false_ne_true
/-- the items' answers, read off the values (a value's own answer does not lean on its token) -/
def eqU (x : V) (u : Value) : Bool := match u with
  | .none => eqV .non x
  | .bool b => eqV (.bl b) x
  | .int i _ => eqV (.int i) x
  | .str z _ => eqV (.str z) x
  | _ => false
theorem eqU_of {x y : V} {u : Value} (r : RelV y u) (f : flatV y = true) : eqU x u = eqV y x := by
  cases y with
  | non => cases r; rfl
  | bl b => cases r; rfl
  | int i => obtain ⟨t, rfl⟩ := r; rfl
  | str z => obtain ⟨t, rfl⟩ := r; rfl
  | _ => exact absurd (show false = true from f) Bool.false_ne_true
theorem any_eqU {x : V} : ∀ {xs : List V} {us : List Value}, Vals xs us → xs.all flatV = true → us.any (eqU x) = xs.any fun y => eqV y x
  | _, _, .nil, _ => rfl
  | y :: xs, u :: us, .cons r t, f => by
    rw [List.all_cons, Bool.and_eq_true] at f
    rw [List.any_cons, List.any_cons, eqU_of r f.1, any_eqU t f.2]
theorem mem_eqAt {A : Around} {s : Shared} {x : V} {v : Value} (rx : RelV x v) (fx : flatV x = true) : ∀ {xs : List V} {us : List Value}, Vals xs us → xs.all flatV = true → ∀ u ∈ us, SeqAt.EqAt A s u v (eqU x u)
  | _, _, .nil, _ => fun u hu => by cases hu
  | y :: xs, u :: us, .cons r t, f => fun u' hu => by
    rw [List.all_cons, Bool.and_eq_true] at f
    rcases List.mem_cons.mp hu with rfl | hu
    · rw [eqU_of r f.1]; exact eqAt_V r rx f.1 fx
    · exact mem_eqAt rx fx t f.2 u' hu
def inV (x : V) (xs : List V) : Bool := xs.any fun y => eqV y x
/-- x in a list or tuple of flat items -/
def rIn (K : PySem.W.Frag) (neg : Bool) : R2 := fun x y H Q => ∃ p xs, y = .ref p ∧ (SqL K H p xs ∨ SqT K H p xs) ∧ flatV x = true ∧ xs.all flatV = true ∧ Q (.bl (if neg then !inV x xs else inV x xs)) H
theorem op_in_seq : OpR X (compareOp .In) (rIn X.K false) := by
  intro pins s σ H x y v u Q I rx ry h
  obtain ⟨p, xs, rfl, hq, fx, fs, q⟩ := h
  cases ry
  rcases hq with hq | hq
  · obtain ⟨its, r, pl, hz⟩ := I.list hq
    refine SeqAt.in_listAt (eqU x) pl.isList (fun w hw => mem_eqAt rx fx r fs w (by simpa using hw)) ⟨.bl _, H, I, rfl, ?_⟩
    rw [show its.toArray.any (eqU x) = its.any (eqU x) by simp, any_eqU r fs]
    exact q
  · obtain ⟨its, r, pl, hz⟩ := I.tuple hq
    refine SeqAt.in_tupleAt (eqU x) pl (fun w hw => mem_eqAt rx fx r fs w (by simpa using hw)) ⟨.bl _, H, I, rfl, ?_⟩
    rw [show its.toArray.any (eqU x) = its.any (eqU x) by simp, any_eqU r fs]
    exact q

/-! ### len, list(x), tuple(x) of any list or tuple that is read -/
theorem call_len_seq : CallR X (.builtin "len") (fun xs H Q => ∃ p ys, xs = [.ref p] ∧ (SqL X.K H p ys ∨ SqT X.K H p ys) ∧ Q (.int ys.length) H) := by
  intro pins s σ H xs us Q I r h
  obtain ⟨p, ys, rfl, hq, q⟩ := h
  obtain ⟨u, rfl, rx⟩ := vals1 r
  cases rx
  have hn := line63
  rcases hq with hq | hq
  · obtain ⟨its, r', pl, hz⟩ := I.list hq
    have hlen := r'.length
    exact Calls.call_len_list pl.isList (by simp only [List.size_toArray] <;> omega) ⟨.int ys.length, H, I.tok _, ⟨s.toks + 1, by rw [List.size_toArray, hlen]⟩, q⟩
  · obtain ⟨its, r', pl, hz⟩ := I.tuple hq
    have hlen := r'.length
    exact len_tuple pl (by simp only [List.size_toArray] <;> omega) ⟨.int ys.length, H, I.tok _, ⟨s.toks + 1, by rw [List.size_toArray, hlen]⟩, q⟩
theorem call_list_of : CallR X (.type "list") (fun xs H Q => ∃ p ys, xs = [.ref p] ∧ (SqL X.K H p ys ∨ SqT X.K H p ys) ∧ ∀ l, H l = none → Q (.ref l) (upd H l (.lst ys))) := by
  intro pins s σ H xs us Q I r h
  obtain ⟨p, ys, rfl, hq, q⟩ := h
  obtain ⟨u, rfl, rx⟩ := vals1 r
  cases rx
  have fin : ∀ (its : List Value), Vals ys its → ys.length ≤ sizeLine → ∀ (h' : Heap) (c' : Nat), (∀ b o', s.heap.get? b = some o' → h'.get? b = some o') →
      h'.get? s.heap.objs.size = some { cls := .type "list", dict := none, data := .seq its.toArray c', slots := #[] } → EP X pins σ Q (.ref s.heap.objs.size) { s with heap := h' } := fun its r' hz h' c' kp e =>
    ⟨.ref s.heap.objs.size, _, I.laid (t' := s.toks) kp (Nat.le_refl _) (show ObjOk X.prog X.w _ h' _ (.lst ys) from ⟨hz, its, c', r', e⟩), rfl, q _ (I.hok.fresh (Nat.le_refl _))⟩
  rcases hq with hq | hq
  · obtain ⟨its, r', pl, hz⟩ := I.list hq
    have hlen := r'.length
    obtain ⟨o, ho, hc, n, hd⟩ := pl.isList
    exact call_list_seq p (.inl rfl) ho hc hd (fun h' c' kp e => fin its r' hz h' c' kp e) (by simp only [List.size_toArray] <;> omega)
  · obtain ⟨its, r', pl, hz⟩ := I.tuple hq
    have hlen := r'.length
    obtain ⟨o, ho, hc, n, hd⟩ := pl
    exact call_list_seq p (.inr rfl) ho hc hd (fun h' c' kp e => fin its r' hz h' c' kp e) (by simp only [List.size_toArray] <;> omega)
theorem call_tuple_of : CallR X (.type "tuple") (fun xs H Q => ∃ p ys, xs = [.ref p] ∧ ((SqL X.K H p ys ∧ ∀ l, H l = none → Q (.ref l) (upd H l (.tup ys))) ∨ (SqT X.K H p ys ∧ Q (.ref p) H))) := by
  intro pins s σ H xs us Q I r h
  obtain ⟨p, ys, rfl, h⟩ := h
  obtain ⟨u, rfl, rx⟩ := vals1 r
  cases rx
  rcases h with ⟨hq, q⟩ | ⟨hq, q⟩
  · obtain ⟨its, r', pl, hz⟩ := I.list hq
    have hlen := r'.length
    refine call_tuple_list pl.isList (fun h' kp => ?_) (by simp only [List.size_toArray] <;> omega)
    have I1 : Inv X pins σ H { s with heap := h' } := I.kept (t' := s.toks) kp
    have I2 : Inv X pins σ (upd H h'.objs.size (.tup ys)) { s with heap := h'.push { cls := .type "tuple", data := .seq its.toArray } } :=
      I1.laid (t' := s.toks) (fun b o e => Heap.get?_push_of_some _ e) (Nat.le_refl _) (show ObjOk X.prog X.w _ _ _ (.tup ys) from ⟨hz, its, r', IsTup.new _ _⟩)
    exact ⟨.ref h'.objs.size, _, I2, rfl, q _ (I1.hok.fresh (Nat.le_refl _))⟩
  · obtain ⟨its, r', pl, hz⟩ := I.tuple hq
    exact call_tuple_same pl ⟨.ref p, H, I, rfl, q⟩

/-! ### the call of a builtin's method: o.m(..) -/
/-- the value is of that builtin type -/
def tyV (K : PySem.W.Frag) (T : String) (x : V) (H : Hp) : Prop := match x with
  | .str _ => T = "str"
  | .int _ => T = "int"
  | .ref p => (T = "list" ∧ ∃ xs, SqL K H p xs) ∨ (T = "tuple" ∧ ∃ o, K.lookup p = some o ∧ o.cls = .type "tuple" ∧ o.dict = none) ∨
      (T = "dict" ∧ ((∃ kvs, H p = some (.dK kvs)) ∨ ∃ kvs, H p = some (.dT kvs))) ∨ (T = "set" ∧ ∃ S n, H p = some (.set S n))
  | _ => False
theorem tyV_is {pins : List (Addr × Obj)} {σ : St} {H : Hp} {s : Shared} {T : String} {x : V} {v : Value} (I : Inv X pins σ H s) (r : RelV x v) (ty : tyV X.K T x H) :
    s.TypeIs v T ∧ ∀ a, v = .ref a → ∃ ob, s.heap.get? a = some ob ∧ ob.dict = none := by
  cases x with
  | str z =>
    obtain ⟨t, rfl⟩ := r
    cases (show T = "str" from ty)
    exact ⟨typeIs_str s z t, fun _ e => nomatch e⟩
  | int i =>
    obtain ⟨t, rfl⟩ := r
    cases (show T = "int" from ty)
    exact ⟨typeIs_int s i t, fun _ e => nomatch e⟩
  | ref p =>
    cases r
    rcases ty with ⟨rfl, xs, hq⟩ | ⟨rfl, o, hk, hc, hd⟩ | ⟨rfl, hk⟩ | ⟨rfl, S, n, hk⟩
    · obtain ⟨its, _, pl, _⟩ := I.list hq
      refine ⟨pl.isList.typeIs, fun a e => ?_⟩
      cases e
      obtain ⟨o, n, e, c, hd, _⟩ := pl
      exact ⟨o, e, hd⟩
    · refine ⟨⟨o, I.kIn p o hk, hc⟩, fun a e => ?_⟩
      cases e
      exact ⟨o, I.kIn _ o hk, hd⟩
    · have z : ∃ o, s.heap.get? p = some o ∧ o.ExactDict := by
        rcases hk with ⟨kvs, hk⟩ | ⟨kvs, hk⟩
        · obtain ⟨_, _, _, _, o, _, _, e, ex, _⟩ := I.hok p _ hk
          exact ⟨o, e, ex⟩
        · obtain ⟨_, _, _, _, o, _, _, e, ex, _⟩ := I.hok p _ hk
          exact ⟨o, e, ex⟩
      obtain ⟨o, e, ex⟩ := z
      refine ⟨⟨o, e, ex.1⟩, fun a e2 => ?_⟩
      cases e2
      exact ⟨o, e, ex.2.1⟩
    · obtain ⟨o, _, _, _, e, ex, _⟩ := I.hok p _ hk
      refine ⟨⟨o, e, ex.1⟩, fun a e2 => ?_⟩
      cases e2
      exact ⟨o, e, ex.2.1⟩
  | _ => exact False.elim ty
def tBM (K : PySem.W.Frag) (T : String) (r : V → List V → Hp → VK → Prop) (to : TE) (t : TA) : TE := fun σ H Q => to σ H fun x H1 => tyV K T x H1 ∧ t σ H1 fun xs H2 => r x xs H2 Q
variable {o e : Expr} {es : List Expr} {to : TE} {t : TA} {name : Str} {apos cpos : Pos} {T id : String} {r : V → List V → Hp → VK → Prop}
theorem pe_bm (pa : PlainAttrs T) (slot : Slot T name id) (hty : typeOf (.builtin id) = pure (.type "method_descriptor")) (hm : MtR X id r) (ho : PE X o to) (ha : PA X (e :: es) t)
    (hbase : attributeBase o name X.env (eval o X.env) = eval o X.env := by rfl)
    (hfew : ((backTo cpos (starEach (e :: es) X.env)).all (fun x => !x.1) && (backToKw cpos (keywordEach [] X.env)).all (fun x => x.1.isSome)
      && decide ((e :: es).length + ([] : List Keyword).length + (if ([] : List Keyword).isEmpty then 0 else 1) < 30)) = true := by rfl)
    (hline : (apos.endLine == cpos.line) = true := by rfl) (hs : starEach (e :: es) X.env = (false, eval e X.env) :: starEach es X.env := by rfl) (hplain : (backTo cpos (starEach es X.env)).any (·.1) = false := by rfl) :
    PE X (.Call (.Attribute o name apos) (e :: es) [] cpos) (tBM X.K T r to t) := by
  intro pins s σ H Q I h
  refine wpAny_Call_method_late hbase hfew hline rfl (thn (ho pins s σ H _ I h) fun v s1 ⟨x, H1, I1, r1, ty, q1⟩ => ?_)
  obtain ⟨h1, h2⟩ := tyV_is I1 r1 ty
  refine ⟨T, id, pa, slot, hty, h1, h2, ?_⟩
  have hA := ha cpos pins s1 σ H1 _ I1 q1
  rw [hs] at hA ⊢
  refine Calls.callWith_builtin (by show (false || (backTo cpos (starEach es X.env)).any (·.1)) = false; rw [hplain] <;> rfl) (Calls.evalArgs_plain ?_)
  exact thn hA fun us s2 ⟨vs, H2, I2, r2, q2⟩ => hm pins s2 σ H2 x vs v us Q I2 r1 r2 q2
/- xs.append(e), list.index on a module's tuple .. are MtR facts of 06m -/
end
end L2

namespace L2
open PySem PySem.Spec PyProof.Rows

def MtM (X : Cx) (id : String) (r : V → List V → Hp → VK → Prop) : Prop :=
  ∀ (pins : List (Addr × Obj)) (s : Shared) (σ : St) (H : Hp) (x : V) (xs : List V) (v : Value) (us : List Value) (Q : VK), Inv X pins σ H s → RelV x v → Vals xs us → r x xs H Q →
    wpAny (model X.prog X.w) X.A (call (.builtin id) (v :: us)) (EP X pins σ Q) X.xe s

/-! ### lists of values -/
theorem Vals.one : ∀ {x : V} {us : List Value}, Vals [x] us → ∃ u, us = [u] ∧ RelV x u
  | _, _, .cons r .nil => ⟨_, rfl, r⟩

section
variable {X : Cx} {pins : List (Addr × Obj)} {σ : St} {H : Hp} {s : Shared} {l b : Addr} {xs ys zs : List V}

/-! ### the two steps: a tracked list is rewritten, a new list is laid -/
theorem Inv.lset {its its' : List Value} {n : Nat} {f : Array Value → Array Value} {t' : Nat} (I : Inv X pins σ H s) (hH : H l = some (.lst xs))
    (e : s.heap.get? l = some { cls := .type "list", data := .seq its.toArray n }) (hf : f its.toArray = its'.toArray) (hv : Vals ys its') (hz : ys.length ≤ sizeLine) :
    Inv X pins σ (upd H l (.lst ys)) { s with heap := s.heap.update l (Obj.mapSeq f), toks := t' } := by
  have q := PySem.IsL.update e f
  rw [hf] at q
  refine I.write (x := l) (e := l) (by rw [hH]; exact trivial) (.inl rfl) (fun b' u hb hu => (Heap.get?_update_other s.heap (Obj.mapSeq f) (Ne.symm hb)).trans hu) ⟨_, q⟩ ?_
  exact ⟨hz, its', _, hv, q⟩
theorem Inv.lnew {its : List Value} {t' : Nat} (I : Inv X pins σ H s) (hv : Vals ys its) (hz : ys.length ≤ sizeLine) :
    Inv X pins σ (upd H s.heap.objs.size (.lst ys)) { s with heap := s.heap.push { cls := .type "list", data := .seq its.toArray }, toks := t' } :=
  I.laid (fun _ _ q => Heap.get?_push_of_some _ q) (Nat.le_refl _) ⟨hz, its, 0, hv, Heap.get?_push_size _ rfl⟩
theorem Inv.fresh (I : Inv X pins σ H s) : H s.heap.objs.size = none := I.hok.fresh (Nat.le_refl _)
theorem Inv.lstM (I : Inv X pins σ H s) (hH : H l = some (.lst xs)) : xs.length ≤ sizeLine ∧ ∃ (its : List Value) (n : Nat), Vals xs its ∧ xs.length = its.length ∧ s.heap.get? l = some { cls := .type "list", data := .seq its.toArray n } := by
  obtain ⟨z, its, n, r, e⟩ := I.hok l _ hH
  exact ⟨z, its, n, r, r.length, e⟩

theorem notLongL {n : Nat} (h : n ≤ sizeLine) : Builtin.List.listTooLong n = false := by
  unfold Builtin.List.listTooLong
  exact decide_eq_false (by omega)
end

section
variable {X : Cx}

/-! ### methods -/
def rAppend : V → List V → Hp → VK → Prop := fun x vs H Q => ∃ l xs y, x = .ref l ∧ vs = [y] ∧ H l = some (.lst xs) ∧ xs.length < sizeLine ∧ Q .non (upd H l (.lst (xs ++ [y])))
theorem mt_append : MtM X "list.append" rAppend := by
  intro pins s σ H x vs v us Q I rx rv h
  obtain ⟨l, xs, y, rfl, rfl, hH, hz, q⟩ := h
  cases rx
  obtain ⟨u, rfl, ru⟩ := rv.one
  obtain ⟨z, its, n, r, hl, e⟩ := I.lstM hH
  refine call_meets F.slot_list_append ⟨_, e, rfl⟩ F.entry_list_append (F.args_list_append_2 _ _) (PySem.list_append l its.toArray n u (by rw [List.size_toArray]; omega)) ⟨e, ?_⟩
  refine ⟨.non, _, I.lset (its' := its ++ [u]) hH e (by simp) (r.append (.cons ru .nil)) ?_, rfl, q⟩
  rw [List.length_append, List.length_singleton]
  omega

def rExtend : V → List V → Hp → VK → Prop := fun x vs H Q => ∃ l b xs zs, x = .ref l ∧ vs = [.ref b] ∧ H l = some (.lst xs) ∧ H b = some (.lst zs) ∧ xs.length + zs.length ≤ sizeLine ∧ Q .non (upd H l (.lst (xs ++ zs)))
theorem mt_extend : MtM X "list.extend" rExtend := by
  intro pins s σ H x vs v us Q I rx rv h
  obtain ⟨l, b, xs, zs, rfl, rfl, hH, hB, hz, q⟩ := h
  cases rx
  obtain ⟨u, rfl, ru⟩ := rv.one
  cases ru
  obtain ⟨z, its, n, r, hl, e⟩ := I.lstM hH
  obtain ⟨z2, its2, n2, r2, hl2, e2⟩ := I.lstM hB
  have hsz : its.toArray.size + its2.toArray.size ≤ sizeLine := by rw [List.size_toArray, List.size_toArray]; omega
  have hlong : ¬ (!its.toArray.isEmpty && Builtin.List.listTooLong (its.toArray.size + its2.toArray.size)) = true := by
    rw [notLongL hsz, Bool.and_false]
    exact Bool.false_ne_true
  refine call_meets F.slot_list_extend ⟨_, e, rfl⟩ F.entry_list_extend (F.args_list_extend_2 _ _)
    (AutoSeq1.list_extend_list_list_0 l its.toArray n b its2.toArray n2 hlong (by rw [List.size_toArray]; omega) (by omega)) ⟨e, e2, ?_⟩
  refine ⟨.non, _, I.lset (its' := its ++ its2) hH e (by simp) (r.append r2) ?_, rfl, q⟩
  rw [List.length_append]
  omega





/-! ### list + list, list += list, list * int -/
def rCat : R2 := fun x y H Q => ∃ l b xs zs, x = .ref l ∧ y = .ref b ∧ H l = some (.lst xs) ∧ H b = some (.lst zs) ∧ xs.length + zs.length ≤ sizeLine ∧ ∀ p, H p = none → Q (.ref p) (upd H p (.lst (xs ++ zs)))
theorem op_cat : OpR X (binaryOp .Add) rCat := by
  intro pins s σ H x y v u Q I rx ry h
  obtain ⟨l, b, xs, zs, rfl, rfl, hH, hB, hz, q⟩ := h
  cases rx
  cases ry
  obtain ⟨z, its, n, r, hl, e⟩ := I.lstM hH
  obtain ⟨z2, its2, n2, r2, hl2, e2⟩ := I.lstM hB
  refine PySem.P.add_list e e2 ?_ (by rw [List.size_toArray, List.size_toArray]; omega)
  have ea : its.toArray ++ its2.toArray = (its ++ its2).toArray := by simp
  rw [ea]
  exact ⟨.ref _, _, I.lnew (t' := s.toks) (r.append r2) (by rw [List.length_append]; omega), rfl, q _ I.fresh⟩

/-! ### del xs[i] -/
end

/-! ### xs[a:b] = ys -/
section
variable {prog : Program} {w : World} {A : Around} {E : Value → Shared → Prop} {s : Shared}
set_option maxRecDepth 100000 in
end

section
variable {X : Cx}
end
end L2

namespace L2
open PySem PySem.Spec PyProof.Rows

theorem Vals.ints : ∀ {ns : List Int} {us : List Value}, Vals (ns.map V.int) us → IntsAre us ns
  | [], us, h => by
    rw [List.map_nil] at h
    cases h
    exact IntsAre.nil
  | n :: ns, us, h => by
    rw [List.map_cons] at h
    cases h with
    | cons r t =>
      obtain ⟨k, rfl⟩ := r
      exact IntsAre.cons n k (Vals.ints t)
theorem Vals.bls : ∀ {bs : List Bool} {us : List Value}, Vals (bs.map V.bl) us → us = bs.map Value.bool
  | [], us, h => by
    rw [List.map_nil] at h
    cases h
    rfl
  | b :: bs, us, h => by
    rw [List.map_cons] at h
    cases h with
    | cons r t =>
      cases r
      rw [Vals.bls t, List.map_cons]
theorem Vals.ref1 {a : Addr} {us : List Value} (r : Vals [V.ref a] us) : us = [Value.ref a] := by
  cases r with
  | cons r t =>
    cases t
    cases r
    rfl

/-! ### the library's walks over a list of ints, kept objects alone -/
section
variable {prog : Program} {w : World} {A : Around} {E : Value → Shared → Prop} {s : Shared} {l : Addr} {its : List Value} {ns : List Int} {Q : Value → Shared → Prop}
theorem max_raw (hh : A.handled = none) (hl : s.heap.IsList l its.toArray) (hi : IntsAre its ns) (hne : 0 < ns.length)
    (h : ∀ h' tk M t', (∀ b o, s.heap.get? b = some o → h'.get? b = some o) → M ∈ ns → (∀ a, a ∈ ns → a ≤ M) → Q (.int M t') { s with heap := h', toks := tk }) : wpAny (model prog w) A (call (.builtin "max") [.ref l]) Q E s := by
  obtain ⟨xs, e⟩ := hi.allInts.items
  have hn : numsOf (intItems xs).toList = ns := by rw [← e]; exact hi.numsOf
  rw [nums_intItems] at hn
  subst hn
  rw [e] at hl
  have hsz : 0 < xs.size := by simpa using hne
  refine PySem.max_intList hh hl hsz fun v h' tk hv hk => ?_
  obtain ⟨t, rfl⟩ := intItems_at hv
  obtain ⟨h1, h2⟩ := argBest_gt (numAt xs) (xs.size - 1)
  refine h h' tk _ t hk ?_ fun a ha => ?_
  · rw [numAt_eq]; exact PySem.getD_mem (by rw [List.length_map, Array.length_toList]; omega)
  · obtain ⟨j, hj, rfl⟩ := mem_getD ha
    rw [List.length_map, Array.length_toList] at hj
    rw [← numAt_eq]; exact h2 j (by omega)
theorem min_raw (hh : A.handled = none) (hl : s.heap.IsList l its.toArray) (hi : IntsAre its ns) (hne : 0 < ns.length)
    (h : ∀ h' tk M t', (∀ b o, s.heap.get? b = some o → h'.get? b = some o) → M ∈ ns → (∀ a, a ∈ ns → M ≤ a) → Q (.int M t') { s with heap := h', toks := tk }) : wpAny (model prog w) A (call (.builtin "min") [.ref l]) Q E s := by
  obtain ⟨xs, e⟩ := hi.allInts.items
  have hn : numsOf (intItems xs).toList = ns := by rw [← e]; exact hi.numsOf
  rw [nums_intItems] at hn
  subst hn
  rw [e] at hl
  have hsz : 0 < xs.size := by simpa using hne
  refine PySem.min_intList hh hl hsz fun v h' tk hv hk => ?_
  obtain ⟨t, rfl⟩ := intItems_at hv
  obtain ⟨h1, h2⟩ := argBest_lt (numAt xs) (xs.size - 1)
  refine h h' tk _ t hk ?_ fun a ha => ?_
  · rw [numAt_eq]; exact PySem.getD_mem (by rw [List.length_map, Array.length_toList]; omega)
  · obtain ⟨j, hj, rfl⟩ := mem_getD ha
    rw [List.length_map, Array.length_toList] at hj
    rw [← numAt_eq]; exact h2 j (by omega)
end

/-! ### the calls, by values (CallR of 03t; MtR of 06l) -/
section
variable {X : Cx}
/-- max(xs), min(xs) of a list of ints -/
def rMax (K : PySem.W.Frag) : List V → Hp → VK → Prop := fun vs H Q => ∃ (a : Addr) (ns : List Int), vs = [V.ref a] ∧ SqL K H a (ns.map V.int) ∧ 0 < ns.length ∧ ∀ m, m ∈ ns → (∀ y, y ∈ ns → y ≤ m) → Q (.int m) H
def rMin (K : PySem.W.Frag) : List V → Hp → VK → Prop := fun vs H Q => ∃ (a : Addr) (ns : List Int), vs = [V.ref a] ∧ SqL K H a (ns.map V.int) ∧ 0 < ns.length ∧ ∀ m, m ∈ ns → (∀ y, y ∈ ns → m ≤ y) → Q (.int m) H
theorem cr_max (hc : X.calm = true) : CallR X (.builtin "max") (rMax X.K) := by
  intro pins s σ H vs us Q I r h
  obtain ⟨a, ns, rfl, hs, hne, q⟩ := h
  obtain ⟨its, rv, hl, _⟩ := I.list hs
  rw [Vals.ref1 r]
  exact max_raw (I.ok.hd hc) hl.isList rv.ints hne fun h' tk m t' hk h1 h2 => ⟨.int _, H, I.kept hk, ⟨_, rfl⟩, q m h1 h2⟩
theorem cr_min (hc : X.calm = true) : CallR X (.builtin "min") (rMin X.K) := by
  intro pins s σ H vs us Q I r h
  obtain ⟨a, ns, rfl, hs, hne, q⟩ := h
  obtain ⟨its, rv, hl, _⟩ := I.list hs
  rw [Vals.ref1 r]
  exact min_raw (I.ok.hd hc) hl.isList rv.ints hne fun h' tk m t' hk h1 h2 => ⟨.int _, H, I.kept hk, ⟨_, rfl⟩, q m h1 h2⟩

/-! sorted, sort (fewer than 64 items: the library's own bound) -/
end

/-! ### list.index, flat items -/
section
variable {X : Cx}
def rIndex (K : PySem.W.Frag) : V → List V → Hp → VK → Prop := fun x xs H Q => ∃ (a : Addr) (ys : List V) (y : V) (j : Nat) (z : V), x = V.ref a ∧ xs = [y] ∧ SqL K H a ys ∧ flatV y = true ∧ ys.all flatV = true ∧ ys[j]? = some z ∧ eqV z y = true ∧
  (∀ (m : Nat) (z' : V), m < j → ys[m]? = some z' → eqV z' y = false) ∧ Q (.int (j : Nat)) H
theorem flat_at {ys : List V} (f : ys.all flatV = true) {j : Nat} {z : V} (h : ys[j]? = some z) : flatV z = true := List.all_eq_true.mp f z (List.mem_of_getElem? h)
theorem mt_index : MtR X "list.index" (rIndex X.K) := by
  intro pins s σ H x xs v us Q I rx rxs h
  obtain ⟨a, ys, y, j, z, rfl, rfl, hs, fy, fys, hz, hzj, hno, q⟩ := h
  cases rx
  cases rxs with
  | cons ry rt =>
    rename_i uy ut
    cases rt
    obtain ⟨its, rv, ⟨⟨cls, dd, data, sl⟩, n, ho, hc, hdn, hd⟩, hlen⟩ := I.list hs
    simp only at hc hd
    subst hc hd
    obtain ⟨u, hu, ru⟩ := rv.get hz
    obtain ⟨hjl, hje⟩ := List.getElem?_eq_some_iff.mp hu
    have hvl := rv.length
    have hj : j < its.toArray.size := by simpa using hjl
    have hsl := sizeLine_eq
    refine call_meets PySem.F.slot_list_index ⟨_, ho, rfl⟩ PySem.F.entry_list_index (PySem.F.args_list_index_2 _ _)
      (SeqAt.list_indexAt a its.toArray n dd sl uy (eqU y) j hj (by omega) ?_ ?_) ⟨ho, fun u' hu' => mem_eqAt ry fy rv fys u' (by simpa using hu'), ?_⟩
    · have e1 : its.toArray[j] = u := by simpa using hje
      rw [e1, eqU_of ru (flat_at fys hz)]
      exact hzj
    · intro m hm hmj
      have hml : m < its.length := by simpa using hm
      have hmy : m < ys.length := by omega
      have hy' : ys[m]? = some ys[m] := List.getElem?_eq_getElem hmy
      obtain ⟨u2, hu2, ru2⟩ := rv.get hy'
      obtain ⟨_, hme⟩ := List.getElem?_eq_some_iff.mp hu2
      have e1 : its.toArray[m] = u2 := by simpa using hme
      rw [e1, eqU_of ru2 (flat_at fys hy')]
      exact hno m _ hmj hy'
    · exact ⟨.int (j : Nat), H, I.tok _, ⟨_, rfl⟩, q⟩
end

/-! ### any(xs), all(xs) of a list of bools -/
theorem iter_any {prog : Program} {w : World} {A : Around} {E : Value → Shared → Prop} {s : Shared} {l : Addr} {items : Array Value} {Q : Value → Shared → Prop} (hl : s.heap.IsList l items)
    (h : ∀ s₂ : Shared, s₂ = { s with heap := s.heap.push { cls := .type "list_iterator", data := .fields #[.ref l, .int 0 0] } } →
      (s₂.heap.IsListIter s.heap.objs.size l 0 ∧ s₂.heap.IsList l items) → l ≠ s.heap.objs.size → Q (.ref s.heap.objs.size) s₂) : wpAny (model prog w) A (pyIter (.ref l)) Q E s := by
  have hlt : l < s.heap.objs.size := by obtain ⟨_, e, _⟩ := hl; exact Heap.lt_size e
  exact wpAny_pyIter_list hl (h _ rfl ⟨⟨_, Heap.get?_push_size _ rfl, rfl, rfl⟩, hl.push _⟩ (Nat.ne_of_lt hlt))
theorem truth_bools {prog : Program} {w : World} {A : Around} {bs : List Bool} {its : List Value} (e : its = bs.map Value.bool) :
    TruthOf prog w A (fun i v => its.toArray[i]? = some v) (fun i => bs.getD i false) := fun i v s Q E hv hq => by
  have hv' : its[i]? = some v := by simpa using hv
  rw [e, List.getElem?_map] at hv'
  obtain ⟨b, hb, rfl⟩ := Option.map_eq_some_iff.mp hv'
  have hg : bs.getD i false = b := by rw [List.getD_eq_getElem?_getD, hb] <;> rfl
  have hq' : Q (bs.getD i false) s := hq
  rw [hg] at hq'
  exact wpAny_truthy_bool hq'
theorem all_range : ∀ bs : List Bool, (List.range bs.length).all (fun i => bs.getD i false) = bs.all id
  | [] => rfl
  | b :: bs => by
    rw [List.length_cons, List.range_succ_eq_map, List.all_cons, List.all_map, List.all_cons, ← all_range bs]
    all_goals rfl
section
variable {X : Cx}
def rAll (K : PySem.W.Frag) : List V → Hp → VK → Prop := fun vs H Q => ∃ (a : Addr) (bs : List Bool), vs = [V.ref a] ∧ SqL K H a (bs.map V.bl) ∧ Q (.bl (bs.all id)) H
theorem cr_all (hc : X.calm = true) : CallR X (.builtin "all") (rAll X.K) := by
  intro pins s σ H vs us Q I r h
  obtain ⟨a, bs, rfl, hs, q⟩ := h
  obtain ⟨its, rv, hl, _⟩ := I.list hs
  rw [Vals.ref1 r]
  have hb := rv.bls
  refine call_all_walk (iter_any hl.isList fun s₂ e2 st hne => ?_)
  subst e2
  refine ⟨_, _, _, _, _, _, _, rfl, Walks.list (A := X.A.in1) (I.ok.hd hc) _ a hne its.toArray, st, truth_bools hb, fun h' tk hk => ?_⟩
  refine ⟨.bl _, H, I.kept fun b o eo => hk b o (fun hmem => ?_) (Heap.get?_push_of_some _ eo), ?_, q⟩
  · rcases List.mem_cons.mp hmem with e1 | hmem
    · exact absurd (e1 ▸ Heap.lt_size eo) (Nat.lt_irrefl _)
    · cases hmem
  · show Value.bool _ = Value.bool _
    rw [← all_range, hb, List.size_toArray, List.length_map]
end

/-! ### == and != of data at any depth: none, bools, ints, texts, lists, tuples -/
mutual
inductive Dp (K : PySem.W.Frag) (H : Hp) : V → PyData → Prop
  | non : Dp K H .non .none
  | bl (b : Bool) : Dp K H (.bl b) (.bool b)
  | int (i : Int) : Dp K H (.int i) (.int i)
  | str (x : Str) : Dp K H (.str x) (.str x)
  | lst {a : Addr} {xs : List V} {ds : List PyData} : SqL K H a xs → DpAll K H xs ds → Dp K H (.ref a) (.list ds)
  | tup {a : Addr} {xs : List V} {ds : List PyData} : SqT K H a xs → DpAll K H xs ds → Dp K H (.ref a) (.tuple ds)
inductive DpAll (K : PySem.W.Frag) (H : Hp) : List V → List PyData → Prop
  | nil : DpAll K H [] []
  | cons {v : V} {vs : List V} {d : PyData} {ds : List PyData} : Dp K H v d → DpAll K H vs ds → DpAll K H (v :: vs) (d :: ds)
end
section
variable {X : Cx} {pins : List (Addr × Obj)} {σ : St} {H : Hp} {s : Shared}
mutual
theorem Dp.reads (I : Inv X pins σ H s) : ∀ (d : PyData) (v : V) (u : Value), Dp X.K H v d → RelV v u → ∃ as, Reads s.heap u d as
  | .none, _, _, h, r => by
    cases h
    cases r
    exact ⟨_, Reads.none⟩
  | .bool b, _, _, h, r => by
    cases h
    cases r
    exact ⟨_, Reads.bool b⟩
  | .int i, _, _, h, r => by
    cases h
    obtain ⟨t, rfl⟩ := r
    exact ⟨_, Reads.int i t⟩
  | .str x, _, _, h, r => by
    cases h
    obtain ⟨t, rfl⟩ := r
    exact ⟨_, Reads.str x t⟩
  | .list ds, _, _, h, r => by
    cases h with
    | lst hs ha =>
      cases r
      obtain ⟨its, rv, ⟨o, n, ho, hc, _, hd⟩, _⟩ := I.list hs
      obtain ⟨as, hr⟩ := Dp.readsAll I ds _ its ha rv
      exact ⟨_, Reads.list ho hc hd hr⟩
  | .tuple ds, _, _, h, r => by
    cases h with
    | tup hs ha =>
      cases r
      obtain ⟨its, rv, ⟨o, ho, hc, n, hd⟩, _⟩ := I.tuple hs
      obtain ⟨as, hr⟩ := Dp.readsAll I ds _ its ha rv
      exact ⟨_, Reads.tuple ho hc hd hr⟩
  | .dict _, _, _, h, _ => by cases h
theorem Dp.readsAll (I : Inv X pins σ H s) : ∀ (ds : List PyData) (vs : List V) (us : List Value), DpAll X.K H vs ds → Vals vs us → ∃ as, ReadsAll s.heap us ds as
  | [], _, _, h, r => by
    cases h
    cases r
    exact ⟨_, ReadsAll.nil⟩
  | d :: ds, _, _, h, r => by
    cases h with
    | cons h1 h2 =>
      cases r with
      | cons r1 r2 =>
        obtain ⟨as, q1⟩ := Dp.reads I d _ _ h1 r1
        obtain ⟨bs, q2⟩ := Dp.readsAll I ds _ _ h2 r2
        exact ⟨_, ReadsAll.cons q1 q2⟩
end
end
section
variable {X : Cx}
def rEqD (K : PySem.W.Frag) : R2 := fun x y H Q => ∃ d e, Dp K H x d ∧ Dp K H y e ∧ SeqAt.shaped d = true ∧ SeqAt.shaped e = true ∧ Q (.bl (PyData.eqv d e)) H
theorem op_eqD (hu : X.A.units + 64 < cLine) : OpR X (compareOp .Eq) (rEqD X.K) := by
  intro pins s σ H x y v u Q I rx ry h
  obtain ⟨d, e, hd, he, sd, se, q⟩ := h
  obtain ⟨as, r1⟩ := Dp.reads I d x v hd rx
  obtain ⟨bs, r2⟩ := Dp.reads I e y u he ry
  exact SeqAt.compareEq_shaped r1 r2 sd se hu ⟨.bl _, H, I, rfl, q⟩
end
end L2

namespace L2
open PySem PySem.Spec PyProof.Rows
abbrev CellAt (h : Heap) (c : Addr) (v : Option Value) : Prop := h.IsCell c v
def relS (scope sc : Scope) : Scope :=
  { scope with names := scope.names.map fun (n, k) => if (k == .free && sc.kind == .function && sc.names.lookup n == some .cell) then (n, .cell) else (n, k) }

def cloFrom (cells : List (Str × Addr)) : List (Str × NameKind) → List (Str × Addr) → List (Str × Addr)
  | [], acc => acc
  | (n, k) :: r, acc => if k == .free then cloFrom cells r ((n, (cells.lookup n).getD 0) :: acc) else cloFrom cells r acc

theorem closure_loop (env : Env) (f : Str × NameKind → List (Str × Addr) → Sem (ForInStep (List (Str × Addr))))
    (hf : ∀ n k c, f (n, k) c = if k == .free then (do let a ← cellOf env n; pure (.yield ((n, a) :: c))) else pure (.yield c)) :
    ∀ (names : List (Str × NameKind)) (acc : List (Str × Addr)), (∀ y ∈ names, y.2 = .free → ∃ c, env.cells.lookup y.1 = some c) → forIn names acc f = pure (cloFrom env.cells names acc)
  | [], acc, _ => by rw [List.forIn_nil]; rfl
  | (n, k) :: r, acc, h => by
    rw [List.forIn_cons, hf]
    have ih := fun acc => closure_loop env f hf r acc fun y hy => h y (List.mem_cons_of_mem _ hy)
    unfold cloFrom
    by_cases hk : (k == NameKind.free) = true
    · rw [if_pos hk, if_pos hk]
      obtain ⟨c, hc⟩ := h (n, k) List.mem_cons_self (by simpa using hk)
      have e : cellOf env n = pure c := by unfold cellOf; rw [hc]
      rw [e]
      have e2 : (env.cells.lookup n).getD 0 = c := by rw [hc]; rfl
      rw [e2]
      exact ih _
    · rw [if_neg hk, if_neg hk]
      exact ih _
theorem closure_ok {scope : Scope} {env : Env} (h : ∀ y ∈ scope.names, y.2 = .free → ∃ c, env.cells.lookup y.1 = some c) : closureFor scope env = pure (cloFrom env.cells scope.names []) := by
  simp only [closureFor]
  rw [closure_loop env _ (fun n k c => rfl) scope.names [] h]
  rfl

theorem mem_lookup {α : Type} : ∀ {l : List (Str × α)} {n : Str} {c : α}, (n, c) ∈ l → ∃ c', l.lookup n = some c'
  | (k, v) :: r, n, c, h => by
    rw [List.lookup_cons]
    cases hb : n == k with
    | true => exact ⟨_, rfl⟩
    | false =>
      rcases List.mem_cons.mp h with e | h
      · cases e; simp at hb
      · exact mem_lookup h

theorem cloFrom_mem {cells : List (Str × Addr)} : ∀ {names : List (Str × NameKind)} {acc : List (Str × Addr)} {n : Str} {c : Addr}, (n, c) ∈ cloFrom cells names acc → (n, c) ∈ acc ∨ ((n, .free) ∈ names ∧ c = (cells.lookup n).getD 0)
  | [], _, _, _, h => .inl h
  | (m, k) :: r, acc, n, c, h => by
    unfold cloFrom at h
    split at h
    · rename_i hk
      have hk : k = .free := by simpa using hk
      rcases cloFrom_mem h with h | ⟨h1, h2⟩
      · rcases List.mem_cons.mp h with e | h
        · cases e; exact .inr ⟨hk ▸ List.mem_cons_self, rfl⟩
        · exact .inl h
      · exact .inr ⟨List.mem_cons_of_mem _ h1, h2⟩
    · rcases cloFrom_mem h with h | ⟨h1, h2⟩
      · exact .inl h
      · exact .inr ⟨List.mem_cons_of_mem _ h1, h2⟩
theorem cloFrom_acc {cells : List (Str × Addr)} : ∀ {names : List (Str × NameKind)} {acc : List (Str × Addr)} {p : Str × Addr}, p ∈ acc → p ∈ cloFrom cells names acc
  | [], _, _, h => h
  | (m, k) :: r, acc, p, h => by
    unfold cloFrom
    split
    · exact cloFrom_acc (List.mem_cons_of_mem _ h)
    · exact cloFrom_acc h
theorem cloFrom_has {cells : List (Str × Addr)} : ∀ {names : List (Str × NameKind)} {acc : List (Str × Addr)} {n : Str}, (n, .free) ∈ names → (n, (cells.lookup n).getD 0) ∈ cloFrom cells names acc
  | (m, k) :: r, acc, n, h => by
    unfold cloFrom
    rcases List.mem_cons.mp h with e | h
    · cases e
      exact cloFrom_acc List.mem_cons_self
    · split
      · exact cloFrom_has h
      · exact cloFrom_has h

theorem cells_mem : ∀ {names : List (Str × NameKind)} {h : Heap} {acc : List (Str × Addr)} {x : Str} {c : Addr}, (x, c) ∈ cellsFrom h.objs.size names acc →
    (x, c) ∈ acc ∨ ((x, .cell) ∈ names ∧ h.objs.size ≤ c ∧ CellAt (pushCells h names) c none)
  | [], _, _, _, _, h => .inl h
  | (n, k) :: r, h, acc, x, c, hm => by
    unfold cellsFrom at hm
    unfold pushCells
    split at hm
    · rename_i hk
      rw [if_pos hk]
      have hk : k = .cell := by simpa using hk
      rw [← Heap.size_push h { cls := .type "cell", data := .cell none }] at hm
      rcases cells_mem hm with hm | ⟨h1, h2, h3⟩
      · rcases List.mem_cons.mp hm with e | hm
        · cases e
          exact .inr ⟨hk ▸ List.mem_cons_self, Nat.le_refl _, _, pushCells_keeps r _ _ _ (Heap.get?_push_size _ rfl), rfl⟩
        · exact .inl hm
      · rw [Heap.size_push] at h2
        exact .inr ⟨List.mem_cons_of_mem _ h1, Nat.le_of_succ_le h2, h3⟩
    · rename_i hk
      rw [if_neg hk]
      rcases cells_mem hm with hm | ⟨h1, h2, h3⟩
      · exact .inl hm
      · exact .inr ⟨List.mem_cons_of_mem _ h1, h2, h3⟩
theorem cells_acc : ∀ {names : List (Str × NameKind)} {n : Nat} {acc : List (Str × Addr)} {p : Str × Addr}, p ∈ acc → p ∈ cellsFrom n names acc
  | [], _, _, _, h => h
  | (m, k) :: r, n, acc, p, h => by
    unfold cellsFrom
    split
    · exact cells_acc (List.mem_cons_of_mem _ h)
    · exact cells_acc h
theorem cells_has : ∀ {names : List (Str × NameKind)} {n : Nat} {acc : List (Str × Addr)} {x : Str}, (x, .cell) ∈ names → ∃ c, (x, c) ∈ cellsFrom n names acc
  | (m, k) :: r, n, acc, x, h => by
    unfold cellsFrom
    rcases List.mem_cons.mp h with e | h
    · cases e
      exact ⟨n, cells_acc List.mem_cons_self⟩
    · split
      · exact cells_has h
      · exact cells_has h
theorem cells_inj : ∀ {names : List (Str × NameKind)} {h : Heap} {acc : List (Str × Addr)} {x y : Str} {c : Addr}, (∀ p ∈ acc, p.2 < h.objs.size) → (∀ x y c, (x, c) ∈ acc → (y, c) ∈ acc → x = y) →
    (x, c) ∈ cellsFrom h.objs.size names acc → (y, c) ∈ cellsFrom h.objs.size names acc → x = y
  | [], _, _, _, _, _, _, hi, h1, h2 => hi _ _ _ h1 h2
  | (n, k) :: r, h, acc, x, y, c, hl, hi, h1, h2 => by
    unfold cellsFrom at h1 h2
    split at h1
    · rename_i hk
      rw [if_pos hk] at h2
      rw [← Heap.size_push h { cls := .type "cell", data := .cell none }] at h1 h2
      refine cells_inj (h := h.push _) (fun p hp => ?_) (fun x y c a b => ?_) h1 h2
      · rw [Heap.size_push]
        rcases List.mem_cons.mp hp with rfl | hp
        · exact Nat.lt_succ_self _
        · exact Nat.lt_succ_of_lt (hl p hp)
      · rcases List.mem_cons.mp a with e | a <;> rcases List.mem_cons.mp b with e' | b
        · cases e; cases e'; rfl
        · cases e; exact absurd (hl _ b) (Nat.lt_irrefl _)
        · cases e'; exact absurd (hl _ a) (Nat.lt_irrefl _)
        · exact hi _ _ _ a b
    · rename_i hk
      rw [if_neg hk] at h2
      exact cells_inj hl hi h1 h2

theorem newEnv_comp {M : Model} {A : Around} {E : Value → Shared → Prop} {s : Shared} {scope : Scope} {globals : Addr} {closure : List (Str × Addr)} {qual : Str} {func : Option Addr} {code : Value} {around : Env} {builtins : Addr} {Q : Env → Shared → Prop}
    (h : Q (newEnv scope s.heap.objs.size globals (cellsFrom (s.heap.objs.size + 1) scope.names closure) qual func code (some around) builtins)
      { s with heap := pushCells (s.heap.push { cls := .type "dict", data := .dict #[] }) scope.names }) :
    wpAny M A (newFunctionEnv scope globals closure [] qual func code (some around) builtins) Q E s := by
  simp only [newFunctionEnv, Option.isSome_some, if_true]
  refine wpAny_bind (wpAny_alloc ?_)
  refine wpAny_bind (wpAny_layCells _ (fun n k c => rfl) scope.names closure _ _ ?_)
  rw [show ({ s with heap := s.heap.push { cls := .type "dict", data := .dict #[] } } : Shared).heap.objs.size = s.heap.objs.size + 1 from Heap.size_push ..]
  rw [List.forIn_nil]
  exact wpAny_bind (wpAny_pure (wpAny_pure h))

/-- every name of the written scope, in the scope that runs -/
theorem lookup_relS {sc : Scope} : ∀ {names : List (Str × NameKind)} {x : Str} {k : NameKind},
    (names.map fun (n, k) => if (k == NameKind.free && sc.kind == .function && sc.names.lookup n == some .cell) then (n, NameKind.cell) else (n, k)).lookup x = some k →
    ∃ k', names.lookup x = some k' ∧ (k = k' ∨ (k' = .free ∧ k = .cell))
  | [], _, _, h => by simp at h
  | (n, k₀) :: r, x, k, h => by
    have ih := @lookup_relS sc r x k
    have h' : List.lookup x ((if (k₀ == NameKind.free && sc.kind == .function && sc.names.lookup n == some .cell) = true then (n, NameKind.cell) else (n, k₀)) :: (r.map _)) = some k := h
    cases hx : x == n with
    | true =>
      simp only [List.lookup_cons, hx]
      by_cases hc : (k₀ == NameKind.free && sc.kind == .function && sc.names.lookup n == some .cell) = true
      · rw [if_pos hc] at h'
        simp only [List.lookup_cons, hx] at h'
        cases h'
        simp only [Bool.and_eq_true, beq_iff_eq] at hc
        exact ⟨k₀, rfl, .inr ⟨hc.1.1, rfl⟩⟩
      · rw [if_neg hc] at h'
        simp only [List.lookup_cons, hx] at h'
        cases h'
        exact ⟨_, rfl, .inl rfl⟩
    | false =>
      simp only [List.lookup_cons, hx]
      by_cases hc : (k₀ == NameKind.free && sc.kind == .function && sc.names.lookup n == some .cell) = true
      · rw [if_pos hc] at h'
        simp only [List.lookup_cons, hx] at h'
        exact ih h'
      · rw [if_neg hc] at h'
        simp only [List.lookup_cons, hx] at h'
        exact ih h'



/-- the names of a comprehension's block: its own (with their places in N), or captured -/
structure BlkOk (N : List Str) (sc scope : Scope) (own : List (Str × Nat)) : Prop where
  kind : scope.kind = .function
  uniq : ∀ y ∈ scope.names, scope.names.lookup y.1 = some y.2
  ix : ∀ p ∈ own, N[p.2]? = some p.1
  free : ∀ y ∈ scope.names, y.2 = .free → sc.names.lookup y.1 = some .cell ∨ sc.names.lookup y.1 = some .free
  own : ∀ y ∈ scope.names, y.2 = .local ∨ y.2 = .cell → y.1 ∈ own.map (·.1) ∨ y.1 ∉ N
/-- the slots of the block's own names forgotten -/
def wipe (σ : St) : List Nat → St
  | [] => σ
  | v :: vs => (wipe σ vs).set v none
theorem wipe_length (σ : St) : ∀ vs : List Nat, (wipe σ vs).length = σ.length
  | [] => rfl
  | v :: vs => by unfold wipe; rw [List.length_set, wipe_length σ vs]
theorem wipe_some {σ : St} {i : Nat} {x : V} : ∀ {vs : List Nat}, (wipe σ vs)[i]? = some (some x) → σ[i]? = some (some x) ∧ i ∉ vs
  | [], h => ⟨h, by simp⟩
  | v :: vs, h => by
    unfold wipe at h
    by_cases hi : v = i
    · subst hi
      by_cases hv : v < (wipe σ vs).length
      · rw [List.getElem?_set_self hv] at h; cases h
      · rw [List.getElem?_eq_none (by simpa using hv)] at h; cases h
    · rw [List.getElem?_set_ne hi] at h
      obtain ⟨h1, h2⟩ := wipe_some h
      exact ⟨h1, by simp only [List.mem_cons, not_or]; exact ⟨fun e => hi e.symm, h2⟩⟩

/-- the context of a block that starts at s, its iterator's objects at fp -/
abbrev Cx.blk (X : Cx) (s : Shared) (H : Hp) (scope : Scope) (cenv : Env) (fp : List Addr) : Cx := { X with s_0 := s, H_0 := H, env := cenv, outer := X.stack, ex := fp, fn := fun x => scope.names.lookup x == some .cell, pn := [], xe := fun _ _ => False }
section
variable {X : Cx} {pins : List (Addr × Obj)} {σ : St} {H : Hp} {s : Shared}
theorem block_start {scope : Scope} {own : List (Str × Nat)} {fp : List Addr} (I : Inv X pins σ H s) (ok : BlkOk X.N X.env.scope scope own) (hN : X.N.Nodup) (hfp : ∀ b ∈ fp, FpOk X pins H b ∧ b < s.heap.objs.size) :
    Inv (X.blk s H scope (compEnvC scope (cellsFrom (s.heap.objs.size + 1) scope.names (cloFrom X.env.cells scope.names [])) s.heap.objs.size X.env) fp) [] (wipe σ (own.map (·.2))) H { s with heap := pushCells (s.heap.push { cls := .type "dict", data := .dict #[] }) scope.names } := by
  have hfree : ∀ y ∈ scope.names, y.2 = .free → ∃ c, X.env.cells.lookup y.1 = some c := fun y hy e => by
    rcases ok.free y hy e with k | k
    · exact I.ok.has _ (.inl k)
    · exact I.ok.has _ (.inr k)
  generalize hcenv : compEnvC scope (cellsFrom (s.heap.objs.size + 1) scope.names (cloFrom X.env.cells scope.names [])) s.heap.objs.size X.env = cenv
  have kp : ∀ b o, s.heap.get? b = some o → (pushCells (s.heap.push { cls := .type "dict", data := .dict #[] }) scope.names).get? b = some o := fun b o e => pushCells_keeps _ _ _ _ (Heap.get?_push_of_some _ e)
  have hL : cenv.locals = s.heap.objs.size := by rw [← hcenv]; rfl
  have hcl : cenv.cells = cellsFrom (s.heap.objs.size + 1) scope.names (cloFrom X.env.cells scope.names []) := by rw [← hcenv]; rfl
  have hsc : cenv.scope = relS scope X.env.scope := by rw [← hcenv]; rfl
  rw [← Heap.size_push s.heap { cls := .type "dict", data := .dict #[] }] at hcl
  have cm : ∀ {y c}, (y, c) ∈ cloFrom X.env.cells scope.names [] → X.env.cells.lookup y = some c ∧ c < s.heap.objs.size := fun {y c} hm => by
    rcases cloFrom_mem hm with hm | ⟨h1, rfl⟩
    · cases hm
    · obtain ⟨c, hc⟩ := hfree _ h1 rfl
      rw [hc]
      obtain ⟨w, z⟩ := I.cell _ _ hc
      exact ⟨rfl, z.lt⟩
  have mem : ∀ {y c}, cenv.cells.lookup y = some c → (X.env.cells.lookup y = some c ∧ c < s.heap.objs.size) ∨ (s.heap.objs.size + 1 ≤ c ∧ CellAt (pushCells (s.heap.push { cls := .type "dict", data := .dict #[] }) scope.names) c none) := fun {y c} e => by
    rw [hcl] at e
    rcases cells_mem (PySem.mem_of_lookup e) with hm | ⟨_, h2, h3⟩
    · exact .inl (cm hm)
    · rw [Heap.size_push] at h2; exact .inr ⟨h2, h3⟩
  have look : ∀ {y}, scope.names.lookup y = some .free → ∃ c, cenv.cells.lookup y = some c ∧ X.env.cells.lookup y = some c := fun {y} hl => by
    have hy : (y, NameKind.free) ∈ scope.names := PySem.mem_of_lookup hl
    obtain ⟨c', e'⟩ := mem_lookup (cells_acc (names := scope.names) (n := (s.heap.push { cls := .type "dict", data := .dict #[] }).objs.size) (cloFrom_has (cells := X.env.cells) (acc := []) hy))
    rw [← hcl] at e'
    refine ⟨c', e', ?_⟩
    rw [hcl] at e'
    rcases cells_mem (PySem.mem_of_lookup e') with hm | ⟨h1, _, _⟩
    · exact (cm hm).1
    · have := ok.uniq _ h1
      rw [hl] at this; cases this
  have okB : (X.blk s H scope cenv fp).Ok := by
    refine ⟨I.ok.mod, by show cenv.scope.kind = _; rw [hsc]; exact ok.kind, by show cenv.globals = _; rw [← hcenv]; exact I.ok.glob, by show cenv.builtins = _; rw [← hcenv]; exact I.ok.blt, by show s.heap.objs.size ≤ cenv.locals; rw [hL]; exact Nat.le_refl _,
      fun y z c e1 e2 => ?_, fun y hy => ?_, fun y c z e => ?_, I.ok.hd, I.ok.frames, .inl rfl, fun b hb => ⟨?_, fun y c e z => ?_⟩, I.bs, Nat.le_trans I.ok.bsz I.sz, fun b o e hb => ?_, fun b hb z => ?_, I.stack, I.stkFree⟩
    · have e1 : cenv.cells.lookup y = some c := e1
      have e2 : cenv.cells.lookup z = some c := e2
      rw [hcl] at e1 e2
      refine cells_inj (fun p hp => ?_) (fun y z c a b => I.ok.inj y z c (cm a).1 (cm b).1) (PySem.mem_of_lookup e1) (PySem.mem_of_lookup e2)
      rw [Heap.size_push]
      exact Nat.lt_succ_of_lt (cm (y := p.1) (c := p.2) hp).2
    · show ∃ c, cenv.cells.lookup y = some c
      have key : ∀ k, cenv.kindOf y = some k → (k = .cell ∨ k = .free) → ∃ c, cenv.cells.lookup y = some c := fun k hk hk' => by
        unfold Env.kindOf at hk
        rw [hsc] at hk
        obtain ⟨k', e, r⟩ := lookup_relS hk
        have : k' = .cell ∨ k' = .free := by
          rcases r with rfl | ⟨rfl, _⟩
          · exact hk'
          · exact .inr rfl
        rcases this with rfl | rfl
        · obtain ⟨c, hm⟩ := cells_has (n := (s.heap.push { cls := .type "dict", data := .dict #[] }).objs.size) (acc := cloFrom X.env.cells scope.names []) (PySem.mem_of_lookup e)
          obtain ⟨c', e'⟩ := mem_lookup hm
          exact ⟨c', by rw [hcl]; exact e'⟩
        · obtain ⟨c, h1, _⟩ := look e
          exact ⟨c, h1⟩
      rcases hy with hy | hy
      · exact key _ hy (.inl rfl)
      · exact key _ hy (.inr rfl)
    · have z : (scope.names.lookup y == some NameKind.cell) = true := z
      have z : scope.names.lookup y = some .cell := by simpa using z
      have e : cenv.cells.lookup y = some c := e
      rw [hcl] at e
      rcases cells_mem (PySem.mem_of_lookup e) with hm | ⟨_, h2, _⟩
      · rcases cloFrom_mem hm with hm | ⟨h1, _⟩
        · cases hm
        · have q := ok.uniq _ h1
          rw [z] at q; cases q
      · rw [Heap.size_push] at h2
        exact Nat.le_of_succ_le h2
    · show b ≠ cenv.locals
      rw [hL]; exact Nat.ne_of_lt (hfp b hb).2
    · have e : cenv.cells.lookup y = some c := e
      rcases mem e with ⟨h1, _⟩ | ⟨h1, _⟩
      · exact (hfp b hb).1.2.2.2.2.1 y c h1 z
      · have h2 : s.heap.objs.size + 1 ≤ b := by rw [← z]; exact h1
        exact absurd (Nat.lt_of_lt_of_le (hfp b hb).2 (Nat.le_of_succ_le h2)) (Nat.lt_irrefl _)
    · rcases (hfp b hb).1.2.2.2.1 with z | z
      · exact I.ok.noex b o e z
      · exact absurd (Nat.lt_of_lt_of_le (Heap.lt_size e) (Nat.le_trans I.ok.bsz z)) (Nat.lt_irrefl _)
    · rcases List.mem_cons.mp (I.stkSub b z) with z | z
      · exact (hfp b hb).1.2.1 z
      · exact (hfp b hb).1.2.2.1 z
  refine ⟨okB, rfl, I.bare, Un.kept kp, ⟨fun _ => none, ?_, fun i y av e1 e2 e3 => ?_⟩, fun y c e => ?_, ?_, fun y c e => ?_, fun p hp => ?_, I.hok.kept kp, by rw [wipe_length]; exact I.len⟩
  · show Heap.Ns _ cenv.locals _
    rw [hL]
    exact Heap.Ns.keeps (Heap.Ns.new ..) fun b o e => pushCells_keeps _ _ _ _ e
  · obtain ⟨e2, hne⟩ := wipe_some e2
    have hfr : scope.names.lookup y = some .free ∧ (cenv.kindOf y = some .cell ∨ cenv.kindOf y = some .free) := by
      have key : ∀ k, cenv.scope.names.lookup y = some k → k = .local ∨ k = .cell ∨ k = .free → scope.names.lookup y = some .free ∧ (cenv.kindOf y = some .cell ∨ cenv.kindOf y = some .free) := fun k hk hk' => by
        have hk0 := hk
        rw [hsc] at hk
        obtain ⟨k', e, r⟩ := lookup_relS hk
        have no : ¬ (k' = .local ∨ k' = .cell) := fun hh => by
          rcases ok.own _ (PySem.mem_of_lookup e) hh with e' | e'
          · obtain ⟨p, hp, hpy⟩ := List.mem_map.mp e'
            have e3 := ok.ix p hp
            have : p.1 = y := hpy
            rw [this] at e3
            exact hne (List.mem_map.mpr ⟨p, hp, nodup_ix hN e3 e1⟩)
          · exact e' (List.mem_of_getElem? e1)
        rcases r with rfl | ⟨rfl, rfl⟩
        · rcases hk' with rfl | rfl | rfl
          · exact absurd (.inl rfl) no
          · exact absurd (.inr rfl) no
          · exact ⟨e, .inr hk0⟩
        · exact ⟨e, .inl hk0⟩
      have e3 : Vis cenv.scope y := e3
      rcases e3 with e3 | e3 | e3
      · exact key _ e3 (.inl rfl)
      · exact key _ e3 (.inr (.inl rfl))
      · exact key _ e3 (.inr (.inr rfl))
    obtain ⟨m, hn, hl⟩ := I.loc
    have hvis : Vis X.env.scope y := (ok.free _ (PySem.mem_of_lookup hfr.1) rfl).elim (fun k => .inr (.inl k)) (fun k => .inr (.inr k))
    obtain ⟨w, r, q⟩ := hl i y av e1 e2 hvis
    refine ⟨w, r, .inr ⟨hfr.2, ?_⟩⟩
    obtain ⟨c, h1, h2⟩ := look hfr.1
    rcases q with ⟨k, _⟩ | ⟨_, c', e', z⟩
    · have k : X.env.scope.names.lookup y = some .local := k
      rcases ok.free _ (PySem.mem_of_lookup hfr.1) rfl with k' | k' <;> rw [show X.env.scope.names.lookup y = _ from k'] at k <;> cases k
    · rw [h2] at e'; cases e'
      exact ⟨c, h1, z.keeps kp⟩
  · have e : cenv.cells.lookup y = some c := e
    rcases mem e with ⟨h1, _⟩ | ⟨_, z⟩
    · obtain ⟨w, z⟩ := I.cell y c h1
      exact ⟨w, z.keeps kp⟩
    · exact ⟨_, z⟩
  · show H cenv.locals = none
    rw [hL]; exact I.hok.fresh (Nat.le_refl _)
  · have e : cenv.cells.lookup y = some c := e
    rcases mem e with ⟨h1, _⟩ | ⟨h1, _⟩
    · exact I.freeC y c h1
    · exact I.hok.fresh (Nat.le_of_succ_le h1)
  · exact absurd (show p ∈ ([] : List (Addr × Obj)) ++ [] from hp) (by simp)

/-- an item appended to a tracked list -/
theorem app_ok {E : Value → Shared → Prop} {D : Addr} {xs : List V} {y : V} {v : Value} {Q : Value → Shared → Prop} (I : Inv X pins σ H s) (hD : H D = some (.lst xs)) (hz : xs.length < sizeLine) (r : RelV y v)
    (h : ∀ s', Inv X pins σ (upd H D (.lst (xs ++ [y]))) s' → Q .none s') : wpAny (model X.prog X.w) X.A (call (.builtin "list.append") [.ref D, v]) Q E s := by
  obtain ⟨hz', its, n, ri, e⟩ := I.hok D _ hD
  have hl := ri.length
  refine append_at (hsz := by rw [List.size_toArray]; omega) e fun h' sb ho' => ?_
  refine h { s with heap := h' } (I.write (t' := s.toks) (by rw [hD]; trivial) (.inl rfl) (fun b u hb q => (sb.2 b hb).trans q) ⟨_, ho'⟩ ⟨by rw [List.length_append]; exact hz, its ++ [v], n + 1, ri.append (.cons r .nil), ?_⟩)
  rw [ho']
  simp

/-- a clause's tests -/
def PTs (X : Cx) (ifs : List Expr) (t : TT) : Prop :=
  ∀ (pins : List (Addr × Obj)) (s : Shared) (σ : St) (H : Hp) (Q : Bool → Hp → Prop), Inv X pins σ H s → t σ H Q →
    wpAny (model X.prog X.w) X.A (forIn ifs true fun c r => if r = true then do let ok ← isTrue c X.env (eval c X.env); pure (ForInStep.yield ok) else pure (ForInStep.yield r)) (TP X pins σ Q) X.xe s
def tYes : TT := fun _ H Q => Q true H
theorem pts_nil : PTs X [] tYes := fun _ _ _ H _ I h => wpAny_tests_nil ⟨H, I, h⟩
end

theorem thnF {α : Type} {t : Sem α} {Q Q' : α → Shared → Prop} {M : Model} {A : Around} {E : Value → Shared → Prop} {s : Shared} (h : wpAny M A t Q (fun _ _ => False) s) (hQ : ∀ a s, Q a s → Q' a s) : wpAny M A t Q' E s := wpAny_mono h hQ fun _ _ z => False.elim z

/-- the loop of a list comprehension's block, the target of any form (codeAny_compLoop_tests asks a target that no tuple goes to; statement and proof follow it, PyProof/CompMap.lean:41-61, with the step letOwnedTupleGo kept) -/
theorem compLoop_any {prog : Program} {w : World} {A : Around} {R : Result → Shared → Prop} {s : Shared} {elt target iter : Expr} {ifs : List Expr} {scope : Scope} {pos : Pos} {it acc : Value} {env : Env} (I : Nat → Shared → Prop)
    (turn : ∀ n s, I n s → wpAny (model prog w) A (pyNext it) (fun r s₁ => match r with
      | none => R (.ok .next) s₁
      | some v => wpAny (model prog w) A (letOwnedTupleGo target it v) (fun _ s₁' => wpAny (model prog w) A (assign target env v) (fun _ s₂ =>
          wpAny (model prog w) A (forIn ifs true fun c r => if r = true then do let ok ← isTrue c env (eval c env); pure (ForInStep.yield ok) else pure (ForInStep.yield r)) (fun ok s₃ =>
            if ok = true then wpAny (model prog w) A (eval elt env) (fun x s₄ =>
              wpAny (model prog w) A (call (.builtin "list.append") [acc, x]) (fun _ s₅ => ∃ m, m < n ∧ I m s₅) (notedBy (model prog w) A env fun e s' => R (.error e) s') s₄) (notedBy (model prog w) A env fun e s' => R (.error e) s') s₃
            else ∃ m, m < n ∧ I m s₃) (notedBy (model prog w) A env fun e s' => R (.error e) s') s₂) (notedBy (model prog w) A env fun e s' => R (.error e) s') s₁') (notedBy (model prog w) A env fun e s' => R (.error e) s') s₁) (notedBy (model prog w) A env fun e s' => R (.error e) s') s)
    (n : Nat) (h : I n s) :
    codeAny (model prog w) A (.compLoop (.ListComp elt [⟨target, iter, ifs, 0⟩] scope pos) 0 it acc env) R s := by
  refine codeAny_loop rfl I (fun n s hI => ?_) n h
  show wpAny _ A ((compTurn (.ListComp elt [⟨target, iter, ifs, 0⟩] scope pos) 0 it acc env).onRaise (fun x => do noteFrame x env; theTreesLotGoes x)) _ _ s
  refine wpAny_noted ?_
  rw [compTurn_list]
  refine wpAny_bind (wpAny_standAt (wpAny_bind (wpAny_mono (turn n s hI) (fun r s₁ h₁ => ?_) fun _ _ h' => h')))
  cases r with
  | none => exact wpAny_pure h₁
  | some v =>
    refine wpAny_bind (wpAny_mono h₁ (fun _ s₁' h₁' => ?_) fun _ _ h' => h')
    refine wpAny_bind (wpAny_mono h₁' (fun _ s₂ h₂ => wpAny_bind (wpAny_mono h₂ (fun ok s₃ h₃ => ?_) fun _ _ h' => h')) fun _ _ h' => h')
    cases ok with
    | false => exact wpAny_pure ⟨rfl, h₃⟩
    | true =>
      exact wpAny_bind (wpAny_bind (wpAny_mono h₃ (fun x s₄ h₄ => wpAny_bind (wpAny_mono h₄ (fun _ s₅ h₅ => wpAny_pure (wpAny_pure ⟨rfl, h₅⟩)) fun _ _ h' => h')) fun _ _ h' => h'))

section
variable {X : Cx}
/-- [elt for target in iter if ..]: D the new list; W by the turn and a measure, Nx what a turn is to reach -/
def tLc (wi : TI) (g : TG) (tt : TT) (te : TE) (vs : List Nat) : TE := fun σ H Q => wi σ H fun J H1 => ∀ D, H1 D = none → ∃ W : Nat → Nat → Hp → Prop, (∃ m, W 0 m (upd H1 D (.lst []))) ∧ ∀ i m H, W i m H →
  (J.stop i H ∧ Q (.ref D) H) ∨ (J.go i H ∧ ∃ Nx : Hp → Prop, (∀ H', Nx H' → ∃ m', m' < m ∧ W (i + 1) m' H') ∧ ∀ x H', J.yld i H x H' → g x (wipe σ vs) H' fun σ2 H2 => wipe σ2 vs = wipe σ vs ∧ tt σ2 H2 fun b H3 =>
    if b = true then te σ2 H3 fun y H4 => ∃ acc, H4 D = some (.lst acc) ∧ acc.length < sizeLine ∧ Nx (upd H4 D (.lst (acc ++ [y]))) else Nx H3)
theorem lc_core {pins : List (Addr × Obj)} {s : Shared} {σ : St} {H : Hp} {Q : VK} {elt tg iter : Expr} {ifs : List Expr} {scope : Scope} {own : List (Str × Nat)} {pos pos' : Pos} {wi : TI} {g : TG} {tt : TT} {te : TE} {use : Option (Value → Sem Unit)} {Qf : Value → Shared → Prop}
    (hc : X.calm = true) (hN : X.N.Nodup) (I : Inv X pins σ H s) (hi : PI X tg iter wi) (ok : BlkOk X.N X.env.scope scope own)
    (hg : ∀ (s : Shared) (H : Hp) (C : Addr) (cl : List (Str × Addr)) (fp : List Addr), PG (X.blk s H scope (compEnvC scope cl C X.env) fp) tg g) (ht : ∀ (s : Shared) (H : Hp) (C : Addr) (cl : List (Str × Addr)) (fp : List Addr), PTs (X.blk s H scope (compEnvC scope cl C X.env) fp) ifs tt)
    (he : ∀ (s : Shared) (H : Hp) (C : Addr) (cl : List (Str × Addr)) (fp : List Addr), PE (X.blk s H scope (compEnvC scope cl C X.env) fp) elt te) (hs : ∀ x, foldedSetIterable iter X.env x = pure x)
    (h : tLc wi g tt te (own.map (·.2)) σ H Q)
    (hRR : ∀ D C s' m H', Inv X pins σ H' s' → Q (.ref D) H' → s'.heap.Ns C m → FpOk X pins H' C → compPost (model X.prog X.w) X.A X.xe use Qf (.ref D) C (.ok .next) s') :
    wpAny (model X.prog X.w) X.A (comprehension (.ListComp elt [⟨tg, iter, ifs, 0⟩] scope pos) scope X.env pos' (newList []) false (eval iter X.env) use) Qf X.xe s := by
  have hfree : ∀ y ∈ scope.names, y.2 = .free → ∃ c, X.env.cells.lookup y.1 = some c := fun y hy e => by
    rcases ok.free y hy e with k | k
    · exact I.ok.has _ (.inl k)
    · exact I.ok.has _ (.inr k)
  refine wpAny_comprehension_free (use := use) rfl hs (closure_ok hfree) ok.kind (fun y hy e => by rw [ok.uniq y hy, e])
    (thn (hi pins s σ H _ I h) fun xv s1 hx => thn hx fun itv s2 h2 => ?_)
  obtain ⟨it, fp, tn, J, H2, e, I2, T, st2, f2, q⟩ := h2
  subst e
  refine wpAny_newObj_type (newEnv_comp ?_) (by show 0 ≤ sizeLine; decide)
  generalize hD : s2.heap.objs.size = D
  have hDn : H2 D = none := I2.hok.fresh (Nat.le_of_eq hD)
  obtain ⟨W, ⟨m0, w0⟩, turn⟩ := q D hDn
  -- the new list
  generalize hs3 : ({ s2 with heap := s2.heap.push { cls := .type "list", data := .seq ([] : List Value).toArray } } : Shared) = s3
  have I3 : Inv X pins σ (upd H2 D (.lst [])) s3 := by
    rw [← hs3]
    refine I2.laid (t' := s2.toks) (fun b o e => Heap.get?_push_of_some _ e) (Nat.le_of_eq hD) ⟨Nat.zero_le _, [], 0, .nil, ?_⟩
    rw [← hD]
    exact Heap.get?_push_size _ rfl
  have h3 : s3.heap = s2.heap.push { cls := .type "list", data := .seq ([] : List Value).toArray } := by rw [← hs3]
  have sz : ∀ b ∈ fp, b < s2.heap.objs.size := fun b hb => by
    obtain ⟨o, e, _⟩ := T.obj _ _ st2 b hb
    exact Heap.lt_size e
  have f3 : ∀ b ∈ fp, FpOk X pins (upd H2 D (.lst [])) b ∧ b < s3.heap.objs.size := fun b hb => by
    have hlt := sz b hb
    refine ⟨⟨?_, (f2 b hb).2⟩, by rw [h3, Heap.size_push]; exact Nat.lt_succ_of_lt hlt⟩
    rw [upd_ne (by rw [← hD]; exact Nat.ne_of_lt hlt)]
    exact (f2 b hb).1
  have st3 : tn 0 s3.heap := T.keep _ _ _ st2 fun b _ o e => by rw [h3]; exact Heap.get?_push_of_some _ e
  have I4 := block_start I3 ok hN f3
  have pg := hg s3 (upd H2 D (.lst [])) s3.heap.objs.size (cellsFrom (s3.heap.objs.size + 1) scope.names (cloFrom X.env.cells scope.names [])) fp
  have pt := ht s3 (upd H2 D (.lst [])) s3.heap.objs.size (cellsFrom (s3.heap.objs.size + 1) scope.names (cloFrom X.env.cells scope.names [])) fp
  have pe := he s3 (upd H2 D (.lst [])) s3.heap.objs.size (cellsFrom (s3.heap.objs.size + 1) scope.names (cloFrom X.env.cells scope.names [])) fp
  show codeAny _ _ (.compStart (.ListComp elt [⟨tg, iter, ifs, 0⟩] scope pos) 0 (.ref it) (.ref D) (compEnvC scope (cellsFrom (s3.heap.objs.size + 1) scope.names (cloFrom X.env.cells scope.names [])) s3.heap.objs.size X.env)) (compPost (model X.prog X.w) X.A X.xe use Qf (.ref D) s3.heap.objs.size) { s3 with heap := pushCells (s3.heap.push { cls := .type "dict", data := .dict #[] }) scope.names }
  have nfp : ∀ b ∈ fp, (upd H2 D (.lst [])) b = none := fun b hb => (f3 b hb).1.1
  generalize hce : compEnvC scope (cellsFrom (s3.heap.objs.size + 1) scope.names (cloFrom X.env.cells scope.names [])) s3.heap.objs.size X.env = ce at I4 pg pt pe ⊢
  have cL : ce.locals = s3.heap.objs.size := by subst hce; rfl
  generalize hH3 : upd H2 D (.lst []) = H3 at I3 I4 pg pt pe w0 nfp f3
  generalize hs4 : ({ s3 with heap := pushCells (s3.heap.push { cls := .type "dict", data := .dict #[] }) scope.names } : Shared) = s4 at I4 ⊢
  have st4 : tn 0 s4.heap := T.keep _ _ _ st3 fun b _ o e => by rw [← hs4]; exact pushCells_keeps _ _ _ _ (Heap.get?_push_of_some _ e)
  have stat : ∀ {σ' : St} {H' : Hp} {s' : Shared}, Inv (X.blk s3 H3 scope ce fp) [] σ' H' s' → (∀ b ∈ fp, H' b = none) → ∀ b ∈ fp, FpOk (X.blk s3 H3 scope ce fp) [] H' b := fun {σ' H' s'} I' hn b hb =>
    ⟨hn b hb, (I'.ok.exf b hb).1, I'.ok.exfs b hb, .inl hb, fun x c e => (I'.ok.exf b hb).2 x c e, fun p hp => absurd (show p ∈ ([] : List (Addr × Obj)) ++ [] from hp) (by simp)⟩
  have loop : codeAny (model X.prog X.w) X.A (.compLoop (.ListComp elt [⟨tg, iter, ifs, 0⟩] scope pos) 0 (.ref it) (.ref D) ce) (compPost (model X.prog X.w) X.A X.xe use Qf (.ref D) s3.heap.objs.size) s4 := by
    refine compLoop_any (fun n s' => ∃ i H', Inv (X.blk s3 H3 scope ce fp) [] (wipe σ (own.map (·.2))) H' s' ∧ tn i s'.heap ∧ (∀ b ∈ fp, H' b = none) ∧ W i n H') ?_ m0 ⟨0, H3, I4, st4, nfp, w0⟩
    rintro n s5 ⟨i, H5, I5, st5, n5, w5⟩
    rcases turn i n H5 w5 with ⟨stop, qq⟩ | ⟨go, Nx, hNx, step⟩
    · have td := T.done (X.blk s3 H3 scope ce fp) rfl rfl rfl hc i [] s5 _ H5 (fun _ _ => False) I5 (stat I5 n5) st5 stop
      refine thnF td fun r s6 ⟨hr, I6⟩ => ?_
      subst hr
      -- back in the def's context
      have I7 : Inv X pins σ H5 s6 := I3.call' (ch := fp) I6.os I6.base I6.hok I6.bare fun b hb => ⟨(f3 b hb).1.2.2.2.1, (f3 b hb).1.2.1, (f3 b hb).1.2.2.2.2.1, (f3 b hb).1.2.2.2.2.2⟩
      have nC : H5 s3.heap.objs.size = none := by
        have z : H5 ce.locals = none := I6.free
        rw [cL] at z
        exact z
      obtain ⟨m, hn, _⟩ := I6.loc
      have hn : s6.heap.Ns ce.locals m := hn
      rw [cL] at hn
      exact hRR D s3.heap.objs.size s6 m H5 I7 qq hn (I3.fpOk (Nat.le_refl _) nC)
    · have ti := T.item (X.blk s3 H3 scope ce fp) rfl rfl rfl hc i [] s5 _ H5 (fun _ _ => False) I5 (stat I5 n5) st5 go
      refine thnF ti fun r s6 ⟨u, hr, h6⟩ => ?_
      subst hr
      refine thnF h6 fun _ s7 ⟨x, H7, I7, r7, y7, st7, n7⟩ => ?_
      have I7' := I7.pinned (stat I7 n7) (T.obj _ _ st7)
      refine thnF (pg _ s7 _ H7 x u _ I7' r7 (step x H7 y7)) fun _ s8 ⟨σ8, H8, I8, hw8, q8⟩ => ?_
      refine thnF (pt _ s8 σ8 H8 _ I8 q8) fun b s9 ⟨H9, I9, q9⟩ => ?_
      -- the turn's end
      have fin : ∀ {s' : Shared} {H' : Hp}, Inv (X.blk s3 H3 scope ce fp) ([] ++ pinsAt fp s7.heap) σ8 H' s' → Nx H' → ∃ m, m < n ∧ ∃ i H', Inv (X.blk s3 H3 scope ce fp) [] (wipe σ (own.map (·.2))) H' s' ∧ tn i s'.heap ∧ (∀ b ∈ fp, H' b = none) ∧ W i m H' := fun {s' H'} I' nx => by
        obtain ⟨m', hm, w'⟩ := hNx H' nx
        have pin' : ∀ b ∈ fp, ∀ o, s7.heap.get? b = some o → s'.heap.get? b = some o ∧ H' b = none := fun b hb o e =>
          let z := I'.pin (b, o) (List.mem_append_right _ (List.mem_append_right _ (mem_pinsAt hb e)))
          ⟨z.1, z.2.1⟩
        have hl : (wipe σ (own.map (·.2))).length = σ8.length := by rw [← hw8, wipe_length]
        refine ⟨m', hm, i + 1, H', (I'.unpinned (pins := [])).weak hl (fun j v e => ?_), T.keep _ _ _ st7 fun b hb o e => (pin' b hb o e).1, fun b hb => ?_, w'⟩
        · rw [← hw8] at e
          exact (wipe_some e).1
        · obtain ⟨o, e, _⟩ := T.obj _ _ st7 b hb
          exact (pin' b hb o e).2
      cases b with
      | false =>
        simp only [Bool.false_eq_true, if_false] at q9 ⊢
        exact fin I9 q9
      | true =>
        simp only [if_true] at q9 ⊢
        refine thnF (pe _ s9 σ8 H9 _ I9 q9) fun z s10 ⟨yv, H10, I10, r10, acc, hD10, hz10, nx⟩ => ?_
        exact app_ok (X := X.blk s3 H3 scope ce fp) I10 hD10 hz10 r10 fun s11 I11 => fin I11 nx
  exact codeAny_compStart_list loop (T.self X.A 0 _ _ _ st4 loop)
/-- as a value -/
theorem pe_lc {elt tg iter : Expr} {ifs : List Expr} {scope : Scope} {own : List (Str × Nat)} {pos : Pos} {wi : TI} {g : TG} {tt : TT} {te : TE} (hc : X.calm = true) (hN : X.N.Nodup) (hi : PI X tg iter wi) (ok : BlkOk X.N X.env.scope scope own)
    (hg : ∀ (s : Shared) (H : Hp) (C : Addr) (cl : List (Str × Addr)) (fp : List Addr), PG (X.blk s H scope (compEnvC scope cl C X.env) fp) tg g) (ht : ∀ (s : Shared) (H : Hp) (C : Addr) (cl : List (Str × Addr)) (fp : List Addr), PTs (X.blk s H scope (compEnvC scope cl C X.env) fp) ifs tt)
    (he : ∀ (s : Shared) (H : Hp) (C : Addr) (cl : List (Str × Addr)) (fp : List Addr), PE (X.blk s H scope (compEnvC scope cl C X.env) fp) elt te) (hs : ∀ x, foldedSetIterable iter X.env x = pure x := by intro _; rfl) :
    PE X (.ListComp elt [⟨tg, iter, ifs, 0⟩] scope pos) (tLc wi g tt te (own.map (·.2))) := by
  intro pins s σ H Q I h
  rw [eval_ListComp]
  refine lc_core hc hN I hi ok hg ht he hs h fun D C s' m H' I' q hn f => ⟨m, hn, fun h'' sb => ?_⟩
  obtain ⟨f0, f1, f2, f3, f4, f5⟩ := f
  exact ⟨.ref D, H', I'.turned (t' := s'.toks) (fun b o hb e => (sb.2 b hb).trans e) f0 f1 f3 f4 f5, rfl, q⟩
/-- name = [..] on one line, the name a local -/
theorem ps_setLc {i : Nat} {y : Str} {py : Pos} {elt tg iter : Expr} {ifs : List Expr} {scope : Scope} {own : List (Str × Nat)} {pos spos : Pos} {wi : TI} {g : TG} {tt : TT} {te : TE} (hc : X.calm = true) (hN : X.N.Nodup) (hy : X.N[i]? = some y) (hyl : X.env.scope.names.lookup y = some .local)
    (hsw : swapsWith (.ListComp elt [⟨tg, iter, ifs, 0⟩] scope pos) (some (.Name y py)) spos.line X.env = pure true) (hi : PI X tg iter wi) (ok : BlkOk X.N X.env.scope scope own)
    (hg : ∀ (s : Shared) (H : Hp) (C : Addr) (cl : List (Str × Addr)) (fp : List Addr), PG (X.blk s H scope (compEnvC scope cl C X.env) fp) tg g) (ht : ∀ (s : Shared) (H : Hp) (C : Addr) (cl : List (Str × Addr)) (fp : List Addr), PTs (X.blk s H scope (compEnvC scope cl C X.env) fp) ifs tt)
    (he : ∀ (s : Shared) (H : Hp) (C : Addr) (cl : List (Str × Addr)) (fp : List Addr), PE (X.blk s H scope (compEnvC scope cl C X.env) fp) elt te) (hs : ∀ x, foldedSetIterable iter X.env x = pure x := by intro _; rfl) :
    PS X (.Assign [.Name y py] (.ListComp elt [⟨tg, iter, ifs, 0⟩] scope pos) spos) (tAsg (tLc wi g tt te (own.map (·.2))) (gName i)) := by
  intro pins s σ H D I h
  rw [exec_Assign_Name_used _ _ _ _ hsw]
  refine wpAny_bind (wpAny_standAt (wpAny_bind ?_))
  show wpAny _ X.A (do let _ ← comprehension (.ListComp elt [⟨tg, iter, ifs, 0⟩] scope pos) scope X.env (firstIterPos [⟨tg, iter, ifs, 0⟩] pos) (newList []) false (eval iter X.env) (some (assign (.Name y py) X.env))) _ _ s
  have h : tLc wi g tt te (own.map (·.2)) σ H (fun x H1 => gName i x σ H1 D.nx) := h
  refine wpAny_bind (thn (lc_core (Qf := fun _ s' => SP X pins D .next s') hc hN I hi ok hg ht he hs h fun L C s' m H' I' q hn f => ?_) fun _ s' hq => wpAny_pure (wpAny_pure hq))
  show wpAny _ _ (assign (.Name y py) X.env (.ref L)) _ _ _
  refine wpAny_assign_Name (store_ok2 (v := V.ref L) I' hN hy (.inl hyl) rfl (fun s2 I2 ⟨a, sb, ha⟩ => ?_) (.inr hyl))
  obtain ⟨f0, f1, f2, f3, f4, f5⟩ := f
  have haC : C ≠ a := by
    rcases ha with z | z
    · rw [z]; exact f1
    · exact fun e => f4 y a z e.symm
  refine ⟨m, hn.sameBut sb haC, fun h3 sb3 => ?_⟩
  exact ⟨_, H', I2.turned (t' := s2.toks) (fun b o hb e => (sb3.2 b hb).trans e) f0 f1 f3 f4 f5, q⟩
theorem sw_true {elt : Expr} {gs : List Comprehension} {scope : Scope} {pos py : Pos} {y : Str} {l : Nat} {env : Env} (hk : env.scope.kind = .function) (hy : env.scope.names.lookup y = some .local) (hl : (py.line == pos.line) = true)
    (ha : (scope.names.any fun (n, k) => n == y && (k == .local || k == .cell)) = false) : swapsWith (.ListComp elt gs scope pos) (some (.Name y py)) l env = pure true := by
  have ky : env.kindOf y = some .local := hy
  have hb : env.blockKind = .function := by unfold Env.blockKind; rw [hk]; rfl
  unfold swapsWith
  simp only [hb, ky, ha, Expr.pos, hl]
  rfl
end

/-! ### the forms one uses -/
/-- over a range: Pv by the turn and the heap (the new list at D within) -/
theorem lc_range {lo : Int} {n : Nat} {g : TG} {tt : TT} {te : TE} {vs : List Nat} {σ : St} {H1 : Hp} {D : Addr} {Qd : Hp → Prop} (Pv : Nat → Hp → Prop) (h0 : Pv 0 (upd H1 D (.lst [])))
    (hs : ∀ i H, i < n → Pv i H → g (.int (lo + i)) (wipe σ vs) H fun σ2 H2 => wipe σ2 vs = wipe σ vs ∧ tt σ2 H2 fun b H3 =>
      if b = true then te σ2 H3 fun y H4 => ∃ acc, H4 D = some (.lst acc) ∧ acc.length < sizeLine ∧ Pv (i + 1) (upd H4 D (.lst (acc ++ [y]))) else Pv (i + 1) H3) (hd : ∀ H, Pv n H → Qd H) :
    ∃ W : Nat → Nat → Hp → Prop, (∃ m, W 0 m (upd H1 D (.lst []))) ∧ ∀ i m H, W i m H →
      ((Itr lo n).stop i H ∧ Qd H) ∨ ((Itr lo n).go i H ∧ ∃ Nx : Hp → Prop, (∀ H', Nx H' → ∃ m', m' < m ∧ W (i + 1) m' H') ∧ ∀ x H', (Itr lo n).yld i H x H' → g x (wipe σ vs) H' fun σ2 H2 => wipe σ2 vs = wipe σ vs ∧ tt σ2 H2 fun b H3 =>
        if b = true then te σ2 H3 fun y H4 => ∃ acc, H4 D = some (.lst acc) ∧ acc.length < sizeLine ∧ Nx (upd H4 D (.lst (acc ++ [y]))) else Nx H3) := by
  refine ⟨fun i m H => m = n - i ∧ i ≤ n ∧ Pv i H, ⟨n, by simp, Nat.zero_le _, h0⟩, ?_⟩
  rintro i m H ⟨rfl, hi, p⟩
  by_cases hlt : i < n
  · refine .inr ⟨hlt, Pv (i + 1), fun H' p' => ⟨n - (i + 1), by omega, rfl, hlt, p'⟩, fun x H' y => ?_⟩
    obtain ⟨e, y⟩ := y
    subst e y
    exact hs i _ hlt p
  · have e : i = n := by omega
    subst e
    exact .inl ⟨Nat.le_refl _, hd H p⟩
/-- over a list that the block leaves as it is -/
theorem lc_list {K : PySem.W.Frag} {a : Addr} {xs : List V} {g : TG} {tt : TT} {te : TE} {vs : List Nat} {σ : St} {H1 : Hp} {D : Addr} {Qd : Hp → Prop} (Pv : Nat → Hp → Prop) (h0 : Pv 0 (upd H1 D (.lst []))) (hl : ∀ i H, i ≤ xs.length → Pv i H → SqL K H a xs)
    (hs : ∀ i x H, xs[i]? = some x → Pv i H → g x (wipe σ vs) H fun σ2 H2 => wipe σ2 vs = wipe σ vs ∧ tt σ2 H2 fun b H3 =>
      if b = true then te σ2 H3 fun y H4 => ∃ acc, H4 D = some (.lst acc) ∧ acc.length < sizeLine ∧ Pv (i + 1) (upd H4 D (.lst (acc ++ [y]))) else Pv (i + 1) H3) (hd : ∀ H, Pv xs.length H → Qd H) :
    ∃ W : Nat → Nat → Hp → Prop, (∃ m, W 0 m (upd H1 D (.lst []))) ∧ ∀ i m H, W i m H →
      ((Itl K a).stop i H ∧ Qd H) ∨ ((Itl K a).go i H ∧ ∃ Nx : Hp → Prop, (∀ H', Nx H' → ∃ m', m' < m ∧ W (i + 1) m' H') ∧ ∀ x H', (Itl K a).yld i H x H' → g x (wipe σ vs) H' fun σ2 H2 => wipe σ2 vs = wipe σ vs ∧ tt σ2 H2 fun b H3 =>
        if b = true then te σ2 H3 fun y H4 => ∃ acc, H4 D = some (.lst acc) ∧ acc.length < sizeLine ∧ Nx (upd H4 D (.lst (acc ++ [y]))) else Nx H3) := by
  refine ⟨fun i m H => m = xs.length - i ∧ i ≤ xs.length ∧ Pv i H, ⟨xs.length, by simp, Nat.zero_le _, h0⟩, ?_⟩
  rintro i m H ⟨rfl, hi, p⟩
  have q := hl i H hi p
  by_cases hlt : i < xs.length
  · refine .inr ⟨⟨xs, xs[i], q, by simp [hlt]⟩, Pv (i + 1), fun H' p' => ⟨xs.length - (i + 1), by omega, rfl, hlt, p'⟩, fun x H' y => ?_⟩
    obtain ⟨e, y⟩ := y
    subst e
    exact hs i x _ (y xs q) p
  · have e : i = xs.length := by omega
    subst e
    exact .inl ⟨⟨xs, q, Nat.le_refl _⟩, hd H p⟩
/-- over a tuple -/
theorem lc_tup {K : PySem.W.Frag} {a : Addr} {xs : List V} {g : TG} {tt : TT} {te : TE} {vs : List Nat} {σ : St} {H1 : Hp} {D : Addr} {Qd : Hp → Prop} (Pv : Nat → Hp → Prop) (h0 : Pv 0 (upd H1 D (.lst []))) (hl : ∀ i H, i ≤ xs.length → Pv i H → SqT K H a xs)
    (hs : ∀ i x H, xs[i]? = some x → Pv i H → g x (wipe σ vs) H fun σ2 H2 => wipe σ2 vs = wipe σ vs ∧ tt σ2 H2 fun b H3 =>
      if b = true then te σ2 H3 fun y H4 => ∃ acc, H4 D = some (.lst acc) ∧ acc.length < sizeLine ∧ Pv (i + 1) (upd H4 D (.lst (acc ++ [y]))) else Pv (i + 1) H3) (hd : ∀ H, Pv xs.length H → Qd H) :
    ∃ W : Nat → Nat → Hp → Prop, (∃ m, W 0 m (upd H1 D (.lst []))) ∧ ∀ i m H, W i m H →
      ((Itt K a).stop i H ∧ Qd H) ∨ ((Itt K a).go i H ∧ ∃ Nx : Hp → Prop, (∀ H', Nx H' → ∃ m', m' < m ∧ W (i + 1) m' H') ∧ ∀ x H', (Itt K a).yld i H x H' → g x (wipe σ vs) H' fun σ2 H2 => wipe σ2 vs = wipe σ vs ∧ tt σ2 H2 fun b H3 =>
        if b = true then te σ2 H3 fun y H4 => ∃ acc, H4 D = some (.lst acc) ∧ acc.length < sizeLine ∧ Nx (upd H4 D (.lst (acc ++ [y]))) else Nx H3) := by
  refine ⟨fun i m H => m = xs.length - i ∧ i ≤ xs.length ∧ Pv i H, ⟨xs.length, by simp, Nat.zero_le _, h0⟩, ?_⟩
  rintro i m H ⟨rfl, hi, p⟩
  have q := hl i H hi p
  by_cases hlt : i < xs.length
  · refine .inr ⟨⟨xs, xs[i], q, by simp [hlt]⟩, Pv (i + 1), fun H' p' => ⟨xs.length - (i + 1), by omega, rfl, hlt, p'⟩, fun x H' y => ?_⟩
    obtain ⟨e, y⟩ := y
    subst e
    exact hs i x _ (y xs q) p
  · have e : i = xs.length := by omega
    subst e
    exact .inl ⟨⟨xs, q, Nat.le_refl _⟩, hd H p⟩
def blkC (N : List Str) (sc scope : Scope) (own : List (Str × Nat)) : Bool :=
  (match scope.kind with | .function => true | _ => false) && (scope.names.all fun y => decide (scope.names.lookup y.1 = some y.2)) && (own.all fun p => decide (N[p.2]? = some p.1)) &&
    (scope.names.all fun y => match y.2 with
      | .free => (match sc.names.lookup y.1 with | some .cell => true | some .free => true | _ => false)
      | .local => decide (y.1 ∈ own.map (·.1)) || decide (y.1 ∉ N)
      | .cell => decide (y.1 ∈ own.map (·.1)) || decide (y.1 ∉ N)
      | _ => true)
theorem blkOk_by {N : List Str} {sc scope : Scope} {own : List (Str × Nat)} (h : blkC N sc scope own = true) : BlkOk N sc scope own := by
  unfold blkC at h
  simp only [Bool.and_eq_true, List.all_eq_true, decide_eq_true_eq] at h
  obtain ⟨⟨⟨h1, h2⟩, h3⟩, h4⟩ := h
  refine ⟨?_, h2, h3, fun y hy e => ?_, fun y hy e => ?_⟩
  · split at h1
    · assumption
    · cases h1
  · have q := h4 y hy
    simp only [e] at q
    split at q <;> first | exact .inl (by assumption) | exact .inr (by assumption) | cases q
  · have q := h4 y hy
    rcases e with e | e <;> (simp only [e, Bool.or_eq_true, decide_eq_true_eq] at q; exact q)
end L2

namespace L2
open PySem PySem.Spec PyProof.Rows


section
variable {prog : Program} {w : World} {A : Around} {R : Result → Shared → Prop} {s : Shared} {elt t0 i0 t1 i1 : Expr} {ifs0 ifs1 : List Expr} {scope : Scope} {pos : Pos} {it acc : Value} {env : Env}
end

section
variable {X : Cx}
end
end L2

namespace L2
open PySem PySem.Spec PyProof.Rows

/-! ### lists of pairs as tables -/
section
variable {κ : Type} [DecidableEq κ]
def valV (kvs : List (κ × V)) (k : κ) : Option V := (kvs.find? fun kv => decide (kv.1 = k)).map (·.2)
/-- in its place, or at the end -/
def putK (kvs : List (κ × V)) (k : κ) (v : V) : List (κ × V) :=
  if (kvs.any fun kv => decide (kv.1 = k)) = true then kvs.map (fun kv => if kv.1 = k then (kv.1, v) else kv) else kvs ++ [(k, v)]

theorem valV_pos {p : κ × V} {r : List (κ × V)} {k : κ} (e : p.1 = k) : valV (p :: r) k = some p.2 := by simp [valV, List.find?_cons, e]
theorem valV_neg {p : κ × V} {r : List (κ × V)} {k : κ} (e : ¬ p.1 = k) : valV (p :: r) k = valV r k := by simp [valV, List.find?_cons, e]
theorem valV_any (k : κ) : ∀ kvs : List (κ × V), (kvs.any fun kv => decide (kv.1 = k)) = (valV kvs k).isSome
  | [] => rfl
  | p :: r => by
    rw [List.any_cons]
    by_cases e : p.1 = k
    · simp only [valV_pos e, decide_eq_true e, Bool.true_or, Option.isSome_some]
    · rw [valV_neg e, decide_eq_false e, Bool.false_or]; exact valV_any k r
theorem valV_map (k j : κ) (y : V) : ∀ kvs : List (κ × V), valV (kvs.map fun kv => if kv.1 = k then (kv.1, y) else kv) j = (valV kvs j).map fun x => if j = k then y else x
  | [] => rfl
  | p :: r => by
    have ih := valV_map k j y r
    rw [List.map_cons]
    by_cases h : p.1 = k
    · rw [if_pos h]
      by_cases e : p.1 = j
      · rw [valV_pos (p := (p.1, y)) e, valV_pos e, Option.map_some, if_pos (e.symm.trans h)]
      · rw [valV_neg (p := (p.1, y)) e, valV_neg e, ih]
    · rw [if_neg h]
      by_cases e : p.1 = j
      · rw [valV_pos (p := p) e, valV_pos e, Option.map_some, if_neg (fun z => h (e.trans z))]
      · rw [valV_neg (p := p) e, valV_neg e, ih]
theorem valV_snoc (k j : κ) (y : V) : ∀ kvs : List (κ × V), valV kvs k = none → valV (kvs ++ [(k, y)]) j = if j = k then some y else valV kvs j
  | [], _ => by
    by_cases e : k = j
    · rw [if_pos e.symm]; exact valV_pos (p := (k, y)) e
    · rw [if_neg (fun z => e z.symm)]; exact valV_neg (p := (k, y)) e
  | p :: r, hn => by
    rw [List.cons_append]
    have hk : ¬ p.1 = k := fun z => by rw [valV_pos z] at hn; cases hn
    rw [valV_neg hk] at hn
    have ih := valV_snoc k j y r hn
    by_cases e : p.1 = j
    · rw [valV_pos e, valV_pos e, if_neg (fun z => hk (e.trans z))]
    · rw [valV_neg e, valV_neg e, ih]
theorem valV_put (kvs : List (κ × V)) (k j : κ) (y : V) : valV (putK kvs k y) j = if j = k then some y else valV kvs j := by
  unfold putK
  by_cases a : (kvs.any fun kv => decide (kv.1 = k)) = true
  · rw [if_pos a, valV_map]
    rw [valV_any] at a
    by_cases e : j = k
    · obtain ⟨x, hx⟩ := Option.isSome_iff_exists.mp a
      rw [if_pos e, e, hx, Option.map_some, if_pos rfl]
    · rw [if_neg e]
      cases valV kvs j with
      | none => rfl
      | some x => rw [Option.map_some, if_neg e]
  · rw [if_neg a]
    refine valV_snoc k j y kvs ?_
    rw [valV_any] at a
    cases q : valV kvs k with
    | none => rfl
    | some x => rw [q] at a; exact (a rfl).elim
theorem length_putK (kvs : List (κ × V)) (k : κ) (v : V) : (putK kvs k v).length ≤ kvs.length + 1 := by
  unfold putK
  split
  · rw [List.length_map]; omega
  · rw [List.length_append, List.length_cons, List.length_nil]; omega

theorem RelO.isSome_eq {o : Option V} {u : Option Value} (r : RelO o u) : o.isSome = u.isSome := by
  cases o with
  | none => cases u with
    | none => rfl
    | some _ => exact (show False from r).elim
  | some _ => cases u with
    | none => exact (show False from r).elim
    | some _ => rfl

/-- raw tables of the same keys -/
theorem KV.val {kvs : List (κ × V)} {vs : List (κ × Value)} (r : KV kvs vs) (k : κ) : RelO (valV kvs k) (valueAt vs k) := by
  unfold KV at r
  induction r with
  | nil => exact True.intro
  | @cons p q ps qs h t ih =>
    obtain ⟨h1, h2⟩ := h
    by_cases e : p.1 = k
    · have e' : q.1 = k := h1.symm.trans e
      have b : valueAt (q :: qs) k = some q.2 := by simp [valueAt, List.find?_cons, e']
      rw [valV_pos e, b]; exact h2
    · have e' : ¬ q.1 = k := fun z => e (h1.trans z)
      have b : valueAt (q :: qs) k = valueAt qs k := by simp [valueAt, List.find?_cons, e']
      rw [valV_neg e, b]; exact ih
theorem KV.any {kvs : List (κ × V)} {vs : List (κ × Value)} (r : KV kvs vs) (k : κ) : (kvs.any fun kv => decide (kv.1 = k)) = vs.any fun kv => decide (kv.1 = k) := by
  unfold KV at r
  induction r with
  | nil => rfl
  | cons h t ih => rw [List.any_cons, List.any_cons, ih, h.1]
theorem KV.repl {kvs : List (κ × V)} {vs : List (κ × Value)} (r : KV kvs vs) (k : κ) {y : V} {u : Value} (ry : RelV y u) :
    KV (kvs.map fun kv => if kv.1 = k then (kv.1, y) else kv) (vs.map fun kv => if kv.1 = k then (kv.1, u) else kv) := by
  unfold KV at r ⊢
  induction r with
  | nil => exact .nil
  | @cons p q ps qs h t ih =>
    rw [List.map_cons, List.map_cons]
    refine .cons ?_ ih
    obtain ⟨h1, h2⟩ := h
    by_cases e : p.1 = k
    · rw [if_pos e, if_pos (h1.symm.trans e)]; exact ⟨h1, ry⟩
    · rw [if_neg e, if_neg (fun z => e (h1.trans z))]; exact ⟨h1, h2⟩
theorem KV.put {kvs : List (κ × V)} {vs : List (κ × Value)} (r : KV kvs vs) (k : κ) {y : V} {u : Value} (ry : RelV y u) : KV (putK kvs k y) (stored vs k u) := by
  unfold putK stored
  rw [r.any k]
  by_cases e : (vs.any fun kv => decide (kv.1 = k)) = true
  · rw [if_pos e, if_pos e]; exact r.repl k ry
  · rw [if_neg e, if_neg e]; exact Paired.snoc r ⟨rfl, ry⟩
theorem KV.length {kvs : List (κ × V)} {vs : List (κ × Value)} (r : KV kvs vs) : kvs.length = vs.length := Paired.length r
end


/-! ### a tracked dict, its keys ints and texts or tuples of these -/
theorem kV_is {P : Program} {w : World} {k : Key} {u : Value} (r : RelV (kV k) u) : (mixKind P w).is k u = true := by
  cases k with
  | inl i => obtain ⟨t, e⟩ := (show ∃ t, u = Value.int i t from r); subst e; exact mixKind_int P w i t
  | inr x => obtain ⟨t, e⟩ := (show ∃ t, u = Value.str x t from r); subst e; exact mixKind_str P w x t
theorem items_are {P : Program} {w : World} : ∀ {ks : List Key} {us : List Value}, Vals (ks.map kV) us → ItemsAre (mixKind P w) ks us
  | [], _, r => by rw [List.map_nil] at r; cases r; exact .nil
  | k :: ks, _, r => by
    rw [List.map_cons] at r
    cases r with
    | cons h t => exact .cons (kV_is h) (items_are t)

/-- raw entries of a dict with tuple keys -/
abbrev KT (H : Hp) : List (List Key × V) → List (List Key × Addr × Value) → Prop := Paired fun p q => p.1 = q.1 ∧ H q.2.1 = some (.tup (p.1.map kV)) ∧ RelV p.2 q.2.2
theorem KT.val {H : Hp} {kvs : List (List Key × V)} {xs : List (List Key × Addr × Value)} (r : KT H kvs xs) (k : List Key) : RelO (valV kvs k) ((atKey xs k).map (·.2)) := by
  induction r with
  | nil => exact True.intro
  | @cons p q ps qs h t ih =>
    obtain ⟨h1, _, h2⟩ := h
    by_cases e : p.1 = k
    · have e' : q.1 = k := h1.symm.trans e
      have b : atKey (q :: qs) k = some q.2 := by simp [atKey, List.find?_cons, e']
      rw [valV_pos e, b]; exact h2
    · have e' : ¬ q.1 = k := fun z => e (h1.trans z)
      have b : atKey (q :: qs) k = atKey qs k := by simp [atKey, List.find?_cons, e']
      rw [valV_neg e, b]; exact ih
theorem KT.repl {H : Hp} {kvs : List (List Key × V)} {xs : List (List Key × Addr × Value)} (r : KT H kvs xs) (k : List Key) {y : V} {u : Value} (ry : RelV y u) :
    KT H (kvs.map fun kv => if kv.1 = k then (kv.1, y) else kv) (xs.map (putAt k u)) := by
  induction r with
  | nil => exact .nil
  | @cons p q ps qs h t ih =>
    rw [List.map_cons, List.map_cons]
    refine .cons ?_ ih
    obtain ⟨h1, h2, h3⟩ := h
    unfold putAt
    by_cases e : p.1 = k
    · rw [if_pos e, if_pos (h1.symm.trans e)]; exact ⟨h1, h2, ry⟩
    · rw [if_neg e, if_neg (fun z => e (h1.trans z))]; exact ⟨h1, h2, h3⟩
theorem KT.put {H : Hp} {kvs : List (List Key × V)} {xs : List (List Key × Addr × Value)} (r : KT H kvs xs) (k : List Key) {b : Addr} {y : V} {u : Value} (hb : H b = some (.tup (k.map kV))) (ry : RelV y u) :
    KT H (putK kvs k y) (storedH xs k b u) := by
  have e : (kvs.any fun kv => decide (kv.1 = k)) = (atKey xs k).isSome := by
    rw [valV_any, (r.val k).isSome_eq, Option.isSome_map]
  unfold putK storedH
  rw [e]
  by_cases q : (atKey xs k).isSome = true
  · rw [if_pos q, if_pos q]; exact r.repl k ry
  · rw [if_neg q, if_neg q]; exact Paired.snoc r ⟨rfl, hb, ry⟩
theorem KT.keeps {H H' : Hp} {kvs : List (List Key × V)} {xs : List (List Key × Addr × Value)} (r : KT H kvs xs) (ht : ∀ b ys, H b = some (.tup ys) → H' b = some (.tup ys)) : KT H' kvs xs :=
  Paired.mapP r fun _ _ z => ⟨z.1, ht _ _ z.2.1, z.2.2⟩

section
variable {P : Program} {w : World} {H : Hp} {h : Heap} {a : Addr}
theorem rd_of {u : HO} (ok : HOk P w H h) (e : Rd H a u) : ObjOk P w H h a u := e.ok ok
theorem dk_rd {kvs : List (Key × V)} (ok : HOk P w H h) (e : Rd H a (.dK kvs)) : kvs.length ≤ sizeLine ∧ (a == sysModules) = false ∧ ∃ vs, KV kvs vs ∧ h.DictOf (mixKind P w) a vs :=
  show ObjOk P w H h a (.dK kvs) from rd_of ok e
theorem dk_of {kvs : List (Key × V)} (ok : HOk P w H h) (e : H a = some (.dK kvs)) : kvs.length ≤ sizeLine ∧ (a == sysModules) = false ∧ ∃ vs, KV kvs vs ∧ h.DictOf (mixKind P w) a vs := dk_rd ok (.inl e)
/-- a tracked tuple of ints and texts is a key -/
theorem key_of {ks : List Key} (ok : HOk P w H h) (e : H a = some (.tup (ks.map kV))) : (tupleKind (mixKind P w)).is h ks a := by
  obtain ⟨_, its, r, o, h1, h2, n, h3⟩ := (show ObjOk P w H h a (.tup (ks.map kV)) from ok a _ e)
  exact ⟨o, its.toArray, n, h1, h2, h3, by simpa using items_are r⟩
theorem dt_rd {kvs : List (List Key × V)} (ok : HOk P w H h) (e : Rd H a (.dT kvs)) : kvs.length ≤ sizeLine ∧ (a == sysModules) = false ∧
    ∃ xs, KT H kvs xs ∧ h.DictOfH (tupleKind (mixKind P w)) a xs := by
  obtain ⟨z, y, xs, r, o, es, ep, h1, h2, h3, h4, h5⟩ := (show ObjOk P w H h a (.dT kvs) from rd_of ok e)
  refine ⟨z, y, xs, r, o, es, ep, h1, h2, h3, h4, fun x hx => ?_, h5⟩
  have all : ∀ {l : List (List Key × V)} {m : List (List Key × Addr × Value)}, KT H l m → ∀ x ∈ m, (tupleKind (mixKind P w)).is h x.1 x.2.1 := by
    intro l m q
    induction q with
    | nil => intro x hx; exact nomatch hx
    | @cons p q ps qs hq t ih =>
      intro x hx
      rcases List.mem_cons.mp hx with e | hx
      · subst e
        exact key_of ok (by rw [← hq.1]; exact hq.2.1)
      · exact ih x hx
  exact all r x hx
theorem dt_of {kvs : List (List Key × V)} (ok : HOk P w H h) (e : H a = some (.dT kvs)) : kvs.length ≤ sizeLine ∧ (a == sysModules) = false ∧
    ∃ xs, KT H kvs xs ∧ h.DictOfH (tupleKind (mixKind P w)) a xs := dt_rd ok (.inl e)
end

/-- what the dict at a holds at the key y -/
def DGet (H : Hp) (a : Addr) (y : V) (r : Option V) : Prop :=
  (∃ kvs k, Rd H a (.dK kvs) ∧ y = kV k ∧ r = valV kvs k) ∨ ∃ kvs k b, Rd H a (.dT kvs) ∧ y = .ref b ∧ H b = some (.tup (k.map kV)) ∧ r = valV kvs k
/-- the heap behind a[y] = v -/
def DPut (H : Hp) (a : Addr) (y v : V) (H' : Hp) : Prop :=
  (∃ kvs k, H a = some (.dK kvs) ∧ y = kV k ∧ kvs.length < sizeLine ∧ H' = upd H a (.dK (putK kvs k v))) ∨
  ∃ kvs k b, H a = some (.dT kvs) ∧ y = .ref b ∧ H b = some (.tup (k.map kV)) ∧ kvs.length < sizeLine ∧ H' = upd H a (.dT (putK kvs k v))
theorem DGet.t {H : Hp} {a b : Addr} {kvs : List (List Key × V)} {k : List Key} (e : H a = some (.dT kvs)) (eb : H b = some (.tup (k.map kV))) : DGet H a (.ref b) (valV kvs k) := .inr ⟨kvs, k, b, .inl e, rfl, eb, rfl⟩
theorem DPut.t {H : Hp} {a b : Addr} {kvs : List (List Key × V)} {k : List Key} {v : V} (e : H a = some (.dT kvs)) (eb : H b = some (.tup (k.map kV))) (hl : kvs.length < sizeLine) :
    DPut H a (.ref b) v (upd H a (.dT (putK kvs k v))) := .inr ⟨kvs, k, b, e, rfl, eb, hl, rfl⟩


section
variable {X : Cx} {pins : List (Addr × Obj)} {σ : St} {H : Hp} {s : Shared} {a : Addr} {y v : V} {u r : Value} {o : Option V} {A : Around} {E : Value → Shared → Prop}

theorem Inv.big (I : Inv X pins σ H s) : sysModules < s.heap.objs.size := by
  have h : mainGlobals < s.heap.objs.size := (I.mod.glob.keeps I.bk).lt
  exact Nat.lt_trans (by decide) h

/-- y in d -/
theorem d_in {Q : Value → Shared → Prop} (hu : A.units + 1 < cLine) (I : Inv X pins σ H s) (g : DGet H a y o) (ry : RelV y u) (h : ∀ s', Inv X pins σ H s' → Q (.bool o.isSome) s') :
    wpAny (model X.prog X.w) A (compareOp .In u (.ref a)) Q E s := by
  rcases g with ⟨kvs, k, e, ey, l⟩ | ⟨kvs, k, b, e, ey, eb, l⟩
  · subst ey
    obtain ⟨z, hd, vs, rel, dd⟩ := dk_rd I.hok e
    refine wpAny_in_of (kV_is ry) hd dd.mapOf ?_
    rw [← (rel.val k).isSome_eq, ← l]
    exact h _ (I.tok _)
  · subst ey
    cases (show u = Value.ref b from ry)
    obtain ⟨z, hd, xs, rel, dd⟩ := dt_rd I.hok e
    refine wpAny_in_heap (tupleKind_room_in1 hu) (key_of I.hok eb) hd dd ?_
    have q := (rel.val k).isSome_eq
    rw [Option.isSome_map] at q
    rw [← q, ← l]
    exact h _ (I.tok _)
theorem d_notIn {Q : Value → Shared → Prop} (hu : A.units + 1 < cLine) (I : Inv X pins σ H s) (g : DGet H a y o) (ry : RelV y u) (h : ∀ s', Inv X pins σ H s' → Q (.bool (!o.isSome)) s') :
    wpAny (model X.prog X.w) A (compareOp .NotIn u (.ref a)) Q E s := by
  rcases g with ⟨kvs, k, e, ey, l⟩ | ⟨kvs, k, b, e, ey, eb, l⟩
  · subst ey
    obtain ⟨z, hd, vs, rel, dd⟩ := dk_rd I.hok e
    refine wpAny_notIn_of (kV_is ry) hd dd.mapOf ?_
    rw [← (rel.val k).isSome_eq, ← l]
    exact h _ (I.tok _)
  · subst ey
    cases (show u = Value.ref b from ry)
    obtain ⟨z, hd, xs, rel, dd⟩ := dt_rd I.hok e
    refine wpAny_notIn_heap (tupleKind_room_in1 hu) (key_of I.hok eb) hd dd ?_
    have q := (rel.val k).isSome_eq
    rw [Option.isSome_map] at q
    rw [← q, ← l]
    exact h _ (I.tok _)
/-- a dict's object is replaced -/
theorem d_write {h' : Heap} {t' : Nat} {ob : HO} (I : Inv X pins σ H s) (mu : Mut (H a)) (hs : Heap.SameBut a s.heap h') (he : ∃ q, h'.get? a = some q) (new : ObjOk X.prog X.w (upd H a ob) h' a ob) :
    Inv X pins σ (upd H a ob) { s with heap := h', toks := t' } :=
  I.write (x := a) (e := a) mu (.inl rfl) (fun b q hb z => (hs.2 b hb).trans z) he new
theorem dk_new {P : Program} {w : World} {H' : Hp} {h' : Heap} {kvs : List (Key × V)} {vs : List (Key × Value)} (z : kvs.length ≤ sizeLine) (hd : (a == sysModules) = false) (rel : KV kvs vs) (dd : h'.DictOf (mixKind P w) a vs) :
    ObjOk P w H' h' a (.dK kvs) := ⟨z, hd, vs, rel, dd⟩
/-- d[y] = v -/
theorem d_setItem {H' : Hp} {Q : Unit → Shared → Prop} (hu : A.units + 1 < cLine) (I : Inv X pins σ H s) (g : DPut H a y v H') (ry : RelV y u) (rv : RelV v r) (h : ∀ s', Inv X pins σ H' s' → Q () s') :
    wpAny (model X.prog X.w) A (setItem (.ref a) u r) Q E s := by
  rcases g with ⟨kvs, k, e, ey, l, eH⟩ | ⟨kvs, k, b, e, ey, eb, l, eH⟩
  · subst ey eH
    obtain ⟨z, hd, vs, rel, dd⟩ := dk_of I.hok e
    have hz : vs.length ≤ sizeLine := by rw [← rel.length]; exact z
    have hl : (putK kvs k v).length ≤ sizeLine := by have := length_putK kvs k v; omega
    refine wpAny_setItem_pairs (hsz := hz) (kV_is ry) dd fun h' dd' hs => h _ ?_
    have he : ∃ q, h'.get? a = some q := let ⟨q, _, _, hq, _⟩ := dd'; ⟨q, hq⟩
    exact d_write I (by rw [e]; exact True.intro) hs he (dk_new hl hd (rel.put k rv) dd')
  · subst ey eH
    cases (show u = Value.ref b from ry)
    obtain ⟨z, hd, xs, rel, dd⟩ := dt_of I.hok e
    have hz : xs.length ≤ sizeLine := by rw [← Paired.length rel]; exact z
    have hl : (putK kvs k v).length ≤ sizeLine := by have := length_putK kvs k v; omega
    refine wpAny_setItem_heap (hsz := hz) (tupleKind_room_in1 hu) (key_of I.hok eb) dd fun h' dd' hs => h _ ?_
    obtain ⟨q, es, ep, hq, h2, h3, h4, _, h5⟩ := dd'
    refine d_write I (by rw [e]; exact True.intro) hs ⟨q, hq⟩ ⟨hl, hd, _, (rel.put k eb rv).keeps fun c ys ec => ?_, q, es, ep, hq, h2, h3, h4, h5⟩
    rw [upd_ne (ne_of ec e (fun z => nomatch z))]
    exact ec
end

section
variable {X : Cx} {pins : List (Addr × Obj)} {σ : St} {H : Hp} {s : Shared} {a : Addr} {kvs : List (Key × V)} {k : Key} {u : Value} {A : Around} {E : Value → Shared → Prop}
end


/-! ### readings and rules -/


/-- y in d, y not in d -/
def tDIn (ty td : TE) : TE := fun σ H Q => ty σ H fun y H1 => td σ H1 fun x H2 => ∃ a o, x = .ref a ∧ DGet H2 a y o ∧ Q (.bl o.isSome) H2
def tDNotIn (ty td : TE) : TE := fun σ H Q => ty σ H fun y H1 => td σ H1 fun x H2 => ∃ a o, x = .ref a ∧ DGet H2 a y o ∧ Q (.bl (!o.isSome)) H2
/-- d[y] = v -/
def sDPut (td ty tv : TE) : TS := fun D σ H => tv σ H fun v H1 => td σ H1 fun x H2 => ty σ H2 fun y H3 => ∃ a H4, x = .ref a ∧ DPut H3 a y v H4 ∧ D.nx σ H4

section
variable {X : Cx} {o i e value : Expr} {pos pos' tpos : Pos} {td ty tv : TE}
theorem pc_din (hu : X.A.units + 1 < cLine) (hi : PE X i ty) (ho : PE X o td) : PC X .In i o (tDIn ty td) := by
  intro pins s σ H Q I h
  refine thn (hi pins s σ H _ I h) fun iv s1 ⟨y, H1, I1, ry, q1⟩ => thn (ho pins s1 σ H1 _ I1 q1) fun u s2 ⟨x, H2, I2, rx, a, ov, ex, g, q2⟩ => ?_
  subst ex
  obtain rfl : u = Value.ref a := rx
  exact d_in hu I2 g ry fun s3 I3 => ⟨.bl ov.isSome, H2, I3, rfl, q2⟩
theorem pc_dnotin (hu : X.A.units + 1 < cLine) (hi : PE X i ty) (ho : PE X o td) : PC X .NotIn i o (tDNotIn ty td) := by
  intro pins s σ H Q I h
  refine thn (hi pins s σ H _ I h) fun iv s1 ⟨y, H1, I1, ry, q1⟩ => thn (ho pins s1 σ H1 _ I1 q1) fun u s2 ⟨x, H2, I2, rx, a, ov, ex, g, q2⟩ => ?_
  subst ex
  obtain rfl : u = Value.ref a := rx
  exact d_notIn hu I2 g ry fun s3 I3 => ⟨.bl (!ov.isSome), H2, I3, rfl, q2⟩
theorem ps_dput (hu : X.A.units + 1 < cLine) (ho : PE X o td) (hi : PE X i ty) (hv : PE X value tv) (hs : swapsWith value (some (.Subscript o i pos')) pos.line X.env = pure false) :
    PS X (.Assign [.Subscript o i pos'] value pos) (sDPut td ty tv) := by
  intro pins s σ H D I h
  refine wpAny_Assign_Subscript (thn (hv pins s σ H _ I h) fun r s1 ⟨v, H1, I1, rv, q1⟩ => thn (ho pins s1 σ H1 _ I1 q1) fun u s2 ⟨x, H2, I2, rx, q2⟩ => thn (hi pins s2 σ H2 _ I2 q2) fun iv s3 ⟨y, H3, I3, ry, a, H4, ex, g, q3⟩ => ?_) hs
  subst ex
  obtain rfl : u = Value.ref a := rx
  exact d_setItem hu I3 g ry rv fun s4 I4 => ⟨σ, H4, I4, q3⟩
end


/-! ### displays -/
theorem dt_empty {P : Program} {w : World} {H : Hp} (h : Heap) (hb : sysModules < h.objs.size) : ObjOk P w H (h.push { cls := .type "dict", data := .dict #[] }) h.objs.size (.dT []) :=
  ⟨Nat.zero_le _, beq_eq_false_iff_ne.mpr (Ne.symm (Nat.ne_of_lt hb)), [], .nil, _, #[], 0, Heap.get?_push_size _ rfl, ⟨rfl, rfl, rfl⟩, rfl, rfl, List.nodup_nil⟩
def tDNewT : TE := fun _ H Q => ∀ p, H p = none → Q (.ref p) (upd H p (.dT []))
section
variable {X : Cx} {pos : Pos}
theorem pe_dnewT : PE X (.Dict [] [] pos) tDNewT := fun pins s σ H Q I h =>
  wpAny_Dict_empty ⟨.ref s.heap.objs.size, _, I.laid (a := s.heap.objs.size) (o := .dT []) (t' := s.toks) (fun _ _ q => Heap.get?_push_of_some _ q) (Nat.le_refl _) (dt_empty s.heap I.big), rfl, h _ (I.hok.fresh (Nat.le_refl _))⟩
end




/-! ### methods -/


section
variable {X : Cx} {pins : List (Addr × Obj)} {σ : St} {H : Hp} {s : Shared} {a : Addr} {y d : V} {u r : Value} {o : Option V} {A : Around} {E : Value → Shared → Prop}
end

section
variable {X : Cx} {o e f : Expr} {apos cpos : Pos} {td ty tx : TE}
end


section
variable {X : Cx} {pins : List (Addr × Obj)} {σ : St} {H : Hp} {s : Shared} {h' : Heap}
/-- .. and one new object is laid -/
theorem Inv.turnedNew {t' : Nat} {ch : List Addr} {T : Addr} {ob : HO} (I : Inv X pins σ H s) (k : ∀ b o, b ∉ ch → s.heap.get? b = some o → h'.get? b = some o) (hf : ∀ b ∈ ch, FpOk X pins H b) (hT : s.heap.objs.size ≤ T)
    (new : ObjOk X.prog X.w (upd H T ob) h' T ob) : Inv X pins σ (upd H T ob) { s with heap := h', toks := t' } := by
  have hn : H T = none := I.hok.fresh hT
  have nit : ∀ b u, H b = some u → b ∉ ch := fun b u e z => by
    have q := (hf b z).1
    rw [q] at e; cases e
  refine I.step (g' := s.gens) (d' := s.drawn) (ch := ch) (fun b hb => ⟨(hf b hb).2.2.2.1, (hf b hb).2.1, (hf b hb).2.2.2.2.1, (hf b hb).2.2.2.2.2⟩) (fun b o _ _ hc e _ => k b o hc e) (fun b o _ _ hc e _ => ⟨o.slots, k b o hc e⟩)
    (fun b o _ e n => ?_) (fun b o hc e => ⟨o, k b o hc e⟩) (fun b xs e => ?_) (fun b o u e => ?_) (fun b ps e => ⟨#[], ?_⟩) (fun m hm => ?_) (fun b u e => ?_) I.bare
  · rw [upd_ne (Nat.ne_of_lt (Nat.lt_of_lt_of_le (Heap.lt_size e) hT))]; exact n
  · rw [upd_ne (ne_of_none e hn)]; exact e
  · rw [upd_ne (ne_of_none e hn)]; exact e
  · rw [upd_ne (ne_of_none e hn), e]; simp
  · obtain ⟨o, es, ep, ho, r⟩ := hm
    exact ⟨o, es, ep, k _ o (fun z => (hf _ z).2.1 rfl) ho, r⟩
  · by_cases hb : b = T
    · subst hb
      rw [upd_same] at e
      cases e
      exact new
    · rw [upd_ne hb] at e
      refine (I.hok b u e).stay (fun c v hc q => k c v ?_ q) (fun c q => by rw [upd_ne (ne_of_none q hn)]; exact q) fun c xs q => by rw [upd_ne (ne_of_none q hn)]; exact q
      rcases hc with z | z
      · rw [z]; exact nit b u e
      · exact nit c _ z

/-! ### locking a thing while a statement runs -/
end
section
variable {X : Cx}

/-! ### one iterator just laid -/
theorem pi_one {tg : Expr} {pins : List (Addr × Obj)} {σ : St} {H : Hp} {s : Shared} {R : It → Hp → Prop} {J : It} {tn : Nat → Heap → Prop} {tk : Nat} (I : Inv X pins σ H s) (o : Obj)
    (T : Turn X.prog X.w X.K tg J [s.heap.objs.size] s.heap.objs.size tn) (st : tn 0 (s.heap.push o)) (q : R J H) : PIE X pins σ tg R (.ref s.heap.objs.size) { s with heap := s.heap.push o, toks := tk } := by
  refine ⟨s.heap.objs.size, [s.heap.objs.size], tn, J, H, rfl, I.kept fun b ob e => Heap.get?_push_of_some _ e, T, st, fun b hb => ?_, q⟩
  have e : b = s.heap.objs.size := by simpa using hb
  subst e
  exact I.fpOk (Nat.le_refl _) (I.hok.fresh (Nat.le_refl _))
end

/-! ### a str -/
def Its (x : Str) : It := ⟨fun i _ => i < x.cps.size, fun i H v H' => H' = H ∧ ∃ c, x.cps[i]? = some c ∧ v = .str ⟨#[c]⟩, fun i _ => x.cps.size ≤ i⟩
theorem turn_str {P : Program} {w : World} {K : PySem.W.Frag} {tg : Expr} (it : Addr) (x : Str) (t : Tok) (ty : String) (hty : ty = "str_ascii_iterator" ∨ ty = "str_iterator") :
    Turn P w K tg (Its x) [it] it (fun i h => h.IsStrIter it ty x t i) where
  mem := by simp
  obj := fun i h st b hb => by
    have e : b = it := by simpa using hb
    subst e
    obtain ⟨o, e, c, d⟩ := st
    exact ⟨o, e, fun v z => by rw [d] at z; cases z⟩
  keep := fun i h h' st k => let ⟨o, ho, r⟩ := st; ⟨o, k it (by simp) o ho, r⟩
  item := by
    intro X hP hw hK hc i pins s σ H E I hf st hg
    subst hP hw hK
    obtain ⟨f0, f1, f2, f3, f4, f5⟩ := hf it (by simp)
    have W : Walks X.prog X.w X.A it [it] [it] x.cps.size (SignAt x) (fun i h => h.IsStrIter it ty x t i) := by
      rcases hty with e | e
      · rw [e]; exact Walks.strAscii (I.ok.hd hc) it x t
      · rw [e]; exact Walks.strWide (I.ok.hd hc) it x t
    have hno : ["enumerate", "zip", "dict_itemiterator", "dict_reverseitemiterator", "odict_iterator", "itertools.zip_longest", "itertools.pairwise"].contains ty = false := by
      rcases hty with e | e
      · rw [e]; decide
      · rw [e]; decide
    refine W.item i s _ _ hg st fun v h' tk hv st' kk => ?_
    obtain ⟨c, u, hcx, rfl⟩ := hv
    have I1 : Inv X pins σ H { s with heap := h', toks := tk } := I.turned (fun b o hb e => kk b o (by simpa using hb) e) f0 f1 f3 f4 f5
    obtain ⟨oi, e, cc, dd⟩ := id st'
    exact ⟨_, rfl, go_of (s := { s with heap := h', toks := tk }) e cc dd hno ⟨.str ⟨#[c]⟩, H, I1, ⟨u, rfl⟩, ⟨rfl, c, hcx, rfl⟩, st', fun b hb => (hf b hb).1⟩⟩
  done := by
    intro X hP hw hK hc i pins s σ H E I hf st hg
    subst hP hw hK
    obtain ⟨f0, f1, f2, f3, f4, f5⟩ := hf it (by simp)
    have hx : x.cps[i]? = none := Array.getElem?_eq_none hg
    rcases hty with e | e
    · rw [e] at st
      exact wpAny_pyNext_ascii_end (I.ok.hd hc) st hx fun h' eb => ⟨rfl, I.turned (t' := s.toks) (fun b o hb e => eb b o hb e) f0 f1 f3 f4 f5⟩
    · rw [e] at st
      exact wpAny_pyNext_wide_end (I.ok.hd hc) st hx fun h' eb => ⟨rfl, I.turned (t' := s.toks) (fun b o hb e => eb b o hb e) f0 f1 f3 f4 f5⟩
  self := fun A i s Q E st h => by
    rcases hty with e | e
    · rw [e] at st; exact wpAny_pyIter_striter_ascii st h
    · rw [e] at st; exact wpAny_pyIter_striter_wide st h
def iStr (te : TE) : TI := fun σ H R => te σ H fun v H1 => ∃ x, v = .str x ∧ R (Its x) H1
theorem pi_str {X : Cx} {tg e : Expr} {te : TE} (he : PE X e te) : PI X tg e (iStr te) := by
  intro pins s σ H R I h
  refine thn (he pins s σ H _ I h) fun v s1 ⟨y, H1, I1, r1, x, ex, q⟩ => ?_
  subst ex
  obtain ⟨t, rfl⟩ := r1
  cases ha : x.cps.all (· < 128)
  · exact wpAny_pyIter_wide ha (pi_one (tk := s1.toks) I1 _ (turn_str _ x t "str_iterator" (.inr rfl)) ⟨_, Heap.get?_push_size _ rfl, rfl, rfl⟩ q)
  · exact wpAny_pyIter_ascii ha (pi_one (tk := s1.toks) I1 _ (turn_str _ x t "str_ascii_iterator" (.inl rfl)) ⟨_, Heap.get?_push_size _ rfl, rfl, rfl⟩ q)

/-! ### enumerate(list) -/
end L2
/-! SHORT WORDS over the layer: a def of the text, its body, what a loop and a test want. -/
namespace L2
open PySem PySem.Spec PyProof.Rows

/-! ### the text by places -/
/-- the j-th statement of a class's body -/
def inClass (s : Stmt) (j : Nat) : Stmt := match s with
  | .ClassDef _ _ _ body _ _ _ _ _ _ _ => body.getD j (.Pass ⟨0, 0, 0, 0⟩)
  | _ => .Pass ⟨0, 0, 0, 0⟩
def defArgs (s : Stmt) : Arguments := match s with
  | .FunctionDef _ a _ _ _ _ _ _ _ _ => a
  | _ => { posonlyargs := [], args := [], vararg := none, kwonlyargs := [], kw_defaults := [], kwarg := none, defaults := [] }
def defBody (s : Stmt) : List Stmt := match s with
  | .FunctionDef _ _ b _ _ _ _ _ _ _ => b
  | _ => []
def defScope (s : Stmt) : Scope := match s with
  | .FunctionDef _ _ _ _ _ _ sc _ _ _ => sc
  | _ => { kind := .function, names := [], isGenerator := false, isCoroutine := false }

/-! ### no exception leaves a def -/
abbrev CX0 : CXT := fun _ _ _ _ _ _ => False
abbrev E0 : XK := fun _ _ _ => False
theorem pass0 {X : Cx} : Passes CX0 X E0 := fun _ _ _ _ _ _ _ h => h.elim

/-! ### a def (or method) of the text as it stands behind the top -/
structure Fun (K : PySem.W.Frag) (x qual : Str) (st : Stmt) (f : Addr) (fd : FuncData) : Prop where
  ex : ∃ (oc : Value) (od : Option Addr) (kV doc pm : Value) (an : Option Addr) (cdv ct : Value) (osl : Array (Option Value)),
    fd = PySem.W.fnOf x qual (defArgs st) (defBody st) (defScope st) .none kV doc pm an cdv ct ∧ K.lookup f = some ⟨oc, od, .func fd, osl⟩ ∧ PySem.W.codeIn K cdv qual = true
  kp : PySem.W.keepIn K (.ref f) = true
section
variable {P : Program} {w : World} {K : PySem.W.Frag} {mg : Str → Option Value} {base : Heap}
/-- THE RULE for a def: its body as a term of rules, and the reading of that term -/
theorem Fun.ok {x qual : Str} {st : Stmt} {f : Addr} {fd : FuncData} {N ps : List Str} {k : Nat} {sp : Sp} (F : Fun K x qual st f fd) (S : FnScope N ps (defScope st)) (len : ∀ vs H Q E, sp vs H Q E → vs.length = ps.length)
    (hbody : ∀ (cdv : Value) (A : Around) (outer : List Env) (s : Shared) (H : Hp) (vs : List V) (Q : VK) (E : XK), Room k (A.deeper (envOfC qual (defScope st) s.heap.objs.size f cdv)) → sp vs H Q E →
      ∃ t, PSs (cxOf CX0 P w K mg base N qual (defScope st) f cdv A outer s H E).nox (defBody st) t ∧ t { nx := fun _ H' => Q .non H', rt := Q } (start N vs) H) : FnOk P w K mg base CX0 (k + 1) f fd ps sp := by
  obtain ⟨oc, od, kV, doc, pm, an, cdv, ct, osl, rfl, lk, hcd⟩ := F.ex
  refine fn_of lk hcd S len fun A outer s H vs Q E hr hsp => ?_
  obtain ⟨t, h, q⟩ := hbody cdv A outer s H vs Q E hr hsp
  exact ⟨t, h.nox, q⟩
/-- how its arguments bind (no defaults): h is «fun _ _ _ _ _ _ us hl => match us, hl with | [_, _], _ => rfl», one _ a parameter -/
theorem Fun.binds {x qual : Str} {st : Stmt} {f : Addr} {fd : FuncData} {ps : List Str} (F : Fun K x qual st f fd)
    (h : ∀ (kV doc pm : Value) (an : Option Addr) (cdv ct : Value) (us : List Value), us.length = ps.length → bindArgs (PySem.W.fnOf x qual (defArgs st) (defBody st) (defScope st) .none kV doc pm an cdv ct) ⟨us, []⟩ = pure (ps.zip us)) : Binds K fd ps [] := by
  obtain ⟨oc, od, kV, doc, pm, an, cdv, ct, osl, rfl, lk, hcd⟩ := F.ex
  exact .all (h kV doc pm an cdv ct)
theorem fun_mk {x qual : Str} {st : Stmt} {f : Addr} {oc : Value} {od an : Option Addr} {osl : Array (Option Value)} {kV doc pm cdv ct : Value} (l : K.lookup f = some ⟨oc, od, .func (PySem.W.fnOf x qual (defArgs st) (defBody st) (defScope st) .none kV doc pm an cdv ct), osl⟩)
    (c : PySem.W.codeIn K cdv qual = true) (k : PySem.W.keepIn K (.ref f) = true) : Fun K x qual st f (PySem.W.fnOf x qual (defArgs st) (defBody st) (defScope st) .none kV doc pm an cdv ct) := ⟨⟨oc, od, kV, doc, pm, an, cdv, ct, osl, rfl, l, c⟩, k⟩
end
theorem small1000 {n : Nat} (h : n ≤ 1000) : n < sizeLine := Nat.lt_of_le_of_lt h (by decide)

/-! ### expressions in short: the name that stands in the i-th slot -/
section
variable {X : Cx}
theorem pv (i : Nat) {x : Str} {pos : Pos} (hN : X.N[i]? = some x := by rfl) (hv : Vis X.env.scope x := by first | exact Or.inl rfl | exact Or.inr (Or.inl rfl) | exact Or.inr (Or.inr rfl)) (hd : (x == ("__debug__" : Str)) = false := by decide)
    (hcd : (x == ("__classdict__" : Str)) = false := by decide) : PE X (.Name x pos) (tVar i) := pe_var hN hv hd hcd
end

/-! ### tests -/
theorem iteF {A B : Prop} (h : B) : if false = true then A else B := by
  rw [if_neg Bool.false_ne_true]
  exact h
theorem iteT {A B : Prop} (h : A) : if true = true then A else B := by
  rw [if_pos rfl]
  exact h

/-! ### heaps -/
/-- all that was tracked is as it was -/
def Same (H H' : Hp) : Prop := ∀ b o, H b = some o → H' b = some o
theorem Same.refl (H : Hp) : Same H H := fun _ _ h => h
theorem Same.trans {H H1 H2 : Hp} (a : Same H H1) (b : Same H1 H2) : Same H H2 := fun c o h => b c o (a c o h)
theorem Same.free {H H' : Hp} (e : Same H H') {l : Addr} (h : H' l = Option.none) : H l = Option.none := by
  cases q : H l with
  | none => rfl
  | some o =>
    rw [e l o q] at h
    cases h
theorem Same.seq {K : PySem.W.Frag} {H H' : Hp} {a : Addr} {xs : List V} (e : Same H H') (h : SqL K H a xs) : SqL K H' a xs := by
  rcases h with (h | ⟨o, h⟩) | h
  · exact .inl (.inl (e _ _ h))
  · exact .inl (.inr ⟨o, e _ _ h⟩)
  · exact .inr h

/-! ### a dict's pairs: keys that differ -/
section
variable {κ : Type} [DecidableEq κ]
end
/-! ### lists -/
theorem at_of {xs : List V} {z : Int} {j : Nat} {v : V} (e : z = (j : Int)) (h : xs[j]? = some v) : atI xs z = some v := by
  rw [e]
  exact atI_nat h
end L2

section
set_option Elab.async false
set_option linter.all false
set_option maxRecDepth 100000
/-! exceptions with attributes of their own: the heap steps -/
namespace Xl
open PySem
/-- what stands at a traceback's head -/
def Tbk (h : Heap) (T : Addr) : Prop := ∃ o ts, h.get? T = some o ∧ o.data = .fields ts ∧ ts[3]? = some Value.none
/-- the heap behind the leaving of a frame: e the exception, v1 its traceback ahead, T the new head -/
structure Lft (fr : List Addr) (e T : Addr) (v1 : Value) (oe : Obj) (h h' : Heap) : Prop where
  new : h.objs.size ≤ T
  tb : Tbk h' T
  exc : ∃ o vs, h'.get? e = some o ∧ o.cls = oe.cls ∧ o.dict = oe.dict ∧ o.data = .fields vs ∧ vs[1]? = some (Value.ref T)
  keep : ∀ b o, b ≠ e → v1 ≠ Value.ref b → b ∉ fr → h.get? b = some o → h'.get? b = some o
  slot : ∀ b o, b ≠ e → v1 ≠ Value.ref b → h.get? b = some o → ∃ sl, h'.get? b = some { o with slots := sl }
  old : ∀ U, v1 = Value.ref U → Tbk h' U
theorem dict_map (o : Obj) (f : Array Value → Array Value) : (Obj.mapFields f o).dict = o.dict := by
  unfold Obj.mapFields
  split <;> rfl
section
variable {M : Model} {A : Around} {E : Value → Shared → Prop} {s : Shared}
theorem entry_low {base : Heap} {env : Env} {outer : List Env} {L e : Addr} {oe : Obj} {vs : Array Value} {v1 head : Value} {had : Bool} {Q : Unit → Shared → Prop}
    (hfr : A.frames = some (env :: outer)) (hl : s.heap.FunFrames base (env :: outer)) (hf : env.frame = some L) (he : s.heap.get? e = some oe) (hd : oe.data = .fields vs) (hsz : 1 < vs.size)
    (hold : ∀ U, v1 = Value.ref U → Tbk s.heap U ∧ U ≠ e) (h : ∀ h' T, Lft ((env :: outer).filterMap (·.frame)) e T v1 oe s.heap h' → Q () { s with heap := h' }) :
    wpAny M A (do let a ← frameOf env; let pl ← entryPlaceOf L had; let b ← EntryCells.newEntry head a .none (rawInt L) .none pl; setField (.ref e) 1 b) (fun _ s' => wpAny M A (setFlight (.ref e) none) Q E s') E s := by
  have enf : e ∉ (env :: outer).filterMap (·.frame) := by
    intro z
    obtain ⟨_, o, ho, nf⟩ := hl.mem z
    rw [he] at ho; cases ho; exact nf vs hd
  refine wpAny_bind (wpAny_frameOf_fun hfr hl hf fun g sg => wpAny_bind (wpAny_entryPlaceOf fun pl hpl => ?_))
  unfold EntryCells.newEntry; unfold newFields
  refine wpAny_bind (wpAny_newObj_type ?_ (hpl.sizeOk5 _ _ _ _ _))
  generalize htb : ({ cls := .type "traceback", dict := none, data := .fields ([head, .ref L, .none, rawInt L, .none] ++ (if pl.isEmpty then List.replicate 6 Value.none else pl)).toArray } : Obj) = tb
  have dtb : ∃ ts, tb.data = .fields ts ∧ 3 < ts.size := by
    subst htb
    exact ⟨_, rfl, by simp only [List.size_toArray, List.length_append, List.length_cons, List.length_nil]; omega⟩
  obtain ⟨ts, dts, sts⟩ := dtb
  have eg : g.get? e = some oe := (sg.2.1 e enf).trans he
  have eT : g.objs.size ≠ e := Nat.ne_of_gt (Heap.lt_size eg)
  have e2 := Heap.get?_push_of_some (h := g) tb eg
  refine wpAny_setField e2 hd hsz ?_
  have d3 := Obj.data_mapFields hd (·.setIfInBounds 1 (Value.ref g.objs.size))
  have e3 := Heap.get?_update_self (Obj.mapFields (·.setIfInBounds 1 (Value.ref g.objs.size))) e2 (Obj.isFreed_of_fields d3)
  have T3 : ((g.push tb).update e (Obj.mapFields (·.setIfInBounds 1 (Value.ref g.objs.size)))).get? g.objs.size = some tb :=
    (Heap.get?_update_other _ _ (Ne.symm eT)).trans (Heap.get?_push_size g (Obj.isFreed_of_fields dts))
  unfold setFlight
  refine wpAny_bind (wpAny_field e3 d3 (x := .ref g.objs.size) (by simp [hsz]) ?_)
  rw [if_pos (show (Value.ref g.objs.size != Value.none) = true from by simp)]
  refine wpAny_setField T3 dts sts (h _ g.objs.size ?_)
  have d4 := Obj.data_mapFields dts (·.setIfInBounds 3 ((none : Option Addr).elim Value.none fun f => rawInt f))
  have oth : ∀ b o, b ≠ e → g.get? b = some o → (((g.push tb).update e (Obj.mapFields (·.setIfInBounds 1 (Value.ref g.objs.size)))).update g.objs.size
      (Obj.mapFields (·.setIfInBounds 3 ((none : Option Addr).elim Value.none fun f => rawInt f)))).get? b = some o := by
    intro b o hb q
    have bT : g.objs.size ≠ b := Nat.ne_of_gt (Heap.lt_size q)
    rw [Heap.get?_update_other _ _ bT, Heap.get?_update_other _ _ (Ne.symm hb)]
    exact Heap.get?_push_of_some _ q
  refine ⟨Nat.le_of_eq sg.1.symm, ⟨_, _, Heap.get?_update_self _ T3 (Obj.isFreed_of_fields d4), d4, by simp [sts]⟩, ⟨_, _, (Heap.get?_update_other _ _ eT).trans e3, Obj.cls_mapFields _ _, dict_map _ _, d3, by simp [hsz]⟩, ?_, ?_, ?_⟩
  · intro b o b1 _ b3 q
    exact oth b o b1 ((sg.2.1 b b3).trans q)
  · intro b o b1 _ q
    obtain ⟨sl, z⟩ := sg.2.2 b o q
    exact ⟨sl, oth b _ b1 z⟩
  · intro U hU
    obtain ⟨⟨o, us, ho, hd', h3⟩, ne⟩ := hold U hU
    obtain ⟨sl, z⟩ := sg.2.2 U o ho
    exact ⟨_, us, oth U _ ne z, hd', h3⟩
/-- the frame is noted in the exception at e, which then lands -/
theorem look_low {base : Heap} {env : Env} {outer : List Env} {L e : Addr} {oe : Obj} {vs : Array Value} {v1 : Value} {Q : Unit → Shared → Prop}
    (hfr : A.frames = some (env :: outer)) (hl : s.heap.FunFrames base (env :: outer)) (hf : env.frame = some L) (he : s.heap.get? e = some oe) (hd : oe.data = .fields vs) (h1 : vs[1]? = some v1)
    (hv : v1 = Value.none ∨ ∃ U, v1 = Value.ref U ∧ U ≠ e ∧ Tbk s.heap U) (h : ∀ h' T, Lft ((env :: outer).filterMap (·.frame)) e T v1 oe s.heap h' → Q () { s with heap := h' }) : wpAny M A (noteFrame (.ref e) env) (fun _ s2 => wpAny M A (setFlight (.ref e) none) Q E s2) E s := by
  have hsz : 1 < vs.size := (Array.getElem?_eq_some_iff.mp h1).1
  unfold noteFrame
  simp only [hf]
  refine wpAny_bind (wpAny_field he hd h1 ?_)
  rcases hv with rfl | ⟨U, rfl, ne, oU, us, hU, dU, u3⟩
  · rw [if_neg (by decide)]
    exact entry_low (v1 := .none) hfr hl hf he hd hsz (fun U z => nomatch z) h
  · rw [if_pos (show (Value.ref U != Value.none) = true from by simp)]
    refine wpAny_bind (wpAny_field hU dU u3 ?_)
    rw [if_neg (show ¬ ((Value.none == rawInt L) = true) from by simp [rawInt])]
    have us3 : 3 < us.size := (Array.getElem?_eq_some_iff.mp u3).1
    refine wpAny_bind (wpAny_setField hU dU us3 ?_)
    have d4 := Obj.data_mapFields dU (·.setIfInBounds 3 Value.none)
    have U4 := Heap.get?_update_self (Obj.mapFields (·.setIfInBounds 3 Value.none)) hU (Obj.isFreed_of_fields d4)
    have other : ∀ b, b ≠ U → (s.heap.update U (Obj.mapFields (·.setIfInBounds 3 Value.none))).get? b = s.heap.get? b := fun b z => Heap.get?_update_other _ _ (Ne.symm z)
    refine entry_low (s := { s with heap := s.heap.update U (Obj.mapFields (·.setIfInBounds 3 Value.none)) }) (v1 := .ref U) hfr (hl.of_keeps fun b o q nf => ⟨o, (other b fun z => ?_).trans q, rfl⟩) hf ((other e (Ne.symm ne)).trans he) hd hsz
      (fun W z => ?_) fun h' T F => h h' T ⟨?_, F.tb, F.exc, fun b o b1 b2 b3 q => F.keep b o b1 b2 b3 ((other b fun z => b2 (by rw [z])).trans q), fun b o b1 b2 q => F.slot b o b1 b2 ((other b fun z => b2 (by rw [z])).trans q), F.old⟩
    · subst z; rw [hU] at q; cases q; exact nf us dU
    · cases z
      exact ⟨⟨_, _, U4, d4, by simp [us3]⟩, ne⟩
    · exact Nat.le_trans (Nat.le_of_eq (Heap.size_after_update ..).symm) F.new
end
end Xl

end

section
set_option Elab.async false
set_option linter.all false
set_option maxRecDepth 100000
namespace Xl
open PySem
open Builtin Builtin.ObjectAttr
abbrev BM : List Value := [.type "Exception", .type "BaseException", .type "object"]
/-- the class at C is an own heir of Exception, its namespace at N -/
def XcAt (h : Heap) (C N : Addr) : Prop := ∃ nm q bs sn sub ab col dd k0 k1 k2 k3 k5, h.get? C = some (excClassObj nm q C N bs BM true sn sub ab col dd k0 k1 k2 k3 k5 "Exception.__new__")
theorem XcAt.keeps {h h' : Heap} {C N : Addr} (x : XcAt h C N) (k : ∀ b o, h.get? b = some o → h'.get? b = some o) : XcAt h' C N := by
  obtain ⟨nm, q, bs, sn, sub, ab, col, dd, k0, k1, k2, k3, k5, e⟩ := x
  exact ⟨nm, q, bs, sn, sub, ab, col, dd, k0, k1, k2, k3, k5, k _ _ e⟩
section
variable {M : Model} {A : Around} {E : Value → Shared → Prop} {s : Shared} {env : Env}
theorem raise_lowE {x : Sem Value} {Q : Flow → Shared → Prop} (hh : A.handled = none)
    (h : wpAny M A x (fun v s1 => ∃ C N e oe vs, v = .ref e ∧ XcAt s1.heap C N ∧ s1.heap.get? e = some oe ∧ oe.cls = .ref C ∧ oe.data = .fields vs ∧ vs[1]? = some .none ∧ E (.ref e) s1) E s) : wpAny M A (raiseStmt env (some x) none) Q E s := by
  unfold raiseStmt
  refine wpAny_bind (wpAny_mono h (fun v s1 z => ?_) fun _ _ y => y)
  obtain ⟨C, N, e, oe, vs, rfl, ⟨nm, q, bs, sn, sub, ab, col, dd, k0, k1, k2, k3, k5, hC⟩, he, hc, hd, h1, hE⟩ := z
  have cB : (Value.ref C :: BM).contains (.type "BaseException") = true := by rw [List.contains_cons, F.excBase_Exception.hasBase, Bool.or_true]
  obtain ⟨hp, g, d, tk, os⟩ := s1
  repeat (first | (with_reducible refine wpAny_loadPart_at he ?_; rw [hc]) | with_reducible refine wpAny_loadPart_at hC ?_ | (with_reducible refine wpAny_isSubtype_exc hC ?_; rw [cB]) | with_reducible refine wpAny_field he hd h1 ?_ | wp_step)
  exact wpAny_raiseNew_none hh hE
end
end Xl

end

section
set_option Elab.async false
set_option linter.all false
set_option maxRecDepth 100000
set_option maxHeartbeats 4000000
namespace Xl
open PySem
open Builtin Builtin.ObjectAttr
section
variable {prog : Program} {w : World} {A : Around} {E : Value → Shared → Prop} {h : Heap} {g : Array GenState} {d : Drawn} {t : Nat} {os : OsState}
variable {C N x : Addr} {mN : Str → Option Value} {name : Str} {v : Value} {o : Obj} {vs : Array Value}
theorem store_in {sa owner : String} (SF : StoreFacts "Exception" BM sa owner) {tk : Tok} {Q : Fin → Shared → Prop} (hX : XcAt h C N) (hn : h.Ns N mN) (hna : mN name = none) (hB : typeLookup (.type "Exception") name = pure none)
    (hx : h.get? x = some o) (hc : o.cls = .ref C) (hd : o.data = .fields vs) (hdn : o.dict = none)
    (hq : ∀ h' tk', h'.get? x = some { o with dict := some h.objs.size } → h'.Ns1 h.objs.size (fun y => if y = name then some v else none) → (∀ b ob, b ≠ x → h.get? b = some ob → h'.get? b = some ob) → Q (.done (.ret .none)) ⟨h', g, d, tk', os⟩) :
    wpAny (model prog w) A (Builtin.«object.__setattr__» ⟨[.ref x, .str name tk, v], []⟩) Q E ⟨h, g, d, t, os⟩ := by
  obtain ⟨nm, q, bs, sn, sub, ab, col, dd, k0, k1, k2, k3, k5, hC⟩ := hX
  have pass := SF.passes (.ref x)
  have mro := SF.mro
  unfold Builtin.«object.__setattr__»
  repeat (first | rw [refuse_eq] | (rw [refuseLoop_ref, pass]) | (with_reducible refine wpAny_loadPart_at hx ?_; rw [hc]) | with_reducible refine wpAny_mroOf_exc hC ?_ | (with_reducible refine wpAny_typeLookup_exc hC hn mro hB ?_; rw [hna]) | wp_step)
  rw [hdn, if_neg (by simp [typeHasDict])]
  split
  · rename_i z; cases z
  split
  · rename_i c z; rw [hd] at z; cases z
  · have xs : x ≠ h.objs.size := Nat.ne_of_lt (Heap.lt_size hx)
    generalize hne : ({ cls := .type "dict", data := .dict #[] } : Obj) = new
    have x1 : (h.push new).get? x = some o := Heap.get?_push_of_some _ hx
    refine wpAny_bind (wpAny_alloc' ?_)
    refine wpAny_bind (wpAny_update' x1 (wpAny_pure ?_))
    generalize hh : ((h.push new).update x fun o => { cls := o.cls, dict := some h.objs.size, data := o.data, slots := o.slots }) = h2
    have gd : h2.get? h.objs.size = some new := by
      rw [← hh]
      exact (Heap.get?_update_ne _ _ _ _ xs.symm).trans (Heap.get?_push_at rfl (by rw [← hne]; rfl))
    have nd : h2.Ns h.objs.size (fun _ => none) := ⟨_, #[], _, by rw [gd, ← hne], rfl, fun e he => absurd he (by simp), fun _ => rfl⟩
    have x2 : h2.get? x = some { o with dict := some h.objs.size } := by
      rw [← hh]
      refine Heap.get?_update_self _ x1 ?_
      obtain ⟨oc, od, odt, osl⟩ := o
      cases hd
      rfl
    show wpAny _ _ (storeInDict h.objs.size (.str name tk) name v) _ _ _
    unfold storeInDict; unfold newKeyGuard
    refine wpAny_bind (wpAny_pure (wpAny_bind (wpAny_nsSet1 (Heap.Ns1.of_empty nd) fun h' hn' hs => ?_)))
    obtain ⟨oD, esD, epD, hoD, hdD, hcD⟩ := hn'.count (Within.cons name v Within.nil)
    refine wpAny_bind (wpAny_lookBehind hoD (by rw [hdD]; exact pastItsLine_dict (Nat.le_trans hcD (by rw [List.length_cons, List.length_nil, sizeLine_eq]; decide))) ?_)
    wp_walk
    refine hq h' _ ((hs.2 x xs).trans x2) ?_ fun b ob hb q => ?_
    · obtain ⟨o', es, ep, e1, e2, e3, eu, e4⟩ := hn'
      exact ⟨o', es, ep, e1, e2, e3, eu, fun y => by rw [e4 y]⟩
    · refine (hs.2 b (Nat.ne_of_lt (Heap.lt_size q))).trans ?_
      rw [← hh]
      exact (Heap.get?_update_ne _ _ _ _ hb).trans (Heap.get?_push_of_some _ q)
theorem store_low {sa owner : String} (SF : StoreFacts "Exception" BM sa owner) {Q : Unit → Shared → Prop} (hX : XcAt h C N) (hn : h.Ns N mN) (hns : mN "__setattr__" = none) (hna : mN name = none) (hB : typeLookup (.type "Exception") name = pure none)
    (hx : h.get? x = some o) (hc : o.cls = .ref C) (hd : o.data = .fields vs) (hdn : o.dict = none)
    (hq : ∀ h' tk', h'.get? x = some { o with dict := some h.objs.size } → h'.Ns1 h.objs.size (fun y => if y = name then some v else none) → (∀ b ob, b ≠ x → h.get? b = some ob → h'.get? b = some ob) → Q () ⟨h', g, d, tk', os⟩) :
    wpAny (model prog w) A (setAttr (.ref x) name v) Q E ⟨h, g, d, t, os⟩ := by
  obtain ⟨nm, q, bs, sn, sub, ab, col, dd, k0, k1, k2, k3, k5, hC⟩ := id hX
  have f3 := SF.slot.bind (.ref x)
  have mro := SF.mro
  have lk := SF.slot.lookup
  unfold setAttr; unfold callSpecial?; unfold specialOf
  repeat (any_goals (first | assumption | (with_reducible refine wpAny_loadPart_at hx ?_; rw [hc]) | (with_reducible refine wpAny_typeLookup_exc hC hn mro lk ?_; rw [hns]) | wp_step))
  refine codeAny_call_builtin SF.slot.plain SF.entry (wpAny_check_sa SF hC hx hc (store_in SF hX hn hna hB hx hc hd hdn fun h' tk' a b c => ?_))
  repeat (any_goals (first | assumption | wp_step))
  exact hq h' tk' a b c
end
end Xl

end

section
set_option Elab.async false
set_option linter.all false
set_option maxRecDepth 100000
set_option maxHeartbeats 2000000
namespace Xl
open PySem
open Builtin Builtin.ObjectAttr
section
variable {prog : Program} {w : World} {A : Around} {E : Value → Shared → Prop} {h : Heap} {g : Array GenState} {d : Drawn} {t : Nat} {os : OsState}
variable {C N x dx : Addr} {mN mA : Str → Option Value} {name : Str} {v : Value} {o : Obj} {vs : Array Value}
theorem load_in {tk : Tok} {Q : Fin → Shared → Prop} (FB : ExcAttrBase "Exception" BM) (hX : XcAt h C N) (hn : h.Ns N mN) (hna : mN name = none) (hB : typeLookup (.type "Exception") name = pure none)
    (hx : h.get? x = some o) (hc : o.cls = .ref C) (hd : o.data = .fields vs) (hdx : o.dict = some dx) (hns : h.Ns1 dx mA) (hv : mA name = some v) (hq : Q (.done (.ret v)) ⟨h, g, d, t, os⟩) :
    wpAny (model prog w) A (Builtin.«object.__getattribute__» ⟨[.ref x, .str name tk], []⟩) Q E ⟨h, g, d, t, os⟩ := by
  obtain ⟨nm, q, bs, sn, sub, ab, col, dd, k0, k1, k2, k3, k5, hC⟩ := hX
  repeat (any_goals (first | assumption | (with_reducible refine wpAny_loadPart_at hx ?_; rw [hc]) | (with_reducible refine wpAny_typeLookup_exc hC hn FB.mro hB ?_; rw [hna]) | wp_step))
  rw [hd]
  show wpAny _ _ (instanceDict x false) _ _ _
  unfold instanceDict
  repeat (first | (with_reducible refine wpAny_loadPart_at hx ?_; rw [hc]) | with_reducible refine wpAny_loadPart_at hC ?_ | wp_step)
  rw [hdx]
  repeat (first | (with_reducible refine wpAny_nsGet hns.ns ?_; rw [hv]) | wp_step)
  exact hq
theorem load_by {tk : Tok} {fill expr : Bool} {Q : Value → Shared → Prop} (FB : ExcAttrBase "Exception" BM) (hX : XcAt h C N) (hn : h.Ns N mN) (hng : mN "__getattribute__" = none) (hngg : mN "__getattr__" = none) (hna : mN name = none) (hB : typeLookup (.type "Exception") name = pure none)
    (hx : h.get? x = some o) (hc : o.cls = .ref C) (hd : o.data = .fields vs) (hdx : o.dict = some dx) (hns : h.Ns1 dx mA) (hv : mA name = some v) (hh : handedOut v = pure v) (hq : Q v ⟨h, g, d, t, os⟩) :
    wpAny (model prog w) A (getAttrBy (.ref x) (.str name tk) fill expr) Q E ⟨h, g, d, t, os⟩ := by
  obtain ⟨nm, q, bs, sn, sub, ab, col, dd, k0, k1, k2, k3, k5, hC⟩ := id hX
  have f3 := FB.ga.bind (.ref x)
  have hx0 : (expr && onTheHeap (Value.builtin "BaseException.__getattribute__")) = false := by cases expr <;> rfl
  have hx2 : (Value.builtin "BaseException.__getattribute__" == Value.builtin "object.__getattribute__") = false := by decide +kernel
  have hx1 : (onTheHeap (Value.ref C) && Value.builtin "BaseException.__getattribute__" == Value.builtin "object.__getattribute__") = false := by rw [hx2]; rfl
  repeat (any_goals (first | assumption | (with_reducible refine wpAny_loadPart_at hx ?_; rw [hc]) | (with_reducible refine wpAny_typeLookup_exc hC hn FB.mro FB.ga.lookup ?_; rw [hng]) | (with_reducible refine wpAny_typeLookup_exc hC hn FB.mro FB.noGetattr ?_; rw [hngg]) | wp_step))
  refine codeAny_call_builtin FB.ga.plain F.entry_bexc_ga (wpAny_check_ga_own FB hC OwnTailQ.base hx hc (load_in FB hX hn hna hB hx hc hd hdx hns hv ?_))
  show wpAny _ _ (handedOut v) _ _ _
  rw [hh]
  exact wpAny_pure hq
theorem load_low {expr : Bool} {Q : Value → Shared → Prop} (FB : ExcAttrBase "Exception" BM) (hX : XcAt h C N) (hn : h.Ns N mN) (hng : mN "__getattribute__" = none) (hngg : mN "__getattr__" = none) (hna : mN name = none) (hB : typeLookup (.type "Exception") name = pure none)
    (hx : h.get? x = some o) (hc : o.cls = .ref C) (hd : o.data = .fields vs) (hdx : o.dict = some dx) (hns : h.Ns1 dx mA) (hv : mA name = some v) (hh : handedOut v = pure v) (hq : Q v ⟨h, g, d, t + 1, os⟩) :
    wpAny (model prog w) A (getAttr (.ref x) name expr) Q E ⟨h, g, d, t, os⟩ := by
  unfold getAttr
  repeat (any_goals (first | assumption | with_reducible apply load_by FB hX hn hng hngg hna hB hx hc hd hdx hns hv hh | wp_step))
end
end Xl

end

section
set_option Elab.async false
set_option linter.all false
set_option maxRecDepth 100000
set_option maxHeartbeats 4000000
namespace Xl
open PySem
open Builtin Builtin.ObjectAttr
/-! the second store: the dict is there -/
section
variable {prog : Program} {w : World} {A : Around} {E : Value → Shared → Prop} {h : Heap} {g : Array GenState} {d : Drawn} {t : Nat} {os : OsState}
variable {C N x dx : Addr} {mN mA : Str → Option Value} {name : Str} {v : Value} {o : Obj} {vs : Array Value} {ns : List Str}
theorem store_in2 {sa owner : String} (SF : StoreFacts "Exception" BM sa owner) {tk : Tok} {Q : Fin → Shared → Prop} (hX : XcAt h C N) (hn : h.Ns N mN) (hna : mN name = none) (hB : typeLookup (.type "Exception") name = pure none)
    (hx : h.get? x = some o) (hc : o.cls = .ref C) (hd : o.data = .fields vs) (hdx : o.dict = some dx) (hne : dx ≠ x) (hns : h.Ns1 dx mA) (hw : Within mA ns) (hsz : ns.length + 1 ≤ 100)
    (hq : ∀ h' tk', h'.Ns1 dx (fun y => if y = name then some v else mA y) → (∀ b ob, b ≠ dx → h.get? b = some ob → h'.get? b = some ob) → Q (.done (.ret .none)) ⟨h', g, d, tk', os⟩) :
    wpAny (model prog w) A (Builtin.«object.__setattr__» ⟨[.ref x, .str name tk, v], []⟩) Q E ⟨h, g, d, t, os⟩ := by
  obtain ⟨nm, q, bs, sn, sub, ab, col, dd, k0, k1, k2, k3, k5, hC⟩ := hX
  have pass := SF.passes (.ref x)
  have mro := SF.mro
  unfold Builtin.«object.__setattr__»
  repeat (first | rw [refuse_eq] | (rw [refuseLoop_ref, pass]) | (with_reducible refine wpAny_loadPart_at hx ?_; rw [hc]) | with_reducible refine wpAny_mroOf_exc hC ?_ | (with_reducible refine wpAny_typeLookup_exc hC hn mro hB ?_; rw [hna]) | wp_step)
  rw [hdx]
  refine wpAny_pure ?_
  show wpAny _ _ (storeInDict dx (.str name tk) name v) _ _ _
  unfold storeInDict; unfold newKeyGuard
  refine wpAny_bind (wpAny_pure (wpAny_bind (wpAny_nsSet1 hns fun h' hn' hs => ?_)))
  obtain ⟨oD, esD, epD, hoD, hdD, hcD⟩ := hn'.count (Within.cons name v hw)
  refine wpAny_bind (wpAny_lookBehind hoD (by rw [hdD]; exact pastItsLine_dict (Nat.le_trans hcD (by rw [List.length_cons, sizeLine_eq]; omega))) ?_)
  wp_walk
  exact hq h' _ hn' fun b ob hb q => (hs.2 b hb).trans q
theorem store_low2 {sa owner : String} (SF : StoreFacts "Exception" BM sa owner) {Q : Unit → Shared → Prop} (hX : XcAt h C N) (hn : h.Ns N mN) (hns : mN "__setattr__" = none) (hna : mN name = none) (hB : typeLookup (.type "Exception") name = pure none)
    (hx : h.get? x = some o) (hc : o.cls = .ref C) (hd : o.data = .fields vs) (hdx : o.dict = some dx) (hne : dx ≠ x) (hnx : h.Ns1 dx mA) (hw : Within mA ns) (hsz : ns.length + 1 ≤ 100)
    (hq : ∀ h' tk', h'.Ns1 dx (fun y => if y = name then some v else mA y) → (∀ b ob, b ≠ dx → h.get? b = some ob → h'.get? b = some ob) → Q () ⟨h', g, d, tk', os⟩) :
    wpAny (model prog w) A (setAttr (.ref x) name v) Q E ⟨h, g, d, t, os⟩ := by
  obtain ⟨nm, q, bs, sn, sub, ab, col, dd, k0, k1, k2, k3, k5, hC⟩ := id hX
  have f3 := SF.slot.bind (.ref x)
  have mro := SF.mro
  have lk := SF.slot.lookup
  unfold setAttr; unfold callSpecial?; unfold specialOf
  repeat (any_goals (first | assumption | (with_reducible refine wpAny_loadPart_at hx ?_; rw [hc]) | (with_reducible refine wpAny_typeLookup_exc hC hn mro lk ?_; rw [hns]) | wp_step))
  refine codeAny_call_builtin SF.slot.plain SF.entry (wpAny_check_sa SF hC hx hc (store_in2 SF hX hn hna hB hx hc hd hdx hne hnx hw hsz fun h' tk' a b => ?_))
  repeat (any_goals (first | assumption | wp_step))
  exact hq h' tk' a b
end
end Xl

end

section
set_option Elab.async false
set_option linter.all false
set_option maxRecDepth 100000
set_option maxHeartbeats 1000000
namespace L2
open PySem PySem.Spec PyProof.Rows Xl
/-! ### exceptions with attributes of their own -/
/-- just made; with its dict, not yet noted; noted, the traceback's head at T -/
def exc0 (C a : Addr) (h : Heap) : Prop := ∃ o vs, h.get? a = some o ∧ o.cls = .ref C ∧ o.dict = none ∧ o.data = .fields vs ∧ vs[1]? = some Value.none
def excN (C dx a : Addr) (h : Heap) : Prop := ∃ o vs, h.get? a = some o ∧ o.cls = .ref C ∧ o.dict = some dx ∧ o.data = .fields vs ∧ vs[1]? = some Value.none
def excT (C dx T a : Addr) (h : Heap) : Prop := ∃ o vs, h.get? a = some o ∧ o.cls = .ref C ∧ o.dict = some dx ∧ o.data = .fields vs ∧ vs[1]? = some (Value.ref T)
def tbO (T : Addr) (h : Heap) : Prop := Tbk h T
section
variable {P : Program} {w : World} {H : Hp} {h : Heap} {C dx T a : Addr}
theorem exc0_ok (x : exc0 C a h) : ObjOk P w H h a (.ext (exc0 C a)) := by
  obtain ⟨o, vs, e, r⟩ := id x
  exact ⟨x, ⟨o, e⟩, fun h1 h2 ⟨o', vs', e', r'⟩ k => ⟨o', vs', k _ e', r'⟩⟩
theorem excN_ok (x : excN C dx a h) : ObjOk P w H h a (.ext (excN C dx a)) := by
  obtain ⟨o, vs, e, r⟩ := id x
  exact ⟨x, ⟨o, e⟩, fun h1 h2 ⟨o', vs', e', r'⟩ k => ⟨o', vs', k _ e', r'⟩⟩
theorem excT_ok (x : excT C dx T a h) : ObjOk P w H h a (.ext (excT C dx T a)) := by
  obtain ⟨o, vs, e, r⟩ := id x
  exact ⟨x, ⟨o, e⟩, fun h1 h2 ⟨o', vs', e', r'⟩ k => ⟨o', vs', k _ e', r'⟩⟩
theorem tbO_ok (x : Tbk h T) : ObjOk P w H h T (.ext (tbO T)) := by
  obtain ⟨o, ts, e, r⟩ := id x
  exact ⟨x, ⟨o, e⟩, fun h1 h2 ⟨o', ts', e', r'⟩ k => ⟨o', ts', k _ e', r'⟩⟩
end
/-- the kinds of exceptions: a class, what its fields hold, the number that it is told by -/
abbrev XKd := Addr → List (Str × V) → Int → Prop
/-- an exception of the class at C with these fields flies -/
def FlyC (C : Addr) (fs : List (Str × V)) (H : Hp) (a : Addr) : Prop := ∃ dx, H dx = some (.xd fs) ∧ (H a = some (.ext (excN C dx a)) ∨ ∃ T, T ≠ a ∧ H a = some (.ext (excT C dx T a)) ∧ H T = some (.ext (tbO T)))
def Flies (Kd : XKd) (H : Hp) (a : Addr) (i : Int) : Prop := ∃ C fs, Kd C fs i ∧ FlyC C fs H a
/-- what is wanted where it is raised with i -/
abbrev Er (E : XK) (i : Int) : Prop := ∀ H, E (.int i 0) none H
def CXN (P : Program) (w : World) (C : XKd) : CXT := fun outer H s E e s' => ∃ a i H', e = .ref a ∧ Flies C H' a i ∧ s'.os = s.os ∧ AllBare s'.gens ∧ Un (frs outer) [] H H' s.heap s'.heap ∧ HOk P w H' s'.heap ∧ Er E i
section
variable {X : Cx} {pins : List (Addr × Obj)} {σ : St} {H : Hp} {s : Shared} {C a : Addr} {i : Int}
theorem HOk.none_of {P : Program} {w : World} {H : Hp} {h : Heap} (x : HOk P w H h) {a : Addr} (e : h.get? a = none) (no : ∀ o, ObjOk P w H h a o → ∃ u, h.get? a = some u) : H a = none := by
  cases q : H a with
  | none => rfl
  | some o => obtain ⟨u, z⟩ := no o (x a o q); rw [e] at z; cases z
theorem ObjOk.there {P : Program} {w : World} {H : Hp} {h : Heap} {a : Addr} : ∀ {o : HO}, ObjOk P w H h a o → ∃ u, h.get? a = some u
  | .lst _, x => let ⟨_, _, _, _, e⟩ := x; ⟨_, e⟩
  | .tup _, x => let ⟨_, _, _, o, e, _⟩ := x; ⟨o, e⟩
  | .dK _, x => let ⟨_, _, _, _, o, _, _, e, _⟩ := x; ⟨o, e⟩
  | .dT _, x => let ⟨_, _, _, _, o, _, _, e, _⟩ := x; ⟨o, e⟩
  | .set _ _, x => let ⟨o, _, _, _, e, _⟩ := x; ⟨o, e⟩
  | .ins _ _ _, x => let ⟨_, _, _, e, _⟩ := x; ⟨_, e⟩
  | .own _, x => x
  | .xd _, x => let ⟨_, ⟨o, _, _, e, _⟩, _⟩ := x; ⟨o, e⟩
  | .rng _ _, x => let ⟨_, _, _, e⟩ := x; ⟨_, e⟩
  | .frz o _, x => ⟨o, x.1⟩
  | .tbl _, x => ⟨_, x⟩
  | .met _ _, x => ⟨_, x⟩
  | .ext _, x => x.2.1
/-- an address where nothing stands is not tracked -/
theorem Inv.noAt (I : Inv X pins σ H s) {b : Addr} (e : s.heap.get? b = none) : H b = none := I.hok.none_of e fun _ x => x.there
/-- a new object laid at a free place -/
theorem Inv.laidAt {b : Addr} {o : HO} {t' : Nat} {h' : Heap} (I : Inv X pins σ H s) (k : ∀ b u, s.heap.get? b = some u → h'.get? b = some u) (hp : s.heap.get? b = none) (new : ObjOk X.prog X.w (upd H b o) h' b o) :
    Inv X pins σ (upd H b o) { s with heap := h', toks := t' } := by
  have hn := I.noAt hp
  have ne : ∀ c u, s.heap.get? c = some u → c ≠ b := fun c u q z => by rw [z, hp] at q; cases q
  refine I.un ⟨fun c u q _ _ _ => k c u q, fun c u q _ _ _ => ⟨u.slots, k c u q⟩, fun c u q n _ => by rw [upd_ne (ne c u q)]; exact n, fun c u q _ => ⟨u, k c u q⟩,
    fun c xs q => by rw [upd_ne (ne_of_none q hn)]; exact q, fun c u xs q => by rw [upd_ne (ne_of_none q hn)]; exact q, fun c ps q => ⟨#[], by rw [upd_ne (ne_of_none q hn), q]; simp⟩⟩ fun c u e => ?_
  by_cases hc : c = b
  · subst hc; rw [upd_same] at e; cases e; exact new
  · rw [upd_ne hc] at e
    exact (I.hok c u e).stay (fun d v _ q => k d v q) (fun d q => by rw [upd_ne (ne_of_none q hn)]; exact q) fun d xs q => by rw [upd_ne (ne_of_none q hn)]; exact q
/-- the heap behind the noting of the frame -/
theorem Inv.noted {h' : Heap} {T dx : Addr} {v1 : Value} {oe : Obj} {φ : Heap → Prop} (I : Inv X pins σ H s) (ha : H a = some (.ext φ)) (hv : v1 = .none ∨ ∃ U, v1 = .ref U ∧ U ≠ a ∧ H U = some (.ext (tbO U)))
    (L : Lft (frs X.stack) a T v1 oe s.heap h') (hx : excT C dx T a h') : Inv X pins σ (upd (upd H T (.ext (tbO T))) a (.ext (excT C dx T a))) { s with heap := h' } := by
  have hT : H T = none := I.hok.fresh L.new
  have aT : a ≠ T := ne_of_none ha hT
  have nU : ∀ b, H b = none → v1 ≠ .ref b := fun b n z => by
    rcases hv with e | ⟨U, e, _, q⟩
    · rw [e] at z; cases z
    · rw [e] at z; cases z; rw [n] at q; cases q
  have na : ∀ b, H b = none → b ≠ a := fun b n z => by rw [z, ha] at n; cases n
  have out : ∀ b u, b ≠ a → b ≠ T → H b = some u → (upd (upd H T (.ext (tbO T))) a (.ext (excT C dx T a))) b = some u := fun b u h1 h2 q => by rw [upd_ne h1, upd_ne h2]; exact q
  have dif : ∀ b u, H b = some u → (∀ ψ, u ≠ .ext ψ) → (upd (upd H T (.ext (tbO T))) a (.ext (excT C dx T a))) b = some u := fun b u q d =>
    out b u (ne_of q ha (d φ)) (ne_of_none q hT) q
  refine I.step (h' := h') (g' := s.gens) (d' := s.drawn) (t' := s.toks) (ch := []) (fun _ z => nomatch z) ?_ ?_ ?_ ?_ (fun b xs q => dif b _ q (fun ψ z => nomatch z)) (fun b o u q => dif b _ q (fun ψ z => nomatch z)) (fun b ps q => ⟨#[], by rw [dif b _ q (fun ψ z => nomatch z)]; simp⟩) ?_ ?_ I.bare
  · intro b o b1 b2 _ q n
    exact L.keep b o (na b n) (nU b n) (fun z => (List.mem_cons.mp (I.stkSub b z)).elim b1 b2) q
  · intro b o _ _ _ q n
    exact L.slot b o (na b n) (nU b n) q
  · intro b o _ q n
    rw [upd_ne (na b n), upd_ne (Nat.ne_of_lt (Nat.lt_of_lt_of_le (Heap.lt_size q) L.new))]
    exact n
  · intro b o _ q
    by_cases e1 : b = a
    · subst e1; obtain ⟨o', _, z, _⟩ := L.exc; exact ⟨o', z⟩
    · by_cases e2 : v1 = .ref b
      · obtain ⟨o', _, z, _⟩ := L.old b e2; exact ⟨o', z⟩
      · obtain ⟨sl, z⟩ := L.slot b o e1 e2 q; exact ⟨_, z⟩
  · rintro m ⟨o, es, ep, ho, r⟩
    obtain ⟨sl, z⟩ := L.slot _ o (na _ I.free) (nU _ I.free) ho
    exact ⟨_, es, ep, z, r⟩
  · intro b u q
    by_cases e1 : b = a
    · subst e1; rw [upd_same] at q; cases q; exact excT_ok hx
    · rw [upd_ne e1] at q
      by_cases e2 : b = T
      · subst e2; rw [upd_same] at q; cases q; exact tbO_ok L.tb
      · rw [upd_ne e2] at q
        by_cases e3 : v1 = .ref b
        · rcases hv with z | ⟨U, z, _, hU⟩
          · rw [z] at e3; cases e3
          · rw [z] at e3; cases e3
            rw [hU] at q; cases q
            exact tbO_ok (L.old _ z)
        · refine (I.hok b u q).stay (fun c v hc z => ?_) (fun c z => ?_) fun c xs z => dif c _ z (fun ψ z => nomatch z)
          · have hcs : ∃ uc, H c = some uc := hc.elim (fun z => ⟨u, by rw [z]; exact q⟩) fun z => ⟨_, z⟩
            obtain ⟨uc, huc⟩ := hcs
            refine L.keep c v ?_ ?_ (fun zf => ?_) z
            · rcases hc with z | z
              · rw [z]; exact e1
              · exact ne_of z ha (fun z => nomatch z)
            · rcases hc with z | z
              · rw [z]; exact e3
              · intro zz
                rcases hv with z1 | ⟨U, z1, _, hU⟩
                · rw [z1] at zz; cases zz
                · rw [z1] at zz; cases zz; rw [z] at hU; cases hU
            · have := I.stkFree c zf
              rw [huc] at this; cases this
          · exact dif c _ z (fun ψ z => nomatch z)
/-- the frame is noted (a frame is left, or a try looks) -/
theorem look_ok {A : Around} {Q : Unit → Shared → Prop} {E : Value → Shared → Prop} {M : Model} (I : Inv X pins σ H s) (hA : A.frames = some X.stack) (hst : X.stack = X.env :: X.outer) (hf : X.env.frame = some X.env.locals) {fs : List (Str × V)} (F : FlyC C fs H a)
    (h : ∀ s' H', Inv X pins σ H' s' → FlyC C fs H' a → Q () s') : wpAny M A (noteFrame (.ref a) X.env) (fun _ s2 => wpAny M A (setFlight (.ref a) none) Q E s2) E s := by
  obtain ⟨dx, hdx, F⟩ := F
  have hl := I.stack
  rw [hst] at hA hl
  have fin : ∀ (φ : Heap → Prop) (v1 : Value) (oe : Obj) (h' : Heap) (T : Addr), H a = some (.ext φ) → (v1 = .none ∨ ∃ U, v1 = .ref U ∧ U ≠ a ∧ H U = some (.ext (tbO U))) → oe.cls = .ref C → oe.dict = some dx → Lft ((X.env :: X.outer).filterMap (·.frame)) a T v1 oe s.heap h' → Q () { s with heap := h' } := by
    intro φ v1 oe h' T ha hv hc hd L
    have L' : Lft (frs X.stack) a T v1 oe s.heap h' := by rw [hst]; exact L
    have hx : excT C dx T a h' := by
      obtain ⟨o, vs, e, e1, e2, e3, e4⟩ := L.exc
      exact ⟨o, vs, e, e1.trans hc, e2.trans hd, e3, e4⟩
    have hT : H T = none := I.hok.fresh L.new
    refine h _ _ (I.noted ha hv L' hx) ⟨dx, ?_, .inr ⟨T, Ne.symm (ne_of_none ha hT), upd_same, ?_⟩⟩
    · rw [upd_ne (ne_of hdx ha (fun z => nomatch z)), upd_ne (ne_of_none hdx hT)]; exact hdx
    · rw [upd_ne (Ne.symm (ne_of_none ha hT)), upd_same]
  rcases F with ha | ⟨T, ne, ha, hT⟩
  · obtain ⟨o, vs, e, hc, hd, hv, h1⟩ := (I.hok a _ ha).1
    exact look_low hA hl hf e hv h1 (.inl rfl) fun h' T L => fin _ _ o h' T ha (.inl rfl) hc hd L
  · obtain ⟨o, vs, e, hc, hd, hv, h1⟩ := (I.hok a _ ha).1
    have tb : Tbk s.heap T := (I.hok T _ hT).1
    exact look_low hA hl hf e hv h1 (.inr ⟨T, rfl, ne, tb⟩) fun h' T' L => fin _ _ o h' T' ha (.inr ⟨T, rfl, ne, hT⟩) hc hd L
end
/-! ### where an exception may be thrown -/
def Throws (C : XKd) (X : Cx) (E : XK) : Prop := ∀ (pins : List (Addr × Obj)) (σ : St) (H : Hp) (s : Shared) (a : Addr) (i : Int), Inv X pins σ H s → Flies C H a i → Er E i → X.xe (.ref a) s
theorem Throws.passes {C : XKd} {X : Cx} {E : XK} (t : Throws C X E) : Passes (CXN X.prog X.w C) X E := by
  intro pins σ H s e s' I h
  obtain ⟨a, i, H', rfl, F, os, bare, un, hok, er⟩ := h
  exact t pins σ H' s' a i (I.call' (ch := []) os un hok bare (fun b z => nomatch z)) F er
/-- in the body of a def -/
theorem throws_fn {P : Program} {w : World} {K : PySem.W.Frag} {mg : Str → Option Value} {base : Heap} {N : List Str} {qual : Str} {scope : Scope} {f : Addr} {cd : Value} {A : Around} {outer : List Env} {s : Shared} {H : Hp} {E : XK} {C : XKd} :
    Throws C (cxOf (CXN P w C) P w K mg base N qual scope f cd A outer s H E) E := by
  intro pins σ H1 s1 a i I F er
  obtain ⟨C1, fs, kd, F⟩ := F
  show wpAny (model P w) _ (leaving _ (.ref a)) _ _ s1
  unfold leaving
  refine wpAny_bind (look_ok (X := cxOf (CXN P w C) P w K mg base N qual scope f cd A outer s H E) I I.ok.frames rfl rfl F fun s2 H2 I2 F2 => ?_)
  exact ⟨a, i, H2, rfl, ⟨C1, fs, kd, F2⟩, I2.os, I2.bare, I2.base, I2.hok, er⟩
theorem passes_fn {P : Program} {w : World} {K : PySem.W.Frag} {mg : Str → Option Value} {base : Heap} {N : List Str} {qual : Str} {scope : Scope} {f : Addr} {cd : Value} {A : Around} {outer : List Env} {s : Shared} {H : Hp} {E : XK} {C : XKd} :
    Passes (CXN P w C) (cxOf (CXN P w C) P w K mg base N qual scope f cd A outer s H E) E := throws_fn.passes
theorem owns_fn {P : Program} {w : World} {K : PySem.W.Frag} {mg : Str → Option Value} {base : Heap} {N : List Str} {qual : Str} {scope : Scope} {f : Addr} {cd : Value} {A : Around} {outer : List Env} {s : Shared} {H : Hp} {E : XK} {CX : CXT} :
    PassesOwn (model (cxOf CX P w K mg base N qual scope f cd A outer s H E).prog (cxOf CX P w K mg base N qual scope f cd A outer s H E).w) (cxOf CX P w K mg base N qual scope f cd A outer s H E).A (cxOf CX P w K mg base N qual scope f cd A outer s H E).env (cxOf CX P w K mg base N qual scope f cd A outer s H E).xe :=
  PassesOwn.leaving
/-- THE RULE for a def that may raise -/
theorem Fun.okX {P : Program} {w : World} {K : PySem.W.Frag} {mg : Str → Option Value} {base : Heap} {C : XKd} {x qual : Str} {st : Stmt} {f : Addr} {fd : FuncData} {N ps : List Str} {k : Nat} {sp : Sp} (F : Fun K x qual st f fd) (S : FnScope N ps (defScope st)) (len : ∀ vs H Q E, sp vs H Q E → vs.length = ps.length)
    (hbody : ∀ (cdv : Value) (A : Around) (outer : List Env) (s : Shared) (H : Hp) (vs : List V) (Q : VK) (E : XK), Room k (A.deeper (envOfC qual (defScope st) s.heap.objs.size f cdv)) → sp vs H Q E →
      ∃ t, PSs (cxOf (CXN P w C) P w K mg base N qual (defScope st) f cdv A outer s H E) (defBody st) t ∧ t { nx := fun _ H' => Q .non H', rt := Q } (start N vs) H) : FnOk P w K mg base (CXN P w C) (k + 1) f fd ps sp := by
  obtain ⟨oc, od, kV, doc, pm, an, cdv, ct, osl, rfl, lk, hcd⟩ := F.ex
  exact fn_of lk hcd S len fun A outer s H vs Q E hr hsp => hbody cdv A outer s H vs Q E hr hsp
/-! ### the class -/
structure XCls (K : PySem.W.Frag) (C N fI : Addr) (es : Array DictEntry) : Prop where
  obj : ∃ nm q bs sn sub ab col dd k0 k1 k2 k3 k5, K.lookup C = some (excClassObj nm q C N bs BM true sn sub ab col dd k0 k1 k2 k3 k5 "Exception.__new__")
  ns : ∃ oc od n sl, K.lookup N = some ⟨oc, od, .dict es n, sl⟩
  keys : (es.toList.all fun e => match e.key with | .str _ _ => true | _ => false) = true
  init : nsFind es "__init__" = some (.ref fI)
  sa : nsFind es "__setattr__" = none
  ga : nsFind es "__getattribute__" = none
  gg : nsFind es "__getattr__" = none
  fa : nsFind es "fault" = none
  re : nsFind es "refusal" = none
  fo : ∃ od dt sl, K.lookup fI = some ⟨.type "function", od, dt, sl⟩
  kp : PySem.W.keepIn K (.ref C) = true
theorem XCls.at {K : PySem.W.Frag} {C N fI : Addr} {es : Array DictEntry} (x : XCls K C N fI es) {h : Heap} (k : K.In h) : XcAt h C N := by
  obtain ⟨nm, q, bs, sn, sub, ab, col, dd, k0, k1, k2, k3, k5, e⟩ := x.obj
  exact ⟨nm, q, bs, sn, sub, ab, col, dd, k0, k1, k2, k3, k5, k _ _ e⟩
theorem XCls.nsAt {K : PySem.W.Frag} {C N fI : Addr} {es : Array DictEntry} (x : XCls K C N fI es) {h : Heap} (k : K.In h) : h.Ns N (nsFind es) := by
  obtain ⟨oc, od, n, sl, e⟩ := x.ns
  refine ⟨_, es, n, k _ _ e, rfl, fun d hd => ?_, fun _ => rfl⟩
  have := List.all_eq_true.mp x.keys d (by simpa using hd)
  cases q : d.key with
  | str a b => exact ⟨a, b, rfl⟩
  | _ => rw [q] at this; cases this
theorem lk_refusal : typeLookup (.type "Exception") "refusal" = pure none := by rw [typeLookup_type, builtinLookup_eq_fast]; kernel_rfl
theorem lk_fault : typeLookup (.type "Exception") "fault" = pure none := by rw [typeLookup_type, builtinLookup_eq_fast]; kernel_rfl
/-! ### its __init__: self.refusal = .., self.fault = fault -/
/-- a field's name that neither the class nor Exception knows -/
structure XFree (K : PySem.W.Frag) (C : Addr) (n : Str) : Prop where
  ex : ∃ N fI es, XCls K C N fI es ∧ nsFind es n = none
  lk : typeLookup (.type "Exception") n = pure none
theorem XCls.fault {K : PySem.W.Frag} {C N fI : Addr} {es : Array DictEntry} (x : XCls K C N fI es) : XFree K C "fault" := ⟨⟨N, fI, es, x, x.fa⟩, lk_fault⟩
theorem XCls.refusal {K : PySem.W.Frag} {C N fI : Addr} {es : Array DictEntry} (x : XCls K C N fI es) : XFree K C "refusal" := ⟨⟨N, fI, es, x, x.re⟩, lk_refusal⟩
/-- a dict of an exception that still grows -/
def xdO (n : Str) (v : V) (dx : Addr) (h : Heap) : Prop := ∃ u, RelV v u ∧ h.Ns1 dx (fun y => if y = n then some u else none)
section
variable {X : Cx} {pins : List (Addr × Obj)} {σ : St} {H : Hp} {s : Shared} {C N fI a : Addr} {es : Array DictEntry}
theorem xdO_ok {P : Program} {w : World} {h : Heap} {n : Str} {v : V} {dx : Addr} (x : xdO n v dx h) : ObjOk P w H h dx (.ext (xdO n v dx)) := by
  refine ⟨x, ?_, fun h1 h2 ⟨u, r, z⟩ k => ⟨u, r, z.at k⟩⟩
  obtain ⟨u, _, o, _, _, e, _⟩ := x
  exact ⟨o, e⟩
theorem setfst {A : Around} {E : Value → Shared → Prop} {n : Str} {y : V} {u : Value} {ob : Addr → HO} {Q : Unit → Shared → Prop} (I : Inv X pins σ H s) (x : XFree X.K C n) (ha : H a = some (.ext (exc0 C a)))
    (new : ∀ (H' : Hp) (h' : Heap) (dx : Addr), h'.Ns1 dx (fun z => if z = n then some u else none) → ObjOk X.prog X.w H' h' dx (ob dx))
    (h : ∀ dx s', H dx = none → Inv X pins σ (upd (upd H dx (ob dx)) a (.ext (excN C dx a))) s' → Q () s') : wpAny (model X.prog X.w) A (setAttr (.ref a) n u) Q E s := by
  obtain ⟨⟨N, fI, es, x, xf⟩, lk⟩ := x
  obtain ⟨o, vs, e, hc, hd, hv, h1⟩ := (I.hok a _ ha).1
  obtain ⟨hp, g, dr, tk, os⟩ := s
  refine store_low PySem.F.store_Exception (x.at I.kIn) (x.nsAt I.kIn) x.sa xf lk e hc hv hd fun h' tk' e1 e2 e3 => ?_
  have hdx : H hp.objs.size = none := I.hok.fresh (Nat.le_refl _)
  have nea : hp.objs.size ≠ a := Ne.symm (ne_of_none ha hdx)
  refine h hp.objs.size ⟨h', g, dr, tk', os⟩ hdx (I.un (s := ⟨hp, g, dr, tk, os⟩) (h' := h') (t' := tk') ⟨?_, ?_, ?_, ?_, ?_, ?_, ?_⟩ ?_)
  · intro b ob q n _ _
    exact e3 b ob (fun z => by rw [z, ha] at n; cases n) q
  · intro b ob q n _ _
    exact ⟨ob.slots, e3 b ob (fun z => by rw [z, ha] at n; cases n) q⟩
  · intro b ob q n _
    rw [upd_ne (fun z => by rw [z, ha] at n; cases n), upd_ne (Nat.ne_of_lt (Heap.lt_size q))]; exact n
  · intro b ob q _
    by_cases z : b = a
    · subst z; exact ⟨_, e1⟩
    · exact ⟨ob, e3 b ob z q⟩
  · intro b xs q
    rw [upd_ne (ne_of q ha (fun z => nomatch z)), upd_ne (ne_of_none q hdx)]; exact q
  · intro b ob u q
    rw [upd_ne (ne_of q ha (fun z => nomatch z)), upd_ne (ne_of_none q hdx)]; exact q
  · intro b ps q
    exact ⟨#[], by rw [upd_ne (ne_of q ha (fun z => nomatch z)), upd_ne (ne_of_none q hdx), q]; simp⟩
  · intro b ob' q
    by_cases z : b = a
    · subst z
      rw [upd_same] at q; cases q
      exact excN_ok ⟨_, vs, e1, hc, rfl, hv, h1⟩
    · rw [upd_ne z] at q
      by_cases y : b = hp.objs.size
      · subst y
        rw [upd_same] at q; cases q
        exact new _ h' _ e2
      · rw [upd_ne y] at q
        refine (I.hok b ob' q).stay (fun c v hcb w' => e3 c v (fun zz => ?_) w') (fun c w' => ?_) fun c xs w' => ?_
        · rcases hcb with w2 | w2
          · exact z (w2.symm.trans zz)
          · rw [zz, ha] at w2; cases w2
        · rw [upd_ne (ne_of w' ha (fun z => nomatch z)), upd_ne (ne_of_none w' hdx)]; exact w'
        · rw [upd_ne (ne_of w' ha (fun z => nomatch z)), upd_ne (ne_of_none w' hdx)]; exact w'
/-- the second field -/
theorem setsnd {A : Around} {E : Value → Shared → Prop} {n m : Str} {y z : V} {u : Value} {dx : Addr} {Q : Unit → Shared → Prop} (I : Inv X pins σ H s) (x : XFree X.K C n) (ha : H a = some (.ext (excN C dx a))) (hne : dx ≠ a) (hdx : H dx = some (.ext (xdO m z dx))) (hnm : n ≠ m) (ru : RelV y u)
    (h : ∀ s', Inv X pins σ (upd H dx (.xd [(m, z), (n, y)])) s' → Q () s') : wpAny (model X.prog X.w) A (setAttr (.ref a) n u) Q E s := by
  obtain ⟨⟨N, fI, es, x, xf⟩, lk⟩ := x
  obtain ⟨o, vs, e, hc, hd, hv, h1⟩ := (I.hok a _ ha).1
  obtain ⟨uz, rz, nsz⟩ := (I.hok dx _ hdx).1
  obtain ⟨hp, g, dr, tk, os⟩ := s
  refine store_low2 (ns := [m]) PySem.F.store_Exception (x.at I.kIn) (x.nsAt I.kIn) x.sa xf lk e hc hv hd hne nsz (Within.cons m uz Within.nil) (by show 2 ≤ 100; decide) fun h' tk' e2 e3 => ?_
  refine h ⟨h', g, dr, tk', os⟩ (I.un (s := ⟨hp, g, dr, tk, os⟩) (h' := h') (t' := tk') ⟨?_, ?_, ?_, ?_, ?_, ?_, ?_⟩ ?_)
  · intro b ob q n _ _
    exact e3 b ob (fun z => by rw [z, hdx] at n; cases n) q
  · intro b ob q n _ _
    exact ⟨ob.slots, e3 b ob (fun z => by rw [z, hdx] at n; cases n) q⟩
  · intro b ob q n _
    rw [upd_ne (fun z => by rw [z, hdx] at n; cases n)]; exact n
  · intro b ob q _
    by_cases z : b = dx
    · subst z
      obtain ⟨o', _, _, w', _⟩ := e2
      exact ⟨o', w'⟩
    · exact ⟨ob, e3 b ob z q⟩
  · intro b xs q
    rw [upd_ne (ne_of q hdx (fun z => nomatch z))]; exact q
  · intro b ob u q
    rw [upd_ne (ne_of q hdx (fun z => nomatch z))]; exact q
  · intro b ps q
    exact ⟨#[], by rw [upd_ne (ne_of q hdx (fun z => nomatch z)), q]; simp⟩
  · intro b ob' q
    by_cases w2 : b = dx
    · subst w2
      rw [upd_same] at q; cases q
      refine ⟨_, e2, fun f => ?_⟩
      by_cases z1 : f = n
      · subst z1
        rw [if_pos rfl, List.lookup_cons, beq_eq_false_iff_ne.mpr hnm, List.lookup_cons, beq_self_eq_true]
        exact ru
      · rw [if_neg z1]
        by_cases z2 : f = m
        · subst z2
          rw [if_pos rfl, List.lookup_cons, beq_self_eq_true]
          exact rz
        · rw [if_neg z2, List.lookup_cons, beq_eq_false_iff_ne.mpr z2, List.lookup_cons, beq_eq_false_iff_ne.mpr z1]
          exact True.intro
    · rw [upd_ne w2] at q
      refine (I.hok b ob' q).stay (fun c v hcb w' => e3 c v (fun zz => ?_) w') (fun c w' => ?_) fun c xs w' => ?_
      · rcases hcb with w3 | w3
        · exact w2 (w3.symm.trans zz)
        · rw [zz, hdx] at w3; cases w3
      · rw [upd_ne (ne_of w' hdx (fun z => nomatch z))]; exact w'
      · rw [upd_ne (ne_of w' hdx (fun z => nomatch z))]; exact w'
/-- e.fault, e.refusal read -/
theorem getxf {A : Around} {E : Value → Shared → Prop} {i : Int} {n : Str} {fs : List (Str × V)} {expr : Bool} {Q : Value → Shared → Prop} (I : Inv X pins σ H s) (x : XFree X.K C n) (F : FlyC C fs H a) (hf : fs.lookup n = some (.int i)) (h : ∀ u s', RelV (.int i) u → Inv X pins σ H s' → Q u s') :
    wpAny (model X.prog X.w) A (getAttr (.ref a) n expr) Q E s := by
  obtain ⟨⟨N, fI, es, x, xf⟩, lk⟩ := x
  obtain ⟨dx, hdx, F⟩ := F
  obtain ⟨mA, nsA, rA⟩ := I.hok dx _ hdx
  have r1 : RelO (some (V.int i)) (mA n) := by rw [← hf]; exact rA n
  obtain ⟨u, hu, ru⟩ := RelO.some_of r1
  have fin : ∃ o vs, s.heap.get? a = some o ∧ o.cls = .ref C ∧ o.dict = some dx ∧ o.data = .fields vs := by
    rcases F with ha | ⟨T, _, ha, _⟩
    · obtain ⟨o, vs, e, hc, hd, hv, _⟩ := (I.hok a _ ha).1
      exact ⟨o, vs, e, hc, hd, hv⟩
    · obtain ⟨o, vs, e, hc, hd, hv, _⟩ := (I.hok a _ ha).1
      exact ⟨o, vs, e, hc, hd, hv⟩
  obtain ⟨o, vs, e, hc, hd, hv⟩ := fin
  obtain ⟨hp, g, dr, tk, os⟩ := s
  refine load_low PySem.F.attrBase_Exception (x.at I.kIn) (x.nsAt I.kIn) x.ga x.gg xf lk e hc hv hd nsA hu ?_ (h u _ ru (I.tok (tk + 1)))
  obtain ⟨t, rfl⟩ := ru
  rfl
end
end L2

end

section
set_option Elab.async false
set_option linter.all false
set_option maxRecDepth 100000
set_option maxHeartbeats 1000000
namespace L2
open PySem PySem.Spec PyProof.Rows Xl
section
variable {X : Cx} {o e value : Expr} {es' : List Expr} {pos pos' p : Pos} {ta tv te : TE} {C N fI : Addr} {es : Array DictEntry} {E : XK} {n m : Str}
/-- the first field, in the exception's own __init__: ob says how the dict is told -/
def sFldX (C : Addr) (n : Str) (ta tv : TE) : TS := fun D σ H => tv σ H fun y H1 => ta σ H1 fun z H2 => ∃ a, z = .ref a ∧ H2 a = some (.ext (exc0 C a)) ∧ ∀ dx, H2 dx = none → D.nx σ (upd (upd H2 dx (.xd [(n, y)])) a (.ext (excN C dx a)))
theorem ps_fldX (x : XFree X.K C n) (ha : PE X o ta) (hv : PE X value tv) (hs : swapsWith value (some (.Attribute o n pos')) pos.line X.env = pure false) : PS X (.Assign [.Attribute o n pos'] value pos) (sFldX C n ta tv) := by
  intro pins s σ H D I h
  refine plainObj_wpAny_Assign_Attribute (thn (hv pins s σ H _ I h) fun u s1 ⟨y, H1, I1, ry, q⟩ => thn (ha pins s1 σ H1 _ I1 q) fun ov s2 ⟨z, H2, I2, rz, a, ez, ea, q2⟩ => ?_) hs
  subst ez
  obtain rfl : ov = Value.ref a := rz
  refine setfst (y := y) (ob := fun _ => .xd [(n, y)]) I2 x ea (fun H' h' dx e2 => ⟨_, e2, fun f => ?_⟩) fun dx s3 nn I3 => ⟨σ, _, I3, q2 dx nn⟩
  by_cases z : f = n
  · subst z; rw [if_pos rfl, List.lookup_cons, beq_self_eq_true]; exact ry
  · rw [if_neg z, List.lookup_cons, beq_eq_false_iff_ne.mpr z]; exact True.intro
def sFldX1 (C : Addr) (n : Str) (ta tv : TE) : TS := fun D σ H => tv σ H fun y H1 => ta σ H1 fun z H2 => ∃ a, z = .ref a ∧ H2 a = some (.ext (exc0 C a)) ∧ ∀ dx, H2 dx = none → D.nx σ (upd (upd H2 dx (.ext (xdO n y dx))) a (.ext (excN C dx a)))
theorem ps_fldX1 (x : XFree X.K C n) (ha : PE X o ta) (hv : PE X value tv) (hs : swapsWith value (some (.Attribute o n pos')) pos.line X.env = pure false) : PS X (.Assign [.Attribute o n pos'] value pos) (sFldX1 C n ta tv) := by
  intro pins s σ H D I h
  refine plainObj_wpAny_Assign_Attribute (thn (hv pins s σ H _ I h) fun u s1 ⟨y, H1, I1, ry, q⟩ => thn (ha pins s1 σ H1 _ I1 q) fun ov s2 ⟨z, H2, I2, rz, a, ez, ea, q2⟩ => ?_) hs
  subst ez
  obtain rfl : ov = Value.ref a := rz
  exact setfst (y := y) (ob := fun dx => .ext (xdO n y dx)) I2 x ea (fun H' h' dx e2 => xdO_ok ⟨u, ry, e2⟩) fun dx s3 nn I3 => ⟨σ, _, I3, q2 dx nn⟩
def sFldX2 (C : Addr) (m n : Str) (ta tv : TE) : TS := fun D σ H => tv σ H fun y H1 => ta σ H1 fun z H2 => ∃ a dx v, z = .ref a ∧ H2 a = some (.ext (excN C dx a)) ∧ dx ≠ a ∧ H2 dx = some (.ext (xdO m v dx)) ∧ D.nx σ (upd H2 dx (.xd [(m, v), (n, y)]))
theorem ps_fldX2 (x : XFree X.K C n) (hnm : n ≠ m) (ha : PE X o ta) (hv : PE X value tv) (hs : swapsWith value (some (.Attribute o n pos')) pos.line X.env = pure false) : PS X (.Assign [.Attribute o n pos'] value pos) (sFldX2 C m n ta tv) := by
  intro pins s σ H D I h
  refine plainObj_wpAny_Assign_Attribute (thn (hv pins s σ H _ I h) fun u s1 ⟨y, H1, I1, ry, q⟩ => thn (ha pins s1 σ H1 _ I1 q) fun ov s2 ⟨z, H2, I2, rz, a, dx, v, ez, ea, ne, ed, q2⟩ => ?_) hs
  subst ez
  obtain rfl : ov = Value.ref a := rz
  exact setsnd I2 x ea ne ed hnm ry fun s3 I3 => ⟨σ, _, I3, q2⟩
/-- e.fault, e.refusal, e an exception that was caught -/
def tXf (K : PySem.W.Frag) (n : Str) (ta : TE) : TE := fun σ H Q => ta σ H fun z H1 => ∃ a C fs i, z = .ref a ∧ FlyC C fs H1 a ∧ XFree K C n ∧ fs.lookup n = some (.int i) ∧ Q (.int i) H1
theorem pe_xf (K : PySem.W.Frag) (he : PE X e ta) (hb : attributeBase e n X.env (eval e X.env) = eval e X.env) (hK : X.K = K := by rfl) : PE X (.Attribute e n pos) (tXf K n ta) := by
  subst hK
  intro pins s σ H Q I h
  refine attr_of hb (thn (he pins s σ H _ I h) fun u s1 ⟨z, H1, I1, rz, a, C, fs, i, ez, F, x, hf, q⟩ => ?_)
  subst ez
  obtain rfl : u = Value.ref a := rz
  exact getxf I1 x F hf fun u' s2 ru I2 => ⟨.int i, H1, I2, ru, q⟩
/-- what __init__ promises: g tells the fields by what is handed in -/
def spXI (C : Addr) (g : List V → List (Str × V) → Prop) : Sp := fun vs H Q _ => ∃ a us fs, vs = .ref a :: us ∧ g us fs ∧ H a = some (.ext (exc0 C a)) ∧ ∀ dx, H dx = none → Q .non (upd (upd H dx (.xd fs)) a (.ext (excN C dx a)))
theorem run_makeX {pins : List (Addr × Obj)} {σ : St} {H : Hp} {s : Shared} {Q : VK} {us : List Value} {vs : List V} {fs : List (Str × V)} {k : Nat} {fd : FuncData} {ps : List Str} {g : List V → List (Str × V) → Prop} (x : XCls X.K C N fI es) (F : FnOk X.prog X.w X.K X.mg X.base CX0 k fI fd ps (spXI C g)) (hr : Room (k + 1) X.A) (hb : Binds X.K fd ps [])
    (I : Inv X pins σ H s) (r : Vals vs us) (hg : g vs fs) (hlen : vs.length ≤ 10) (hps : ps.length = vs.length + 1) (h : ∀ a dx, H a = none → H dx = none → dx ≠ a → Q (.ref a) (upd (upd H dx (.xd fs)) a (.ext (excN C dx a)))) :
    wpAny (model X.prog X.w) X.A (call (.ref C) us) (EP X pins σ Q) X.xe s := by
  obtain ⟨nm, q, bs, sn, sub, ab, col, dd, k0, k1, k2, k3, k5, hC⟩ := x.at I.kIn
  obtain ⟨od, dt, sl, hfo⟩ := x.fo
  obtain ⟨hp, gs, dr, tk, os⟩ := s
  refine wpAny_call_exc_init (rest := us) PySem.F.excBase_Exception hC (x.nsAt I.kIn) x.init (I.kIn _ _ hfo) rfl (fun h' a hm => ?_) (by rw [← r.length]; exact Nat.le_trans hlen (by decide))
  have hn : H a = none := I.noAt hm.new
  obtain ⟨t, he, _, _⟩ := hm.there
  have I2 : Inv X pins σ (upd H a (.ext (exc0 C a))) ⟨h', gs, dr, tk, os⟩ := I.laidAt (s := ⟨hp, gs, dr, tk, os⟩) (t' := tk) hm.keeps hm.new (exc0_ok ⟨_, _, he, rfl, rfl, rfl, rfl⟩)
  have hq : spXI C g (.ref a :: vs) (upd H a (.ext (exc0 C a))) (fun v H2 => v = .non ∧ Q (.ref a) H2) E0 := by
    refine ⟨a, vs, fs, rfl, hg, upd_same, fun dx hdx => ⟨rfl, ?_⟩⟩
    have ne : dx ≠ a := by intro z; rw [z, upd_same] at hdx; cases hdx
    have hdx' : H dx = none := by rw [upd_ne ne] at hdx; exact hdx
    have e1 : upd (upd (upd H a (.ext (exc0 C a))) dx (.xd fs)) a (.ext (excN C dx a)) = upd (upd H dx (.xd fs)) a (.ext (excN C dx a)) := by
      funext b
      by_cases z : b = a
      · subst z; rw [upd_same, upd_same]
      · rw [upd_ne z, upd_ne z]
        by_cases y : b = dx
        · subst y; rw [upd_same, upd_same]
        · rw [upd_ne y, upd_ne y, upd_ne z]
    rw [e1]
    exact h a dx hn hdx' ne
  have r2 : Vals (V.ref a :: vs) (Value.ref a :: us) := .cons rfl r
  refine wpAny_call (codeAny_mono (F.run _ X.stack _ _ ⟨Value.ref a :: us, []⟩ (Value.ref a :: us) _ _ E0 (hr.make C us []) (I2.env0.make C us []) ?bb r2 hq) fun r s' hq' => ?_)
  case bb =>
    have z := hb ⟨h', gs, dr, tk, os⟩ (Value.ref a :: us) I2.kIn (by rw [List.length_append, List.length_cons, ← r.length]; exact hps.symm)
    rw [List.append_nil] at z
    exact z
  cases r with
  | error e => exact False.elim hq'
  | ok fl =>
    cases fl with
    | ret v =>
      obtain ⟨v', H', I3, rv, ev, q3⟩ := I2.after hq'
      subst ev
      exact ⟨rv, ⟨V.ref a, H', I3, rfl, q3⟩⟩
    | next => exact False.elim hq'
    | brk => exact False.elim hq'
    | cont => exact False.elim hq'
def tMakeX (C : Addr) (k : Nat) (g : List V → List (Str × V) → Prop) (t : TA) : TE := fun σ H Q => t σ H fun vs H1 => ∃ fs, g vs fs ∧ vs.length = k ∧ ∀ a dx, H1 a = none → H1 dx = none → dx ≠ a → Q (.ref a) (upd (upd H1 dx (.xd fs)) a (.ext (excN C dx a)))
theorem pe_makeX {x : Str} {k : Nat} {fd : FuncData} {t : TA} {g : List V → List (Str × V) → Prop} (xc : XCls X.K C N fI es) (F : FnOk X.prog X.w X.K X.mg X.base CX0 k fI fd ["self", n] (spXI C g)) (hr : Room (k + 1) X.A) (hb : Binds X.K fd ["self", n] []) (hg : Gl X x) (hm : X.mg x = some (.ref C))
    (ha : PA X [e] t) (hdb : (x == ("__debug__" : Str)) = false := by decide) (hs : starEach [e] X.env = [(false, eval e X.env)] := by rfl) : PE X (.Call (.Name x p) [e] [] pos) (tMakeX C 1 g t) := by
  intro pins s σ H Q I h
  refine wpAny_Call_Name_kw (ld_glob I hg hm ?_ hdb)
  refine PySem.W.callWith_K (h₀ := X.base) I.ok.mod.kin xc.kp (thn (ha pos pins s σ H _ I h) fun us s1 ⟨vs, H1, I1, r, fs, g1, l1, q⟩ => ⟨I1.kIn, ?_⟩) hs rfl
  exact run_makeX xc F hr hb I1 r g1 (by rw [l1]; decide) (by rw [l1]; rfl) q
theorem pe_makeX0 {x : Str} {k : Nat} {fd : FuncData} {g : List V → List (Str × V) → Prop} (xc : XCls X.K C N fI es) (F : FnOk X.prog X.w X.K X.mg X.base CX0 k fI fd ["self"] (spXI C g)) (hr : Room (k + 1) X.A) (hb : Binds X.K fd ["self"] []) (hg : Gl X x) (hm : X.mg x = some (.ref C))
    (hdb : (x == ("__debug__" : Str)) = false := by decide) : PE X (.Call (.Name x p) [] [] pos) (tMakeX C 0 g tNil) := by
  intro pins s σ H Q I h
  obtain ⟨fs, g1, _, q⟩ := h
  refine wpAny_Call_Name_kw (ld_glob I hg hm ?_ hdb)
  exact PySem.W.callWith_K0 I.kIn xc.kp (run_makeX (us := []) (vs := []) xc F hr hb I .nil g1 (by decide) rfl q)
/-- raise e, e an exception just made -/
def tRaise (K : PySem.W.Frag) (Kd : XKd) (E : XK) (te : TE) : TS := fun _ σ H => te σ H fun v H1 => ∃ a C dx i fs, v = .ref a ∧ (∃ N fI es, XCls K C N fI es) ∧ Kd C fs i ∧ H1 dx = some (.xd fs) ∧ H1 a = some (.ext (excN C dx a)) ∧ Er E i
theorem ps_raise {Kd : XKd} (t : Throws Kd X E) (hc : X.calm = true) (he : PE X e te) : PS X (.Raise (some e) none pos) (tRaise X.K Kd E te) := by
  intro pins s σ H D I h
  rw [arm_exec_Raise]
  refine wpAny_bind (wpAny_standAt ?_)
  show wpAny _ _ (raiseStmt X.env (some (do let v ← eval e X.env; standAt pos; pure v)) none) _ _ s
  refine raise_lowE (I.ok.hd hc) (wpAny_bind (thn (he pins s σ H _ I h) fun v s1 ⟨z, H1, I1, rz, a, C, dx, i, fs, ez, ⟨N, fI, es, xc⟩, kd, hdx, ha, er⟩ => wpAny_bind (wpAny_standAt (wpAny_pure ?_))))
  subst ez
  obtain rfl : v = Value.ref a := rz
  obtain ⟨o, vs, e1, hc', hd, hv, h1⟩ := (I1.hok a _ ha).1
  exact ⟨C, N, a, o, vs, rfl, xc.at I1.kIn, e1, hc', hv, h1, t pins σ H1 s1 a i I1 ⟨C, fs, kd, dx, hdx, .inl ha⟩ er⟩
end
/-! ### a body at the top of a def: no pins -/
def PS0 (X : Cx) (st : Stmt) (t : TS) : Prop := ∀ (s : Shared) (σ : St) (H : Hp) (D : Ends), Inv X [] σ H s → t D σ H → wpAny (model X.prog X.w) X.A (exec st X.env) (SP X [] D) X.xe s
def PSs0 (X : Cx) (st : List Stmt) (t : TS) : Prop := ∀ (s : Shared) (σ : St) (H : Hp) (D : Ends), Inv X [] σ H s → t D σ H → wpAny (model X.prog X.w) X.A (execs st X.env) (SP X [] D) X.xe s
section
variable {X : Cx} {st : Stmt} {rest : List Stmt} {t u : TS}
theorem PS.zero (h : PS X st t) : PS0 X st t := h []
theorem PSs.zero (h : PSs X rest t) : PSs0 X rest t := h []
theorem pss0_cons (h1 : PS0 X st t) (h2 : PSs0 X rest u) : PSs0 X (st :: rest) (tSeq t u) := by
  intro s σ H D I h
  refine wpAny_execs_cons (thn (h1 s σ H { D with nx := u D } I h) fun f s1 q => ?_)
  cases f with
  | next =>
    obtain ⟨σ', H', I', q⟩ := q
    exact h2 s1 σ' H' D I' q
  | ret v => exact q
  | brk => exact q
  | cont => exact q
theorem pss0_one (h1 : PS0 X st t) : PSs0 X [st] t := by
  intro s σ H D I h
  refine wpAny_execs_cons (thn (h1 s σ H D I h) fun f s1 q => ?_)
  cases f with
  | next => exact wpAny_execs_nil q
  | ret v => exact q
  | brk => exact q
  | cont => exact q
end
theorem fn_of0 {CX : CXT} {P : Program} {w : World} {K : PySem.W.Frag} {mg : Str → Option Value} {base : Heap} {k : Nat} {f : Addr} {name qual : Str} {params : Arguments} {body : List Stmt} {scope : Scope} {dV kV doc pm cdv ct oc : Value} {an od : Option Addr}
    {osl : Array (Option Value)} {N ps : List Str} {sp : Sp} (lk : K.lookup f = some ⟨oc, od, .func (PySem.W.fnOf name qual params body scope dV kV doc pm an cdv ct), osl⟩) (hcd : PySem.W.codeIn K cdv qual = true) (S : FnScope N ps scope)
    (len : ∀ vs H Q E, sp vs H Q E → vs.length = ps.length)
    (hbody : ∀ (A : Around) (outer : List Env) (s : Shared) (H : Hp) (vs : List V) (Q : VK) (E : XK), Room k (A.deeper (envOfC qual scope s.heap.objs.size f cdv)) → sp vs H Q E →
      ∃ t, PSs0 (cxOf CX P w K mg base N qual scope f cdv A outer s H E) body t ∧ t { nx := fun _ H' => Q .non H', rt := Q } (start N vs) H) :
    FnOk P w K mg base CX (k + 1) f (PySem.W.fnOf name qual params body scope dV kV doc pm an cdv ct) ps sp := by
  refine ⟨len, fun A outer s H args us vs Q E hr e0 hb r hsp => ?_⟩
  have hl := len _ _ _ _ hsp
  have KX : K.In s.heap := e0.mod.kin.keeps fun b o e => (e0.bs b o e).1
  have lim : s.heap.NoLimit := e0.mod.nolimit.keeps fun b o e => (e0.bs b o e).1
  have hkind : ∀ y ∈ ps.zip us, scope.names.lookup y.1 = some .local ∨ (scope.names.lookup y.1 = some .cell ∧ ((cellsFrom (s.heap.objs.size + 1) scope.names []).lookup y.1).isSome = true) := fun ⟨n, v⟩ hy => by
    rcases S.par n (List.of_mem_zip hy).1 with q | q
    · exact .inl q
    · exact .inr ⟨q, PySem.W.cellsFrom_some _ _ _ (.inl q)⟩
  refine codeAny_call_function hr.depth (KX _ _ lk) rfl S.co S.gen rfl (PySem.W.codeRec_of KX hcd) (hb _ _ _ _ ?_)
  refine wpAny_newFunctionEnv_cells S.kind hkind fun env he s1 x => ?_
  subst he
  refine ⟨lim.keeps x.toInCall.keep, codeAny_func ?_⟩
  obtain ⟨t, ht, hq⟩ := hbody A outer s H vs Q E (hr.deeper _) hsp
  have I : Inv (cxOf CX P w K mg base N qual scope f cdv A outer s H E) [] (start N vs) H s1 := inv_start S hr.hd e0 hl r x
  refine wpAny_mono (ht s1 (start N vs) H _ I hq) (fun fl s' hs => ?_) fun e s' hs => hs
  have fin : ∀ {σ' : St} {H' : Hp} {v : V} {u : Value}, Inv (cxOf CX P w K mg base N qual scope f cdv A outer s H E) [] σ' H' s' → RelV v u → Q v H' → CE outer P w H s Q u s' :=
    fun {σ' H' v u} J rv q => ⟨v, H', J.os, J.bare, J.base, J.hok, rv, q⟩
  cases fl with
  | ret u =>
    obtain ⟨v, σ', H', J, rv, q⟩ := hs
    exact fin J rv q
  | next =>
    obtain ⟨σ', H', J, q⟩ := hs
    exact fin (v := V.non) (u := Value.none) J rfl q
  | brk =>
    obtain ⟨_, _, _, q⟩ := hs
    exact False.elim q
  | cont =>
    obtain ⟨_, _, _, q⟩ := hs
    exact False.elim q
/-- THE RULE for a def that catches and raises nothing -/
theorem Fun.ok0 {P : Program} {w : World} {K : PySem.W.Frag} {mg : Str → Option Value} {base : Heap} {x qual : Str} {st : Stmt} {f : Addr} {fd : FuncData} {N ps : List Str} {k : Nat} {sp : Sp} (F : Fun K x qual st f fd) (S : FnScope N ps (defScope st)) (len : ∀ vs H Q E, sp vs H Q E → vs.length = ps.length)
    (hbody : ∀ (cdv : Value) (A : Around) (outer : List Env) (s : Shared) (H : Hp) (vs : List V) (Q : VK) (E : XK), Room k (A.deeper (envOfC qual (defScope st) s.heap.objs.size f cdv)) → sp vs H Q E →
      ∃ t, PSs0 (cxOf CX0 P w K mg base N qual (defScope st) f cdv A outer s H E).nox (defBody st) t ∧ t { nx := fun _ H' => Q .non H', rt := Q } (start N vs) H) : FnOk P w K mg base CX0 (k + 1) f fd ps sp := by
  obtain ⟨oc, od, kV, doc, pm, an, cdv, ct, osl, rfl, lk, hcd⟩ := F.ex
  refine fn_of0 lk hcd S len fun A outer s H vs Q E hr hsp => ?_
  obtain ⟨t, h, q⟩ := hbody cdv A outer s H vs Q E hr hsp
  exact ⟨t, fun s σ H D I hw => wpAny_mono (h s σ H D (I.wish _) hw) (fun _ _ q => q.unwish) fun _ _ z => False.elim z, q⟩
/-! ### try .. except .. as e: .. that returns -/
/-- what is wanted of an exception within a try -/
def Wt (X : Cx) (Kd : XKd) (E : XK) (e : Value) (s : Shared) : Prop := ∃ pins σ H a i, e = .ref a ∧ Inv X pins σ H s ∧ Flies Kd H a i ∧ Er E i
theorem throws_try {X : Cx} {Kd : XKd} {E : XK} : Throws Kd (X.wish (Wt X Kd E)) E := fun pins σ H s a i I F er => ⟨pins, σ, H, a, i, rfl, I.unwish, F, er⟩
/-- within the except suite -/
abbrev Cx.inx (X : Cx) (a : Addr) : Cx := { X with A := X.A.mark (some (.ref a)), calm := false, xe := fun _ _ => False }
theorem Inv.inx {X : Cx} {pins : List (Addr × Obj)} {σ : St} {H : Hp} {s : Shared} (I : Inv X pins σ H s) (a : Addr) : Inv (X.inx a) pins σ H s :=
  ⟨⟨I.ok.mod, I.ok.kind, I.ok.glob, I.ok.blt, I.ok.above, I.ok.inj, I.ok.has, I.ok.cab, (fun z => nomatch z), I.ok.frames, I.ok.stk, I.ok.exf, I.ok.bs, I.ok.bsz, I.ok.noex, I.ok.exfs, I.ok.funs, I.ok.frf⟩, I.os, I.bare, I.base, I.loc, I.cell, I.free, I.freeC, I.pin, I.hok, I.len⟩
theorem Inv.outx {X : Cx} {pins : List (Addr × Obj)} {σ : St} {H : Hp} {s : Shared} {a : Addr} (I : Inv (X.inx a) pins σ H s) (ok : X.Ok) : Inv X pins σ H s :=
  ⟨ok, I.os, I.bare, I.base, I.loc, I.cell, I.free, I.freeC, I.pin, I.hok, I.len⟩
theorem Inv.nopins {X : Cx} {pins : List (Addr × Obj)} {σ : St} {H : Hp} {s : Shared} (I : Inv X pins σ H s) : Inv X [] σ H s := I.pins_of fun _ z => nomatch z
theorem land_ok {X : Cx} {pins : List (Addr × Obj)} {σ : St} {H : Hp} {s : Shared} {C a : Addr} {fs : List (Str × V)} {M : Model} {A : Around} {Q : Unit → Shared → Prop} {E : Value → Shared → Prop} (I : Inv X pins σ H s) (F : FlyC C fs H a) (h : Q () s) : wpAny M A (setFlight (.ref a) none) Q E s := by
  obtain ⟨dx, _, F⟩ := F
  unfold setFlight
  rcases F with ha | ⟨T, _, ha, hT⟩
  · obtain ⟨o, vs, e, hc, hd, hv, h1⟩ := (I.hok a _ ha).1
    refine wpAny_bind (wpAny_field e hv h1 ?_)
    rw [if_neg (by decide)]
    exact wpAny_pure h
  · obtain ⟨o, vs, e, hc, hd, hv, h1⟩ := (I.hok a _ ha).1
    obtain ⟨oT, ts, eT, dT, t3⟩ : Tbk s.heap T := (I.hok T _ hT).1
    refine wpAny_bind (wpAny_field e hv h1 ?_)
    rw [if_pos (show (Value.ref T != Value.none) = true from by simp)]
    refine wpAny_setField eT dT (Array.getElem?_eq_some_iff.mp t3).1 ?_
    have q : s.heap.update T (Obj.mapFields (·.setIfInBounds 3 ((none : Option Addr).elim Value.none fun f => rawInt f))) = s.heap := Heap.update_setField_same s.heap T oT ts 3 Value.none eT dT t3
    rw [q]
    exact h
/-- the caught exception's name goes: nothing is known of the names any more -/
theorem Inv.unnamed {X : Cx} {σ : St} {H : Hp} {s : Shared} {h' : Heap} {m' : Str → Option Value} {t' : Nat} (I : Inv X [] σ H s) (hn : h'.Ns X.env.locals m') (hs : Heap.SameBut X.env.locals s.heap h') :
    Inv X [] (List.replicate σ.length none) H { s with heap := h', toks := t' } := by
  have ne : ∀ b o, X.s_0.heap.get? b = some o → b ≠ X.env.locals := fun b o e => Nat.ne_of_lt (Nat.lt_of_lt_of_le (Heap.lt_size e) I.ok.above)
  refine ⟨I.ok, I.os, I.bare, ⟨fun b o e n hb hx => (hs.2 b (ne b o e)).trans (I.base.keep b o e n hb hx), fun b o e n hb hx => ?_, I.base.free, fun b o e hx => ?_, I.base.tups, I.base.frzs, I.base.tbls⟩, ⟨m', hn, fun j y v e1 e2 _ => ?_⟩, fun y c e => ?_, I.free, I.freeC, fun p hp => ?_, fun b u e => ?_, by rw [List.length_replicate]; exact I.len⟩
  · obtain ⟨sl, z⟩ := I.base.slot b o e n hb hx
    exact ⟨sl, (hs.2 b (ne b o e)).trans z⟩
  · obtain ⟨o', z⟩ := I.base.there b o e hx
    exact ⟨o', (hs.2 b (ne b o e)).trans z⟩
  · rw [List.getElem?_replicate] at e2
    split at e2 <;> cases e2
  · obtain ⟨v, z⟩ := I.cell y c e
    exact ⟨v, z.sameBut hs (I.cne y c e)⟩
  · obtain ⟨e, n, nl, nf, d⟩ := I.pin p hp
    exact ⟨(hs.2 p.1 nl).trans e, n, nl, nf, d⟩
  · refine (I.hok b u e).stay (fun c v hc q => (hs.2 c fun z => ?_).trans q) (fun _ q => q) fun _ _ q => q
    rcases hc with w' | w'
    · rw [← w', z, I.free] at e; cases e
    · rw [z, I.free] at w'; cases w'
theorem FlyC.same {C a : Addr} {fs : List (Str × V)} {H H' : Hp} (F : FlyC C fs H a) (s : Same H H') : FlyC C fs H' a := by
  obtain ⟨dx, hdx, F⟩ := F
  refine ⟨dx, s _ _ hdx, ?_⟩
  rcases F with ha | ⟨T, ne, ha, hT⟩
  · exact .inl (s _ _ ha)
  · exact .inr ⟨T, ne, s _ _ ha, s _ _ hT⟩
/-- an except clause's test: the classes cs -/
def HTest (X : Cx) (t : Expr) (cs : List Addr) : Prop := ∀ {σ : St} {H : Hp} {s : Shared} {a C : Addr} {b : Bool} {Q : Bool → Shared → Prop} {E : Value → Shared → Prop}, Inv X [] σ H s → (∃ o, s.heap.get? a = some o ∧ o.cls = .ref C) → PySem.W.exmAny X.K (.ref C) (cs.map Value.ref) = some b →
  (∀ s' H', Inv X [] σ H' s' → Same H H' → Q b s') → wpAny (model X.prog X.w) X.A (eval t X.env) (fun c s1 => wpAny (model X.prog X.w) X.A (excMatches (.ref a) c) Q E s1) E s
section
variable {X : Cx} {x1 x2 x3 x4 : Str} {C1 C2 C3 C4 : Addr} {p p1 p2 p3 p4 : Pos} {kk : Nat}
theorem typ_at {M : Model} {h : Heap} {a C : Addr} (z : ∃ o, h.get? a = some o ∧ o.cls = .ref C) : PySem.W.Looks M h (typeOf (.ref a)) (.ref C) := by
  obtain ⟨o, e, c⟩ := z
  have q : PySem.W.Looks M h (typeOf (.ref a)) o.cls := (PySem.W.Looks.ld e).andThen .now
  rw [c] at q
  exact q
theorem tup_laid {σ : St} {H : Hp} {s : Shared} {cs : List Addr} (I : Inv X [] σ H s) (hl : cs.length ≤ 10) :
    Inv X [] σ (upd H s.heap.objs.size (.tup (cs.map V.ref))) { s with heap := s.heap.push { cls := .type "tuple", data := .seq (cs.map Value.ref).toArray } } := by
  refine I.laid (t' := s.toks) (fun b u e => Heap.get?_push_of_some _ e) (Nat.le_refl _) ⟨by rw [List.length_map]; exact Nat.le_trans hl (by decide), cs.map Value.ref, ?_, ⟨_, Heap.get?_push_size _ rfl, rfl, _, rfl⟩⟩
  clear hl I
  induction cs with
  | nil => exact .nil
  | cons c r ih => exact .cons rfl ih
theorem ht_one (hg : Gl X x1) (hm : X.mg x1 = some (.ref C1)) (hd : (x1 == ("__debug__" : Str)) = false := by decide) : HTest X (.Name x1 p1) [C1] := by
  intro σ H s a C b Q E I ha hx q
  obtain ⟨b1, d1, e1, y1, z1⟩ := PySem.W.exmAny_cons hx
  have w1 : some false = some d1 := y1
  cases w1
  rw [Bool.or_false] at z1
  subst z1
  exact ld_glob I hg hm ((PySem.W.exm_one I.kIn (typ_at ha) e1).here (q s H I (Same.refl H))) hd
theorem ht_two (hg1 : Gl X x1) (hm1 : X.mg x1 = some (.ref C1)) (hg2 : Gl X x2) (hm2 : X.mg x2 = some (.ref C2)) (hd1 : (x1 == ("__debug__" : Str)) = false := by decide) (hd2 : (x2 == ("__debug__" : Str)) = false := by decide) : HTest X (.Tuple [.Name x1 p1, .Name x2 p2] kk p) [C1, C2] := by
  intro σ H s a C b Q E I ha hx q
  refine wpAny_Tuple (wpAny_items_cons (ld_glob I hg1 hm1 (wpAny_items_cons (ld_glob I hg2 hm2 (wpAny_items_nil ⟨by size_fits, ?_⟩) hd2)) hd1))
  have kp : ∀ q o, s.heap.get? q = some o → (s.heap.push { cls := .type "tuple", data := .seq [Value.ref C1, .ref C2].toArray }).get? q = some o := fun _ _ z => Heap.get?_push_of_some _ z
  have I2 := tup_laid (cs := [C1, C2]) I (by show 2 ≤ 10; decide)
  exact (PySem.W.exm_tup2 (I.kIn.keeps kp) ((typ_at ha).keeps kp) (Heap.get?_push_size s.heap rfl) hx).here (q _ _ I2 (fun c u e => by rw [upd_ne (ne_of_none e (I.hok.fresh (Nat.le_refl _)))]; exact e))
theorem ht_three (hg1 : Gl X x1) (hm1 : X.mg x1 = some (.ref C1)) (hg2 : Gl X x2) (hm2 : X.mg x2 = some (.ref C2)) (hg3 : Gl X x3) (hm3 : X.mg x3 = some (.ref C3)) (hd1 : (x1 == ("__debug__" : Str)) = false := by decide) (hd2 : (x2 == ("__debug__" : Str)) = false := by decide) (hd3 : (x3 == ("__debug__" : Str)) = false := by decide) : HTest X (.Tuple [.Name x1 p1, .Name x2 p2, .Name x3 p3] kk p) [C1, C2, C3] := by
  intro σ H s a C b Q E I ha hx q
  refine wpAny_Tuple (wpAny_items_cons (ld_glob I hg1 hm1 (wpAny_items_cons (ld_glob I hg2 hm2 (wpAny_items_cons (ld_glob I hg3 hm3 (wpAny_items_nil ⟨by size_fits, ?_⟩) hd3)) hd2)) hd1))
  have kp : ∀ q o, s.heap.get? q = some o → (s.heap.push { cls := .type "tuple", data := .seq [Value.ref C1, .ref C2, .ref C3].toArray }).get? q = some o := fun _ _ z => Heap.get?_push_of_some _ z
  have I2 := tup_laid (cs := [C1, C2, C3]) I (by show 3 ≤ 10; decide)
  exact (PySem.W.exm_tup3 (I.kIn.keeps kp) ((typ_at ha).keeps kp) (Heap.get?_push_size s.heap rfl) hx).here (q _ _ I2 (fun c u e => by rw [upd_ne (ne_of_none e (I.hok.fresh (Nat.le_refl _)))]; exact e))
theorem ht_four (hg1 : Gl X x1) (hm1 : X.mg x1 = some (.ref C1)) (hg2 : Gl X x2) (hm2 : X.mg x2 = some (.ref C2)) (hg3 : Gl X x3) (hm3 : X.mg x3 = some (.ref C3)) (hg4 : Gl X x4) (hm4 : X.mg x4 = some (.ref C4)) (hd1 : (x1 == ("__debug__" : Str)) = false := by decide) (hd2 : (x2 == ("__debug__" : Str)) = false := by decide) (hd3 : (x3 == ("__debug__" : Str)) = false := by decide) (hd4 : (x4 == ("__debug__" : Str)) = false := by decide) : HTest X (.Tuple [.Name x1 p1, .Name x2 p2, .Name x3 p3, .Name x4 p4] kk p) [C1, C2, C3, C4] := by
  intro σ H s a C b Q E I ha hx q
  refine wpAny_Tuple (wpAny_items_cons (ld_glob I hg1 hm1 (wpAny_items_cons (ld_glob I hg2 hm2 (wpAny_items_cons (ld_glob I hg3 hm3 (wpAny_items_cons (ld_glob I hg4 hm4 (wpAny_items_nil ⟨by size_fits, ?_⟩) hd4)) hd3)) hd2)) hd1))
  have kp : ∀ q o, s.heap.get? q = some o → (s.heap.push { cls := .type "tuple", data := .seq [Value.ref C1, .ref C2, .ref C3, .ref C4].toArray }).get? q = some o := fun _ _ z => Heap.get?_push_of_some _ z
  have I2 := tup_laid (cs := [C1, C2, C3, C4]) I (by show 4 ≤ 10; decide)
  exact (PySem.W.exm_tup4 (I.kIn.keeps kp) ((typ_at ha).keeps kp) (Heap.get?_push_size s.heap rfl) hx).here (q _ _ I2 (fun c u e => by rw [upd_ne (ne_of_none e (I.hok.fresh (Nat.le_refl _)))]; exact e))
end
/-- the except clauses -/
abbrev THd := Addr → List (Str × V) → Addr → TS
def PH (X : Cx) (hs : List ExceptHandler) (th : THd) : Prop := ∀ (s : Shared) (σ : St) (H : Hp) (D : Ends) (a C : Addr) (fs : List (Str × V)), Inv X [] σ H s → FlyC C fs H a → th C fs a D σ H → wpAny (model X.prog X.w) X.A (handleBy (.ref a) X.env hs) (SP X [] D) X.xe s
section
variable {X : Cx} {E : XK} {body suite : List Stmt} {b0 : Stmt} {n : Str} {t : Expr} {hpos pos : Pos} {tb : TS} {cs : List Addr} {h0 : ExceptHandler} {hs : List ExceptHandler} {th : THd}
theorem ph_nil : PH X [] (fun _ _ _ _ _ _ => False) := fun _ _ _ _ _ _ _ _ _ z => False.elim z
def hAs (K : PySem.W.Frag) (cs : List Addr) (j : Nat) (ts : TS) (tr : THd) : THd := fun C fs a D σ H => ∃ b, PySem.W.exmAny K (.ref C) (cs.map Value.ref) = some b ∧ ∀ H', Same H H' → FlyC C fs H' a → if b = true then ts { nx := fun _ _ => False, rt := D.rt } (σ.set j (some (.ref a))) H' else tr C fs a D σ H'
theorem ph_as {j : Nat} {ts : TS} {tr : THd} (ht : ∀ a, HTest (X.inx a) t cs) (hN : X.N.Nodup) (hj : X.N[j]? = some n) (hk : X.env.scope.names.lookup n = some .local) (hsu : ∀ a, PSs0 (X.inx a) (b0 :: suite) ts) (hr : PH X hs tr) :
    PH X (.ExceptHandler (some t) (some n) (b0 :: suite) hpos :: hs) (hAs X.K cs j ts tr) := by
  intro s σ H D a C fs I F h
  obtain ⟨b, hx, h⟩ := h
  have hoa : ∃ o, s.heap.get? a = some o ∧ o.cls = .ref C := by
    obtain ⟨dx, _, F3⟩ := F
    rcases F3 with ha | ⟨T, _, ha, _⟩
    · obtain ⟨o, vs, e, hc, _⟩ := (I.hok a _ ha).1
      exact ⟨o, e, hc⟩
    · obtain ⟨o, vs, e, hc, _⟩ := (I.hok a _ ha).1
      exact ⟨o, e, hc⟩
  refine wpAny_handleBy_cons (codeAny_handlers_test (ht a (I.inx a) hoa hx fun s2 H2 I2 sm => ?_)) (by intro q; cases q)
  have F2 := F.same sm
  have h2 := h H2 sm F2
  have I2' := I2.outx I.ok
  cases b with
  | false => exact hr s2 σ H2 D a C fs I2' F2 h2
  | true =>
    refine codeAny_handlers_suite_as (land_ok I2' F2 (store_ok (X := X.inx a) (v := .ref a) I2 hN hj (.inl hk) rfl (fun s3 I3 => ?_) (.inr hk)))
    refine wpAny_mono (hsu a s3 _ H2 _ I3 h2) (fun f s4 q4 => ?_) fun _ _ z => False.elim z
    cases f with
    | next => obtain ⟨_, _, _, z⟩ := q4; exact False.elim z
    | brk => obtain ⟨_, _, _, z⟩ := q4; exact False.elim z
    | cont => obtain ⟨_, _, _, z⟩ := q4; exact False.elim z
    | ret u =>
      obtain ⟨v, σ4, H4, I4, r4, q⟩ := q4
      have I5 := I4.outx I.ok
      obtain ⟨m, hn, _⟩ := I5.loc
      refine wpAny_nameGoes hk hn (by rw [I.ok.kind]; rfl) fun h' m' hn' hs' => ?_
      exact ⟨v, _, H4, I5.unnamed hn' hs', r4, q⟩
def tTry (Kd : XKd) (E : XK) (tb : TS) (th : THd) : TS := fun D σ H => tb D σ H ∧ ∀ (σ1 : St) (H1 : Hp) (a C : Addr) (fs : List (Str × V)) (i : Int), σ1.length = σ.length → Kd C fs i → FlyC C fs H1 a → Er E i → th C fs a D σ1 H1
theorem ps0_try {Kd : XKd} (hst : X.stack = X.env :: X.outer) (hf : X.env.frame = some X.env.locals) (hb : PSs0 (X.wish (Wt X Kd E)) body tb) (hh : PH X (h0 :: hs) th) :
    PS0 X (.Try body (h0 :: hs) [] [] pos) (tTry Kd E tb th) := by
  intro s σ H D I h
  obtain ⟨h1, h2⟩ := h
  refine wpAny_Try_except (wpAny_mono (hb s σ H D (I.wish _) h1) (fun f s1 q => ?_) fun e s1 we => ?_)
  · cases f with
    | next => exact wpAny_execs_nil (SP.unwish q)
    | ret v => exact SP.unwish q
    | brk => exact SP.unwish q
    | cont => exact SP.unwish q
  · obtain ⟨pins, σ1, H1, a, i, rfl, I1, ⟨C, fs, kd, F⟩, er⟩ := we
    refine look_ok I1.nopins I1.ok.frames hst hf F fun s2 H2 I2 F2 => ?_
    exact hh s2 σ1 H2 D a C fs I2 F2 (h2 σ1 H2 a C fs i (I1.len.trans I.len.symm) kd F2 er)
end
end L2

end

section
set_option Elab.async false
set_option linter.all false
namespace Fm
open Ce CeF
abbrev Res (a : Type) := Except Nat (a × Nat × Bytes)
theorem then_ok {a b : Type} {r : Ce.Rd a} {f : a → Ce.Rd b} {p p' : Nat} {x : a} {t t' : Bytes} (h : r p t = .ok (x, p', t')) : andThen r f p t = f x p' t' := by
  unfold andThen; rw [h]
theorem then_er {a b : Type} {r : Ce.Rd a} {f : a → Ce.Rd b} {p i : Nat} {t : Bytes} (h : r p t = .error i) : andThen r f p t = .error i := by
  unfold andThen; rw [h]
theorem then_eq {a b : Type} {r q : Ce.Rd a} {k : a → Ce.Rd b} {p p' : Nat} {t t' : Bytes} (h : r p t = q p' t') : andThen r k p t = andThen q k p' t' := by
  unfold andThen; rw [h]
/-- a reader that fails at a digit -/
def NoDig {b : Type} (k : Ce.Rd b) : Prop := ∀ (p : Nat) (c : UInt8) (r : Bytes), isDigit c = true → k p (c :: r) = .error p
theorem noDig_byte {b : Type} {c : UInt8} (hc : isDigit c = false) (f : Unit → Ce.Rd b) : NoDig (andThen (byte_ c) f) := by
  intro p d r hd
  refine then_er ?_
  have e : ¬ (some d = some c) := by intro q; cases q; rw [hd] at hc; cases hc
  show (if some d = some c then _ else _ : Ce.Rd Unit) p (d :: r) = _
  rw [if_neg e]; rfl
/-- digits as the program reads them -/
def pdig (lo hi : Nat) : Option Nat → Nat → Bytes → Res Nat
  | v, p, [] => match v with
    | some n => if lo ≤ n then .ok (n, p, []) else .error p
    | none => .error p
  | v, p, c :: r => if isDigit c = true then
      (if v = some 0 ∨ leadsTo lo hi (10 * v.getD 0 + (c.toNat - 48)) = false then .error p else pdig lo hi (some (10 * v.getD 0 + (c.toNat - 48))) (p + 1) r)
    else match v with
      | some n => if lo ≤ n then .ok (n, p, c :: r) else .error p
      | none => .error p
theorem leads_le {lo hi n : Nat} (h : leadsTo lo hi n = true) : n ≤ hi := by
  unfold leadsTo at h
  by_cases e : n = 0
  · omega
  · rw [if_neg e] at h
    obtain ⟨k, _, hk⟩ := List.any_eq_true.mp h
    rw [Bool.and_eq_true, decide_eq_true_eq, decide_eq_true_eq] at hk
    have : n * 1 ≤ n * 10 ^ k := Nat.mul_le_mul_left n (Nat.pow_pos (by decide))
    omega
def Enough (hi f : Nat) : Option Nat → Prop
  | none => 2 ≤ f ∧ hi < 10 ^ (f - 2)
  | some n => (n = 0 ∧ 1 ≤ f) ∨ (1 ≤ n ∧ n ≤ hi ∧ 1 ≤ f ∧ hi < n * 10 ^ (f - 1))
theorem Enough.pos {hi f : Nat} : ∀ {v : Option Nat}, Enough hi f v → 1 ≤ f
  | none, h => by have := h.1; omega
  | some n, h => by rcases h with h | h <;> omega
theorem Enough.le {hi f n : Nat} (h : Enough hi f (some n)) : n ≤ hi := by
  rcases h with h | h <;> omega
theorem Enough.next {hi f d : Nat} {v : Option Nat} (h : Enough hi (f + 1) v) (hv : ¬ v = some 0) (hn : 10 * v.getD 0 + d ≤ hi) : Enough hi f (some (10 * v.getD 0 + d)) := by
  cases v with
  | none =>
    obtain ⟨h1, h2⟩ := h
    show (_ ∧ _) ∨ _
    simp only [Option.getD_none, Nat.mul_zero, Nat.zero_add] at hn ⊢
    by_cases e : d = 0
    · left; omega
    · right
      refine ⟨by omega, hn, by omega, ?_⟩
      have e1 : f + 1 - 2 = f - 1 := by omega
      rw [e1] at h2
      calc hi < 1 * 10 ^ (f - 1) := by omega
        _ ≤ d * 10 ^ (f - 1) := Nat.mul_le_mul_right _ (by omega)
  | some n =>
    simp only [Option.getD_some] at hn ⊢
    rcases h with h | h
    · exact absurd (by rw [h.1]) hv
    · obtain ⟨h1, h2, h3, h4⟩ := h
      right
      have e1 : f + 1 - 1 = f := by omega
      rw [e1] at h4
      have hf : 1 ≤ f := by
        cases f with
        | zero => simp at h4; omega
        | succ f => omega
      refine ⟨by omega, hn, hf, ?_⟩
      obtain ⟨g, rfl⟩ : ∃ g, f = g + 1 := ⟨f - 1, by omega⟩
      have e2 : g + 1 - 1 = g := by omega
      rw [e2]
      calc hi < n * 10 ^ (g + 1) := h4
        _ = (n * 10) * 10 ^ g := by rw [Nat.pow_succ, Nat.mul_comm (10 ^ g) 10, Nat.mul_assoc]
        _ ≤ (10 * n + d) * 10 ^ g := Nat.mul_le_mul_right _ (by omega)
def finD (lo hi : Nat) : Option Nat → Ce.Rd Nat
  | some n => if lo ≤ n ∧ n ≤ hi then gives n else stray
  | none => stray
def moreD (lo hi : Nat) (v : Option Nat) (c : UInt8) : Option Nat :=
  if isDigit c = false ∨ v = some 0 then none else if leadsTo lo hi (10 * v.getD 0 + (c.toNat - 48)) = true then some (10 * v.getD 0 + (c.toNat - 48)) else none
theorem digits_cons (lo hi f : Nat) (v : Option Nat) (p : Nat) (c : UInt8) (r : Bytes) : digits lo hi (f + 1) v p (c :: r) =
    (match moreD lo hi v c with
      | some n => digits lo hi f (some n) (p + 1) r
      | none => finD lo hi v p (c :: r)) := by
  have e : digits lo hi (f + 1) v p (c :: r) = (match moreD lo hi v c with
      | some n => behind (digits lo hi f (some n))
      | none => finD lo hi v : Ce.Rd Nat) p (c :: r) := by cases v <;> rfl
  rw [e]
  cases moreD lo hi v c <;> rfl
theorem digits_nil (lo hi f : Nat) (v : Option Nat) (p : Nat) : digits lo hi (f + 1) v p [] = finD lo hi v p [] := by
  cases v <;> rfl
def finP (lo : Nat) : Option Nat → Nat → Bytes → Res Nat
  | some n, p, b => if lo ≤ n then .ok (n, p, b) else .error p
  | none, p, _ => .error p
theorem finP_some (lo n p : Nat) (b : Bytes) : finP lo (some n) p b = if lo ≤ n then .ok (n, p, b) else .error p := rfl
theorem finD_some (lo hi n p : Nat) (b : Bytes) : finD lo hi (some n) p b = if lo ≤ n ∧ n ≤ hi then .ok (n, p, b) else .error p := by
  show (if lo ≤ n ∧ n ≤ hi then gives n else stray : Ce.Rd Nat) p b = _
  split <;> rfl
theorem pdig_nil (lo hi : Nat) (v : Option Nat) (p : Nat) : pdig lo hi v p [] = finP lo v p [] := by
  cases v <;> rfl
theorem pdig_cons (lo hi : Nat) (v : Option Nat) (p : Nat) (c : UInt8) (r : Bytes) : pdig lo hi v p (c :: r) =
    if isDigit c = true then (if v = some 0 ∨ leadsTo lo hi (10 * v.getD 0 + (c.toNat - 48)) = false then .error p else pdig lo hi (some (10 * v.getD 0 + (c.toNat - 48))) (p + 1) r) else finP lo v p (c :: r) := by
  cases v <;> (conv => lhs; unfold pdig) <;> rfl
theorem fin_then {b : Type} {lo hi f : Nat} {k : Nat → Ce.Rd b} {v : Option Nat} (h : Enough hi f v) (p : Nat) (t : Bytes) : andThen (finD lo hi v) k p t = andThen (finP lo v) k p t := by
  cases v with
  | none => rfl
  | some n =>
    have hle := h.le
    refine then_eq ?_
    rw [finD_some, finP_some]
    by_cases e : lo ≤ n
    · rw [if_pos (And.intro e hle), if_pos e]
    · rw [if_neg (fun q => e q.1), if_neg e]
theorem dig_then {b : Type} {lo hi : Nat} {k : Nat → Ce.Rd b} (hk : ∀ n, NoDig (k n)) : ∀ (t : Bytes) (f : Nat) (v : Option Nat) (p : Nat), Enough hi f v → andThen (digits lo hi f v) k p t = andThen (pdig lo hi v) k p t
  | t, 0, v, p, h => by have := h.pos; omega
  | [], f + 1, v, p, h => by
    rw [then_eq (k := k) (digits_nil lo hi f v p), then_eq (k := k) (pdig_nil lo hi v p)]
    exact fin_then h p []
  | c :: r, f + 1, v, p, h => by
    have e1 := digits_cons lo hi f v p c r
    have e2 := pdig_cons lo hi v p c r
    by_cases hd : isDigit c = true
    · rw [if_pos hd] at e2
      have nd : ¬ isDigit c = false := by rw [hd]; simp
      by_cases hv : v = some 0 ∨ leadsTo lo hi (10 * v.getD 0 + (c.toNat - 48)) = false
      · rw [if_pos hv] at e2
        rw [then_er e2]
        have e3 : moreD lo hi v c = none := by
          unfold moreD
          rcases hv with hv | hv
          · rw [if_pos (Or.inr hv)]
          · split
            · rfl
            · rw [if_neg (by rw [hv]; exact Bool.false_ne_true)]
        rw [e3] at e1
        rw [then_eq (k := k) (q := finD lo hi v) e1, fin_then h]
        cases v with
        | none => rfl
        | some n =>
          by_cases q : lo ≤ n
          · rw [then_ok (show finP lo (some n) p (c :: r) = .ok (n, p, c :: r) by rw [finP_some, if_pos q])]
            exact hk n p c r hd
          · exact then_er (show finP lo (some n) p (c :: r) = .error p by rw [finP_some, if_neg q])
      · rw [if_neg hv] at e2
        have hv1 : ¬ v = some 0 := fun q => hv (Or.inl q)
        have hv2 : leadsTo lo hi (10 * v.getD 0 + (c.toNat - 48)) = true := by
          cases q : leadsTo lo hi (10 * v.getD 0 + (c.toNat - 48)) with
          | true => rfl
          | false => exact absurd (Or.inr q) hv
        have e3 : moreD lo hi v c = some (10 * v.getD 0 + (c.toNat - 48)) := by
          unfold moreD
          rw [if_neg (fun q => q.elim nd hv1), if_pos hv2]
        rw [e3] at e1
        rw [then_eq (k := k) (q := digits lo hi f _) e1, then_eq (k := k) (q := pdig lo hi _) e2]
        exact dig_then hk r f _ (p + 1) (h.next hv1 (leads_le hv2))
    · rw [if_neg hd] at e2
      have e3 : moreD lo hi v c = none := by
        unfold moreD
        rw [if_pos (Or.inl (by simpa using hd))]
      rw [e3] at e1
      rw [then_eq (k := k) (q := finD lo hi v) e1, then_eq (k := k) (q := finP lo v) e2]
      exact fin_then h p (c :: r)
theorem num_then {b : Type} {lo hi : Nat} {k : Nat → Ce.Rd b} (hk : ∀ n, NoDig (k n)) (hh : hi < 10 ^ 18) : andThen (num lo hi) k = andThen (pdig lo hi none) k := by
  funext p t
  exact dig_then hk t 20 none p ⟨by decide, hh⟩
end Fm

end

section
set_option Elab.async false
set_option linter.all false
namespace Fm
open Ce CeF
theorem noDig_lem {c : UInt8} (h : isLow c = true) : isDigit c = false := by
  unfold isLow at h; unfold isDigit
  rw [Bool.and_eq_true, decide_eq_true_eq, decide_eq_true_eq] at h
  rw [Bool.and_eq_false_iff, decide_eq_false_iff_not, decide_eq_false_iff_not]
  omega
/-! names -/
theorem nameOk_snoc (n : Bytes) (c : UInt8) (hn : n = [] ∨ nameOk n = true) : nameOk (n ++ [c]) = ((isLow c || (isDigit c && !n.isEmpty)) && decide (n.length < 16)) := by
  rcases hn with rfl | hn
  · show ((isLow c) && (decide (1 ≤ 16) && ((isLow c || isDigit c) && true))) = _
    cases isLow c <;> cases isDigit c <;> rfl
  · cases n with
    | nil => cases hn
    | cons a r =>
      unfold nameOk at hn ⊢
      simp only [List.cons_append, List.all_cons, List.all_append, List.all_nil, List.length_cons, List.length_append, List.length_nil, List.isEmpty_cons] at hn ⊢
      simp only [Bool.and_eq_true, decide_eq_true_eq] at hn
      obtain ⟨h1, h2, h3, h4⟩ := hn
      rw [h1, h4]
      simp only [Bool.true_and, Bool.and_true, Bool.not_false, Bool.true_or]
      by_cases e : r.length + 1 < 16
      · rw [decide_eq_true (show r.length + (0 + 1) + 1 ≤ 16 by omega), decide_eq_true e]; cases isLow c <;> cases isDigit c <;> rfl
      · rw [decide_eq_false (show ¬ r.length + (0 + 1) + 1 ≤ 16 by omega), decide_eq_false e]; cases isLow c <;> cases isDigit c <;> rfl
theorem nameOk_len {n : Bytes} (h : nameOk n = true) : n.length ≤ 16 := by
  unfold nameOk at h
  simp only [Bool.and_eq_true, decide_eq_true_eq] at h
  exact h.2.1
theorem nameOk_ne {n : Bytes} (h : nameOk n = true) : n ≠ [] := by
  rintro rfl; cases h
def nameFin (part : Bytes) (p : Nat) (b : Bytes) : Res Bytes := if nameOk part = true then .ok (part, p, b) else .error p
def nameLoop : Bytes → Nat → Bytes → Res Bytes
  | part, p, [] => nameFin part p []
  | part, p, c :: r => if nameOk (part ++ [c]) = true then nameLoop (part ++ [c]) (p + 1) r else nameFin part p (c :: r)
theorem canBe_nil (n : Bytes) : canBe [] n = true := by
  unfold canBe; split <;> rfl
def moreN (n : Bytes) (c : UInt8) : Option UInt8 := if ((isLow c || (isDigit c && !n.isEmpty)) && canBe [] (n ++ [c])) = true then some c else none
theorem nameFrom_cons (f : Nat) (n : Bytes) (p : Nat) (c : UInt8) (r : Bytes) : nameFrom [] (f + 1) n p (c :: r) = (match moreN n c with
    | some c => nameFrom [] f (n ++ [c]) (p + 1) r
    | none => if n.isEmpty = true then .error p else .ok (n, p, c :: r)) := by
  have e : nameFrom [] (f + 1) n p (c :: r) = (match moreN n c with
      | some c => behind (nameFrom [] f (n ++ [c]))
      | none => if n.isEmpty = true ∨ ([] : List Bytes).contains n = true then stray else gives n : Ce.Rd Bytes) p (c :: r) := rfl
  rw [e]
  cases moreN n c with
  | some c => rfl
  | none =>
    show (if n.isEmpty = true ∨ ([] : List Bytes).contains n = true then stray else gives n : Ce.Rd Bytes) p (c :: r) = _
    by_cases q : n.isEmpty = true
    · rw [if_pos (Or.inl q)]; show _ = if n.isEmpty = true then _ else _; rw [if_pos q]; rfl
    · rw [if_neg (by rintro (z | z); exact q z; cases z)]; show _ = if n.isEmpty = true then _ else _; rw [if_neg q]; rfl
theorem nameFrom_nil (f : Nat) (n : Bytes) (p : Nat) : nameFrom [] (f + 1) n p [] = if n.isEmpty = true then .error p else .ok (n, p, []) := by
  show (if n.isEmpty = true ∨ ([] : List Bytes).contains n = true then stray else gives n : Ce.Rd Bytes) p [] = _
  by_cases q : n.isEmpty = true
  · rw [if_pos (Or.inl q), if_pos q]; rfl
  · rw [if_neg (by rintro (z | z); exact q z; cases z), if_neg q]; rfl
theorem nameFin_eq {n : Bytes} (hn : n = [] ∨ nameOk n = true) (p : Nat) (b : Bytes) : nameFin n p b = if n.isEmpty = true then .error p else .ok (n, p, b) := by
  unfold nameFin
  rcases hn with rfl | hn
  · rfl
  · rw [if_pos hn, if_neg (by cases n with | nil => cases hn | cons _ _ => simp)]
theorem nameLoop_eq : ∀ (b : Bytes) (n : Bytes) (p : Nat), (n = [] ∨ nameOk n = true) → nameFrom [] (16 - n.length) n p b = nameLoop n p b
  | [], n, p, hn => by
    show _ = nameFin n p []
    rw [nameFin_eq hn]
    have hl : n.length ≤ 16 := by rcases hn with rfl | hn; exact Nat.zero_le _; exact nameOk_len hn
    by_cases e : n.length = 16
    · rw [show 16 - n.length = 0 by omega]
      show (Except.ok (n, p, []) : Res Bytes) = _
      rw [if_neg (by cases n with | nil => cases e | cons _ _ => simp)]
    · rw [show 16 - n.length = (15 - n.length) + 1 by omega, nameFrom_nil]
  | c :: r, n, p, hn => by
    have hl : n.length ≤ 16 := by rcases hn with rfl | hn; exact Nat.zero_le _; exact nameOk_len hn
    have hs := nameOk_snoc n c hn
    by_cases e : n.length = 16
    · rw [show 16 - n.length = 0 by omega]
      have : nameOk (n ++ [c]) = false := by rw [hs, decide_eq_false (by omega), Bool.and_false]
      rw [nameLoop, if_neg (by rw [this]; exact Bool.false_ne_true), nameFin_eq hn, if_neg (by cases n with | nil => cases e | cons _ _ => simp)]
      rfl
    · rw [show 16 - n.length = (15 - n.length) + 1 by omega, nameFrom_cons]
      rw [decide_eq_true (show n.length < 16 by omega), Bool.and_true] at hs
      unfold moreN
      rw [canBe_nil, Bool.and_true, ← hs]
      by_cases q : nameOk (n ++ [c]) = true
      · rw [if_pos q]
        show nameFrom [] (15 - n.length) (n ++ [c]) (p + 1) r = _
        rw [nameLoop, if_pos q]
        have ih := nameLoop_eq r (n ++ [c]) (p + 1) (.inr q)
        rw [← ih, List.length_append, show 16 - (n.length + [c].length) = 15 - n.length by simp only [List.length_cons, List.length_nil]; omega]
      · rw [if_neg q, nameLoop, if_neg q, nameFin_eq hn]
theorem name_eq : name_ [] = nameLoop [] := by
  funext p b
  exact nameLoop_eq b [] p (.inl rfl)
end Fm

end

section
set_option Elab.async false
set_option linter.all false
namespace Fm
open Ce CeF
/-! names of dials -/
def stemOf (part : Bytes) : Bytes := part.takeWhile (fun c => c != 46)
def NoDot (n : Bytes) : Prop := ∀ c ∈ n, (c != 46) = true
theorem noDot_of {n : Bytes} (h : n = [] ∨ nameOk n = true) : NoDot n := by
  rcases h with rfl | h
  · intro c hc; cases hc
  · unfold nameOk at h
    simp only [Bool.and_eq_true, List.all_eq_true] at h
    intro c hc
    have q := h.2.2 c hc
    rw [bne_iff_ne]
    rintro rfl
    revert q; decide
theorem stem_all {n : Bytes} (h : NoDot n) : stemOf n = n := by
  unfold stemOf
  induction n with
  | nil => rfl
  | cons a r ih => rw [List.takeWhile_cons, h a List.mem_cons_self, ih fun c hc => h c (List.mem_cons_of_mem _ hc)]; rfl
theorem stem_dot {n : Bytes} (h : NoDot n) (r : Bytes) : stemOf (n ++ (46 :: r)) = n := by
  unfold stemOf
  rw [List.takeWhile_append_of_pos h]
  show n ++ _ = n
  rw [List.takeWhile_cons_of_neg (by decide), List.append_nil]
def dialBegin (had : List Bytes) (part : Bytes) : Bool :=
  nameOk (stemOf part) && ((decide (part.length = (stemOf part).length) && decide ((stemOf part).length < 16)) ||
    [levelX (stemOf part), levelY (stemOf part)].any fun w => (w.take part.length == part) && !had.contains w)
def dialFin (had : List Bytes) (part : Bytes) (p : Nat) (b : Bytes) : Res Bytes := if (dialOk part && !had.contains part) = true then .ok (part, p, b) else .error p
def dialLoop (had : List Bytes) : Bytes → Nat → Bytes → Res Bytes
  | part, p, [] => dialFin had part p []
  | part, p, c :: r => if dialBegin had (part ++ [c]) = true then dialLoop had (part ++ [c]) (p + 1) r else dialFin had part p (c :: r)
def both (had : List Bytes) (n : Bytes) : Bool := had.contains (levelX n) && had.contains (levelY n)
theorem begin_plain (had : List Bytes) {n : Bytes} (c : UInt8) (hn : n = [] ∨ nameOk n = true) (hc : (c != 46) = true) :
    dialBegin had (n ++ [c]) = (nameOk (n ++ [c]) && (decide (n.length < 15) || (decide (n.length = 15) && !both had (n ++ [c])))) := by
  have hnd : NoDot (n ++ [c]) := by
    intro d hd
    rcases List.mem_append.mp hd with h | h
    · exact noDot_of hn d h
    · rw [List.mem_singleton] at h; rw [h]; exact hc
  unfold dialBegin
  rw [stem_all hnd]
  cases hk : nameOk (n ++ [c]) with
  | false => rfl
  | true =>
    have hl := nameOk_len hk
    rw [List.length_append, List.length_singleton] at hl
    have e1 : (levelX (n ++ [c])).take (n ++ [c]).length = n ++ [c] := by unfold levelX; exact List.take_left
    have e2 : (levelY (n ++ [c])).take (n ++ [c]).length = n ++ [c] := by unfold levelY; exact List.take_left
    simp only [List.any_cons, List.any_nil, e1, e2, beq_self_eq_true, Bool.true_and, decide_true, Bool.or_false]
    rw [List.length_append, List.length_singleton]
    unfold both
    by_cases h : n.length < 15
    · rw [decide_eq_true (show n.length + 1 < 16 by omega), decide_eq_true h]; rfl
    · rw [decide_eq_false (show ¬ n.length + 1 < 16 by omega), decide_eq_false h, decide_eq_true (show n.length = 15 by omega)]
      cases had.contains (levelX (n ++ [c])) <;> cases had.contains (levelY (n ++ [c])) <;> rfl
theorem take_lvl (n s : Bytes) (k : Nat) : (n ++ s).take (n.length + k) = n ++ s.take k := by
  rw [List.take_append, List.take_of_length_le (Nat.le_add_right _ _), Nat.add_sub_cancel_left]
theorem app_beq (n a b : Bytes) : (n ++ a == n ++ b) = (a == b) := by
  by_cases h : a = b
  · subst h; simp
  · rw [beq_false_of_ne h, beq_false_of_ne (fun q => h (List.append_cancel_left q))]
theorem begin_dot (had : List Bytes) {n : Bytes} (hn : n = [] ∨ nameOk n = true) : dialBegin had (n ++ [46]) = (!n.isEmpty && !both had n) := by
  unfold dialBegin
  rw [stem_dot (noDot_of hn) []]
  rcases hn with rfl | hn
  · rfl
  · rw [hn, List.length_append, List.length_singleton, decide_eq_false (show ¬ n.length + 1 = n.length by omega)]
    simp only [List.any_cons, List.any_nil]
    unfold levelX levelY
    rw [take_lvl, take_lvl, app_beq, app_beq]
    show (true && (false && decide (n.length < 16) || (([46] == ([46] : Bytes)) && !had.contains (levelX n) || (([46] == ([46] : Bytes)) && !had.contains (levelY n) || false)))) = _
    rw [show n.isEmpty = false by cases n with | nil => cases hn | cons _ _ => rfl]
    unfold both
    cases had.contains (levelX n) <;> cases had.contains (levelY n) <;> cases decide (n.length < 16) <;> rfl
theorem begin_two (had : List Bytes) {n : Bytes} (hn : nameOk n = true) (e : UInt8) : dialBegin had (n ++ [46] ++ [e]) = ((decide (e = 120) && !had.contains (levelX n)) || (decide (e = 121) && !had.contains (levelY n))) := by
  unfold dialBegin
  rw [List.append_assoc, List.singleton_append, stem_dot (noDot_of (.inr hn)) [e], hn, List.length_append, decide_eq_false (show ¬ n.length + [46, e].length = n.length by simp)]
  simp only [List.any_cons, List.any_nil]
  unfold levelX levelY
  rw [take_lvl, take_lvl, app_beq, app_beq]
  show (true && (false && decide (n.length < 16) || ((([46, 120] : Bytes) == [46, e]) && !had.contains (levelX n) || ((([46, 121] : Bytes) == [46, e]) && !had.contains (levelY n) || false)))) = ((decide (e = 120) && !had.contains (levelX n)) || (decide (e = 121) && !had.contains (levelY n)))
  have e1 : (([46, 120] : Bytes) == [46, e]) = decide (e = 120) := by
    by_cases h : e = 120
    · subst h; rfl
    · rw [decide_eq_false h, beq_false_of_ne (by intro q; injection q with _ q; injection q with q _; exact h q.symm)]
  have e2 : (([46, 121] : Bytes) == [46, e]) = decide (e = 121) := by
    by_cases h : e = 121
    · subst h; rfl
    · rw [decide_eq_false h, beq_false_of_ne (by intro q; injection q with _ q; injection q with q _; exact h q.symm)]
  rw [e1, e2]
  cases decide (e = 120) <;> cases decide (e = 121) <;> cases had.contains (levelX n) <;> cases had.contains (levelY n) <;> cases decide (n.length < 16) <;> rfl
theorem begin_three (had : List Bytes) {n : Bytes} (hn : nameOk n = true) (s : UInt8) (c : UInt8) : dialBegin had (n ++ [46, s] ++ [c]) = false := by
  unfold dialBegin
  rw [List.append_assoc, show ([46, s] : Bytes) ++ [c] = 46 :: [s, c] from rfl, stem_dot (noDot_of (.inr hn)) [s, c], hn, List.length_append, decide_eq_false (show ¬ n.length + [46, s, c].length = n.length by simp)]
  simp only [List.any_cons, List.any_nil]
  unfold levelX levelY
  rw [take_lvl, take_lvl, app_beq, app_beq]
  have e1 : ((ascii ".x").take [46, s, c].length == [46, s, c]) = false := beq_false_of_ne (fun q => absurd ((show (List.take 3 (ascii ".x")).length = 2 by decide).symm.trans (congrArg List.length q)) (by simp))
  have e2 : ((ascii ".y").take [46, s, c].length == [46, s, c]) = false := beq_false_of_ne (fun q => absurd ((show (List.take 3 (ascii ".y")).length = 2 by decide).symm.trans (congrArg List.length q)) (by simp))
  rw [e1, e2]
  cases decide (n.length < 16) <;> rfl
theorem ok_plain {n : Bytes} (h : NoDot n) : dialOk n = FOUR.contains n := by
  unfold dialOk
  have k : ∀ m s : Bytes, ∀ z, s = 46 :: z → (n == m ++ s) = false := fun m s z hz => beq_false_of_ne fun q => by
    have : (46 : UInt8) ∈ n := by rw [q, hz]; simp
    have := h 46 this
    revert this; decide
  unfold levelX levelY
  rw [k _ (ascii ".x") [120] rfl, k _ (ascii ".y") [121] rfl]
  cases FOUR.contains n <;> cases nameOk (n.take (n.length - 2)) <;> rfl
theorem ok_lvl {n : Bytes} (hn : nameOk n = true) (s : Bytes) (hs : s = ascii ".x" ∨ s = ascii ".y") : dialOk (n ++ s) = true := by
  have hl : s.length = 2 := by rcases hs with rfl | rfl <;> rfl
  unfold dialOk
  rw [List.length_append, hl, Nat.add_sub_cancel, List.take_left, hn]
  have : (n ++ s == levelX n || n ++ s == levelY n) = true := by
    rcases hs with rfl | rfl
    · show (n ++ ascii ".x" == n ++ ascii ".x" || _) = true
      rw [beq_self_eq_true, Bool.true_or]
    · show (_ || n ++ ascii ".y" == n ++ ascii ".y") = true
      rw [beq_self_eq_true, Bool.or_true]
  rw [this]
  cases FOUR.contains (n ++ s) <;> rfl
theorem ok_dot {n : Bytes} : dialOk (n ++ [46]) = false := by
  unfold dialOk
  have k : ∀ m z : Bytes, ∀ y, (y != 46) = true → (n ++ [46] == m ++ (z ++ [y])) = false := fun m z y hy => beq_false_of_ne fun q => by
    rw [← List.append_assoc] at q
    have := List.append_inj_right' q rfl
    injection this with this _
    rw [← this] at hy
    revert hy; decide
  have e1 := k ((n ++ [46]).take ((n ++ [46]).length - 2)) [46] 120 (by decide)
  have e2 := k ((n ++ [46]).take ((n ++ [46]).length - 2)) [46] 121 (by decide)
  have e3 : FOUR.contains (n ++ [46]) = false := by
    have hx := k [] [] 120 (by decide)
    have hy := k [] [] 121 (by decide)
    have hz := k [] (ascii "zoo") 109 (by decide)
    have hl := k [] (ascii "ligh") 116 (by decide)
    show (FOUR.elem (n ++ [46])) = false
    unfold FOUR X Y ZOOM LIGHT
    simp only [List.elem_cons, List.elem_nil]
    rw [show (n ++ [46] == ascii "x") = false from hx, show (n ++ [46] == ascii "y") = false from hy, show (n ++ [46] == ascii "zoom") = false from hz, show (n ++ [46] == ascii "light") = false from hl]
  have e4 : (n ++ [46] == levelX ((n ++ [46]).take ((n ++ [46]).length - 2))) = false := e1
  have e5 : (n ++ [46] == levelY ((n ++ [46]).take ((n ++ [46]).length - 2))) = false := e2
  rw [e3, e4, e5]
  cases nameOk ((n ++ [46]).take ((n ++ [46]).length - 2)) <;> rfl
/-- behind the dot -/
def dotRd (had : List Bytes) (n : Bytes) : Ce.Rd Bytes := byNext fun (e : Option UInt8) => if e = some 120 ∧ had.contains (levelX n) = false then behind (gives (levelX n)) else if e = some 121 ∧ had.contains (levelY n) = false then behind (gives (levelY n)) else stray
def finF (had : List Bytes) (n : Bytes) : Ce.Rd Bytes := if FOUR.contains n = true ∧ had.contains n = false then gives n else stray
def moreF (had : List Bytes) (n : Bytes) (c : UInt8) : Option UInt8 := if ((isLow c || (isDigit c && !n.isEmpty)) && (decide (n.length < 15) || (decide (n.length = 15) && !(had.contains (levelX (n ++ [c])) && had.contains (levelY (n ++ [c])))))) = true then some c else none
theorem dialFrom_cons (had : List Bytes) (f : Nat) (n : Bytes) (p : Nat) (c : UInt8) (r : Bytes) : dialFrom had (f + 1) n p (c :: r) = (match moreF had n c with
    | some c => dialFrom had f (n ++ [c]) (p + 1) r
    | none => if c = 46 ∧ n ≠ [] ∧ ¬ (had.contains (levelX n) = true ∧ had.contains (levelY n) = true) then dotRd had n (p + 1) r else finF had n p (c :: r)) := by
  have e : dialFrom had (f + 1) n p (c :: r) = (match moreF had n c with
      | some c => behind (dialFrom had f (n ++ [c]))
      | none => if some c = some 46 ∧ n ≠ [] ∧ ¬ (had.contains (levelX n) = true ∧ had.contains (levelY n) = true) then behind (dotRd had n) else finF had n : Ce.Rd Bytes) p (c :: r) := rfl
  rw [e]
  cases moreF had n c with
  | some c => rfl
  | none =>
    show (if some c = some 46 ∧ n ≠ [] ∧ ¬ (had.contains (levelX n) = true ∧ had.contains (levelY n) = true) then behind (dotRd had n) else finF had n : Ce.Rd Bytes) p (c :: r) = if c = 46 ∧ n ≠ [] ∧ ¬ (had.contains (levelX n) = true ∧ had.contains (levelY n) = true) then _ else _
    by_cases q : c = 46 ∧ n ≠ [] ∧ ¬ (had.contains (levelX n) = true ∧ had.contains (levelY n) = true)
    · rw [if_pos q, if_pos ⟨by rw [q.1], q.2⟩]; rfl
    · rw [if_neg q, if_neg (fun z => q ⟨Option.some.inj z.1, z.2⟩)]
theorem dialFrom_nil (had : List Bytes) (f : Nat) (n : Bytes) (p : Nat) : dialFrom had (f + 1) n p [] = finF had n p [] := by
  show (if (none : Option UInt8) = some 46 ∧ n ≠ [] ∧ ¬ (had.contains (levelX n) = true ∧ had.contains (levelY n) = true) then behind (dotRd had n) else finF had n : Ce.Rd Bytes) p [] = _
  rw [if_neg (fun z => nomatch z.1)]
theorem finF_eq (had : List Bytes) {n : Bytes} (h : NoDot n) (p : Nat) (b : Bytes) : finF had n p b = dialFin had n p b := by
  unfold finF dialFin
  rw [ok_plain h]
  cases h1 : FOUR.contains n <;> cases h2 : had.contains n <;> rfl
theorem fin_dot (had : List Bytes) (n : Bytes) (p : Nat) (b : Bytes) : dialFin had (n ++ [46]) p b = .error p := by
  unfold dialFin; rw [ok_dot]; rfl
theorem loop_lvl (had : List Bytes) {n : Bytes} (hn : nameOk n = true) (s : Bytes) (hs : s = ascii ".x" ∨ s = ascii ".y") (hh : had.contains (n ++ s) = false) (p : Nat) (b : Bytes) : dialLoop had (n ++ s) p b = .ok (n ++ s, p, b) := by
  have hf : ∀ b, dialFin had (n ++ s) p b = .ok (n ++ s, p, b) := fun b => by
    unfold dialFin; rw [ok_lvl hn s hs, hh]; rfl
  cases b with
  | nil => exact hf []
  | cons c r =>
    rw [dialLoop, if_neg, hf]
    obtain ⟨z, rfl⟩ : ∃ z, s = [46, z] := by rcases hs with rfl | rfl; exact ⟨120, rfl⟩; exact ⟨121, rfl⟩
    rw [begin_three had hn]; exact Bool.false_ne_true
theorem loop_dot (had : List Bytes) {n : Bytes} (hn : nameOk n = true) (p : Nat) (b : Bytes) : dotRd had n p b = dialLoop had (n ++ [46]) p b := by
  cases b with
  | nil =>
    show _ = dialFin had (n ++ [46]) p []
    rw [fin_dot]; rfl
  | cons e r =>
    rw [dialLoop, begin_two had hn e]
    show (if some e = some 120 ∧ had.contains (levelX n) = false then behind (gives (levelX n)) else if some e = some 121 ∧ had.contains (levelY n) = false then behind (gives (levelY n)) else stray : Ce.Rd Bytes) p (e :: r) = _
    by_cases h1 : e = 120 ∧ had.contains (levelX n) = false
    · obtain ⟨rfl, h1⟩ := h1
      rw [if_pos ⟨rfl, h1⟩, h1, if_pos (by rfl), List.append_assoc]
      exact (loop_lvl had hn (ascii ".x") (.inl rfl) h1 (p + 1) r).symm
    · rw [if_neg (fun z => h1 ⟨Option.some.inj z.1, z.2⟩)]
      have b1 : (decide (e = 120) && !had.contains (levelX n)) = false := by
        by_cases q : e = 120
        · have : had.contains (levelX n) = true := by
            cases z : had.contains (levelX n) with
            | true => rfl
            | false => exact absurd ⟨q, z⟩ h1
          rw [this]; cases decide (e = 120) <;> rfl
        · rw [decide_eq_false q]; rfl
      rw [b1, Bool.false_or]
      by_cases h2 : e = 121 ∧ had.contains (levelY n) = false
      · obtain ⟨rfl, h2⟩ := h2
        rw [if_pos ⟨rfl, h2⟩, h2, if_pos (by rfl), List.append_assoc]
        exact (loop_lvl had hn (ascii ".y") (.inr rfl) h2 (p + 1) r).symm
      · rw [if_neg (fun z => h2 ⟨Option.some.inj z.1, z.2⟩)]
        have b2 : (decide (e = 121) && !had.contains (levelY n)) = false := by
          by_cases q : e = 121
          · have : had.contains (levelY n) = true := by
              cases z : had.contains (levelY n) with
              | true => rfl
              | false => exact absurd ⟨q, z⟩ h2
            rw [this]; cases decide (e = 121) <;> rfl
          · rw [decide_eq_false q]; rfl
        rw [b2, if_neg Bool.false_ne_true, fin_dot]; rfl
theorem dialLoop_eq (had : List Bytes) : ∀ (b : Bytes) (n : Bytes) (p : Nat), (n = [] ∨ nameOk n = true) → dialFrom had (17 - n.length) n p b = dialLoop had n p b
  | [], n, p, hn => by
    have hl : n.length ≤ 16 := by rcases hn with rfl | hn; exact Nat.zero_le _; exact nameOk_len hn
    rw [show 17 - n.length = (16 - n.length) + 1 by omega, dialFrom_nil, finF_eq had (noDot_of hn)]
    rfl
  | c :: r, n, p, hn => by
    have hl : n.length ≤ 16 := by rcases hn with rfl | hn; exact Nat.zero_le _; exact nameOk_len hn
    rw [show 17 - n.length = (16 - n.length) + 1 by omega, dialFrom_cons]
    by_cases hc : c = 46
    · subst hc
      have e1 : moreF had n 46 = none := by
        unfold moreF
        rw [show isLow 46 = false by decide, show isDigit 46 = false by decide]
        rfl
      rw [e1]
      show (if (46 : UInt8) = 46 ∧ n ≠ [] ∧ ¬ (had.contains (levelX n) = true ∧ had.contains (levelY n) = true) then dotRd had n (p + 1) r else finF had n p (46 :: r)) = _
      rw [dialLoop, begin_dot had hn, finF_eq had (noDot_of hn)]
      unfold both
      rcases hn with rfl | hn
      · rfl
      · have hne := nameOk_ne hn
        have hie : n.isEmpty = false := by cases n with | nil => exact absurd rfl hne | cons _ _ => rfl
        rw [hie]
        by_cases q : had.contains (levelX n) = true ∧ had.contains (levelY n) = true
        · rw [if_neg (fun z => z.2.2 q), q.1, q.2]; rfl
        · rw [if_pos ⟨rfl, hne, q⟩, if_pos, loop_dot had hn]
          cases h1 : had.contains (levelX n) <;> cases h2 : had.contains (levelY n) <;> first | rfl | exact absurd ⟨h1, h2⟩ q
    · have hcb : (c != 46) = true := by rw [bne_iff_ne]; exact hc
      have e2 := begin_plain had c hn hcb
      rw [nameOk_snoc n c hn] at e2
      have e3 : dialBegin had (n ++ [c]) = ((isLow c || (isDigit c && !n.isEmpty)) && (decide (n.length < 15) || (decide (n.length = 15) && !both had (n ++ [c])))) := by
        rw [e2]
        by_cases q : n.length < 15
        · rw [decide_eq_true q, decide_eq_true (show n.length < 16 by omega), Bool.and_true]
        · by_cases q2 : n.length = 15
          · rw [decide_eq_true q2, decide_eq_true (show n.length < 16 by omega), Bool.and_true]
          · rw [decide_eq_false q, decide_eq_false q2, decide_eq_false (show ¬ n.length < 16 by omega)]
            cases (isLow c || (isDigit c && !n.isEmpty)) <;> rfl
      unfold both at e3
      rw [dialLoop]
      unfold moreF
      rw [← e3]
      by_cases q : dialBegin had (n ++ [c]) = true
      · rw [if_pos q, if_pos q]
        show dialFrom had (16 - n.length) (n ++ [c]) (p + 1) r = _
        have hk : nameOk (n ++ [c]) = true := by
          rw [begin_plain had c hn hcb, Bool.and_eq_true] at q
          exact q.1
        have ih := dialLoop_eq had r (n ++ [c]) (p + 1) (.inr hk)
        rw [← ih, List.length_append, show 17 - (n.length + [c].length) = 16 - n.length by simp only [List.length_cons, List.length_nil]; omega]
      · rw [if_neg q, if_neg q]
        show (if c = 46 ∧ n ≠ [] ∧ ¬ (had.contains (levelX n) = true ∧ had.contains (levelY n) = true) then dotRd had n (p + 1) r else finF had n p (c :: r)) = _
        rw [if_neg (fun z => hc z.1), finF_eq had (noDot_of hn)]
theorem dialName_eq (had : List Bytes) : dialFrom had 17 [] = dialLoop had [] := by
  funext p b
  exact dialLoop_eq had b [] p (.inl rfl)
end Fm

end

section
set_option Elab.async false
set_option linter.all false
namespace Fm
open Ce CeF
theorem then_assoc {a b c : Type} (r : Ce.Rd a) (f : a → Ce.Rd b) (g : b → Ce.Rd c) : andThen (andThen r f) g = andThen r fun x => andThen (f x) g := by
  funext p t
  unfold andThen
  cases r p t <;> rfl
theorem then_gives {a b : Type} (x : a) (g : a → Ce.Rd b) : andThen (gives x) g = g x := rfl
theorem then_congr {a b : Type} {r : Ce.Rd a} {f g : a → Ce.Rd b} (h : ∀ x, f x = g x) : andThen r f = andThen r g := by
  rw [show f = g from funext h]
def pnumber (lo hi : Int) : Ce.Rd Int := byNext fun (c : Option UInt8) => if lo < 0 ∧ c = some 45 then behind (andThen (pdig 1 (-lo).toNat none) fun (n : Nat) => gives (-(n : Int))) else andThen (pdig lo.toNat hi.toNat none) fun (n : Nat) => gives (n : Int)
theorem pnumber_nat {b : Type} (lo hi : Nat) (k : Int → Ce.Rd b) : andThen (pnumber lo hi) k = andThen (pdig lo hi none) fun (n : Nat) => k (n : Int) := by
  have e : pnumber lo hi = andThen (pdig lo hi none) fun (n : Nat) => gives (n : Int) := by
    funext p t
    have e1 : pnumber lo hi p t = (if (lo : Int) < 0 ∧ t.head? = some 45 then behind (andThen (pdig 1 (-(lo : Int)).toNat none) fun (n : Nat) => gives (-(n : Int))) else andThen (pdig (lo : Int).toNat (hi : Int).toNat none) fun (n : Nat) => gives (n : Int) : Ce.Rd Int) p t := rfl
    rw [e1, if_neg (fun z => by have := z.1; omega)]
    rfl
  rw [e, then_assoc]; rfl
theorem num_number {b : Type} {lo hi : Nat} {k : Nat → Ce.Rd b} (hk : ∀ n, NoDig (k n)) (hh : hi < 10 ^ 18) : andThen (num lo hi) k = andThen (pnumber lo hi) fun z => k z.toNat := by
  rw [num_then hk hh, pnumber_nat]; rfl
theorem value_number {b : Type} (n : Bytes) {k : Int → Ce.Rd b} (hk : ∀ n, NoDig (k n)) : andThen (value_ n) k = andThen (pnumber (least n) (most n)) k := by
  unfold value_ least most
  by_cases h1 : n = ZOOM
  · rw [if_pos h1, if_pos h1, if_pos h1, then_assoc]
    show andThen (num 1 256) (fun (v : Nat) => k (v : Int)) = andThen (pnumber ((1 : Nat) : Int) ((256 : Nat) : Int)) k
    rw [pnumber_nat, num_then (fun v => hk _) (by decide)]
  · rw [if_neg h1, if_neg h1, if_neg h1]
    by_cases h2 : n = LIGHT
    · rw [if_pos h2, if_pos h2, if_pos h2, then_assoc]
      show andThen (num 0 64) (fun (v : Nat) => k (v : Int)) = andThen (pnumber ((0 : Nat) : Int) ((64 : Nat) : Int)) k
      rw [pnumber_nat, num_then (fun v => hk _) (by decide)]
    · rw [if_neg h2, if_neg h2, if_neg h2]
      funext p t
      have e1 : signed_ 9999 p t = (if t.head? = some 45 then behind (andThen (num 1 9999) fun (n : Nat) => gives (-(n : Int))) else andThen (num 0 9999) fun (n : Nat) => gives (n : Int) : Ce.Rd Int) p t := rfl
      have e2 : pnumber (-9999) 9999 p t = (if (-9999 : Int) < 0 ∧ t.head? = some 45 then behind (andThen (pdig 1 9999 none) fun (n : Nat) => gives (-(n : Int))) else andThen (pdig 0 9999 none) fun (n : Nat) => gives (n : Int) : Ce.Rd Int) p t := rfl
      by_cases h3 : t.head? = some 45
      · rw [if_pos h3] at e1
        rw [if_pos ⟨by decide, h3⟩] at e2
        rw [then_eq (k := k) (q := andThen (num 1 9999) fun (n : Nat) => gives (-(n : Int))) (p' := p + 1) (t' := t.drop 1) e1,
          then_eq (k := k) (q := andThen (pdig 1 9999 none) fun (n : Nat) => gives (-(n : Int))) (p' := p + 1) (t' := t.drop 1) e2, then_assoc, then_assoc]
        exact congrFun (congrFun (num_then (fun v => hk _) (by decide)) _) _
      · rw [if_neg h3] at e1
        rw [if_neg (fun z => h3 z.2)] at e2
        rw [then_eq (k := k) (q := andThen (num 0 9999) fun (n : Nat) => gives (n : Int)) e1,
          then_eq (k := k) (q := andThen (pdig 0 9999 none) fun (n : Nat) => gives (n : Int)) e2, then_assoc, then_assoc]
        exact congrFun (congrFun (num_then (fun v => hk _) (by decide)) _) _
def pmove (n : Bytes) (frames at_ : Nat) : Ce.Rd Move := andThen (pnumber at_ ((frames : Int) - 2)) fun (f : Int) => andThen (byte_ 45) fun (_ : Unit) => andThen (pnumber (f + 1) ((frames : Int) - 1)) fun (t : Int) => andThen (byte_ 58) fun (_ : Unit) =>
  andThen (pnumber (least n) (most n)) fun (v : Int) => andThen (byte_ 47) fun (_ : Unit) => andThen ease_ fun (e : Ease) => gives ⟨f.toNat, t.toNat, v, e⟩
theorem nd45 : isDigit 45 = false := by decide
theorem nd58 : isDigit 58 = false := by decide
theorem nd47 : isDigit 47 = false := by decide
theorem nd32 : isDigit 32 = false := by decide
theorem nd10 : isDigit 10 = false := by decide
theorem move_eq (n : Bytes) {frames at_ : Nat} (h : at_ + 2 ≤ frames) (hf : frames < 10 ^ 9) : move_ n frames at_ = andThen (byte_ 32) fun (_ : Unit) => pmove n frames at_ := by
  unfold move_ numAfter
  rw [then_assoc]
  refine then_congr fun _ => ?_
  unfold pmove
  rw [num_number (fun f => noDig_byte nd45 _) (by omega), show ((frames : Int) - 2) = ((frames - 2 : Nat) : Int) by omega, pnumber_nat, pnumber_nat]
  refine then_congr fun f => ?_
  show (andThen (byte_ 45) fun (_ : Unit) => andThen (num (f + 1) (frames - 1)) fun (t : Nat) => andThen (byte_ 58) fun (_ : Unit) => andThen (value_ n) fun (v : Int) => andThen (byte_ 47) fun (_ : Unit) => andThen ease_ fun (e : Ease) => gives (⟨f, t, v, e⟩ : Move)) = _
  refine then_congr fun _ => ?_
  rw [num_number (fun t => noDig_byte nd58 _) (by omega), show ((f : Int) + 1) = ((f + 1 : Nat) : Int) by omega, show ((frames : Int) - 1) = ((frames - 1 : Nat) : Int) by omega, pnumber_nat, pnumber_nat]
  refine then_congr fun t => ?_
  show (andThen (byte_ 58) fun (_ : Unit) => andThen (value_ n) fun (v : Int) => andThen (byte_ 47) fun (_ : Unit) => andThen ease_ fun (e : Ease) => gives (⟨f, t, v, e⟩ : Move)) = _
  refine then_congr fun _ => ?_
  rw [value_number n (fun v => noDig_byte nd47 _)]
  rfl
def pmoves (n : Bytes) (frames : Nat) : Nat → Nat → Ce.Rd (List Move)
  | 0, _ => orLine [] stray
  | k + 1, at_ => orLine [] (if frames < at_ + 2 then stray else andThen (byte_ 32) fun (_ : Unit) => andThen (pmove n frames at_) fun (m : Move) => andThen (pmoves n frames k m.to) fun (r : List Move) => gives (m :: r))
theorem moves_eq (n : Bytes) {frames : Nat} (hf : frames < 10 ^ 9) : ∀ (k at_ : Nat), moves_ n frames k at_ = pmoves n frames k at_
  | 0, _ => rfl
  | k + 1, at_ => by
    unfold moves_ pmoves
    by_cases h : frames < at_ + 2
    · rw [if_pos h, if_pos h]
    · rw [if_neg h, if_neg h, move_eq n (by omega) hf, then_assoc]
      congr 1
      refine then_congr fun _ => then_congr fun m => ?_
      rw [moves_eq n hf k m.to]
theorem noDig_moves {b : Type} (n : Bytes) (frames k at_ : Nat) (f : List Move → Ce.Rd b) : NoDig (andThen (pmoves n frames k at_) f) := by
  intro p c r hd
  refine then_er ?_
  have hc : ¬ (some c = some (10 : UInt8)) := by intro q; cases q; revert hd; decide
  have hb : ∀ (g : Unit → Ce.Rd (List Move)), andThen (byte_ 32) g p (c :: r) = .error p := fun g => noDig_byte nd32 g p c r hd
  cases k with
  | zero =>
    show (if some c = some 10 then _ else stray : Ce.Rd (List Move)) p (c :: r) = _
    rw [if_neg hc]; rfl
  | succ k =>
    show (if some c = some 10 then _ else (if frames < at_ + 2 then stray else andThen (byte_ 32) fun (_ : Unit) => andThen (pmove n frames at_) fun (m : Move) => andThen (pmoves n frames k m.to) fun (r : List Move) => gives (m :: r)) : Ce.Rd (List Move)) p (c :: r) = _
    rw [if_neg hc]
    by_cases h : frames < at_ + 2
    · rw [if_pos h]; rfl
    · rw [if_neg h]; exact hb _
def pdial (frames : Nat) (had : List Bytes) : Ce.Rd Dial := andThen (bytes_ (ascii "dial ")) fun (_ : Unit) => andThen (dialLoop had []) fun (n : Bytes) => andThen (byte_ 32) fun (_ : Unit) => andThen (pnumber (least n) (most n)) fun (v : Int) => andThen (pmoves n frames 64 0) fun (m : List Move) => gives ⟨n, v, m⟩
def pdials (frames : Nat) : Nat → List Bytes → Ce.Rd (List Dial)
  | 0, _ => atEnd []
  | k + 1, had => byNext fun (c : Option UInt8) => if c.isSome = true then (andThen (pdial frames had) fun (d : Dial) => andThen (pdials frames k (d.name :: had)) fun (r : List Dial) => gives (d :: r)) else gives []
theorem dials_eq {frames : Nat} (hf : frames < 10 ^ 9) : ∀ (k : Nat) (had : List Bytes), dials_ frames k had = pdials frames k had
  | 0, _ => rfl
  | k + 1, had => by
    unfold dials_ pdials
    congr 1
    funext c
    congr 1
    unfold pdial
    simp only [then_assoc]
    refine then_congr fun _ => ?_
    rw [dialName_eq]
    refine then_congr fun n => then_congr fun _ => ?_
    rw [show (fun (v : Int) => andThen (moves_ n frames 64 0) fun (m : List Move) => andThen (dials_ frames k (n :: had)) fun (r : List Dial) => gives ((⟨n, v, m⟩ : Dial) :: r)) = (fun (v : Int) => andThen (pmoves n frames 64 0) fun (m : List Move) => andThen (pdials frames k (n :: had)) fun (r : List Dial) => gives ((⟨n, v, m⟩ : Dial) :: r)) from funext fun v => by rw [moves_eq n hf, dials_eq hf k (n :: had)],
      value_number n (fun v => noDig_moves n frames 64 0 _)]
    rfl
def preadC : Ce.Rd Camera := andThen (bytes_ (ascii "camera ")) fun (_ : Unit) => andThen (nameLoop []) fun (m : Bytes) => andThen (byte_ 32) fun (_ : Unit) => andThen (pnumber 1 1024) fun (n : Int) => andThen (byte_ 32) fun (_ : Unit) => andThen (pnumber 1 256) fun (w : Int) => andThen (byte_ 32) fun (_ : Unit) => andThen (pnumber 1 256) fun (h : Int) =>
  andThen (byte_ 10) fun (_ : Unit) => andThen (pdials n.toNat 32 []) fun (l : List Dial) => gives (⟨m, n.toNat, w.toNat, h.toNat, l⟩ : Camera)
theorem pdig_le {lo hi : Nat} (hl : lo ≤ hi) : ∀ (t : Bytes) (v : Option Nat) (p : Nat) {x p' : Nat} {t' : Bytes}, (∀ n, v = some n → n ≤ hi) → pdig lo hi v p t = .ok (x, p', t') → lo ≤ x ∧ x ≤ hi
  | [], v, p, x, p', t', hv, h => by
    rw [pdig_nil] at h
    cases v with
    | none => cases h
    | some n =>
      rw [finP_some] at h
      split at h
      · injection h with h; injection h with h _; subst h; exact ⟨by assumption, hv n rfl⟩
      · cases h
  | c :: r, v, p, x, p', t', hv, h => by
    rw [pdig_cons] at h
    split at h
    · split at h
      · cases h
      · rename_i q
        refine pdig_le hl r _ (p + 1) (fun n e => ?_) h
        injection e with e
        have : leadsTo lo hi (10 * v.getD 0 + (c.toNat - 48)) = true := by
          cases z : leadsTo lo hi (10 * v.getD 0 + (c.toNat - 48)) with
          | true => rfl
          | false => exact absurd (Or.inr z) q
        rw [← e]; exact leads_le this
    · cases v with
      | none => cases h
      | some n =>
        rw [finP_some] at h
        split at h
        · injection h with h; injection h with h _; subst h; exact ⟨by assumption, hv n rfl⟩
        · cases h
theorem then_congr' {a b : Type} {r : Ce.Rd a} {f g : a → Ce.Rd b} (P : a → Prop) (hr : ∀ p t x p' t', r p t = .ok (x, p', t') → P x) (h : ∀ x, P x → f x = g x) : andThen r f = andThen r g := by
  funext p t
  cases e : r p t with
  | error i => rw [then_er e, then_er e]
  | ok y =>
    obtain ⟨x, p', t'⟩ := y
    rw [then_ok e, then_ok e, h x (hr p t x p' t' e)]
theorem pnum_le {lo hi : Nat} (hl : lo ≤ hi) : ∀ p t x p' t', pnumber lo hi p t = .ok (x, p', t') → (lo : Int) ≤ x ∧ x ≤ (hi : Int) := by
  intro p t x p' t' h
  have e : pnumber lo hi p t = andThen (pnumber lo hi) gives p t := by
    unfold andThen gives
    cases pnumber lo hi p t <;> rfl
  rw [e, pnumber_nat] at h
  cases q : pdig lo hi none p t with
  | error i => rw [then_er q] at h; cases h
  | ok y =>
    obtain ⟨n, p1, t1⟩ := y
    rw [then_ok q] at h
    injection h with h; injection h with h _
    have := pdig_le hl t none p (fun _ z => nomatch z) q
    omega
theorem read_eq (t : Bytes) : readC t = readAll preadC t := by
  unfold readC
  congr 1
  unfold preadC numAfter
  refine then_congr fun _ => ?_
  rw [name_eq]
  refine then_congr fun m => ?_
  simp only [then_assoc]
  refine then_congr fun _ => ?_
  rw [num_number (fun n => noDig_byte nd32 _) (by decide)]
  refine then_congr' (fun z => z ≤ 1024) (fun p t x p' t' h => (pnum_le (lo := 1) (hi := 1024) (by decide) p t x p' t' h).2) fun n hn => then_congr fun _ => ?_
  rw [num_number (fun n => noDig_byte nd32 _) (by decide)]
  refine then_congr fun w => then_congr fun _ => ?_
  rw [num_number (fun n => noDig_byte nd10 _) (by decide)]
  refine then_congr fun h => then_congr fun _ => ?_
  rw [dials_eq (by omega)]
end Fm

end

section
set_option Elab.async false
set_option linter.all false
namespace Fm
open Ce CeF
/-! ### bytes as ints -/
def bi (b : Bytes) : List Int := b.map fun (c : UInt8) => (c.toNat : Int)
def toB (zs : List Int) : Bytes := zs.map fun (z : Int) => UInt8.ofNat z.toNat
def pk (b : Bytes) (p : Nat) : Int := match b[p]? with
  | some c => (c.toNat : Int)
  | none => -1
theorem bi_len (b : Bytes) : (bi b).length = b.length := by unfold bi; rw [List.length_map]
theorem bi_nil : bi [] = [] := rfl
theorem bi_cons (c : UInt8) (b : Bytes) : bi (c :: b) = (c.toNat : Int) :: bi b := rfl
theorem bi_app (a b : Bytes) : bi (a ++ b) = bi a ++ bi b := by unfold bi; rw [List.map_append]
theorem bi_take (a : Bytes) (k : Nat) : (bi a).take k = bi (a.take k) := by unfold bi; rw [List.map_take]
theorem bi_drop (a : Bytes) (k : Nat) : (bi a).drop k = bi (a.drop k) := by unfold bi; rw [List.map_drop]
theorem ofNat_toNat (c : UInt8) : UInt8.ofNat c.toNat = c := by simp
theorem toB_bi : ∀ (b : Bytes), toB (bi b) = b
  | [] => rfl
  | c :: b => by
    show UInt8.ofNat (Int.toNat (c.toNat : Int)) :: toB (bi b) = c :: b
    rw [toB_bi b, Int.toNat_natCast, ofNat_toNat]
theorem bi_inj {a b : Bytes} (h : bi a = bi b) : a = b := by rw [← toB_bi a, h, toB_bi]
theorem bi_beq (a b : Bytes) : (bi a == bi b) = (a == b) := by
  by_cases e : a = b
  · subst e; simp
  · have h : ¬ bi a = bi b := fun q => e (bi_inj q)
    rw [beq_eq_false_iff_ne.mpr e, beq_eq_false_iff_ne.mpr h]
theorem toNat_lt (c : UInt8) : c.toNat < 256 := c.toNat_lt
theorem bi_mem {b : Bytes} {z : Int} (h : z ∈ bi b) : 0 ≤ z ∧ z ≤ 255 := by
  obtain ⟨c, _, rfl⟩ := List.mem_map.mp h
  have := toNat_lt c
  omega
theorem bi_toB : ∀ {zs : List Int}, (∀ z ∈ zs, 0 ≤ z ∧ z ≤ 255) → bi (toB zs) = zs
  | [], _ => rfl
  | z :: zs, h => by
    have h1 := h z (List.mem_cons_self)
    show ((UInt8.ofNat z.toNat).toNat : Int) :: bi (toB zs) = z :: zs
    rw [bi_toB fun y hy => h y (List.mem_cons_of_mem _ hy)]
    have : (UInt8.ofNat z.toNat).toNat = z.toNat := by
      rw [UInt8.toNat_ofNat']; omega
    rw [this]
    congr 1
    omega
theorem pk_drop (b : Bytes) (p : Nat) : pk b p = match b.drop p with
    | c :: _ => (c.toNat : Int)
    | [] => -1 := by
  unfold pk
  have e : b[p]? = (b.drop p).head? := by rw [List.head?_drop]
  rw [e]
  cases b.drop p <;> rfl
theorem pk_cons {b : Bytes} {p : Nat} {c : UInt8} {r : Bytes} (h : b.drop p = c :: r) : pk b p = (c.toNat : Int) := by rw [pk_drop, h]
theorem pk_nil {b : Bytes} {p : Nat} (h : b.drop p = []) : pk b p = -1 := by rw [pk_drop, h]
theorem drop_succ {b : Bytes} {p : Nat} {c : UInt8} {r : Bytes} (h : b.drop p = c :: r) : b.drop (p + 1) = r ∧ p < b.length ∧ b[p]? = some c := by
  have e : b.drop (p + 1) = (b.drop p).drop 1 := by rw [List.drop_drop]
  refine ⟨by rw [e, h]; rfl, ?_, ?_⟩
  · have := congrArg List.length h
    rw [List.length_drop, List.length_cons] at this
    omega
  · have e : b[p]? = (b.drop p).head? := by rw [List.head?_drop]
    rw [e, h]; rfl
theorem drop_nil {b : Bytes} {p : Nat} (h : b.drop p = []) (hp : p ≤ b.length) : p = b.length := by
  have := congrArg List.length h
  rw [List.length_drop] at this
  simp at this
  omega
/-! ### signs -/
def lowZ (z : Int) : Bool := decide (97 ≤ z) && decide (z ≤ 122)
def digZ (z : Int) : Bool := decide (48 ≤ z) && decide (z ≤ 57)
theorem lowZ_of (c : UInt8) : lowZ (c.toNat : Int) = isLow c := by
  unfold lowZ isLow
  rw [show decide ((97 : Int) ≤ (c.toNat : Int)) = decide (97 ≤ c.toNat) from decide_eq_decide.mpr (by omega), show decide ((c.toNat : Int) ≤ 122) = decide (c.toNat ≤ 122) from decide_eq_decide.mpr (by omega)]
theorem digZ_of (c : UInt8) : digZ (c.toNat : Int) = isDigit c := by
  unfold digZ isDigit
  rw [show decide ((48 : Int) ≤ (c.toNat : Int)) = decide (48 ≤ c.toNat) from decide_eq_decide.mpr (by omega), show decide ((c.toNat : Int) ≤ 57) = decide (c.toNat ≤ 57) from decide_eq_decide.mpr (by omega)]
theorem eqZ_of (c d : UInt8) : decide ((c.toNat : Int) = (d.toNat : Int)) = decide (c = d) := by
  refine decide_eq_decide.mpr ⟨fun h => ?_, fun h => by rw [h]⟩
  have : c.toNat = d.toNat := by omega
  exact UInt8.toNat_inj.mp this
def signZ (z : Int) : Bool := lowZ z || digZ z
theorem signZ_range {z : Int} (h : signZ z = true) : 48 ≤ z ∧ z ≤ 122 := by
  unfold signZ lowZ digZ at h
  simp only [Bool.or_eq_true, Bool.and_eq_true, decide_eq_true_eq] at h
  omega
def nameZ (zs : List Int) : Bool := match zs with
  | [] => false
  | z :: _ => lowZ z && (decide (zs.length ≤ 16) && zs.all signZ)
theorem all_bi (p : Int → Bool) (q : UInt8 → Bool) (h : ∀ c : UInt8, p (c.toNat : Int) = q c) : ∀ (b : Bytes), (bi b).all p = b.all q
  | [] => rfl
  | c :: b => by rw [bi_cons, List.all_cons, List.all_cons, h, all_bi p q h b]
theorem nameZ_bi (n : Bytes) : nameZ (bi n) = nameOk n := by
  cases n with
  | nil => rfl
  | cons c r =>
    show (lowZ (c.toNat : Int) && (decide ((bi (c :: r)).length ≤ 16) && (bi (c :: r)).all signZ)) = (isLow c && (decide ((c :: r).length ≤ 16) && (c :: r).all fun c => isLow c || isDigit c))
    rw [lowZ_of, bi_len, all_bi signZ (fun c => isLow c || isDigit c) fun c => by unfold signZ; rw [lowZ_of, digZ_of]]
theorem nameZ_signs {zs : List Int} (h : nameZ zs = true) : ∀ z ∈ zs, signZ z = true := by
  cases zs with
  | nil => cases h
  | cons z r =>
    simp only [nameZ, Bool.and_eq_true, List.all_eq_true] at h
    exact h.2.2
theorem nameZ_len {zs : List Int} (h : nameZ zs = true) : 1 ≤ zs.length ∧ zs.length ≤ 16 := by
  cases zs with
  | nil => cases h
  | cons z r =>
    simp only [nameZ, Bool.and_eq_true, decide_eq_true_eq] at h
    exact ⟨by simp, h.2.1⟩
theorem nameZ_end (zs : List Int) : nameZ (zs ++ [-1]) = false := by
  cases e : nameZ (zs ++ [-1]) with
  | false => rfl
  | true =>
    have := signZ_range (nameZ_signs e (-1) (by simp))
    omega
theorem nameZ_toB {zs : List Int} (h : nameZ zs = true) : bi (toB zs) = zs := bi_toB fun z hz => by
  have := signZ_range (nameZ_signs h z hz)
  omega
/-- is_name's own way -/
theorem nameZ_way (zs : List Int) : nameZ zs = (if (decide ((zs.length : Int) < 1) || decide (16 < (zs.length : Int)) || !(match zs with | z :: _ => lowZ z | [] => false)) = true then false else zs.all signZ) := by
  cases zs with
  | nil => rfl
  | cons z r =>
    have e1 : decide (((z :: r).length : Int) < 1) = false := decide_eq_false (by rw [List.length_cons]; omega)
    rw [e1]
    show (lowZ z && (decide ((z :: r).length ≤ 16) && (z :: r).all signZ)) = (if (false || decide (16 < ((z :: r).length : Int)) || !lowZ z) = true then false else (z :: r).all signZ)
    generalize (z :: r).all signZ = q
    generalize lowZ z = u
    by_cases h : (z :: r).length ≤ 16
    · rw [decide_eq_true h, show decide ((16 : Int) < ((z :: r).length : Int)) = false from decide_eq_false (by omega)]
      cases u <;> cases q <;> rfl
    · rw [decide_eq_false h, show decide ((16 : Int) < ((z :: r).length : Int)) = true from decide_eq_true (by omega)]
      cases u <;> cases q <;> rfl
/-! ### dials' names -/
def stemZ (zs : List Int) : List Int := zs.takeWhile (fun z => z != 46)
theorem stemZ_bi : ∀ (n : Bytes), stemZ (bi n) = bi (stemOf n)
  | [] => rfl
  | c :: n => by
    have ih : (bi n).takeWhile (fun z => z != 46) = bi (n.takeWhile fun c => c != 46) := stemZ_bi n
    have e : ((c.toNat : Int) != 46) = (c != 46) := by
      have := eqZ_of c 46
      show (!((c.toNat : Int) == 46)) = !(c == 46)
      rw [show ((c.toNat : Int) == 46) = decide ((c.toNat : Int) = ((46 : UInt8).toNat : Int)) from by rw [Bool.beq_eq_decide_eq]; rfl, this, Bool.beq_eq_decide_eq]
    show ((c.toNat : Int) :: bi n).takeWhile (fun z => z != 46) = bi ((c :: n).takeWhile fun c => c != 46)
    rw [List.takeWhile_cons, List.takeWhile_cons, e]
    cases c != 46
    · rfl
    · show (c.toNat : Int) :: (bi n).takeWhile _ = bi (c :: _)
      rw [ih]; rfl
def beginZ (had : List Bytes) (zs : List Int) : Bool :=
  nameZ (stemZ zs) && ((decide (zs.length = (stemZ zs).length) && decide ((stemZ zs).length < 16)) ||
    [levelX (toB (stemZ zs)), levelY (toB (stemZ zs))].any fun w => ((bi w).take zs.length == zs) && !had.contains w)
theorem beginZ_bi (had : List Bytes) (n : Bytes) : beginZ had (bi n) = dialBegin had n := by
  unfold beginZ dialBegin
  rw [stemZ_bi, nameZ_bi, toB_bi, bi_len, bi_len]
  simp only [List.any_cons, List.any_nil, bi_take, bi_beq]
theorem beginZ_end (had : List Bytes) (n : Bytes) : beginZ had (bi n ++ [-1]) = false := by
  have no : ∀ w : Bytes, ((bi w).take (bi n ++ [-1]).length == bi n ++ [-1]) = false := fun w => by
    refine beq_eq_false_iff_ne.mpr fun q => ?_
    have m : (-1 : Int) ∈ (bi w).take (bi n ++ [-1]).length := by rw [q]; simp
    have := bi_mem (List.mem_of_mem_take m)
    omega
  unfold beginZ
  simp only [List.any_cons, List.any_nil, no, Bool.false_and, Bool.or_false]
  cases e : nameZ (stemZ (bi n ++ [-1])) with
  | false => rfl
  | true =>
    by_cases h : (bi n ++ [-1]).length = (stemZ (bi n ++ [-1])).length
    · exfalso
      have e2 : stemZ (bi n ++ [-1]) = bi n ++ [-1] := by
        have hp : stemZ (bi n ++ [-1]) <+: (bi n ++ [-1]) := List.takeWhile_prefix _
        exact hp.eq_of_length h.symm
      rw [e2, nameZ_end] at e
      cases e
    · rw [decide_eq_false h]; rfl
theorem stemZ_no {zs : List Int} (h : ¬ (46 : Int) ∈ zs) : stemZ zs = zs := by
  unfold stemZ
  induction zs with
  | nil => rfl
  | cons z r ih =>
    rw [List.takeWhile_cons, ih fun m => h (List.mem_cons_of_mem _ m)]
    have : (z != 46) = true := by
      refine bne_iff_ne.mpr fun e => h (by rw [e]; exact List.mem_cons_self)
    rw [this]; rfl
/-- the place of the first dot -/
theorem stemZ_at : ∀ {zs : List Int} {j : Nat}, zs[j]? = some 46 → (∀ i, i < j → zs[i]? ≠ some 46) → stemZ zs = zs.take j
  | [], j, h, _ => by simp at h
  | z :: r, 0, h, _ => by
    have e : z = 46 := by simpa using h
    subst e
    rfl
  | z :: r, j + 1, h, hn => by
    have ih := stemZ_at (zs := r) (j := j) (by simpa using h) fun i hi => by
      have := hn (i + 1) (by omega)
      simpa using this
    unfold stemZ at ih ⊢
    have : (z != 46) = true := bne_iff_ne.mpr fun e => hn 0 (by omega) (by simp [e])
    rw [List.takeWhile_cons, this, ih]
    rfl
/-- is_dial_name's own way -/
theorem dialOk_way (n : Bytes) : dialOk n = (if FOUR.contains n = true then true else ([ascii ".x", ascii ".y"].contains (n.drop (n.length - 2)) && nameOk (n.take (n.length - 2)))) := by
  unfold dialOk
  cases h : FOUR.contains n with
  | true => rfl
  | false =>
    show (nameOk _ && _) = (_ && nameOk _)
    rw [Bool.and_comm]
    congr 1
    have spl : n = n.take (n.length - 2) ++ n.drop (n.length - 2) := (List.take_append_drop _ _).symm
    have one : ∀ s : Bytes, (n == n.take (n.length - 2) ++ s) = (n.drop (n.length - 2) == s) := fun s => by
      by_cases e : n.drop (n.length - 2) = s
      · rw [← e, List.take_append_drop]; simp
      · rw [beq_eq_false_iff_ne.mpr e]
        refine beq_eq_false_iff_ne.mpr fun q => e ?_
        exact List.append_cancel_left (spl.symm.trans q)
    unfold levelX levelY
    rw [one, one]
    simp only [List.contains_cons, List.contains_nil, Bool.or_false]
/-! ### numbers -/
theorem leads_pos {lo hi n : Nat} (hn : n ≠ 0) (h : leadsTo lo hi n = true) : ∃ k, n * 10 ^ k ≤ hi ∧ lo < (n + 1) * 10 ^ k := by
  unfold leadsTo at h
  rw [if_neg hn] at h
  obtain ⟨k, _, hk⟩ := List.any_eq_true.mp h
  rw [Bool.and_eq_true, decide_eq_true_eq, decide_eq_true_eq] at hk
  exact ⟨k, hk⟩
theorem leads_by {lo hi n k : Nat} (hn : n ≠ 0) (hh : hi < 10 ^ 11) (h1 : n * 10 ^ k ≤ hi) (h2 : lo < (n + 1) * 10 ^ k) : leadsTo lo hi n = true := by
  unfold leadsTo
  rw [if_neg hn]
  refine List.any_eq_true.mpr ⟨k, List.mem_range.mpr ?_, by rw [Bool.and_eq_true, decide_eq_true_eq, decide_eq_true_eq]; exact ⟨h1, h2⟩⟩
  by_cases hk : k < 12
  · exact hk
  · exfalso
    have e1 : 10 ^ 12 ≤ 10 ^ k := Nat.pow_le_pow_right (by decide) (by omega)
    have e2 : 1 * 10 ^ k ≤ n * 10 ^ k := Nat.mul_le_mul_right _ (by omega)
    have : (10 : Nat) ^ 11 < 10 ^ 12 := by decide
    omega
theorem leads_not {lo hi n k : Nat} (hn : n ≠ 0) (h1 : hi < n * 10 ^ k) (h2 : ∀ j, j < k → ¬ lo < (n + 1) * 10 ^ j) : leadsTo lo hi n = false := by
  cases e : leadsTo lo hi n with
  | false => rfl
  | true =>
    exfalso
    obtain ⟨j, h3, h4⟩ := leads_pos hn e
    by_cases hj : j < k
    · exact h2 j hj h4
    · have : n * 10 ^ k ≤ n * 10 ^ j := Nat.mul_le_mul_left _ (Nat.pow_le_pow_right (by decide) (by omega))
      omega
end Fm

end

section
set_option Elab.async false
set_option linter.all false
namespace Fm
open Ce CeF
/-! ### the readers by the byte that comes -/
theorem pk_hit {b : Bytes} {p : Nat} {c : UInt8} (h : pk b p = (c.toNat : Int)) : ∃ r, b.drop p = c :: r := by
  rw [pk_drop] at h
  cases e : b.drop p with
  | nil => rw [e] at h; have h : (-1 : Int) = (c.toNat : Int) := h; omega
  | cons d r =>
    rw [e] at h
    have h : (d.toNat : Int) = (c.toNat : Int) := h
    have : d.toNat = c.toNat := by omega
    rw [UInt8.toNat_inj.mp this]
    exact ⟨r, rfl⟩
theorem pk_some {b : Bytes} {p : Nat} (h : 0 ≤ pk b p) : ∃ c r, b.drop p = c :: r ∧ pk b p = (c.toNat : Int) := by
  rw [pk_drop] at h
  cases e : b.drop p with
  | nil => rw [e] at h; have h : (0 : Int) ≤ -1 := h; omega
  | cons d r => exact ⟨d, r, rfl, pk_cons e⟩
theorem pk_cases (b : Bytes) (p : Nat) : (b.drop p = [] ∧ pk b p = -1) ∨ ∃ c r, b.drop p = c :: r ∧ pk b p = (c.toNat : Int) := by
  cases e : b.drop p with
  | nil => exact .inl ⟨rfl, pk_nil e⟩
  | cons d r => exact .inr ⟨d, r, rfl, pk_cons e⟩
theorem pk_len {b : Bytes} {p : Nat} (h : 0 ≤ pk b p) : p < b.length := by
  obtain ⟨c, r, e, _⟩ := pk_some h
  exact (drop_succ e).2.1
theorem pk_end {b : Bytes} : pk b b.length = -1 := pk_nil (by simp)
theorem byte_hit {b : Bytes} {p : Nat} {c : UInt8} {r : Bytes} (h : b.drop p = c :: r) : byte_ c p (b.drop p) = .ok ((), p + 1, b.drop (p + 1)) := by
  rw [(drop_succ h).1, h]
  show (if some c = some c then behind (gives ()) else stray : Ce.Rd Unit) p (c :: r) = _
  rw [if_pos rfl]; rfl
theorem byte_miss {b : Bytes} {p : Nat} {c : UInt8} (h : ¬ pk b p = (c.toNat : Int)) : byte_ c p (b.drop p) = .error p := by
  have hn : ¬ (b.drop p).head? = some c := fun q => by
    rcases pk_cases b p with ⟨e, _⟩ | ⟨d, r, e, e2⟩
    · rw [e] at q; cases q
    · rw [e] at q
      have q : some d = some c := q
      cases q
      exact h e2
  show (if (b.drop p).head? = some c then behind (gives ()) else stray : Ce.Rd Unit) p (b.drop p) = _
  rw [if_neg hn]; rfl
theorem bytes_one (c : UInt8) : bytes_ [c] = byte_ c := by
  funext p t
  show andThen (byte_ c) (fun _ => gives ()) p t = _
  unfold andThen
  cases e : byte_ c p t with
  | error i => rfl
  | ok x => obtain ⟨u, p', t'⟩ := x; rfl
theorem bytes_hit {b : Bytes} {p : Nat} {c : UInt8} {r : Bytes} (ws : Bytes) (h : b.drop p = c :: r) : bytes_ (c :: ws) p (b.drop p) = bytes_ ws (p + 1) (b.drop (p + 1)) :=
  then_ok (byte_hit h)
theorem bytes_miss {b : Bytes} {p : Nat} {c : UInt8} (ws : Bytes) (h : ¬ pk b p = (c.toNat : Int)) : bytes_ (c :: ws) p (b.drop p) = .error p :=
  then_er (byte_miss h)
/-! ### digits -/
theorem pdig_go {b : Bytes} {lo hi p : Nat} {v : Option Nat} (h : digZ (pk b p) = true) :
    ∃ d : Nat, (d : Int) = pk b p - 48 ∧ d ≤ 9 ∧ p < b.length ∧ pdig lo hi v p (b.drop p) = if v = some 0 ∨ leadsTo lo hi (10 * v.getD 0 + d) = false then .error p else pdig lo hi (some (10 * v.getD 0 + d)) (p + 1) (b.drop (p + 1)) := by
  have h0 : 48 ≤ pk b p ∧ pk b p ≤ 57 := by
    unfold digZ at h
    rw [Bool.and_eq_true, decide_eq_true_eq, decide_eq_true_eq] at h
    exact h
  obtain ⟨c, r, e, ek⟩ := pk_some (b := b) (p := p) (by omega)
  refine ⟨c.toNat - 48, by omega, by omega, (drop_succ e).2.1, ?_⟩
  have hd : isDigit c = true := by rw [← digZ_of, ← ek]; exact h
  rw [(drop_succ e).1, e, pdig_cons, if_pos hd]
theorem pdig_fin {b : Bytes} {lo hi p : Nat} {v : Option Nat} (h : digZ (pk b p) = false) : pdig lo hi v p (b.drop p) = finP lo v p (b.drop p) := by
  rcases pk_cases b p with ⟨e, _⟩ | ⟨c, r, e, ek⟩
  · rw [e, pdig_nil]
  · have hd : ¬ isDigit c = true := by rw [← digZ_of, ← ek, h]; exact Bool.false_ne_true
    rw [e, pdig_cons, if_neg hd]
/-! ### names -/
theorem name_go {b part : Bytes} {p : Nat} (h : nameZ (bi part ++ [pk b p]) = true) :
    ∃ c : UInt8, pk b p = (c.toNat : Int) ∧ p < b.length ∧ nameOk (part ++ [c]) = true ∧ nameLoop part p (b.drop p) = nameLoop (part ++ [c]) (p + 1) (b.drop (p + 1)) := by
  rcases pk_cases b p with ⟨_, ek⟩ | ⟨c, r, e, ek⟩
  · rw [ek, nameZ_end] at h; cases h
  · have hn : nameOk (part ++ [c]) = true := by rw [← nameZ_bi, bi_app, ← h, ek]; rfl
    refine ⟨c, ek, (drop_succ e).2.1, hn, ?_⟩
    rw [(drop_succ e).1, e]
    show (if nameOk (part ++ [c]) = true then _ else _) = _
    rw [if_pos hn]
theorem name_fin {b part : Bytes} {p : Nat} (h : nameZ (bi part ++ [pk b p]) = false) : nameLoop part p (b.drop p) = nameFin part p (b.drop p) := by
  rcases pk_cases b p with ⟨e, ek⟩ | ⟨c, r, e, ek⟩
  · rw [e]; rfl
  · have hn : ¬ nameOk (part ++ [c]) = true := by
      rw [← nameZ_bi, bi_app]
      have : bi [c] = [pk b p] := by rw [ek]; rfl
      rw [this, h]; exact Bool.false_ne_true
    rw [e]
    show (if nameOk (part ++ [c]) = true then _ else _) = _
    rw [if_neg hn]
theorem dial_go {had : List Bytes} {b part : Bytes} {p : Nat} (h : beginZ had (bi part ++ [pk b p]) = true) :
    ∃ c : UInt8, pk b p = (c.toNat : Int) ∧ p < b.length ∧ dialLoop had part p (b.drop p) = dialLoop had (part ++ [c]) (p + 1) (b.drop (p + 1)) := by
  rcases pk_cases b p with ⟨_, ek⟩ | ⟨c, r, e, ek⟩
  · rw [ek, beginZ_end] at h; cases h
  · have hn : dialBegin had (part ++ [c]) = true := by rw [← beginZ_bi, bi_app, ← h, ek]; rfl
    refine ⟨c, ek, (drop_succ e).2.1, ?_⟩
    rw [(drop_succ e).1, e]
    show (if dialBegin had (part ++ [c]) = true then _ else _) = _
    rw [if_pos hn]
theorem dial_fin {had : List Bytes} {b part : Bytes} {p : Nat} (h : beginZ had (bi part ++ [pk b p]) = false) : dialLoop had part p (b.drop p) = dialFin had part p (b.drop p) := by
  rcases pk_cases b p with ⟨e, ek⟩ | ⟨c, r, e, ek⟩
  · rw [e]; rfl
  · have hn : ¬ dialBegin had (part ++ [c]) = true := by
      rw [← beginZ_bi, bi_app]
      have : bi [c] = [pk b p] := by rw [ek]; rfl
      rw [this, h]; exact Bool.false_ne_true
    rw [e]
    show (if dialBegin had (part ++ [c]) = true then _ else _) = _
    rw [if_neg hn]
theorem begin_len {had : List Bytes} {zs : List Int} (h : beginZ had zs = true) : zs.length ≤ 18 := by
  unfold beginZ at h
  rw [Bool.and_eq_true, Bool.or_eq_true, Bool.and_eq_true, decide_eq_true_eq, decide_eq_true_eq] at h
  obtain ⟨hn, h⟩ := h
  have h16 := (nameZ_len hn).2
  rcases h with ⟨h1, _⟩ | h
  · omega
  · obtain ⟨w, hw, q⟩ := List.any_eq_true.mp h
    rw [Bool.and_eq_true] at q
    have e := eq_of_beq q.1
    have hl := congrArg List.length e
    rw [List.length_take, bi_len] at hl
    have hw2 : w.length = (stemZ zs).length + 2 := by
      have tl : (toB (stemZ zs)).length = (stemZ zs).length := by unfold toB; rw [List.length_map]
      rcases List.mem_cons.mp hw with rfl | hw
      · unfold levelX; rw [List.length_append, tl]; rfl
      · rw [List.mem_singleton.mp hw]; unfold levelY; rw [List.length_append, tl]; rfl
    omega
/-! ### numbers -/
theorem number_minus {b : Bytes} {p : Nat} {lo hi : Int} (h0 : lo < 0) (h : pk b p = 45) : p < b.length ∧ pnumber lo hi p (b.drop p) = andThen (pdig 1 (-lo).toNat none) (fun (n : Nat) => gives (-(n : Int))) (p + 1) (b.drop (p + 1)) := by
  obtain ⟨r, e⟩ := pk_hit (c := 45) (b := b) (p := p) h
  refine ⟨(drop_succ e).2.1, ?_⟩
  have hh : lo < 0 ∧ (b.drop p).head? = some 45 := ⟨h0, by rw [e]; rfl⟩
  show (if lo < 0 ∧ (b.drop p).head? = some 45 then behind (andThen (pdig 1 (-lo).toNat none) fun (n : Nat) => gives (-(n : Int))) else andThen (pdig lo.toNat hi.toNat none) fun (n : Nat) => gives (n : Int) : Ce.Rd Int) p (b.drop p) = _
  rw [if_pos hh]
  show andThen _ _ (p + 1) ((b.drop p).drop 1) = _
  rw [List.drop_drop]
theorem number_plain {b : Bytes} {p : Nat} {lo hi : Int} (h : ¬ (lo < 0 ∧ pk b p = 45)) : pnumber lo hi p (b.drop p) = andThen (pdig lo.toNat hi.toNat none) (fun (n : Nat) => gives (n : Int)) p (b.drop p) := by
  have hh : ¬ (lo < 0 ∧ (b.drop p).head? = some 45) := fun ⟨q1, q2⟩ => h ⟨q1, by
    rcases pk_cases b p with ⟨e, _⟩ | ⟨c, r, e, ek⟩
    · rw [e] at q2; cases q2
    · rw [e] at q2
      have q2 : some c = some 45 := q2
      cases q2
      exact ek⟩
  show (if lo < 0 ∧ (b.drop p).head? = some 45 then behind (andThen (pdig 1 (-lo).toNat none) fun (n : Nat) => gives (-(n : Int))) else andThen (pdig lo.toNat hi.toNat none) fun (n : Nat) => gives (n : Int) : Ce.Rd Int) p (b.drop p) = _
  rw [if_neg hh]
theorem number_in {lo hi x : Int} {p p' : Nat} {t t' : Bytes} (h0 : 0 ≤ lo) (h1 : lo ≤ hi) (h : pnumber lo hi p t = .ok (x, p', t')) : lo ≤ x ∧ x ≤ hi := by
  have e1 : lo = (lo.toNat : Int) := by omega
  have e2 : hi = (hi.toNat : Int) := by omega
  rw [e1, e2] at h
  have := pnum_le (lo := lo.toNat) (hi := hi.toNat) (by omega) p t x p' t' h
  omega
/-! ### eases -/
theorem head_of {b : Bytes} {p : Nat} {c : UInt8} : (b.drop p).head? = some c ↔ pk b p = (c.toNat : Int) := by
  constructor
  · intro q
    rcases pk_cases b p with ⟨e, _⟩ | ⟨d, r, e, ek⟩
    · rw [e] at q; cases q
    · rw [e] at q
      have q : some d = some c := q
      cases q
      exact ek
  · intro q
    obtain ⟨r, e⟩ := pk_hit q
    rw [e]; rfl
theorem ease_unf (b : Bytes) (p : Nat) : ease_ p (b.drop p) = (if pk b p = 101 then andThen (bytes_ (ascii "even")) (fun (_ : Unit) => gives Ease.even) else if pk b p = 105 then andThen (bytes_ (ascii "in")) (fun (_ : Unit) => gives Ease.in_) else if pk b p = 111 then andThen (bytes_ (ascii "out")) (fun (_ : Unit) => gives Ease.out) else andThen (bytes_ (ascii "both")) fun (_ : Unit) => gives Ease.both : Ce.Rd Ease) p (b.drop p) := by
  show (if (b.drop p).head? = some 101 then andThen (bytes_ (ascii "even")) (fun (_ : Unit) => gives Ease.even) else if (b.drop p).head? = some 105 then andThen (bytes_ (ascii "in")) (fun (_ : Unit) => gives Ease.in_) else if (b.drop p).head? = some 111 then andThen (bytes_ (ascii "out")) (fun (_ : Unit) => gives Ease.out) else andThen (bytes_ (ascii "both")) fun (_ : Unit) => gives Ease.both : Ce.Rd Ease) p (b.drop p) = _
  have h1 : ((b.drop p).head? = some 101) = (pk b p = 101) := propext head_of
  have h2 : ((b.drop p).head? = some 105) = (pk b p = 105) := propext head_of
  have h3 : ((b.drop p).head? = some 111) = (pk b p = 111) := propext head_of
  simp only [h1, h2, h3]
theorem ease_none {b : Bytes} {p : Nat} (h1 : ¬ pk b p = 101) (h2 : ¬ pk b p = 105) (h3 : ¬ pk b p = 111) (h4 : ¬ pk b p = 98) : ease_ p (b.drop p) = .error p := by
  rw [ease_unf, if_neg h1, if_neg h2, if_neg h3]
  exact then_er (bytes_miss (c := 98) [111, 116, 104] h4)
/-! ### moves -/
theorem moves_full {n : Bytes} {frames at_ p : Nat} {b : Bytes} (h : pk b p = 32) : pmoves n frames 0 at_ p (b.drop p) = .error p := by
  have hh : ¬ (b.drop p).head? = some 10 := fun q => by rw [head_of] at q; rw [h] at q; exact absurd q (by decide)
  show (if (b.drop p).head? = some 10 then behind (gives []) else stray : Ce.Rd (List Move)) p (b.drop p) = _
  rw [if_neg hh]; rfl
theorem moves_late {n : Bytes} {frames k at_ p : Nat} {b : Bytes} (h : pk b p = 32) (hf : frames < at_ + 2) : pmoves n frames k at_ p (b.drop p) = .error p := by
  cases k with
  | zero => exact moves_full h
  | succ k =>
    have hh : ¬ (b.drop p).head? = some 10 := fun q => by rw [head_of] at q; rw [h] at q; exact absurd q (by decide)
    show (if (b.drop p).head? = some 10 then behind (gives []) else (if frames < at_ + 2 then stray else _) : Ce.Rd (List Move)) p (b.drop p) = _
    rw [if_neg hh, if_pos hf]; rfl
theorem moves_go {n : Bytes} {frames k at_ p : Nat} {b : Bytes} (h : pk b p = 32) (hf : ¬ frames < at_ + 2) :
    p < b.length ∧ pmoves n frames (k + 1) at_ p (b.drop p) = andThen (pmove n frames at_) (fun (m : Move) => andThen (pmoves n frames k m.to) fun (r : List Move) => gives (m :: r)) (p + 1) (b.drop (p + 1)) := by
  have hh : ¬ (b.drop p).head? = some 10 := fun q => by rw [head_of] at q; rw [h] at q; exact absurd q (by decide)
  obtain ⟨r, e⟩ := pk_hit (c := 32) (b := b) (p := p) h
  refine ⟨(drop_succ e).2.1, ?_⟩
  show (if (b.drop p).head? = some 10 then behind (gives []) else (if frames < at_ + 2 then stray else andThen (byte_ 32) fun (_ : Unit) => _) : Ce.Rd (List Move)) p (b.drop p) = _
  rw [if_neg hh, if_neg hf]
  exact then_ok (byte_hit e)
theorem moves_end {n : Bytes} {frames k at_ p : Nat} {b : Bytes} (h : ¬ pk b p = 32) : pmoves n frames k at_ p (b.drop p) = andThen (byte_ 10) (fun (_ : Unit) => gives ([] : List Move)) p (b.drop p) := by
  by_cases h10 : pk b p = 10
  · obtain ⟨r, e⟩ := pk_hit (c := 10) (b := b) (p := p) h10
    rw [then_ok (byte_hit e)]
    have hh : (b.drop p).head? = some 10 := head_of.mpr h10
    cases k with
    | zero =>
      show (if (b.drop p).head? = some 10 then behind (gives []) else stray : Ce.Rd (List Move)) p (b.drop p) = _
      rw [if_pos hh]
      show gives [] (p + 1) ((b.drop p).drop 1) = _
      rw [List.drop_drop]
    | succ k =>
      show (if (b.drop p).head? = some 10 then behind (gives []) else _ : Ce.Rd (List Move)) p (b.drop p) = _
      rw [if_pos hh]
      show gives [] (p + 1) ((b.drop p).drop 1) = _
      rw [List.drop_drop]
  · rw [then_er (byte_miss (c := 10) h10)]
    have hh : ¬ (b.drop p).head? = some 10 := fun q => h10 (head_of.mp q)
    cases k with
    | zero =>
      show (if (b.drop p).head? = some 10 then behind (gives []) else stray : Ce.Rd (List Move)) p (b.drop p) = _
      rw [if_neg hh]; rfl
    | succ k =>
      show (if (b.drop p).head? = some 10 then behind (gives []) else (if frames < at_ + 2 then stray else andThen (byte_ 32) fun (_ : Unit) => _) : Ce.Rd (List Move)) p (b.drop p) = _
      rw [if_neg hh]
      by_cases hf : frames < at_ + 2
      · rw [if_pos hf]; rfl
      · rw [if_neg hf]; exact then_er (byte_miss (c := 32) h)
/-! ### dials -/
theorem dials_end {frames k : Nat} {had : List Bytes} {b : Bytes} : pdials frames k had b.length (b.drop b.length) = .ok ([], b.length, b.drop b.length) := by
  have e : b.drop b.length = [] := by simp
  rw [e]
  cases k <;> rfl
theorem dials_full {frames p : Nat} {had : List Bytes} {b : Bytes} (h : p < b.length) : pdials frames 0 had p (b.drop p) = .error p := by
  rcases pk_cases b p with ⟨e, _⟩ | ⟨c, r, e, _⟩
  · have := drop_nil e (by omega); omega
  · rw [e]; rfl
theorem dials_go {frames k p : Nat} {had : List Bytes} {b : Bytes} (h : p < b.length) :
    pdials frames (k + 1) had p (b.drop p) = andThen (pdial frames had) (fun (d : Dial) => andThen (pdials frames k (d.name :: had)) fun (r : List Dial) => gives (d :: r)) p (b.drop p) := by
  rcases pk_cases b p with ⟨e, _⟩ | ⟨c, r, e, _⟩
  · have := drop_nil e (by omega); omega
  · rw [e]; rfl
/-! ### bounds -/
theorem least_most (n : Bytes) : -9999 ≤ least n ∧ least n ≤ 1 ∧ 64 ≤ most n ∧ most n ≤ 9999 := by
  unfold least most
  by_cases h1 : n = ZOOM
  · rw [if_pos h1, if_pos h1]; omega
  · rw [if_neg h1, if_neg h1]
    by_cases h2 : n = LIGHT
    · rw [if_pos h2, if_pos h2]; omega
    · rw [if_neg h2, if_neg h2]; omega
/-! ### the answers -/
theorem text_eq (zs : List Int) : FieldNeutral.text zs = toB zs := rfl
theorem judge_eq (zs : List Int) : PyWqasbt.judge zs = if 65536 < zs.length then [-2] else match readC (toB zs) with
    | .error i => [-6, (i : Int)]
    | .ok _ => [0] := by
  show FieldNeutral.shown (CeF.answer (.judge (toB zs))) = _
  have e : CeF.answer (.judge (toB zs)) = if CeF.LOOKED < (toB zs).length then no 2 else (match readC (toB zs) with
    | .error p => .refused 6 [p]
    | .ok _ => tells [0]) := rfl
  have l : (toB zs).length = zs.length := List.length_map ..
  rw [e, l]
  show FieldNeutral.shown (if 65536 < zs.length then _ else _) = _
  by_cases h : 65536 < zs.length
  · rw [if_pos h, if_pos h]; rfl
  · rw [if_neg h, if_neg h]
    cases readC (toB zs) <;> rfl
theorem sizes_eq (zs : List Int) : PyWqasbt.sizes zs = if 65536 < zs.length then [-2] else match readC (toB zs) with
    | .error _ => [-6]
    | .ok c => [(c.frames : Int), (c.wide : Int), (c.high : Int), (c.dials.length : Int)] := by
  show FieldNeutral.shown (CeF.answer (.sizes (toB zs))) = _
  have e : CeF.answer (.sizes (toB zs)) = if CeF.LOOKED < (toB zs).length then no 2 else (match readC (toB zs) with
    | .error _ => no 6
    | .ok c => tells [c.frames, c.wide, c.high, c.dials.length]) := rfl
  have l : (toB zs).length = zs.length := List.length_map ..
  rw [e, l]
  show FieldNeutral.shown (if 65536 < zs.length then _ else _) = _
  by_cases h : 65536 < zs.length
  · rw [if_pos h, if_pos h]; rfl
  · rw [if_neg h, if_neg h]
    cases readC (toB zs) <;> rfl
/-- the whole text read -/
theorem read_of (b : Bytes) : readC b = match preadC 0 (b.drop 0) with
    | .error i => .error i
    | .ok x => .ok x.1 := by
  rw [read_eq, List.drop_zero]
  unfold readAll
  cases preadC 0 b <;> rfl
end Fm

end

section
set_option linter.all false
namespace Fm
open Ce CeF
/-! ### what a sheet that was read keeps to -/
theorem byNext_eq {a : Type} (f : Option UInt8 → Ce.Rd a) (p : Nat) (t : Bytes) : byNext f p t = f t.head? p t := rfl
theorem shown_opt {a : Type} (o : Option a) (g : a → Answer) : FieldNeutral.shown (match o with | some d => g d | none => no 4) = match o with | some d => FieldNeutral.shown (g d) | none => [-4] := by
  cases o <;> rfl
theorem then_inv {a b : Type} {r : Ce.Rd a} {f : a → Ce.Rd b} {p p' : Nat} {y : b} {t t' : Bytes} (h : andThen r f p t = .ok (y, p', t')) : ∃ x p1 t1, r p t = .ok (x, p1, t1) ∧ f x p1 t1 = .ok (y, p', t') := by
  unfold andThen at h
  cases e : r p t with
  | error i => rw [e] at h; cases h
  | ok x => obtain ⟨u, p1, t1⟩ := x; rw [e] at h; exact ⟨u, p1, t1, rfl, h⟩
theorem gives_inv {a : Type} {x y : a} {p p' : Nat} {t t' : Bytes} (h : gives x p t = .ok (y, p', t')) : x = y := by
  cases h
  rfl
structure GoodM (m : Move) : Prop where
  lt : m.from_ < m.to
  to : m.to ≤ 1023
  lo : -9999 ≤ m.value
  hi : m.value ≤ 9999
structure GoodD (d : Dial) : Prop where
  nm : dialOk d.name = true
  lo : -9999 ≤ d.first
  hi : d.first ≤ 9999
  ms : ∀ m ∈ d.moves, GoodM m
theorem fin_good {had : List Bytes} {part : Bytes} {p p' : Nat} {t n t' : Bytes} (h : dialFin had part p t = .ok (n, p', t')) : dialOk n = true := by
  unfold dialFin at h
  split at h
  · rename_i c
    cases h
    rw [Bool.and_eq_true] at c
    exact c.1
  · cases h
theorem dialOk_len {n : Bytes} (h : dialOk n = true) : n.length ≤ 18 := by
  unfold dialOk at h
  rw [Bool.or_eq_true] at h
  rcases h with h | h
  · have q := List.contains_iff_mem.mp h
    have z : ∀ m ∈ FOUR, m.length ≤ 18 := by decide +kernel
    exact z n q
  · rw [Bool.and_eq_true] at h
    have q := h.1
    unfold nameOk at q
    rw [Bool.and_eq_true, Bool.and_eq_true, decide_eq_true_eq, List.length_take] at q
    have := q.2.1
    omega
structure GoodC (c : Camera) : Prop where
  f1 : 1 ≤ c.frames
  f2 : c.frames ≤ 1024
  w1 : 1 ≤ c.wide
  w2 : c.wide ≤ 256
  h1 : 1 ≤ c.high
  h2 : c.high ≤ 256
  ds : ∀ d ∈ c.dials, GoodD d
theorem number_val {n : Bytes} {x : Int} {p p' : Nat} {t t' : Bytes} (h : pnumber (least n) (most n) p t = .ok (x, p', t')) : -9999 ≤ x ∧ x ≤ 9999 := by
  obtain ⟨a1, a2, a3, a4⟩ := least_most n
  unfold pnumber at h
  rw [byNext_eq] at h
  by_cases c : least n < 0 ∧ t.head? = some 45
  · rw [if_pos c] at h
    obtain ⟨y, p1, t1, e1, e2⟩ := then_inv (p := p + 1) (t := t.drop 1) h
    have := gives_inv e2
    have q := pdig_le (lo := 1) (hi := (-(least n)).toNat) (by omega) _ none _ (fun _ z => nomatch z) e1
    omega
  · rw [if_neg c] at h
    obtain ⟨y, p1, t1, e1, e2⟩ := then_inv h
    have := gives_inv e2
    have q := pdig_le (lo := (least n).toNat) (hi := (most n).toNat) (by omega) _ none _ (fun _ z => nomatch z) e1
    omega
theorem move_good {n : Bytes} {frames at_ : Nat} {p p' : Nat} {t t' : Bytes} {m : Move} (h1 : at_ + 2 ≤ frames) (h2 : frames ≤ 1024) (h : pmove n frames at_ p t = .ok (m, p', t')) : GoodM m := by
  unfold pmove at h
  obtain ⟨f, p1, t1, e1, h⟩ := then_inv h
  have b1 := number_in (by omega) (by omega) e1
  obtain ⟨_, p2, t2, _, h⟩ := then_inv h
  obtain ⟨g, p3, t3, e3, h⟩ := then_inv h
  have b3 := number_in (by omega) (by omega) e3
  obtain ⟨_, p4, t4, _, h⟩ := then_inv h
  obtain ⟨v, p5, t5, e5, h⟩ := then_inv h
  have b5 := number_val e5
  obtain ⟨_, p6, t6, _, h⟩ := then_inv h
  obtain ⟨e, p7, t7, _, h⟩ := then_inv h
  have := gives_inv h
  subst this
  exact ⟨by show f.toNat < g.toNat; omega, by show g.toNat ≤ 1023; omega, b5.1, b5.2⟩
theorem moves_good {n : Bytes} {frames : Nat} (h2 : frames ≤ 1024) : ∀ (k at_ : Nat) {p p' : Nat} {t t' : Bytes} {ms : List Move}, pmoves n frames k at_ p t = .ok (ms, p', t') → ∀ m ∈ ms, GoodM m
  | 0, at_, p, p', t, t', ms, h => by
    unfold pmoves orLine at h
    rw [byNext_eq] at h
    by_cases c : t.head? = some 10
    · rw [if_pos c] at h
      have := gives_inv (p := p + 1) (t := t.drop 1) h
      subst this
      exact fun _ z => nomatch z
    · rw [if_neg c] at h; cases h
  | k + 1, at_, p, p', t, t', ms, h => by
    unfold pmoves orLine at h
    rw [byNext_eq] at h
    by_cases c : t.head? = some 10
    · rw [if_pos c] at h
      have := gives_inv (p := p + 1) (t := t.drop 1) h
      subst this
      exact fun _ z => nomatch z
    · rw [if_neg c] at h
      by_cases d : frames < at_ + 2
      · rw [if_pos d] at h; cases h
      · rw [if_neg d] at h
        obtain ⟨_, p1, t1, _, h⟩ := then_inv h
        obtain ⟨m, p2, t2, e2, h⟩ := then_inv h
        obtain ⟨r, p3, t3, e3, h⟩ := then_inv h
        have := gives_inv h
        subst this
        intro x hx
        rcases List.mem_cons.mp hx with rfl | hx
        · exact move_good (by omega) h2 e2
        · exact moves_good h2 k _ e3 x hx
theorem loop_good {had : List Bytes} : ∀ (t part : Bytes) {p p' : Nat} {n t' : Bytes}, dialLoop had part p t = .ok (n, p', t') → dialOk n = true
  | [], part, p, p', n, t', h => by
    unfold dialLoop at h
    exact fin_good h
  | c :: r, part, p, p', n, t', h => by
    unfold dialLoop at h
    split at h
    · exact loop_good r _ h
    · exact fin_good h
theorem dials_good {frames : Nat} (h2 : frames ≤ 1024) : ∀ (k : Nat) (had : List Bytes) {p p' : Nat} {t t' : Bytes} {ds : List Dial}, pdials frames k had p t = .ok (ds, p', t') → ∀ d ∈ ds, GoodD d
  | 0, had, p, p', t, t', ds, h => by
    unfold pdials atEnd at h
    rw [byNext_eq] at h
    by_cases c : t.head?.isSome = true
    · rw [if_pos c] at h; cases h
    · rw [if_neg c] at h
      have := gives_inv h
      subst this
      exact fun _ z => nomatch z
  | k + 1, had, p, p', t, t', ds, h => by
    unfold pdials at h
    rw [byNext_eq] at h
    by_cases c : t.head?.isSome = true
    · rw [if_pos c] at h
      obtain ⟨d, p1, t1, e1, h⟩ := then_inv h
      obtain ⟨r, p2, t2, e2, h⟩ := then_inv h
      have := gives_inv h
      subst this
      intro x hx
      rcases List.mem_cons.mp hx with rfl | hx
      · unfold pdial at e1
        obtain ⟨_, q1, u1, _, e1⟩ := then_inv e1
        obtain ⟨n, q2, u2, en, e1⟩ := then_inv e1
        obtain ⟨_, q3, u3, _, e1⟩ := then_inv e1
        obtain ⟨v, q4, u4, e4, e1⟩ := then_inv e1
        obtain ⟨m, q5, u5, e5, e1⟩ := then_inv e1
        have := gives_inv e1
        subst this
        have b := number_val e4
        exact ⟨loop_good _ _ en, b.1, b.2, moves_good h2 64 0 e5⟩
      · exact dials_good h2 k _ e2 x hx
    · rw [if_neg c] at h
      have := gives_inv h
      subst this
      exact fun _ z => nomatch z
theorem read_good {b : Bytes} {c : Camera} (h : readC b = .ok c) : GoodC c := by
  rw [read_of] at h
  cases e : preadC 0 (b.drop 0) with
  | error i => rw [e] at h; cases h
  | ok x =>
    obtain ⟨c', p', t'⟩ := x
    rw [e] at h
    have h : Except.ok c' = (Except.ok c : Except Nat Camera) := h
    cases h
    unfold preadC at e
    obtain ⟨_, p1, t1, _, e⟩ := then_inv e
    obtain ⟨m, p2, t2, _, e⟩ := then_inv e
    obtain ⟨_, p3, t3, _, e⟩ := then_inv e
    obtain ⟨n, p4, t4, e4, e⟩ := then_inv e
    have b4 := number_in (by decide) (by decide) e4
    obtain ⟨_, p5, t5, _, e⟩ := then_inv e
    obtain ⟨w, p6, t6, e6, e⟩ := then_inv e
    have b6 := number_in (by decide) (by decide) e6
    obtain ⟨_, p7, t7, _, e⟩ := then_inv e
    obtain ⟨hh, p8, t8, e8, e⟩ := then_inv e
    have b8 := number_in (by decide) (by decide) e8
    obtain ⟨_, p9, t9, _, e⟩ := then_inv e
    obtain ⟨l, pa, ta, ea, e⟩ := then_inv e
    have := gives_inv e
    subst this
    exact ⟨by show 1 ≤ n.toNat; omega, by show n.toNat ≤ 1024; omega, by show 1 ≤ w.toNat; omega, by show w.toNat ≤ 256; omega, by show 1 ≤ hh.toNat; omega, by show hh.toNat ≤ 256; omega, dials_good (by omega) 32 [] ea⟩
/-! ### the other calls -/
theorem toB_len (zs : List Int) : (toB zs).length = zs.length := List.length_map ..
/-- what a call answers that reads a sheet -/
theorem of_cam (zs : List Int) (f : Camera → Answer) : FieldNeutral.shown (ofCamera (toB zs) f) = if 65536 < zs.length then [-2] else match readC (toB zs) with
    | .error _ => [-6]
    | .ok c => FieldNeutral.shown (f c) := by
  have e : ofCamera (toB zs) f = if CeF.LOOKED < (toB zs).length then no 2 else (match readC (toB zs) with
    | .error _ => no 6
    | .ok c => f c) := rfl
  rw [e, toB_len]
  show FieldNeutral.shown (if 65536 < zs.length then _ else _) = _
  by_cases h : 65536 < zs.length
  · rw [if_pos h, if_pos h]; rfl
  · rw [if_neg h, if_neg h]
    cases readC (toB zs) <;> rfl
theorem namec_eq (k : Int) (zs : List Int) : PyWqasbt.name k zs = if 65536 < zs.length then [-2] else match readC (toB zs) with
    | .error _ => [-6]
    | .ok c => match c.dials[k.toNat]? with
      | some d => (d.name.length : Int) :: bi d.name
      | none => [-4] := by
  refine (of_cam zs fun c => match c.dials[k.toNat]? with
    | some d => .bytes d.name
    | none => no 4).trans ?_
  split
  · rfl
  · cases readC (toB zs) with
    | error i => rfl
    | ok c =>
      dsimp only
      cases c.dials[k.toNat]? <;> rfl
theorem dialc_eq (k : Int) (zs : List Int) : PyWqasbt.dial k zs = if 65536 < zs.length then [-2] else match readC (toB zs) with
    | .error _ => [-6]
    | .ok c => match c.dials[k.toNat]? with
      | some d => [d.first, (d.moves.length : Int)]
      | none => [-4] := by
  refine (of_cam zs fun c => match c.dials[k.toNat]? with
    | some d => .nums [d.first, (d.moves.length : Int)]
    | none => no 4).trans ?_
  split
  · rfl
  · cases readC (toB zs) with
    | error i => rfl
    | ok c =>
      dsimp only
      cases c.dials[k.toNat]? <;> rfl
theorem movec_eq (k i : Int) (zs : List Int) : PyWqasbt.move k i zs = if 65536 < zs.length then [-2] else match readC (toB zs) with
    | .error _ => [-6]
    | .ok c => match (c.dials[k.toNat]?).bind fun (d : Dial) => d.moves[i.toNat]? with
      | some m => [(m.from_ : Int), (m.to : Int), m.value, (easeNo m.ease : Int)]
      | none => [-4] := by
  refine (of_cam zs fun c => match (c.dials[k.toNat]?).bind fun (d : Dial) => d.moves[i.toNat]? with
    | some m => .nums [(m.from_ : Int), (m.to : Int), m.value, (easeNo m.ease : Int)]
    | none => no 4).trans ?_
  split
  · rfl
  · cases readC (toB zs) with
    | error i => rfl
    | ok c =>
      dsimp only
      cases (c.dials[k.toNat]?).bind fun (d : Dial) => d.moves[i.toNat]? <;> rfl
theorem valuec_eq (f : Int) (zs ss : List Int) : PyWqasbt.value f zs ss = if dialOk (toB ss) = false then [-1] else if 65536 < zs.length then [-2] else match readC (toB zs) with
    | .error _ => [-6]
    | .ok c => if c.frames ≤ f.toNat then [-4] else [c.value (toB ss) f.toNat] := by
  show FieldNeutral.shown (if dialOk (toB ss) = false then no 1 else ofCamera (toB zs) fun c => if c.frames ≤ f.toNat then no 4 else .nums [c.value (toB ss) f.toNat]) = _
  split
  · rfl
  · rw [of_cam]
    split
    · rfl
    · cases readC (toB zs) with
      | error i => rfl
      | ok c =>
        show FieldNeutral.shown (if c.frames ≤ f.toNat then no 4 else .nums [c.value (toB ss) f.toNat]) = (if c.frames ≤ f.toNat then [-4] else [c.value (toB ss) f.toNat])
        split <;> rfl
end Fm

end

section
set_option Elab.async false
set_option linter.all false
set_option maxRecDepth 100000
set_option maxHeartbeats 2000000
/-! ### enumerate over a tuple -/
namespace Et
open PySem
open Sem (wp)
open AutoSeq1 (wpAny_loadPart')
section
variable {prog : Program} {w : World} {A : Around} {E : Value → Shared → Prop} {s : Shared}
theorem next_item {it t : Addr} {i : Nat} {its : Array Value} {x : Value} {Q : Value → Shared → Prop} (hit : s.heap.IsTupleIter it t i) (ht : s.heap.IsTuple t its) (hx : its[i]? = some x)
    (k : ∀ g, g.IsTupleIter it t (i + 1) → Heap.SameBut it s.heap g → Q x { s with heap := g }) : wpAny (model prog w) A (Builtin.SmallTypes.nextOf (.ref it)) Q E s := by
  obtain ⟨ob, hob, hcl, hda⟩ := id hit
  obtain ⟨ot, hot, _, nt, hdt⟩ := ht
  unfold Builtin.SmallTypes.nextOf
  refine wpAny_bind (wpAny_callSpecial?_slot (name := Str.ofString "__next__") hit.typeIs F.slot_tuple_iterator_next (wpAny_call_entry F.slot_tuple_iterator_next hit.typeIs F.entry_tuple_iterator_next ?_ (F.args_tuple_iterator_next_1 _)))
  show wpAny _ _ (field (.ref it) 0 >>= _) _ _ s
  refine wpAny_bind (wpAny_field hob hda (x := .ref t) rfl ?_)
  show wpAny _ _ (if (Value.ref t == Value.none) = true then _ else _) _ _ s
  rw [if_neg (show ¬ ((Value.ref t == Value.none) = true) from Bool.false_ne_true)]
  show wpAny _ _ (field (.ref it) 1 >>= _) _ _ s
  refine wpAny_bind (wpAny_field hob hda (x := .int i 0) rfl ?_)
  show wpAny _ _ (seqItems? (.ref t) >>= _) _ _ s
  refine wpAny_bind (wpAny_seqItems hot hdt ?_)
  simp only [Int.toNat_natCast, hx]
  refine wpAny_bind (wpAny_setField hob hda (by simp) (wpAny_pure ⟨x, rfl, wpAny_pure (k _ ?_ (Heap.SameBut.update ..))⟩))
  refine ⟨_, Heap.get?_update_self _ hob (Obj.isFreed_of_fields (Obj.data_mapFields hda _)), (Obj.cls_mapFields ..).trans hcl, ?_⟩
  rw [Obj.data_mapFields hda]
  simp [rawInt]
theorem next_end {it t : Addr} {i : Nat} {its : Array Value} {Q : Value → Shared → Prop} (hh : A.handled = none) (hit : s.heap.IsTupleIter it t i) (ht : s.heap.IsTuple t its) (hx : its[i]? = none)
    (k : ∀ g e, Heap.ExtBut it s.heap g → (∃ o, g.get? e = some o ∧ o.cls = .type "StopIteration") → E (.ref e) { s with heap := g }) : wpAny (model prog w) A (Builtin.SmallTypes.nextOf (.ref it)) Q E s := by
  obtain ⟨ob, hob, hcl, hda⟩ := id hit
  obtain ⟨ot, hot, _, nt, hdt⟩ := ht
  unfold Builtin.SmallTypes.nextOf
  refine wpAny_bind (wpAny_callSpecial?_slot (name := Str.ofString "__next__") hit.typeIs F.slot_tuple_iterator_next (wpAny_call_entry F.slot_tuple_iterator_next hit.typeIs F.entry_tuple_iterator_next ?_ (F.args_tuple_iterator_next_1 _)))
  show wpAny _ _ (field (.ref it) 0 >>= _) _ _ s
  refine wpAny_bind (wpAny_field hob hda (x := .ref t) rfl ?_)
  show wpAny _ _ (if (Value.ref t == Value.none) = true then _ else _) _ _ s
  rw [if_neg (show ¬ ((Value.ref t == Value.none) = true) from Bool.false_ne_true)]
  show wpAny _ _ (field (.ref it) 1 >>= _) _ _ s
  refine wpAny_bind (wpAny_field hob hda (x := .int i 0) rfl ?_)
  show wpAny _ _ (seqItems? (.ref t) >>= _) _ _ s
  refine wpAny_bind (wpAny_seqItems hot hdt ?_)
  simp only [Int.toNat_natCast, hx]
  refine wpAny_bind (wpAny_rule (wpAny_bind (wpAny_setField hob hda (by simp) ?_)))
  show wpAny _ _ (newExc (.type "StopIteration") [] >>= _) _ _ _
  refine wpAny_bind ?_
  simp only [newExc, newTuple]
  refine wpAny_bind (wpAny_newObj_type ?_ (by size_fits))
  refine wpAny_bind (m := firstArgMember _ _) (wpAny_of_eq (a := Value.none) (by first | rfl | (simp only [firstArgMember]; rfl)) ?_)
  refine wpAny_newObj_type ?_ (by size_fits)
  simp only [raiseNew]
  refine wpAny_bind (wpAny_handled ?_)
  first | rw [show A.in1.handled = none from hh] | rw [hh]
  refine wpAny_bind (wpAny_pure (wpAny_throw (k _ _ (((Heap.SameBut.update ..).extBut.push _).push _) ⟨_, Heap.get?_push_size _ rfl, rfl⟩)))
end
theorem draws {prog : Program} {w : World} {A : Around} (hh : A.handled = none) (it t : Addr) (hne : t ≠ it) (its : Array Value) :
    Draws prog w A it [it, t] its.size (fun i x => its[i]? = some x) (fun i h => h.IsTupleIter it t i ∧ h.IsTuple t its) where
  live := fun i h st => let ⟨⟨o, e, _⟩, _⟩ := st; ⟨o, e⟩
  frame := fun i h h' st k => let ⟨⟨o, e, r⟩, ⟨o2, e2, r2⟩⟩ := st; ⟨⟨o, k it (by simp) o e, r⟩, ⟨o2, k t (by simp) o2 e2, r2⟩⟩
  item := fun i s Q E hi st hQ => by
    refine next_item st.1 st.2 (x := its[i]) (Array.getElem?_eq_getElem hi) fun g hg hs => ?_
    exact hQ _ g s.toks (Array.getElem?_eq_getElem hi) ⟨hg, st.2.extBut hs.extBut hne⟩ hs
  done := fun s Q E st hE => next_end hh st.1 st.2 (Array.getElem?_eq_none (Nat.le_refl _)) hE
theorem meets_new (l : Addr) (items : Array Value) (n : Nat) (dct : Option Addr) (sl : Array (Option Value)) :
    Meets (Builtin.«enumerate.__new__» ⟨[.type "enumerate", .ref l], []⟩) (fun _ R s => s.heap.get? l = some { cls := .type "tuple", dict := dct, data := .seq items n, slots := sl } ∧
      R (.ok (.ret (.ref (s.heap.push { cls := .type "tuple_iterator", data := .fields #[.ref l, .int 0 0] }).objs.size)))
        { s with heap := (s.heap.push { cls := .type "tuple_iterator", data := .fields #[.ref l, .int 0 0] }).push { cls := .type "enumerate", data := .fields #[.none, .bool false, .ref s.heap.objs.size, rawInt 0, .none, .none] } }) :=
  .of_wp fun prog w A R s h => by
    obtain ⟨hp, g, d, tk, os⟩ := s
    obtain ⟨hl, h⟩ := h
    have hsub := sub_enumerate
    have hT : Heap.IsTuple (Shared.heap ⟨hp, g, d, tk, os⟩) l items := ⟨_, hl, rfl, n, rfl⟩
    wp_walk using wpAny_loadPart' hl
    refine wpAny_stack_any fun st => wpAny_pure ?_
    split
    · rename_i c _ _ _ _ _
      cases (c == Value.type "enumerate")
      · wp_walk using wpAny_loadPart' hl, wpAny_pyIter_tuple hT
        exact ⟨_, rfl, h⟩
      · wp_walk using wpAny_loadPart' hl, wpAny_pyIter_tuple hT
        exact ⟨_, rfl, h⟩
    · wp_walk using wpAny_loadPart' hl, wpAny_pyIter_tuple hT
      exact ⟨_, rfl, h⟩
theorem call_new {prog : Program} {w : World} {A : Around} {E : Value → Shared → Prop} {s : Shared} {l : Addr} {items : Array Value} {Q : Value → Shared → Prop} (hl : s.heap.IsTuple l items)
    (k : ∀ g, IsEnum g (s.heap.objs.size + 1) s.heap.objs.size 0 .none → g.IsTupleIter s.heap.objs.size l 0 → g.objs.size = s.heap.objs.size + 2 → (∀ b o, s.heap.get? b = some o → g.get? b = some o) → Q (.ref (s.heap.objs.size + 1)) { s with heap := g }) :
    wpAny (model prog w) A (call (.type "enumerate") [.ref l]) Q E s := by
  obtain ⟨⟨cl, dc, dt, sl⟩, ho, hc, n, hd⟩ := hl
  simp only at hc hd
  subst hc hd
  refine callType_new F.called_enumerate (by decide) (F.typeCall_enumerate_1 _) (F.newCall_enumerate_1 _) (fun obj => F.args_object_init_2 obj _) F.entry_enumerate_new (meets_new l items n dc sl) ⟨ho, ?_⟩
  have hz : (s.heap.push { cls := .type "tuple_iterator", data := .fields #[.ref l, .int 0 0] }).objs.size = s.heap.objs.size + 1 := Heap.size_push ..
  show _ ∧ _
  rw [hz]
  have he : IsEnum ((s.heap.push { cls := .type "tuple_iterator", data := .fields #[.ref l, .int 0 0] }).push { cls := .type "enumerate", data := .fields #[.none, .bool false, .ref s.heap.objs.size, rawInt 0, .none, .none] }) (s.heap.objs.size + 1) s.heap.objs.size 0 .none := by
    have q := Heap.get?_push_size (s.heap.push { cls := .type "tuple_iterator", data := .fields #[.ref l, .int 0 0] }) (o := { cls := .type "enumerate", data := .fields #[.none, .bool false, .ref s.heap.objs.size, rawInt 0, .none, .none] }) rfl
    rw [hz] at q
    exact q
  exact ⟨⟨_, he, rfl⟩, k _ he ⟨_, Heap.get?_push_of_some _ (Heap.get?_push_size _ rfl), rfl, rfl⟩ (by rw [Heap.size_push, hz]) fun b o x => Heap.get?_push_of_some _ (Heap.get?_push_of_some _ x)⟩
end Et
namespace L2
open PySem PySem.Spec PyProof.Rows
/-- the tuple at a, each item in a new pair -/
def Iet (K : PySem.W.Frag) (a : Addr) : It :=
  ⟨fun i H => ∃ (xs : List V) (x : V), SqT K H a xs ∧ xs[i]? = some x, fun i H v H' => ∃ T x, v = .ref T ∧ H T = none ∧ H' = upd H T (.tup [.int (i : Nat), x]) ∧ ∀ xs, SqT K H a xs → xs[i]? = some x, fun i H => ∃ xs : List V, SqT K H a xs ∧ xs.length = i⟩
theorem turn_enumT {P : Program} {w : World} {K : PySem.W.Frag} {elts : List Expr} {kk : Nat} {tpos : Pos} (a e it : Addr) (hae : a ≠ e) (hai : a ≠ it) (its : Array Value) :
    Turn P w K (.Tuple elts kk tpos) (Iet K a) [e, it] e (fun i h => (∃ old, IsEnum h e it ((i : Nat) : Int) old) ∧ h.IsTupleIter it a i ∧ e ≠ it) where
  mem := by simp
  obj := fun i h st b hb => by
    obtain ⟨⟨old, he⟩, ⟨o, ho, hc, hd⟩, _⟩ := st
    have e' : b = e ∨ b = it := by simpa using hb
    rcases e' with z | z
    · rw [z]; exact ⟨_, he, fun v q => nomatch q⟩
    · rw [z]; exact ⟨o, ho, fun v q => by rw [hd] at q; cases q⟩
  keep := fun i h h' st k => let ⟨⟨old, he⟩, ⟨o, ho, r⟩, hne⟩ := st; ⟨⟨old, k e (by simp) _ he⟩, ⟨o, k it (by simp) o ho, r⟩, hne⟩
  item := by
    intro X hP hw hK hc i pins s σ H E I hf st hg
    subst hP hw hK
    obtain ⟨⟨old, he⟩, hit, hne⟩ := st
    obtain ⟨xs, x, hq, hx⟩ := hg
    obtain ⟨its, rv, p, hz⟩ := I.tuple hq
    obtain ⟨u, hu, ru⟩ := rv.get hx
    have hel : e < s.heap.objs.size := Heap.lt_size he
    have hil : it < s.heap.objs.size := by obtain ⟨_, q, _⟩ := hit; exact Heap.lt_size q
    have hi : i < its.toArray.size := by
      have := (List.getElem?_eq_some_iff.mp hu).1
      simpa using this
    refine wpAny_pyNext_enum_itemD (Et.draws (prog := X.prog) (w := X.w) (A := X.A.in1) (I.ok.hd hc) it a hai its.toArray) he ⟨hit, p⟩ hi hne (by simp [hne, Ne.symm hae]) fun y h' tk hy ho st' hT hsz hk => ?_
    have ey : y = u := by
      have q : its.toArray[i]? = some u := by simpa using hu
      exact Option.some.inj (hy.symm.trans q)
    subst ey
    refine ⟨_, rfl, wpAny_letOwnedTupleGo_enum (s := { s with heap := h', toks := tk + 1 }) ho fun h'' he' sb => ?_⟩
    have hT2 : h''.get? s.heap.objs.size = some { cls := .type "tuple", data := .seq #[.int i tk, y] } := (sb.2 _ (Nat.ne_of_gt hel)).trans hT
    have new : ObjOk X.prog X.w (upd H s.heap.objs.size (.tup [.int (i : Nat), x])) h'' s.heap.objs.size (.tup [.int (i : Nat), x]) :=
      ⟨by show 2 ≤ sizeLine; decide, [.int i tk, y], .cons ⟨_, rfl⟩ (.cons ru .nil), ⟨_, hT2, rfl, _, rfl⟩⟩
    have I1 : Inv X pins σ (upd H s.heap.objs.size (.tup [.int (i : Nat), x])) { s with heap := h'', toks := tk + 1 } :=
      I.turnedNew (ch := [e, it]) (fun b ob hb q => (sb.2 b (fun z => hb (by simp [z]))).trans (hk b ob (fun z => hb (by simp [z])) (fun z => hb (by simp [z])) q)) hf (Nat.le_refl _) new
    refine ⟨.ref s.heap.objs.size, _, I1, rfl, ⟨_, x, rfl, I.hok.fresh (Nat.le_refl _), rfl, fun ys hy => by rw [I.tuple_inj hy hq]; exact hx⟩, ⟨⟨y, ?_⟩, ?_, hne⟩, fun b hb => ?_⟩
    · have e1 : ((i + 1 : Nat) : Int) = (i : Int) + 1 := by omega
      rw [e1]; exact he'
    · obtain ⟨o, ho2, r⟩ := st'.1
      exact ⟨o, (sb.2 it (Ne.symm hne)).trans ho2, r⟩
    · have hb' : b < s.heap.objs.size := by
        have e' : b = e ∨ b = it := by simpa using hb
        rcases e' with z | z
        · rw [z]; exact hel
        · rw [z]; exact hil
      rw [upd_ne (Nat.ne_of_lt hb')]
      exact (hf b hb).1
  done := by
    intro X hP hw hK hc i pins s σ H E I hf st hg
    subst hP hw hK
    obtain ⟨⟨old, he⟩, hit, hne⟩ := st
    obtain ⟨xs, hq, hx⟩ := hg
    obtain ⟨its, rv, p, hz⟩ := I.tuple hq
    obtain ⟨f0, f1, f2, f3, f4, f5⟩ := hf it (by simp)
    have hl := rv.length
    have e1 : i = its.toArray.size := by rw [List.size_toArray]; omega
    subst e1
    exact wpAny_pyNext_enum_endD (Et.draws (prog := X.prog) (w := X.w) (A := X.A.in1) (I.ok.hd hc) it a hai its.toArray) he ⟨hit, p⟩ fun h' eb => ⟨rfl, I.turned (t' := s.toks) (fun b o hb q => eb b o hb q) f0 f1 f3 f4 f5⟩
  self := fun A i s Q E st h => let ⟨⟨_, he⟩, _⟩ := st; wpAny_pyIter_enum he h
def iEnumT (K : PySem.W.Frag) (ta : TA) : TI := fun σ H R => ta σ H fun vs H1 => ∃ a xs, vs = [.ref a] ∧ SqT K H1 a xs ∧ R (Iet K a) H1
theorem pi_enumT {X : Cx} {e : Expr} {ta : TA} {p pos tpos : Pos} {elts : List Expr} {kk : Nat} (hg : Gl X "enumerate") (hm : X.mg "enumerate" = none) (ha : PA X [e] ta) (hs : starEach [e] X.env = [(false, eval e X.env)] := by rfl) :
    PI X (.Tuple elts kk tpos) (.Call (.Name "enumerate" p) [e] [] pos) (iEnumT X.K ta) := by
  intro pins s σ H R I h
  refine Call_ (ld_blt I hg hm boot_enumerate (PyProof.Rows.callWith_type1 (thn (ha pos pins s σ H _ I h) fun us s1 ⟨vs, H1, I1, r1, q1⟩ => ?_) hs rfl))
  obtain ⟨a, xs, ex, hq, q⟩ := q1
  subst ex
  cases r1 with
  | cons r rr =>
    cases rr
    cases r
    obtain ⟨its, rv, p', hz⟩ := I1.tuple hq
    have hal : a < s1.heap.objs.size := by obtain ⟨o, ho, _⟩ := id p'; exact Heap.lt_size ho
    refine Et.call_new p' fun h' he hit hsz hk => wpAny_pyIter_enum he ?_
    have I2 : Inv X pins σ H1 { s1 with heap := h' } := I1.kept (t' := s1.toks) hk
    refine ⟨s1.heap.objs.size + 1, [s1.heap.objs.size + 1, s1.heap.objs.size], _, _, H1, rfl, I2, turn_enumT a (s1.heap.objs.size + 1) s1.heap.objs.size (Nat.ne_of_lt (Nat.lt_succ_of_lt hal)) (Nat.ne_of_lt hal) its.toArray, ⟨⟨.none, he⟩, hit, Nat.succ_ne_self _⟩, fun b hb => ?_, q⟩
    have e' : b = s1.heap.objs.size + 1 ∨ b = s1.heap.objs.size := by simpa using hb
    have hle : s1.heap.objs.size ≤ b := by
      rcases e' with z | z
      · rw [z]; exact Nat.le_add_right _ _
      · rw [z]; exact Nat.le_refl _
    exact I1.fpOk hle (I1.hok.fresh hle)
/-- over a tuple that stays -/
theorem for_enumT {K : PySem.W.Frag} {a : Addr} {xs : List V} {g : TG} {tb : TS} {D : Ends} {σ : St} {H : Hp} (Pv : Nat → St → Hp → Prop) (h0 : Pv 0 σ H) (hT : ∀ H, SqT K H a xs)
    (hs : ∀ i x σ H T, xs[i]? = some x → Pv i σ H → H T = none → g (.ref T) σ (upd H T (.tup [.int (i : Nat), x])) fun σ2 H2 => tb { D with nx := Pv (i + 1), ct := Pv (i + 1), bk := D.nx } σ2 H2) (hd : ∀ σ H, Pv xs.length σ H → D.nx σ H) :
    ∃ W : Nat → Nat → St → Hp → Prop, (∃ m, W 0 m σ H) ∧ ∀ i m σ H, W i m σ H →
      ((Iet K a).stop i H ∧ D.nx σ H) ∨ ((Iet K a).go i H ∧ ∃ N : St → Hp → Prop, (∀ σ' H', N σ' H' → ∃ m', m' < m ∧ W (i + 1) m' σ' H') ∧ ∀ x H', (Iet K a).yld i H x H' → g x σ H' fun σ2 H2 => tb { D with nx := N, ct := N, bk := D.nx } σ2 H2) := by
  refine ⟨fun i m σ H => m = xs.length - i ∧ i ≤ xs.length ∧ Pv i σ H, ⟨xs.length, by simp, Nat.zero_le _, h0⟩, ?_⟩
  rintro i m σ H ⟨rfl, hi, p⟩
  have q := hT H
  by_cases hlt : i < xs.length
  · refine .inr ⟨⟨xs, xs[i], q, by simp [hlt]⟩, Pv (i + 1), fun σ' H' p' => ⟨xs.length - (i + 1), by omega, rfl, hlt, p'⟩, fun v H' y => ?_⟩
    obtain ⟨T, x, rfl, nT, rfl, hx⟩ := y
    exact hs i x σ H T (hx xs q) p nT
  · have e : i = xs.length := by omega
    subst e
    exact .inl ⟨⟨xs, q, rfl⟩, hd σ H p⟩
end L2

end

section
set_option Elab.async false
set_option linter.all false
set_option maxRecDepth 100000
set_option maxHeartbeats 2000000
/-! ### rules that the layer lacks -/
namespace L2
open PySem PySem.Spec PyProof.Rows
section
variable {X : Cx}
/-- x in a list of data -/
def rInD (K : PySem.W.Frag) : R2 := fun x y H Q => ∃ d ds, Dp K H x d ∧ Dp K H y (.list ds) ∧ SeqAt.shaped d = true ∧ PyData.canLay0 (.list ds) = true ∧ Q (.bl (ds.any fun e => PyData.eqv e d)) H
theorem op_inD (hu : X.A.units + 65 < cLine) : OpR X (compareOp .In) (rInD X.K) := by
  intro pins s σ H x y v u Q I rx ry h
  obtain ⟨d, ds, hd, he, sd, se, q⟩ := h
  obtain ⟨as, r1⟩ := Dp.reads I d x v hd rx
  obtain ⟨bs, r2⟩ := Dp.reads I (.list ds) y u he ry
  exact SeqAt.in_list_reads r2 r1 se (SeqAt.canLay_of_shaped sd) (room_in_shaped sd hu) ⟨.bl _, H, I, rfl, q⟩
theorem for_str {x : Str} {g : TG} {tb : TS} {D : Ends} {σ : St} {H : Hp} (Pv : Nat → St → Hp → Prop) (h0 : Pv 0 σ H)
    (hs : ∀ i c σ H, x.cps[i]? = some c → Pv i σ H → g (.str ⟨#[c]⟩) σ H fun σ2 H2 => tb { D with nx := Pv (i + 1), ct := Pv (i + 1), bk := D.nx } σ2 H2) (hd : ∀ σ H, Pv x.cps.size σ H → D.nx σ H) :
    ∃ W : Nat → Nat → St → Hp → Prop, (∃ m, W 0 m σ H) ∧ ∀ i m σ H, W i m σ H →
      ((Its x).stop i H ∧ D.nx σ H) ∨ ((Its x).go i H ∧ ∃ N : St → Hp → Prop, (∀ σ' H', N σ' H' → ∃ m', m' < m ∧ W (i + 1) m' σ' H') ∧ ∀ v H', (Its x).yld i H v H' → g v σ H' fun σ2 H2 => tb { D with nx := N, ct := N, bk := D.nx } σ2 H2) := by
  refine ⟨fun i m σ H => m = x.cps.size - i ∧ i ≤ x.cps.size ∧ Pv i σ H, ⟨x.cps.size, by simp, Nat.zero_le _, h0⟩, ?_⟩
  rintro i m σ H ⟨rfl, hi, p⟩
  by_cases hlt : i < x.cps.size
  · refine .inr ⟨hlt, Pv (i + 1), fun σ' H' p' => ⟨x.cps.size - (i + 1), by omega, rfl, hlt, p'⟩, fun v H' y => ?_⟩
    obtain ⟨e, c, hc, rfl⟩ := y
    subst e
    exact hs i c σ _ hc p
  · have e : i = x.cps.size := by omega
    subst e
    exact .inl ⟨Nat.le_refl _, hd σ H p⟩
theorem lc_str {x : Str} {g : TG} {tt : TT} {te : TE} {vs : List Nat} {σ : St} {H1 : Hp} {D : Addr} {Qd : Hp → Prop} (Pv : Nat → Hp → Prop) (h0 : Pv 0 (upd H1 D (.lst [])))
    (hs : ∀ i c H, x.cps[i]? = some c → Pv i H → g (.str ⟨#[c]⟩) (wipe σ vs) H fun σ2 H2 => wipe σ2 vs = wipe σ vs ∧ tt σ2 H2 fun b H3 =>
      if b = true then te σ2 H3 fun y H4 => ∃ acc, H4 D = some (.lst acc) ∧ acc.length < sizeLine ∧ Pv (i + 1) (upd H4 D (.lst (acc ++ [y]))) else Pv (i + 1) H3) (hd : ∀ H, Pv x.cps.size H → Qd H) :
    ∃ W : Nat → Nat → Hp → Prop, (∃ m, W 0 m (upd H1 D (.lst []))) ∧ ∀ i m H, W i m H →
      ((Its x).stop i H ∧ Qd H) ∨ ((Its x).go i H ∧ ∃ Nx : Hp → Prop, (∀ H', Nx H' → ∃ m', m' < m ∧ W (i + 1) m' H') ∧ ∀ v H', (Its x).yld i H v H' → g v (wipe σ vs) H' fun σ2 H2 => wipe σ2 vs = wipe σ vs ∧ tt σ2 H2 fun b H3 =>
        if b = true then te σ2 H3 fun y H4 => ∃ acc, H4 D = some (.lst acc) ∧ acc.length < sizeLine ∧ Nx (upd H4 D (.lst (acc ++ [y]))) else Nx H3) := by
  refine ⟨fun i m H => m = x.cps.size - i ∧ i ≤ x.cps.size ∧ Pv i H, ⟨x.cps.size, by simp, Nat.zero_le _, h0⟩, ?_⟩
  rintro i m H ⟨rfl, hi, p⟩
  by_cases hlt : i < x.cps.size
  · refine .inr ⟨hlt, Pv (i + 1), fun H' p' => ⟨x.cps.size - (i + 1), by omega, rfl, hlt, p'⟩, fun v H' y => ?_⟩
    obtain ⟨e, c, hc, rfl⟩ := y
    subst e
    exact hs i c _ hc p
  · have e : i = x.cps.size := by omega
    subst e
    exact .inl ⟨Nat.le_refl _, hd H p⟩
/-- a while by an invariant and a measure, the test's reading as it is -/
theorem while_in {c : TT} {tb : TS} {D : Ends} {σ : St} {H : Hp} (W : Nat → St → Hp → Prop) {m : Nat} (h0 : W m σ H)
    (hs : ∀ m σ H, W m σ H → c σ H fun b H1 => if b = true then ∃ N : St → Hp → Prop, (∀ σ' H', N σ' H' → ∃ m', m' < m ∧ W m' σ' H') ∧ tb { D with nx := N, ct := N, bk := D.nx } σ H1 else D.nx σ H1) : tWhile c tb D σ H :=
  ⟨W, ⟨m, h0⟩, hs⟩
end
/-! ### data that is eqv -/
def dI (zs : List Int) : List PyData := zs.map PyData.int
theorem eqvAll_ints : ∀ (a b : List Int), PyData.eqvAll (dI a) (dI b) = (a == b)
  | [], [] => rfl
  | [], _ :: _ => rfl
  | _ :: _, [] => rfl
  | x :: a, y :: b => by
    show (PyData.eqv (.int x) (.int y) && PyData.eqvAll (dI a) (dI b)) = (x == y && (a == b))
    rw [eqvAll_ints a b]; rfl
theorem eqv_ints (a b : List Int) : PyData.eqv (.list (dI a)) (.list (dI b)) = (a == b) := eqvAll_ints a b
theorem canLay_ints : ∀ (a : List Int), PyData.canLayAll0 (dI a) = true
  | [] => rfl
  | x :: a => by
    show (PyData.canLay0 (.int x) && PyData.canLayAll0 (dI a)) = true
    rw [canLay_ints a]; rfl
theorem depth_ints : ∀ (a : List Int), PyData.depthAll (dI a) ≤ 1
  | [] => Nat.zero_le _
  | x :: a => by
    show max (PyData.depth (.int x)) (PyData.depthAll (dI a)) ≤ 1
    exact Nat.max_le.mpr ⟨by first | exact Nat.le_refl _ | exact Nat.zero_le _, depth_ints a⟩
theorem shaped_ints (a : List Int) : SeqAt.shaped (.list (dI a)) = true := by
  unfold SeqAt.shaped
  rw [Bool.and_eq_true]
  refine ⟨canLay_ints a, decide_eq_true ?_⟩
  have := depth_ints a
  show PyData.depthAll (dI a) + 1 ≤ 64
  omega
theorem dpAll_ints {K : PySem.W.Frag} {H : Hp} : ∀ (a : List Int), DpAll K H (a.map V.int) (dI a)
  | [] => .nil
  | x :: a => .cons (.int x) (dpAll_ints a)
theorem dp_ints {K : PySem.W.Frag} {H : Hp} {l : Addr} {a : List Int} (h : SqL K H l (a.map V.int)) : Dp K H (.ref l) (.list (dI a)) := .lst h (dpAll_ints a)
end L2

end

section
set_option Elab.async false
set_option linter.all false
set_option maxRecDepth 100000
set_option maxHeartbeats 2000000
namespace Fs
open PySem PySem.Spec PyProof.Rows L2 Fm
/-! ### values -/
def iv (zs : List Int) : List V := zs.map V.int
def bv (b : Ce.Bytes) : List V := iv (bi b)
theorem iv_len (zs : List Int) : (iv zs).length = zs.length := List.length_map ..
theorem bv_len (b : Ce.Bytes) : (bv b).length = b.length := by unfold bv; rw [iv_len, bi_len]
theorem iv_app (a b : List Int) : iv (a ++ b) = iv a ++ iv b := List.map_append ..
theorem iv_at {zs : List Int} {i : Nat} {z : Int} (h : zs[i]? = some z) : (iv zs)[i]? = some (V.int z) := by unfold iv; rw [List.getElem?_map, h]; rfl
theorem iv_some {zs : List Int} {i : Nat} {v : V} (h : (iv zs)[i]? = some v) : ∃ z, zs[i]? = some z ∧ v = V.int z := by
  unfold iv at h
  rw [List.getElem?_map] at h
  cases e : zs[i]? with
  | none => rw [e] at h; cases h
  | some z => rw [e] at h; exact ⟨z, rfl, (Option.some.inj h).symm⟩
theorem bi_at {b : Ce.Bytes} {p : Nat} {c : UInt8} (h : b[p]? = some c) : (bi b)[p]? = some (c.toNat : Int) := by unfold bi; rw [List.getElem?_map, h]; rfl
theorem bv_snoc (n : Ce.Bytes) (c : UInt8) : bv n ++ [V.int (c.toNat : Int)] = bv (n ++ [c]) := by
  unfold bv; rw [bi_app, iv_app]; rfl
theorem dInt {i j : Int} : decide (V.int i = V.int j) = decide (i = j) := by rw [dec_int, Bool.beq_eq_decide_eq]
theorem ite_bool {c : Bool} {A B : Prop} (h1 : c = true → A) (h2 : c = false → B) : if c = true then A else B := by
  cases c
  · exact iteF (h2 rfl)
  · exact iteT (h1 rfl)
theorem ite_dec {p A B : Prop} [Decidable p] (h1 : p → A) (h2 : ¬ p → B) : if decide p = true then A else B := by
  by_cases h : p
  · rw [decide_eq_true h]; exact iteT (h1 h)
  · rw [decide_eq_false h]; exact iteF (h2 h)
theorem ite_ndec {p A B : Prop} [Decidable p] (h1 : ¬ p → A) (h2 : p → B) : if (!decide p) = true then A else B := by
  by_cases h : p
  · rw [decide_eq_true h]; exact iteF (h2 h)
  · rw [decide_eq_false h]; exact iteT (h1 h)
/-! ### the reader -/
def rf (a : Addr) (p : Nat) : List (Str × V) := putF "at" (.int p) (putF "t" (.ref a) [])
theorem rf_list (a : Addr) (p : Nat) : rf a p = [(("t" : Str), V.ref a), (("at" : Str), V.int (p : Int))] := by
  show (if ("t" : Str) = "at" then [(("t" : Str), V.int (p : Int))] else (("t" : Str), V.ref a) :: [(("at" : Str), V.int (p : Int))]) = _
  rw [if_neg (by decide +kernel)]
theorem rf_t (a : Addr) (p : Nat) : (rf a p).lookup ("t" : Str) = some (.ref a) := by
  unfold rf
  rw [lookup_putF, if_neg (by decide +kernel), lookup_putF, if_pos rfl]
theorem rf_at (a : Addr) (p : Nat) : (rf a p).lookup ("at" : Str) = some (.int p) := by
  unfold rf
  rw [lookup_putF, if_pos rfl]
theorem rf_no (a : Addr) (p : Nat) {m : Str} (h1 : ¬ m = "at") (h2 : ¬ m = "t") : (rf a p).lookup m = none := by
  unfold rf
  rw [lookup_putF, if_neg h1, lookup_putF, if_neg h2]
  rfl
theorem rf_put (a : Addr) (p q : Nat) {z : Int} (e : z = (q : Int)) : putF "at" (.int z) (rf a p) = rf a q := by
  rw [rf_list, rf_list, e]
  show (if ("t" : Str) = "at" then _ else (("t" : Str), V.ref a) :: (if ("at" : Str) = "at" then [(("at" : Str), V.int (q : Int))] else _)) = _
  rw [if_neg (by decide +kernel), if_pos rfl]
/-- a reader of the bytes b (the list at a) stands at r, p of them passed over -/
structure Rdr (K : PySem.W.Frag) (CR : Addr) (b : Ce.Bytes) (a : Addr) (H : Hp) (r : Addr) (p : Nat) : Prop where
  ex : ∃ dx, H r = some (.ins CR dx (rf a p))
  sq : SqL K H a (bv b)
  le : p ≤ b.length
/-- all but the object at r is as it was; nothing is gone -/
structure Step (r : Addr) (H H' : Hp) : Prop where
  keep : ∀ c o, H c = some o → c ≠ r → H' c = some o
  gone : ∀ c, H' c = none → H c = none
section
variable {K : PySem.W.Frag} {CR r a : Addr} {b : Ce.Bytes} {H H1 H2 H' : Hp} {p : Nat}
theorem Step.refl : Step r H H := ⟨fun _ _ h _ => h, fun _ h => h⟩
theorem Step.trans (a : Step r H H1) (c : Step r H1 H2) : Step r H H2 := ⟨fun d o h n => c.keep d o (a.keep d o h n) n, fun d h => a.gone d (c.gone d h)⟩
theorem Step.of (s : Same H H') : Step r H H' := ⟨fun c o h _ => s c o h, fun _ h => s.free h⟩
theorem Same.laid {l : Addr} {o : HO} (h : H l = none) : Same H (upd H l o) := fun c u e => by rw [upd_ne (ne_of_none e h)]; exact e
theorem Step.new {l : Addr} {o : HO} (S : Step r H H1) (h : H l = none) : Step r H (upd H1 l o) :=
  ⟨fun c u e n => by rw [upd_ne (ne_of_none e h)]; exact S.keep c u e n, fun c e => by
    by_cases z : c = l
    · rw [z]; exact h
    · rw [upd_ne z] at e; exact S.gone c e⟩
theorem Same.new {l : Addr} {o : HO} (S : Same H H1) (h : H l = none) : Same H (upd H1 l o) := fun c u e => by rw [upd_ne (ne_of_none e h)]; exact S c u e
/-- an object is rewritten -/
theorem Step.self {o u : HO} (h : H r = some u) : Step r H (upd H r o) :=
  ⟨fun c w e n => by rw [upd_ne n]; exact e, fun c e => by
    by_cases z : c = r
    · rw [z, upd_same] at e; cases e
    · rw [upd_ne z] at e; exact e⟩
theorem Step.seq {C dx a : Addr} {fs : List (Str × V)} {xs : List V} (S : Step r H H') (hr : H r = some (.ins C dx fs)) (h : SqL K H a xs) : SqL K H' a xs := by
  rcases h with (h | ⟨o, h⟩) | h
  · exact .inl (.inl (S.keep _ _ h (ne_of h hr (by intro z; cases z))))
  · exact .inl (.inr ⟨o, S.keep _ _ h (ne_of h hr (by intro z; cases z))⟩)
  · exact .inr h
theorem Rdr.there (R : Rdr K CR b a H r p) : ∃ o, H r = some o := let ⟨_, h⟩ := R.ex; ⟨_, h⟩
theorem Rdr.same (R : Rdr K CR b a H r p) (s : Same H H') : Rdr K CR b a H' r p :=
  let ⟨dx, h1⟩ := R.ex
  ⟨⟨dx, s _ _ h1⟩, s.seq R.sq, R.le⟩
/-- not the reader's: what no instance is -/
theorem Rdr.ne (R : Rdr K CR b a H r p) {c : Addr} {o : HO} (h : H c = some o) (no : ∀ C dx fs, o ≠ .ins C dx fs) : c ≠ r :=
  let ⟨_, h1⟩ := R.ex
  ne_of h h1 (no _ _ _)
/-- a younger object is changed -/
theorem Rdr.new {l : Addr} {o : HO} {q : Nat} (R0 : Rdr K CR b a H r q) (S : Step r H H1) (R : Rdr K CR b a H1 r p) (h : H l = none) : Rdr K CR b a (upd H1 l o) r p := by
  obtain ⟨dx, e⟩ := R.ex
  obtain ⟨dx0, e0⟩ := R0.ex
  exact ⟨⟨dx, by rw [upd_ne (ne_of_none e0 h)]; exact e⟩, (S.new h).seq e0 R0.sq, R.le⟩
end
/-! ### what a reading def promises -/
structure Out (K : PySem.W.Frag) (CR : Addr) (b : Ce.Bytes) (a r : Addr) {α : Type} (enc : α → V → Hp → Hp → Prop) (res : Res α) (H : Hp) (Q : VK) (E : XK) : Prop where
  er : ∀ i : Nat, res = .error i → Er E (i : Int)
  ok : ∀ (x : α) (p' : Nat) (H' : Hp) (v : V), res = .ok (x, p', b.drop p') → Rdr K CR b a H' r p' → Step r H H' → enc x v H H' → Q v H'
/-- what is new is new for an older heap too -/
def Old {α : Type} (enc : α → V → Hp → Hp → Prop) : Prop := ∀ x v H H1 H2, (∀ c, H1 c = none → H c = none) → enc x v H1 H2 → enc x v H H2
section
variable {K : PySem.W.Frag} {CR r a : Addr} {b : Ce.Bytes} {H H1 H2 H' : Hp} {p : Nat} {α β : Type} {enc : α → V → Hp → Hp → Prop} {enc' : β → V → Hp → Hp → Prop} {Q Q1 : VK} {E : XK}
theorem Out.bind {g : Ce.Rd α} {f : α → Ce.Rd β} (o : Out K CR b a r enc' (Ce.andThen g f p (b.drop p)) H Q E)
    (next : ∀ x p' H' v, g p (b.drop p) = .ok (x, p', b.drop p') → Rdr K CR b a H' r p' → Step r H1 H' → enc x v H1 H' → Out K CR b a r enc' (f x p' (b.drop p')) H Q E → Q1 v H') : Out K CR b a r enc (g p (b.drop p)) H1 Q1 E :=
  ⟨fun i e => o.er i (then_er e), fun x p' H' v e R S en => next x p' H' v e R S en (by have o' := o; rw [then_ok e] at o'; exact o')⟩
theorem Out.gives {x : α} {v : V} (o : Out K CR b a r enc (Ce.gives x p (b.drop p)) H Q E) (R : Rdr K CR b a H' r p) (S : Step r H H') (en : enc x v H H') : Q v H' := o.ok x p H' v rfl R S en
end
def encI {α : Type} (f : α → Int) : α → V → Hp → Hp → Prop := fun x v _ _ => v = .int (f x)
def encU : Unit → V → Hp → Hp → Prop := fun _ v _ _ => v = .non
/-- a new list of bytes -/
def encN : Ce.Bytes → V → Hp → Hp → Prop := fun n v H0 H => ∃ l, v = .ref l ∧ H0 l = none ∧ H l = some (.lst (bv n))
theorem old_I {α : Type} {f : α → Int} : Old (encI f) := fun _ _ _ _ _ _ h => h
theorem old_U : Old encU := fun _ _ _ _ _ _ h => h
theorem old_N : Old encN := fun _ _ _ _ _ g h => let ⟨l, e, n, q⟩ := h; ⟨l, e, g l n, q⟩
/-! ### names that are used: the dict -/
abbrev nk (n : Ce.Bytes) : List Key := (bi n).map Sum.inl
structure UsedAt (H : Hp) (u : Addr) (had : List Ce.Bytes) : Prop where
  ex : ∃ kvs, H u = some (.dT kvs) ∧ kvs.length ≤ had.length ∧ ∀ n : Ce.Bytes, (valV kvs (nk n)).isSome = had.contains n
theorem UsedAt.same {H H' : Hp} {u : Addr} {had : List Ce.Bytes} (U : UsedAt H u had) (s : Same H H') : UsedAt H' u had :=
  let ⟨kvs, h, l, m⟩ := U.ex
  ⟨kvs, s _ _ h, l, m⟩
theorem UsedAt.step {K : PySem.W.Frag} {CR r a : Addr} {b : Ce.Bytes} {p : Nat} {H H' : Hp} {u : Addr} {had : List Ce.Bytes} (U : UsedAt H u had) (R : Rdr K CR b a H r p) (s : Step r H H') : UsedAt H' u had :=
  let ⟨kvs, h, l, m⟩ := U.ex
  ⟨kvs, s.keep _ _ h (R.ne h fun _ _ _ z => nomatch z), l, m⟩
/-! ### moves, dials, sheets as they lie in the heap -/
def MoveAt (m : CeF.Move) (v : V) (H : Hp) : Prop := ∃ a, v = .ref a ∧ H a = some (.tup [.int m.from_, .int m.to, .int m.value, .int (CeF.easeNo m.ease)])
def encM : CeF.Move → V → Hp → Hp → Prop := fun m v _ H => MoveAt m v H
def MovesAt (ms : List CeF.Move) (v : V) (H0 H : Hp) : Prop := ∃ l vs, v = .ref l ∧ H0 l = none ∧ H l = some (.lst vs) ∧ Paired (fun (u : V) (m : CeF.Move) => MoveAt m u H) vs ms
def df (vn vm : V) (f : Int) : List (Str × V) := putF "moves" vm (putF "first" (.int f) (putF "name" vn []))
theorem df_at (vn vm : V) (f : Int) : (df vn vm f).lookup ("at" : Str) = none := by
  unfold df
  rw [lookup_putF, if_neg (by decide +kernel), lookup_putF, if_neg (by decide +kernel), lookup_putF, if_neg (by decide +kernel)]
  rfl
theorem df_name (vn vm : V) (f : Int) : (df vn vm f).lookup ("name" : Str) = some vn := by
  unfold df
  rw [lookup_putF, if_neg (by decide +kernel), lookup_putF, if_neg (by decide +kernel), lookup_putF, if_pos rfl]
theorem df_first (vn vm : V) (f : Int) : (df vn vm f).lookup ("first" : Str) = some (.int f) := by
  unfold df
  rw [lookup_putF, if_neg (by decide +kernel), lookup_putF, if_pos rfl]
theorem df_moves (vn vm : V) (f : Int) : (df vn vm f).lookup ("moves" : Str) = some vm := by
  unfold df
  rw [lookup_putF, if_pos rfl]
theorem df_rf {vn vm : V} {f : Int} {a : Addr} {p : Nat} : df vn vm f ≠ rf a p := fun z => by
  have q := congrArg (fun l => List.lookup ("at" : Str) l) z
  simp only [df_at, rf_at] at q
  cases q
def DialAt (CD : Addr) (d : CeF.Dial) (v : V) (H0 H : Hp) : Prop := ∃ a dx vn vm, v = .ref a ∧ H a = some (.ins CD dx (df vn vm d.first)) ∧ encN d.name vn H0 H ∧ MovesAt d.moves vm H0 H
def DialsAt (CD : Addr) (ds : List CeF.Dial) (v : V) (H0 H : Hp) : Prop := ∃ l vs, v = .ref l ∧ H0 l = none ∧ H l = some (.lst vs) ∧ Paired (fun (u : V) (d : CeF.Dial) => DialAt CD d u H0 H) vs ds
def sf (vn vd : V) (f w h : Int) : List (Str × V) := putF "dials" vd (putF "height" (.int h) (putF "width" (.int w) (putF "frames" (.int f) (putF "name" vn []))))
section
variable (vn vd : V) (f w h : Int)
theorem sf_dials : (sf vn vd f w h).lookup ("dials" : Str) = some vd := by
  unfold sf
  rw [lookup_putF, if_pos rfl]
theorem sf_height : (sf vn vd f w h).lookup ("height" : Str) = some (.int h) := by
  unfold sf
  rw [lookup_putF, if_neg (by decide +kernel), lookup_putF, if_pos rfl]
theorem sf_width : (sf vn vd f w h).lookup ("width" : Str) = some (.int w) := by
  unfold sf
  rw [lookup_putF, if_neg (by decide +kernel), lookup_putF, if_neg (by decide +kernel), lookup_putF, if_pos rfl]
theorem sf_frames : (sf vn vd f w h).lookup ("frames" : Str) = some (.int f) := by
  unfold sf
  rw [lookup_putF, if_neg (by decide +kernel), lookup_putF, if_neg (by decide +kernel), lookup_putF, if_neg (by decide +kernel), lookup_putF, if_pos rfl]
end
def SheetAt (CS CD : Addr) (c : CeF.Camera) (v : V) (H0 H : Hp) : Prop := ∃ a dx vn vd, v = .ref a ∧ H a = some (.ins CS dx (sf vn vd c.frames c.wide c.high)) ∧ encN c.name vn H0 H ∧ DialsAt CD c.dials vd H0 H
theorem old_M : Old encM := fun _ _ _ _ _ _ h => h
theorem old_Ms : Old MovesAt := fun _ _ _ _ _ g h => let ⟨l, vs, e, n, q, z⟩ := h; ⟨l, vs, e, g l n, q, z⟩
theorem old_D {CD : Addr} : Old (DialAt CD) := fun _ _ _ _ _ g h => let ⟨a, dx, vn, vm, e, q, n, m⟩ := h; ⟨a, dx, vn, vm, e, q, old_N _ _ _ _ _ g n, old_Ms _ _ _ _ _ g m⟩
theorem old_Ds {CD : Addr} : Old (DialsAt CD) := fun _ _ _ _ _ g h => let ⟨l, vs, e, n, q, z⟩ := h; ⟨l, vs, e, g l n, q, Paired.mapP z fun _ _ y => old_D _ _ _ _ _ g y⟩
section
variable {H0 H H' : Hp} {CD : Addr}
/-- lists, tuples and dials are as they were -/
structure Kp (H H' : Hp) : Prop where
  l : ∀ c xs, H c = some (.lst xs) → H' c = some (.lst xs)
  t : ∀ c xs, H c = some (.tup xs) → H' c = some (.tup xs)
  d : ∀ c C dx vn vm f, H c = some (.ins C dx (df vn vm f)) → H' c = some (.ins C dx (df vn vm f))
theorem Same.kp (s : Same H H') : Kp H H' := ⟨fun c xs h => s c _ h, fun c xs h => s c _ h, fun c C dx vn vm f h => s c _ h⟩
theorem Step.kp {K : PySem.W.Frag} {CR r a : Addr} {b : Ce.Bytes} {p : Nat} (S : Step r H H') (R : Rdr K CR b a H r p) : Kp H H' :=
  ⟨fun c xs h => S.keep c _ h (R.ne h fun _ _ _ z => nomatch z), fun c xs h => S.keep c _ h (R.ne h fun _ _ _ z => nomatch z), fun c C dx vn vm f h => S.keep c _ h (by
    obtain ⟨dr, hr⟩ := R.ex
    refine ne_of h hr fun z => ?_
    injection z with _ _ z
    exact df_rf z)⟩
theorem Kp.trans {H1 H2 : Hp} (a : Kp H H1) (c : Kp H1 H2) : Kp H H2 := ⟨fun d xs h => c.l d xs (a.l d xs h), fun d xs h => c.t d xs (a.t d xs h), fun d C dx vn vm f h => c.d d C dx vn vm f (a.d d C dx vn vm f h)⟩
theorem encN_kp {n : Ce.Bytes} {v : V} (k : Kp H H') (h : encN n v H0 H) : encN n v H0 H' := let ⟨l, e, n, q⟩ := h; ⟨l, e, n, k.l _ _ q⟩
theorem MoveAt.kp {m : CeF.Move} {v : V} (k : Kp H H') (h : MoveAt m v H) : MoveAt m v H' := let ⟨a, e, q⟩ := h; ⟨a, e, k.t _ _ q⟩
theorem MovesAt.kp {ms : List CeF.Move} {v : V} (k : Kp H H') (h : MovesAt ms v H0 H) : MovesAt ms v H0 H' :=
  let ⟨l, vs, e, n, q, z⟩ := h; ⟨l, vs, e, n, k.l _ _ q, Paired.mapP z fun _ _ y => MoveAt.kp k y⟩
theorem DialAt.kp {d : CeF.Dial} {v : V} (k : Kp H H') (h : DialAt CD d v H0 H) : DialAt CD d v H0 H' :=
  let ⟨a, dx, vn, vm, e, q, n, m⟩ := h; ⟨a, dx, vn, vm, e, k.d _ _ _ _ _ _ q, encN_kp k n, MovesAt.kp k m⟩
theorem DialsAt.kp {ds : List CeF.Dial} {v : V} (k : Kp H H') (h : DialsAt CD ds v H0 H) : DialsAt CD ds v H0 H' :=
  let ⟨l, vs, e, n, q, z⟩ := h; ⟨l, vs, e, n, k.l _ _ q, Paired.mapP z fun _ _ y => DialAt.kp k y⟩
/-- an older list is changed -/
theorem MoveAt.upd {m : CeF.Move} {v : V} {l : Addr} {xs ys : List V} (hl : H l = some (.lst xs)) (h : MoveAt m v H) : MoveAt m v (upd H l (.lst ys)) :=
  let ⟨a, e, q⟩ := h; ⟨a, e, by rw [upd_ne (ne_of q hl (by intro z; cases z))]; exact q⟩
theorem encN_upd {n : Ce.Bytes} {v : V} {l : Addr} {o x : HO} (ho : H0 l = some o) (h : encN n v H0 H) : encN n v H0 (upd H l x) :=
  let ⟨k, e, n, q⟩ := h; ⟨k, e, n, by rw [upd_ne (Ne.symm (ne_of_none ho n))]; exact q⟩
theorem MovesAt.upd {ms : List CeF.Move} {v : V} {l : Addr} {o : HO} {xs ys : List V} (ho : H0 l = some o) (hl : H l = some (.lst xs)) (h : MovesAt ms v H0 H) : MovesAt ms v H0 (upd H l (.lst ys)) :=
  let ⟨k, vs, e, n, q, z⟩ := h; ⟨k, vs, e, n, by rw [upd_ne (Ne.symm (ne_of_none ho n))]; exact q, Paired.mapP z fun _ _ y => MoveAt.upd hl y⟩
theorem DialAt.upd {d : CeF.Dial} {v : V} {l : Addr} {o : HO} {xs ys : List V} (ho : H0 l = some o) (hl : H l = some (.lst xs)) (h : DialAt CD d v H0 H) : DialAt CD d v H0 (upd H l (.lst ys)) :=
  let ⟨a, dx, vn, vm, e, q, n, m⟩ := h; ⟨a, dx, vn, vm, e, by rw [upd_ne (ne_of q hl (by intro z; cases z))]; exact q, encN_upd ho n, MovesAt.upd ho hl m⟩
/-- a dict is changed -/
theorem Kp.dict {u : Addr} {x y : List (List Key × V)} (hu : H u = some (.dT x)) : Kp H (upd H u (.dT y)) :=
  ⟨fun c xs h => by rw [upd_ne (ne_of h hu (by intro z; cases z))]; exact h, fun c xs h => by rw [upd_ne (ne_of h hu (by intro z; cases z))]; exact h, fun c C dx vn vm f h => by rw [upd_ne (ne_of h hu (by intro z; cases z))]; exact h⟩
end
end Fs

end

section
set_option Elab.async false
set_option linter.all false
set_option maxRecDepth 100000
set_option maxHeartbeats 2000000
namespace L2
open PySem PySem.Spec PyProof.Rows
/-- a block by a plainer reading -/
theorem PSs.weak {X : Cx} {sts : List Stmt} {t t' : TS} (h : PSs X sts t) (i : ∀ D σ H, t' D σ H → t D σ H) : PSs X sts t' := fun pins s σ H D I w => h pins s σ H D I (i D σ H w)
theorem tYes_if {σ : L2.St} {H : Hp} {U W : Hp → Prop} (h : U H) : tYes σ H (fun b H3 => if b = true then U H3 else W H3) := iteT (A := U H) (B := W H) h
theorem PE.weak {X : Cx} {e : Expr} {t t' : TE} (h : PE X e t) (i : ∀ σ H Q, t' σ H Q → t σ H Q) : PE X e t' := fun pins s σ H Q I w => h pins s σ H Q I (i σ H Q w)
end L2
namespace Fs
open PySem PySem.Spec PyProof.Rows L2 Fm
theorem take_map_snoc {α β : Type} (f : α → β) {l : List α} {i : Nat} {x : α} (h : l[i]? = some x) : (l.take i).map f ++ [f x] = (l.take (i + 1)).map f := by
  obtain ⟨hl, he⟩ := List.getElem?_eq_some_iff.mp h
  rw [List.take_succ_eq_append_getElem hl, List.map_append, he]
  rfl
theorem putF_len (g : Str) (v : V) (fs : List (Str × V)) : (putF g v fs).length ≤ fs.length + 1 := by
  induction fs with
  | nil => exact Nat.le_refl _
  | cons p r ih =>
    obtain ⟨g', x⟩ := p
    show (if g' = g then (g', v) :: r else (g', x) :: putF g v r).length ≤ _
    split
    · exact Nat.le_succ _
    · rw [List.length_cons, List.length_cons]; omega
theorem SheetAt.same {CS CD : Addr} {c : CeF.Camera} {v : V} {H0 H H' : Hp} (h : SheetAt CS CD c v H0 H) (s : Same H H') : SheetAt CS CD c v H0 H' :=
  let ⟨a, dx, vn, vd, e, q, n, d⟩ := h
  ⟨a, dx, vn, vd, e, s _ _ q, encN_kp (Same.kp s) n, DialsAt.kp (Same.kp s) d⟩
/-- where things stand -/
structure Ads where
  CX : Addr
  CL : Addr
  CT : Addr
  CN : Addr
  CD : Addr
  NX : Addr
  CS : Addr
  CR : Addr
  es : Array DictEntry
  fXI : Addr
  fSI : Addr
  fDI : Addr
  fRI : Addr
  fAE : Addr
  fPk : Addr
  fAd : Addr
  fCo : Addr
  fTk : Addr
  fBo : Addr
  fIl : Addr
  fIg : Addr
  fNm : Addr
  fDn : Addr
  fBf : Addr
  fLm : Addr
  fCb : Addr
  fRg : Addr
  fRn : Addr
  fRa : Addr
  fRd : Addr
  fRe : Addr
  fMv : Addr
  fMs : Addr
  fDl : Addr
  fDs : Addr
  fSh : Addr
  fRt : Addr
  dXI : FuncData
  dSI : FuncData
  dDI : FuncData
  dRI : FuncData
  dAE : FuncData
  dPk : FuncData
  dAd : FuncData
  dCo : FuncData
  dTk : FuncData
  dBo : FuncData
  dIl : FuncData
  dIg : FuncData
  dNm : FuncData
  dDn : FuncData
  dBf : FuncData
  dLm : FuncData
  dCb : FuncData
  dRg : FuncData
  dRn : FuncData
  dRa : FuncData
  dRd : FuncData
  dRe : FuncData
  dMv : FuncData
  dMs : FuncData
  dDl : FuncData
  dDs : FuncData
  dSh : FuncData
  dRt : FuncData
  aPl : Addr
  aLe : Addr
  aEa : Addr
/-- a def of the module -/
structure Df (K : PySem.W.Frag) (mg : Str → Option Value) (x : Str) (st : Stmt) (ps : List Str) (f : Addr) (fd : FuncData) : Prop where
  F : Fun K x x st f fd
  b : Binds K fd ps []
  m : mg x = some (.ref f)
/-- a method -/
structure Md (K : PySem.W.Frag) (C : Addr) (x qual : Str) (st : Stmt) (ps : List Str) (f : Addr) (fd : FuncData) : Prop where
  F : Fun K x qual st f fd
  b : Binds K fd ps []
  m : Meth K C x f
abbrev Cint (mg : Str → Option Value) (x : Str) (i : Int) : Prop := ∃ u, mg x = some u ∧ RelV (.int i) u
/-- an own exception with its __init__ -/
structure Xcp (K : PySem.W.Frag) (mg : Str → Option Value) (C : Addr) (x qual : Str) (st : Stmt) (ps : List Str) : Prop where
  ex : ∃ N f es fd, XCls K C N f es ∧ mg x = some (.ref C) ∧ Fun K "__init__" qual st f fd ∧ Binds K fd ps []
/-- the kinds of exceptions, and the number that each is told by: NotASheet by its fault -/
def kd (A : Ads) : XKd := fun C fs i => (C = A.CX ∧ 0 ≤ i ∧ fs = [(("refusal" : Str), V.int (-6)), (("fault" : Str), V.int i)]) ∨ (C = A.CL ∧ i = -2 ∧ fs = [(("refusal" : Str), V.int (-2))]) ∨
  (C = A.CT ∧ i = -4 ∧ fs = [(("refusal" : Str), V.int (-4))]) ∨ (C = A.CN ∧ i = -1 ∧ fs = [(("refusal" : Str), V.int (-1))])
def gX : List V → List (Str × V) → Prop := fun us fs => ∃ i : Int, us = [V.int i] ∧ fs = [(("refusal" : Str), V.int (-6)), (("fault" : Str), V.int i)]
def g0 (r : Int) : List V → List (Str × V) → Prop := fun us fs => us = [] ∧ fs = [(("refusal" : Str), V.int r)]
/-- what lies at a place of paired lists -/
theorem Paired.at {α β : Type} {R : α → β → Prop} {xs : List α} {ys : List β} (h : Paired R xs ys) : ∀ (i : Nat) {x : α}, xs[i]? = some x → ∃ y, ys[i]? = some y ∧ R x y := by
  induction h with
  | nil => exact fun i x e => nomatch e
  | cons h1 h2 ih =>
    intro i x e
    cases i with
    | zero => cases e; exact ⟨_, rfl, h1⟩
    | succ i => exact ih i e
section
variable {P : Program} {w : World} {K : PySem.W.Frag} {mg : Str → Option Value} {base : Heap} {A : Ads}
/-! ### raise TooLong() -/
theorem rd_raise0 {C N fI : Addr} {es : Array DictEntry} {r i : Int} {E : XK} {σ : L2.St} {H : Hp} {D : Ends} (xc : XCls K C N fI es) (hk : kd A C [(("refusal" : Str), V.int r)] i) (er : Er E i) : tRaise K (kd A) E (tMakeX C 0 (g0 r) tNil) D σ H := by
  refine ⟨_, ⟨rfl, rfl⟩, rfl, fun x d hx hd ne => ⟨x, C, d, i, _, rfl, ⟨_, _, _, xc⟩, hk, ?_, upd_same, er⟩⟩
  rw [upd_ne ne, upd_same]
end
/-- what is known of an exception: R of its number -/
def exR (R : Int → Prop) : XK := fun v _ _ => ∃ i : Int, v = .int i 0 ∧ R i
theorem exR_er {R : Int → Prop} {i : Int} (h : R i) : Er (exR R) i := fun _ => ⟨i, rfl, h⟩
theorem exR_of {R : Int → Prop} {i : Int} (h : Er (exR R) i) : R i := by
  obtain ⟨j, e, q⟩ := h (fun _ => none)
  injection e with e _
  subst e
  exact q
/-- the number that is answered for an exception -/
def refNo (i : Int) : Int := if 0 ≤ i then -6 else i
section
variable {P : Program} {w : World} {K : PySem.W.Frag} {mg : Str → Option Value} {base : Heap} {A : Ads}
/-- except .. as e: return [e.refusal] -/
theorem hd_ref {cs : List Addr} {j : Nat} {D : Ends} {σ : L2.St} {H : Hp} {a C : Addr} {fs : List (Str × V)} {r : Int} {tr : THd} (hx : PySem.W.exmAny K (.ref C) (cs.map Value.ref) = some true) (hl : j < σ.length) (xf : XFree K C "refusal") (hf : fs.lookup ("refusal" : Str) = some (.int r))
    (q : ∀ H' p, H' p = some (.lst [.int r]) → D.rt (.ref p) H') : hAs K cs j (tRet (tLst (tCons (tXf K "refusal" (tVar j)) tNil))) tr C fs a D σ H := by
  refine ⟨true, hx, fun H' s F => iteT ?_⟩
  exact ⟨_, List.getElem?_set_self hl, a, C, fs, r, rfl, F, xf, hf, (by show 1 ≤ sizeLine; decide), fun p hp => q _ p upd_same⟩
theorem lk_ref (r : Int) (fs : List (Str × V)) : List.lookup ("refusal" : Str) ((("refusal" : Str), V.int r) :: fs) = some (.int r) := by
  rw [List.lookup_cons, beq_self_eq_true]
theorem lk_fau (r i : Int) : List.lookup ("fault" : Str) [(("refusal" : Str), V.int r), (("fault" : Str), V.int i)] = some (.int i) := by
  rw [List.lookup_cons, show (("fault" : Str) == ("refusal" : Str)) = false by decide +kernel, List.lookup_cons, beq_self_eq_true]
/-- what is handed in as a text -/
abbrev Text (K : PySem.W.Frag) (H : Hp) (a : Addr) (zs : List Int) : Prop := SqL K H a (iv zs) ∧ ∀ z ∈ zs, 0 ≤ z ∧ z ≤ 255
theorem Text.sq {H : Hp} {a : Addr} {zs : List Int} (h : Text K H a zs) : SqL K H a (bv (toB zs)) := by
  unfold bv
  rw [bi_toB h.2]
  exact h.1
end
end Fs

end

namespace Fs
open PySem PySem.Spec PyProof.Rows L2
abbrev PRG : PySem.Program := PySem.Challenge.pw_fieldsheets_s07_range_of
def top (i : Nat) : Stmt := PRG.main.body.getD i (.Pass ⟨0, 0, 0, 0⟩)
abbrev sNI : Stmt := inClass (top 1) 0
abbrev sLI : Stmt := inClass (top 2) 0
abbrev sXI : Stmt := inClass (top 3) 0
abbrev sSI : Stmt := inClass (top 5) 0
abbrev sDI : Stmt := inClass (top 6) 0
abbrev sRI : Stmt := inClass (top 22) 0
abbrev sAE : Stmt := inClass (top 22) 1
abbrev sPk : Stmt := inClass (top 22) 2
abbrev sAd : Stmt := inClass (top 22) 3
abbrev sCo : Stmt := inClass (top 22) 4
abbrev sTk : Stmt := inClass (top 22) 5
abbrev sBo : Stmt := top 23
abbrev sIl : Stmt := top 24
abbrev sIg : Stmt := top 25
abbrev sNm : Stmt := top 26
abbrev sDn : Stmt := top 27
abbrev sCd : Stmt := top 28
abbrev sBf : Stmt := top 29
abbrev sLm : Stmt := top 30
abbrev sCb : Stmt := top 31
abbrev sRg : Stmt := top 32
abbrev sRn : Stmt := top 33
abbrev sRa : Stmt := top 34
abbrev sRd : Stmt := top 35
abbrev sRe : Stmt := top 36
abbrev sMv : Stmt := top 37
abbrev sMs : Stmt := top 38
abbrev sDl : Stmt := top 39
abbrev sDs : Stmt := top 40
abbrev sSh : Stmt := top 41
abbrev sRt : Stmt := top 42
abbrev sSr : Stmt := top 47
abbrev sNe : Stmt := top 48
abbrev sEd : Stmt := top 49
abbrev sVd : Stmt := top 53
abbrev sUv : Stmt := top 54
abbrev sVa : Stmt := top 55
abbrev sLg : Stmt := top 56
abbrev sRo : Stmt := top 58
end Fs

section
set_option Elab.async false
set_option linter.all false
set_option maxRecDepth 100000
set_option maxHeartbeats 2000000
namespace Fs
open PySem PySem.Spec PyProof.Rows L2 Fm
structure Txt (A : Ads) (K : PySem.W.Frag) (mg : Str → Option Value) : Prop where
  xc : XCls K A.CX A.NX A.fXI A.es
  mX : mg "NotASheet" = some (.ref A.CX)
  xi : Fun K "__init__" "NotASheet.__init__" sXI A.fXI A.dXI
  bxi : Binds K A.dXI ["self", "fault"] []
  xL : Xcp K mg A.CL "TooLong" "TooLong.__init__" sLI ["self"]
  clS : Cls K A.CS
  mkS : Mk K A.CS A.fSI
  mS : mg "Sheet" = some (.ref A.CS)
  si : Fun K "__init__" "Sheet.__init__" sSI A.fSI A.dSI
  bsi : Binds K A.dSI ["self", "name", "frames", "width", "height", "dials"] []
  nSn : NoAttr K A.CS "name"
  nSf : NoAttr K A.CS "frames"
  nSw : NoAttr K A.CS "width"
  nSh : NoAttr K A.CS "height"
  nSd : NoAttr K A.CS "dials"
  clD : Cls K A.CD
  mkD : Mk K A.CD A.fDI
  mD : mg "Dial" = some (.ref A.CD)
  di : Fun K "__init__" "Dial.__init__" sDI A.fDI A.dDI
  bdi : Binds K A.dDI ["self", "name", "first", "moves"] []
  nDn : NoAttr K A.CD "name"
  nDf : NoAttr K A.CD "first"
  nDm : NoAttr K A.CD "moves"
  clR : Cls K A.CR
  mkR : Mk K A.CR A.fRI
  mR : mg "Reader" = some (.ref A.CR)
  ri : Fun K "__init__" "Reader.__init__" sRI A.fRI A.dRI
  bri : Binds K A.dRI ["self", "t"] []
  nT : NoAttr K A.CR "t"
  nAt : NoAttr K A.CR "at"
  ae : Md K A.CR "at_end" "Reader.at_end" sAE ["self"] A.fAE A.dAE
  pk : Md K A.CR "peek" "Reader.peek" sPk ["self"] A.fPk A.dPk
  ad : Md K A.CR "advance" "Reader.advance" sAd ["self"] A.fAd A.dAd
  co : Md K A.CR "comes" "Reader.comes" sCo ["self", "sign"] A.fCo A.dCo
  tk : Md K A.CR "take" "Reader.take" sTk ["self", "word"] A.fTk A.dTk
  bo : Df K mg "bytes_of" sBo ["word"] A.fBo A.dBo
  il : Df K mg "is_letter" sIl ["byte"] A.fIl A.dIl
  ig : Df K mg "is_digit" sIg ["byte"] A.fIg A.dIg
  nm : Df K mg "is_name" sNm ["part"] A.fNm A.dNm
  dn : Df K mg "is_dial_name" sDn ["part"] A.fDn A.dDn
  bf : Df K mg "begins_free_dial" sBf ["part", "used"] A.fBf A.dBf
  lm : Df K mg "least_and_most" sLm ["dial_name"] A.fLm A.dLm
  cb : Df K mg "can_become" sCb ["number", "least", "most"] A.fCb A.dCb
  rg : Df K mg "read_digits" sRg ["reader", "least", "most"] A.fRg A.dRg
  rn : Df K mg "read_number" sRn ["reader", "least", "most"] A.fRn A.dRn
  ra : Df K mg "read_name" sRa ["reader"] A.fRa A.dRa
  rd : Df K mg "read_dial_name" sRd ["reader", "used"] A.fRd A.dRd
  re : Df K mg "read_ease" sRe ["reader"] A.fRe A.dRe
  mv : Df K mg "read_move" sMv ["reader", "earliest", "frames", "bounds"] A.fMv A.dMv
  ms : Df K mg "read_moves" sMs ["reader", "frames", "bounds"] A.fMs A.dMs
  dl : Df K mg "read_dial" sDl ["reader", "frames", "used"] A.fDl A.dDl
  ds : Df K mg "read_dials" sDs ["reader", "frames"] A.fDs A.dDs
  sh : Df K mg "read_sheet" sSh ["t"] A.fSh A.dSh
  rt : Df K mg "read_text" sRt ["t"] A.fRt A.dRt
  len : mg "len" = none
  ord : mg "ord" = none
  all : mg "all" = none
  max : mg "max" = none
  enu : mg "enumerate" = none
  tup : mg "tuple" = none
  cNB : Cint mg "NO_BYTE" (-1)
  cMF : Cint mg "MOST_FRAMES" 1024
  cLS : Cint mg "LONGEST_SIDE" 256
  cLN : Cint mg "LONGEST_NAME" 16
  cMD : Cint mg "MOST_DIALS" 32
  cMM : Cint mg "MOST_MOVES" 64
  cLT : Cint mg "LONGEST_TEXT" 65536
  cMZ : Cint mg "MOST_ZOOM" 256
  cML : Cint mg "MOST_LIGHT" 64
  cLV : Cint mg "LEAST_VALUE" (-9999)
  cMV : Cint mg "MOST_VALUE" 9999
  mPl : mg "PLAIN_DIALS" = some (.ref A.aPl)
  mLe : mg "LEVEL_ENDINGS" = some (.ref A.aLe)
  mEa : mg "EASES" = some (.ref A.aEa)
  tPl : ∀ H, SqT K H A.aPl [.str "x", .str "y", .str "zoom", .str "light"]
  tLe : ∀ H, SqT K H A.aLe [.str ".x", .str ".y"]
  tEa : ∀ H, SqT K H A.aEa [.str "even", .str "in", .str "out", .str "both"]
/-! ### promises of the reader's methods -/
def spRI (CR : Addr) : Sp := fun vs H Q _ => ∃ r a dx, vs = [.ref r, .ref a] ∧ H r = some (.ins CR dx []) ∧ ∀ H' : Hp, (∃ dx, H' r = some (.ins CR dx (rf a 0))) → Step r H H' → Q .non H'
def spAE (K : PySem.W.Frag) (CR : Addr) : Sp := fun vs H Q _ => ∃ r b a p, vs = [.ref r] ∧ Rdr K CR b a H r p ∧ Q (.bl (decide (p = b.length))) H
def spPk (K : PySem.W.Frag) (CR : Addr) : Sp := fun vs H Q _ => ∃ r b a p, vs = [.ref r] ∧ Rdr K CR b a H r p ∧ Q (.int (pk b p)) H
def spAd (K : PySem.W.Frag) (CR : Addr) : Sp := fun vs H Q _ => ∃ r b a p, vs = [.ref r] ∧ Rdr K CR b a H r p ∧ p < b.length ∧ ∀ H' : Hp, Rdr K CR b a H' r (p + 1) → Step r H H' → Q .non H'
def spCo (K : PySem.W.Frag) (CR : Addr) : Sp := fun vs H Q _ => ∃ r b a p x, vs = [.ref r, .str x] ∧ x.length = 1 ∧ Rdr K CR b a H r p ∧ Q (.bl (decide (pk b p = (x.cps.getD 0 0 : Nat)))) H
/-- the codes of a text are these bytes -/
abbrev Codes (x : Str) (ws : Ce.Bytes) : Prop := x.cps.toList = ws.map (·.toNat)
def spTk (K : PySem.W.Frag) (CR : Addr) : Sp := fun vs H Q E => ∃ r b a p x ws, vs = [.ref r, .str x] ∧ Codes x ws ∧ Rdr K CR b a H r p ∧ Out K CR b a r encU (Ce.bytes_ ws p (b.drop p)) H Q E
section
variable {P : Program} {w : World} {K : PySem.W.Frag} {mg : Str → Option Value} {base : Heap} {A : Ads}
section
variable {CR r a : Addr} {b : Ce.Bytes} {H : Hp} {σ : L2.St} {Q : VK} {E : XK} {i p : Nat}
/-! readings of calls of the reader's methods -/
theorem rd_ae (hσ : σ[i]? = some (some (.ref r))) (R : Rdr K CR b a H r p) (q : Q (.bl (decide (p = b.length))) H) : tMeth CR "at_end" (spAE K CR) [] E (tVar i) tNil σ H Q := by
  obtain ⟨dx, h1⟩ := R.ex
  exact ⟨_, hσ, r, dx, _, rfl, h1, rf_no _ _ (by decide +kernel) (by decide +kernel), r, b, a, p, rfl, R, q⟩
theorem rd_pk (hσ : σ[i]? = some (some (.ref r))) (R : Rdr K CR b a H r p) (q : Q (.int (pk b p)) H) : tMeth CR "peek" (spPk K CR) [] E (tVar i) tNil σ H Q := by
  obtain ⟨dx, h1⟩ := R.ex
  exact ⟨_, hσ, r, dx, _, rfl, h1, rf_no _ _ (by decide +kernel) (by decide +kernel), r, b, a, p, rfl, R, q⟩
theorem rd_ad (hσ : σ[i]? = some (some (.ref r))) (R : Rdr K CR b a H r p) (hp : p < b.length) (q : ∀ H' : Hp, Rdr K CR b a H' r (p + 1) → Step r H H' → Q .non H') : tMeth CR "advance" (spAd K CR) [] E (tVar i) tNil σ H Q := by
  obtain ⟨dx, h1⟩ := R.ex
  exact ⟨_, hσ, r, dx, _, rfl, h1, rf_no _ _ (by decide +kernel) (by decide +kernel), r, b, a, p, rfl, R, hp, q⟩
theorem rd_co {t : TA} {x : Str} (hσ : σ[i]? = some (some (.ref r))) (R : Rdr K CR b a H r p) (hx : x.length = 1) (ht : ∀ Q' : List V → Hp → Prop, Q' [.str x] H → t σ H Q') (q : Q (.bl (decide (pk b p = (x.cps.getD 0 0 : Nat)))) H) : tMeth CR "comes" (spCo K CR) [] E (tVar i) t σ H Q := by
  obtain ⟨dx, h1⟩ := R.ex
  exact ⟨_, hσ, r, dx, _, rfl, h1, rf_no _ _ (by decide +kernel) (by decide +kernel), ht _ ⟨r, b, a, p, x, rfl, hx, R, q⟩⟩
theorem rd_tk {t : TA} {x : Str} {ws : Ce.Bytes} (hσ : σ[i]? = some (some (.ref r))) (R : Rdr K CR b a H r p) (hx : Codes x ws) (ht : ∀ Q' : List V → Hp → Prop, Q' [.str x] H → t σ H Q') (o : Out K CR b a r encU (Ce.bytes_ ws p (b.drop p)) H Q E) : tMeth CR "take" (spTk K CR) [] E (tVar i) t σ H Q := by
  obtain ⟨dx, h1⟩ := R.ex
  exact ⟨_, hσ, r, dx, _, rfl, h1, rf_no _ _ (by decide +kernel) (by decide +kernel), ht _ ⟨r, b, a, p, x, ws, rfl, hx, R, o⟩⟩
/-- self.at, reader.at -/
theorem rd_at (T : Txt A K mg) (hσ : σ[i]? = some (some (.ref r))) (R : Rdr K A.CR b a H r p) (q : Q (.int p) H) : tFld K (tVar i) "at" σ H Q := by
  obtain ⟨dx, h1⟩ := R.ex
  exact ⟨_, hσ, r, A.CR, dx, _, _, rfl, h1, T.clR, T.nAt, rf_at _ _, q⟩
/-- raise NotASheet(reader.at) -/
theorem rd_raise {D : Ends} (T : Txt A K mg) (hσ : σ[i]? = some (some (.ref r))) (R : Rdr K A.CR b a H r p) (er : Er E (p : Int)) : tRaise K (kd A) E (tMakeX A.CX 1 gX (tCons (tFld K (tVar i) "at") tNil)) D σ H := by
  refine rd_at T hσ R ?_
  refine ⟨_, ⟨(p : Int), rfl, rfl⟩, rfl, fun x d hx hd ne => ⟨x, A.CX, d, (p : Int), _, rfl, ⟨_, _, _, T.xc⟩, .inl ⟨rfl, Int.natCast_nonneg p, rfl⟩, ?_, upd_same, er⟩⟩
  rw [upd_ne ne, upd_same]
end
theorem scXI : FnScope ["self", "fault"] ["self", "fault"] (defScope sXI) := ⟨rfl, rfl, rfl, by decide +kernel, rfl, by decide +kernel, by decide +kernel⟩
theorem ok_xi (T : Txt A K mg) : FnOk P w K mg base CX0 1 A.fXI A.dXI ["self", "fault"] (spXI A.CX gX) := by
  refine T.xi.ok scXI (fun vs H Q E h => ?_) (fun cdv A' outer s H vs Q E hr h => ?_)
  · obtain ⟨a, us, fs, rfl, ⟨i, rfl, _⟩, _⟩ := h
    rfl
  · obtain ⟨a, us, fs, rfl, ⟨i, rfl, rfl⟩, ha, k⟩ := h
    refine ⟨_, pss_cons (ps_fldX1 T.xc.refusal (pv 0) (pe_un un_neg pe_int) rfl) (pss_one (ps_fldX2 (m := "refusal") T.xc.fault (by decide +kernel) (pv 0) (pv 1) rfl)), ?_⟩
    refine ⟨_, rfl, _, rfl, a, rfl, ha, fun dx hdx => ?_⟩
    have ne : dx ≠ a := Ne.symm (ne_of_none ha hdx)
    refine ⟨_, rfl, _, rfl, a, dx, _, rfl, upd_same, ne, (by rw [upd_ne ne]; exact upd_same), ?_⟩
    have e1 : upd (upd (upd H dx (.ext (xdO "refusal" (V.int (-6)) dx))) a (.ext (excN A.CX dx a))) dx (.xd [(("refusal" : Str), V.int (-6)), (("fault" : Str), V.int i)]) = upd (upd H dx (.xd [(("refusal" : Str), V.int (-6)), (("fault" : Str), V.int i)])) a (.ext (excN A.CX dx a)) := by
      funext b
      by_cases z : b = a
      · subst z; rw [upd_ne (Ne.symm ne), upd_same, upd_same]
      · rw [upd_ne z]
        by_cases y : b = dx
        · subst y; rw [upd_same, upd_same]
        · rw [upd_ne y, upd_ne z, upd_ne y, upd_ne y]
    show Q .non (upd (upd (upd H dx (.ext (xdO "refusal" (V.int (-6)) dx))) a (.ext (excN A.CX dx a))) dx (.xd [(("refusal" : Str), V.int (-6)), (("fault" : Str), V.int i)]))
    rw [e1]
    exact k dx hdx
theorem scRI : FnScope ["self", "t"] ["self", "t"] (defScope sRI) := ⟨rfl, rfl, rfl, by decide +kernel, rfl, by decide +kernel, by decide +kernel⟩
theorem ok_ri (T : Txt A K mg) : FnOk P w K mg base CX0 1 A.fRI A.dRI ["self", "t"] (spRI A.CR) := by
  refine T.ri.ok scRI (fun vs H Q E h => ?_) (fun cdv A' outer s H vs Q E hr h => ?_)
  · obtain ⟨r, a, dx, rfl, _⟩ := h
    rfl
  · obtain ⟨r, a, dx, rfl, hr', k⟩ := h
    refine ⟨_, pss_cons (ps_fld (pv 0) (pv 1) rfl) (pss_one (ps_fld (pv 0) pe_int rfl)), ?_⟩
    refine ⟨_, rfl, _, rfl, r, A.CR, dx, [], rfl, hr', T.clR, T.nT, (by show 0 < 1000; decide), ?_⟩
    refine ⟨_, rfl, r, A.CR, dx, _, rfl, upd_same, T.clR, T.nAt, (by show 1 < 1000; decide), ?_⟩
    refine k _ ⟨dx, upd_same⟩ ?_
    rw [upd_upd]
    exact Step.self hr'
theorem scAE : FnScope ["self"] ["self"] (defScope sAE) := ⟨rfl, rfl, rfl, by decide +kernel, rfl, by decide +kernel, by decide +kernel⟩
theorem ok_ae (T : Txt A K mg) : FnOk P w K mg base CX0 1 A.fAE A.dAE ["self"] (spAE K A.CR) := by
  refine T.ae.F.ok scAE (fun vs H Q E h => ?_) (fun cdv A' outer s H vs Q E hr h => ?_)
  · obtain ⟨r, b, a, p, rfl, _⟩ := h
    rfl
  · obtain ⟨r, b, a, p, rfl, R, k⟩ := h
    obtain ⟨dx, h1⟩ := R.ex
    refine ⟨_, pss_one (ps_ret (pe_cmpR op_eq (pe_fld (pv 0) rfl) (pe_callB call_len_seq (by rfl) T.len PySem.boot_len (pa_cons (pe_fld (pv 0) rfl) pa_nil)) (nomark _))), ?_⟩
    refine ⟨_, rfl, r, A.CR, dx, _, _, rfl, h1, T.clR, T.nAt, rf_at _ _, _, rfl, r, A.CR, dx, _, _, rfl, h1, T.clR, T.nT, rf_t _ _, a, _, rfl, .inl R.sq, rfl, ?_⟩
    have e : decide (V.int (p : Int) = V.int ((bv b).length : Int)) = decide (p = b.length) := by
      rw [dInt, bv_len]
      exact decide_eq_decide.mpr (by omega)
    show Q (.bl (decide (V.int (p : Int) = V.int ((bv b).length : Int)))) H
    rw [e]
    exact k
theorem scPk : FnScope ["self"] ["self"] (defScope sPk) := ⟨rfl, rfl, rfl, by decide +kernel, rfl, by decide +kernel, by decide +kernel⟩
theorem ok_pk (T : Txt A K mg) : FnOk P w K mg base CX0 2 A.fPk A.dPk ["self"] (spPk K A.CR) := by
  refine T.pk.F.ok scPk (fun vs H Q E h => ?_) (fun cdv A' outer s H vs Q E hr h => ?_)
  · obtain ⟨r, b, a, p, rfl, _⟩ := h
    rfl
  · obtain ⟨r, b, a, p, rfl, R, k⟩ := h
    obtain ⟨dx, h1⟩ := R.ex
    obtain ⟨uN, mN, rN⟩ := T.cNB
    refine ⟨_, pss_cons (ps_if (pt_val (pe_meth0 (pv 0) T.clR T.ae.m (ok_ae T) hr T.ae.b .nil pass0)) (pss_one (ps_ret (pe_glob (by rfl) mN rN))) pss_nil)
      (pss_one (ps_ret (pe_ix ix_list (pe_fld (pv 0) rfl) (pe_fld (pv 0) rfl) (fun _ _ => rfl)))), ?_⟩
    refine rd_ae rfl R ⟨_, rfl, ite_dec (fun h => ?_) (fun h => ?_)⟩
    · subst h
      show Q (.int (-1)) H
      rw [← pk_end (b := b)]
      exact k
    · have hlt : p < b.length := Nat.lt_of_le_of_ne R.le h
      have eb : b[p]? = some b[p] := List.getElem?_eq_getElem hlt
      have ek : pk b p = (b[p].toNat : Int) := by unfold pk; rw [eb]
      refine ⟨_, rfl, r, A.CR, dx, _, _, rfl, h1, T.clR, T.nT, rf_t _ _, _, rfl, r, A.CR, dx, _, _, rfl, h1, T.clR, T.nAt, rf_at _ _, a, _, _, _, rfl, rfl, R.sq, at_of (j := p) rfl (iv_at (bi_at eb)), ?_⟩
      rw [← ek]
      exact k
theorem scAd : FnScope ["self"] ["self"] (defScope sAd) := ⟨rfl, rfl, rfl, by decide +kernel, rfl, by decide +kernel, by decide +kernel⟩
theorem ok_ad (T : Txt A K mg) : FnOk P w K mg base CX0 1 A.fAd A.dAd ["self"] (spAd K A.CR) := by
  refine T.ad.F.ok scAd (fun vs H Q E h => ?_) (fun cdv A' outer s H vs Q E hr h => ?_)
  · obtain ⟨r, b, a, p, rfl, _⟩ := h
    rfl
  · obtain ⟨r, b, a, p, rfl, R, hp, k⟩ := h
    obtain ⟨dx, h1⟩ := R.ex
    refine ⟨_, pss_one (ps_fldaug (pv 0) pe_int in_add), ?_⟩
    refine ⟨_, rfl, r, A.CR, dx, _, _, rfl, h1, T.clR, T.nAt, rf_at _ _, _, _, rfl, rfl, dx, _, h1, (by rw [rf_list]; show 2 < 1000; decide), ?_⟩
    have e : putF "at" (V.int ((p : Int) + 1)) (rf a p) = rf a (p + 1) := rf_put a p (p + 1) (by omega)
    have S : Step r H (upd H r (.ins A.CR dx (rf a (p + 1)))) := Step.self h1
    show Q .non (upd H r (.ins A.CR dx (putF "at" (V.int ((p : Int) + 1)) (rf a p))))
    rw [e]
    exact k _ ⟨⟨dx, upd_same⟩, S.seq h1 R.sq, hp⟩ S
theorem scCo : FnScope ["self", "sign"] ["self", "sign"] (defScope sCo) := ⟨rfl, rfl, rfl, by decide +kernel, rfl, by decide +kernel, by decide +kernel⟩
theorem ok_co (T : Txt A K mg) : FnOk P w K mg base CX0 3 A.fCo A.dCo ["self", "sign"] (spCo K A.CR) := by
  refine T.co.F.ok scCo (fun vs H Q E h => ?_) (fun cdv A' outer s H vs Q E hr h => ?_)
  · obtain ⟨r, b, a, p, x, rfl, _⟩ := h
    rfl
  · obtain ⟨r, b, a, p, x, rfl, hx, R, k⟩ := h
    refine ⟨_, pss_one (ps_ret (pe_cmpR op_eq (pe_meth0 (pv 0) T.clR T.pk.m (ok_pk T) hr T.pk.b .nil pass0) (pe_callB call_ord (by rfl) T.ord boot_ord (pa_cons (pv 1) pa_nil)) (nomark _))), ?_⟩
    refine rd_pk rfl R ⟨_, rfl, x, rfl, hx, rfl, ?_⟩
    show Q (.bl (decide (V.int (pk b p) = V.int ((x.cps.getD 0 0 : Nat) : Int)))) H
    rw [dInt]
    exact k
theorem scTk : FnScope ["self", "word", "sign"] ["self", "word"] (defScope sTk) := ⟨rfl, rfl, rfl, by decide +kernel, rfl, by decide +kernel, by decide +kernel⟩
theorem ok_tk (T : Txt A K mg) : FnOk P w K mg base (CXN P w (kd A)) 4 A.fTk A.dTk ["self", "word"] (spTk K A.CR) := by
  refine T.tk.F.okX scTk (fun vs H Q E h => ?_) (fun cdv A' outer s H vs Q E hr h => ?_)
  · obtain ⟨r, b, a, p, x, ws, rfl, _⟩ := h
    rfl
  · obtain ⟨r, b, a, p, x, ws, rfl, hx, R, k⟩ := h
    have hr1 : Room 1 _ := hr.mono (by decide)
    have hr2 : Room 2 _ := hr.mono (by decide)
    refine ⟨_, pss_one (ps_for owns_fn rfl (pi_str (pv 1)) (pg_name (i := 2) scTk.nd rfl (Or.inl rfl))
      (pss_cons (ps_if (pt_not (pt_val (pe_meth (pv 0) T.clR T.co.m (ok_co T) hr T.co.b .nil pass0 (pa_cons (pv 2) pa_nil))))
        (pss_one (ps_raise throws_fn rfl (pe_makeX T.xc (ok_xi T) hr2 T.bxi (by rfl) T.mX (pa_cons (pe_fld (pv 0) rfl) pa_nil)))) pss_nil)
      (pss_one (ps_expr (pe_meth0 (pv 0) T.clR T.ad.m (ok_ad T) hr1 T.ad.b .nil pass0))))), ?_⟩
    refine ⟨_, rfl, x, rfl, for_str (fun i σ H' => ∃ q v, σ = [some (.ref r), some (.str x), v] ∧ Rdr K A.CR b a H' r q ∧ Step r H H' ∧ Ce.bytes_ ws p (b.drop p) = Ce.bytes_ (ws.drop i) q (b.drop q)) ⟨p, none, rfl, R, Step.refl, by rw [List.drop_zero]⟩ ?_ ?_⟩
    · rintro i c σ H' hc ⟨q, v, rfl, R', S', e⟩
      obtain ⟨d, hd, rfl⟩ : ∃ d, ws[i]? = some d ∧ c = d.toNat := by
        have hc' : x.cps.toList[i]? = some c := by rw [Array.getElem?_toList]; exact hc
        rw [show x.cps.toList = ws.map (·.toNat) from hx, List.getElem?_map] at hc'
        cases e : ws[i]? with
        | none => rw [e] at hc'; cases hc'
        | some d => rw [e] at hc'; exact ⟨d, rfl, (Option.some.inj hc').symm⟩
      have edrop : ws.drop i = d :: ws.drop (i + 1) := by
        obtain ⟨hl, he⟩ := List.getElem?_eq_some_iff.mp hd
        rw [List.drop_eq_getElem_cons hl, he]
      rw [edrop] at e
      refine rd_co (x := ⟨#[d.toNat]⟩) rfl R' rfl (fun Q' z => ⟨_, rfl, z⟩) ⟨_, rfl, ?_⟩
      show if (!decide (pk b q = ((d.toNat : Nat) : Int))) = true then _ else _
      refine ite_ndec (fun hn => ?_) (fun hy => ?_)
      · refine rd_raise T rfl R' (k.er q ?_)
        rw [e, bytes_miss _ hn]
      · obtain ⟨rr, er⟩ := pk_hit hy
        refine rd_ad rfl R' (drop_succ er).2.1 fun H2 R2 S2 => ?_
        exact ⟨q + 1, _, rfl, R2, S'.trans S2, by rw [e, bytes_hit _ er]⟩
    · rintro σ H' ⟨q, v, rfl, R', S', e⟩
      have hl : x.cps.size = ws.length := by
        have := congrArg List.length (show x.cps.toList = ws.map (·.toNat) from hx)
        rw [List.length_map] at this
        simpa using this
      rw [hl, List.drop_length] at e
      exact k.ok () q H' .non e R' S' rfl
end
end Fs

end

section
set_option Elab.async false
set_option linter.all false
set_option maxRecDepth 100000
set_option maxHeartbeats 2000000
namespace Fs
open PySem PySem.Spec PyProof.Rows L2 Fm
/-! ### promises -/
def cI (x : Str) : List Int := x.cps.toList.map fun (c : Nat) => (c : Int)
theorem cI_codes {x : Str} {ws : Ce.Bytes} (h : Codes x ws) : cI x = bi ws := by
  unfold cI bi
  rw [show x.cps.toList = ws.map (·.toNat) from h, List.map_map]
  rfl
def spBo : Sp := fun vs H Q _ => ∃ x : Str, vs = [.str x] ∧ x.cps.size ≤ 1000 ∧ ∀ (H' : Hp) (l : Addr), Same H H' → H l = none → H' l = some (.lst (iv (cI x))) → Q (.ref l) H'
def spIl : Sp := fun vs H Q _ => ∃ z : Int, vs = [.int z] ∧ Q (.bl (lowZ z)) H
def spIg : Sp := fun vs H Q _ => ∃ z : Int, vs = [.int z] ∧ Q (.bl (digZ z)) H
def spNm (K : PySem.W.Frag) : Sp := fun vs H Q _ => ∃ l zs, vs = [.ref l] ∧ SqL K H l (iv zs) ∧ ∀ H' : Hp, Same H H' → Q (.bl (nameZ zs)) H'
def spDn (K : PySem.W.Frag) : Sp := fun vs H Q _ => ∃ l n, vs = [.ref l] ∧ SqL K H l (bv n) ∧ ∀ H' : Hp, Same H H' → Q (.bl (CeF.dialOk n)) H'
def spBf : Sp := fun vs H Q _ => ∃ l u zs had, vs = [.ref l, .ref u] ∧ H l = some (.lst (iv zs)) ∧ UsedAt H u had ∧ zs.length ≤ 1000 ∧ ∀ H' : Hp, Same H H' → Q (.bl (beginZ had zs)) H'
def spLm (K : PySem.W.Frag) : Sp := fun vs H Q _ => ∃ l n, vs = [.ref l] ∧ SqL K H l (bv n) ∧ ∀ (H' : Hp) (t : Addr), Same H H' → H' t = some (.tup [.int (CeF.least n), .int (CeF.most n)]) → Q (.ref t) H'
def spCb : Sp := fun vs H Q _ => ∃ n lo hi : Nat, vs = [.int n, .int lo, .int hi] ∧ hi < 10 ^ 11 ∧ Q (.bl (Ce.leadsTo lo hi n)) H
section
variable {P : Program} {w : World} {K : PySem.W.Frag} {mg : Str → Option Value} {base : Heap} {A : Ads}
theorem scBo : FnScope ["word", "sign"] ["word"] (defScope sBo) := ⟨rfl, rfl, rfl, by decide +kernel, rfl, by decide +kernel, by decide +kernel⟩
theorem ok_bo (T : Txt A K mg) : FnOk P w K mg base CX0 1 A.fBo A.dBo ["word"] spBo := by
  refine T.bo.F.ok scBo (fun vs H Q E h => ?_) (fun cdv A' outer s H vs Q E hr h => ?_)
  · obtain ⟨x, rfl, _⟩ := h
    rfl
  · obtain ⟨x, rfl, hx, k⟩ := h
    refine ⟨_, pss_one (ps_ret (pe_lc (own := [("sign", 1)]) rfl scBo.nd (pi_str (pv 0)) (blkOk_by (by show blkC ["word", "sign"] (defScope sBo) _ [("sign", 1)] = true; decide +kernel)) (fun _ _ _ _ _ => pg_name (i := 1) scBo.nd rfl (Or.inl rfl)) (fun _ _ _ _ _ => pts_nil)
      (fun _ _ _ _ _ => pe_callB call_ord (by rfl) T.ord boot_ord (pa_cons (pv 1) pa_nil)))), ?_⟩
    refine ⟨_, rfl, x, rfl, fun D hD => lc_str (fun i H' => Same H H' ∧ H' D = some (.lst ((x.cps.toList.take i).map fun (c : Nat) => V.int (c : Int)))) ⟨Same.laid hD, upd_same⟩ ?_ ?_⟩
    · rintro i c H' hc ⟨s, hD'⟩
      have hc' : x.cps.toList[i]? = some c := by rw [Array.getElem?_toList]; exact hc
      refine ⟨rfl, tYes_if ⟨_, rfl, ⟨#[c]⟩, rfl, rfl, _, hD', ?_, Same.new s hD, ?_⟩⟩
      · rw [List.length_map, List.length_take]
        have : i < x.cps.size := (Array.getElem?_eq_some_iff.mp hc).1
        exact small1000 (by omega)
      · rw [upd_same, ← take_map_snoc (fun (c : Nat) => V.int (c : Int)) hc']
        rfl
    · rintro H' ⟨s, hD'⟩
      refine k H' D s hD ?_
      rw [hD']
      unfold iv cI
      rw [List.map_map, show x.cps.size = x.cps.toList.length by simp, List.take_length]
      rfl
theorem scIl : FnScope ["byte"] ["byte"] (defScope sIl) := ⟨rfl, rfl, rfl, by decide +kernel, rfl, by decide +kernel, by decide +kernel⟩
theorem chainZ (lo hi z : Int) (Q : V → Prop) (q : Q (.bl (decide (lo ≤ z) && decide (z ≤ hi)))) (h : decide (lo ≤ z) = true) : Q (.bl (decide (z ≤ hi))) := by
  rw [h] at q
  exact q
theorem ok_il (T : Txt A K mg) : FnOk P w K mg base CX0 1 A.fIl A.dIl ["byte"] spIl := by
  refine T.il.F.ok scIl (fun vs H Q E h => ?_) (fun cdv A' outer s H vs Q E hr h => ?_)
  · obtain ⟨z, rfl, _⟩ := h
    rfl
  · obtain ⟨z, rfl, k⟩ := h
    refine ⟨_, pss_one (ps_ret (pe_chain op_le op_le (pe_callB call_ord (by rfl) T.ord boot_ord (pa_cons pe_str pa_nil)) (pv 0) (pe_callB call_ord (by rfl) T.ord boot_ord (pa_cons pe_str pa_nil)))), ?_⟩
    refine ⟨_, rfl, rfl, _, rfl, _, _, rfl, rfl, _, rfl, ?_⟩
    unfold lowZ at k
    show if decide ((97 : Int) ≤ z) = true then _ else _
    refine ite_dec (fun h => ?_) (fun h => ?_)
    · refine ⟨_, rfl, rfl, _, _, rfl, rfl, ?_⟩
      rw [decide_eq_true h] at k
      exact k
    · rw [decide_eq_false h] at k
      exact k
theorem scIg : FnScope ["byte"] ["byte"] (defScope sIg) := ⟨rfl, rfl, rfl, by decide +kernel, rfl, by decide +kernel, by decide +kernel⟩
theorem ok_ig (T : Txt A K mg) : FnOk P w K mg base CX0 1 A.fIg A.dIg ["byte"] spIg := by
  refine T.ig.F.ok scIg (fun vs H Q E h => ?_) (fun cdv A' outer s H vs Q E hr h => ?_)
  · obtain ⟨z, rfl, _⟩ := h
    rfl
  · obtain ⟨z, rfl, k⟩ := h
    refine ⟨_, pss_one (ps_ret (pe_chain op_le op_le (pe_callB call_ord (by rfl) T.ord boot_ord (pa_cons pe_str pa_nil)) (pv 0) (pe_callB call_ord (by rfl) T.ord boot_ord (pa_cons pe_str pa_nil)))), ?_⟩
    refine ⟨_, rfl, rfl, _, rfl, _, _, rfl, rfl, _, rfl, ?_⟩
    unfold digZ at k
    show if decide ((48 : Int) ≤ z) = true then _ else _
    refine ite_dec (fun h => ?_) (fun h => ?_)
    · refine ⟨_, rfl, rfl, _, _, rfl, rfl, ?_⟩
      rw [decide_eq_true h] at k
      exact k
    · rw [decide_eq_false h] at k
      exact k
theorem scNm : FnScope ["part", "byte"] ["part"] (defScope sNm) := ⟨rfl, rfl, rfl, by decide +kernel, rfl, by decide +kernel, by decide +kernel⟩
theorem ok_nm (T : Txt A K mg) : FnOk P w K mg base CX0 2 A.fNm A.dNm ["part"] (spNm K) := by
  refine T.nm.F.ok scNm (fun vs H Q E h => ?_) (fun cdv A' outer s H vs Q E hr h => ?_)
  · obtain ⟨l, zs, rfl, _⟩ := h
    rfl
  · obtain ⟨l, zs, rfl, hS, k⟩ := h
    obtain ⟨uN, mN, rN⟩ := T.cLN
    refine ⟨_, pss_cons (ps_if (pw_or (pt_cmpR op_lt (pe_callB call_len_seq (by rfl) T.len PySem.boot_len (pa_cons (pv 0) pa_nil)) pe_int (nomark _))
        (pw_or (pt_cmpR op_gt (pe_callB call_len_seq (by rfl) T.len PySem.boot_len (pa_cons (pv 0) pa_nil)) (pe_glob (by rfl) mN rN) (nomark _))
        (pw_or1 (pt_not (pt_val (pe_call (ok_il T) hr (by rfl) T.il.m T.il.F.kp T.il.b .nil pass0 (pa_cons (pe_ix ix_list (pv 0) pe_int (fun _ _ => rfl)) pa_nil))))))).pt (pss_one (ps_ret pe_bl)) pss_nil)
      (pss_one (ps_ret (pe_callB (cr_all rfl) (by rfl) T.all boot_all (pa_cons
        (pe_lc (own := [("byte", 1)]) rfl scNm.nd (pi_list (pv 0)) (blkOk_by (by show blkC ["part", "byte"] (defScope sNm) _ [("byte", 1)] = true; decide +kernel)) (fun _ _ _ _ _ => pg_name (i := 1) scNm.nd rfl (Or.inl rfl)) (fun _ _ _ _ _ => pts_nil)
          (fun _ _ _ _ _ => pe_or (pe_call (ok_il T) hr (by rfl) T.il.m T.il.F.kp T.il.b .nil pass0 (pa_cons (pv 1) pa_nil)) (pe_one (pe_call (ok_ig T) hr (by rfl) T.ig.m T.ig.F.kp T.ig.b .nil pass0 (pa_cons (pv 1) pa_nil))))) pa_nil)))), ?_⟩
    refine ⟨_, rfl, l, iv zs, rfl, .inl hS, _, _, rfl, rfl, _, rfl, ?_⟩
    rw [nameZ_way] at k
    have el : ((iv zs).length : Int) = (zs.length : Int) := by rw [iv_len]
    show if decide (((iv zs).length : Int) < 1) = true then _ else _
    rw [el]
    refine ite_dec (fun h => iteT ?_) (fun h1 => ?_)
    · rw [decide_eq_true h] at k
      exact k H (Same.refl H)
    refine ⟨_, rfl, l, iv zs, rfl, .inl hS, _, _, rfl, rfl, _, rfl, ?_⟩
    show if decide ((16 : Int) < ((iv zs).length : Int)) = true then _ else _
    rw [el]
    refine ite_dec (fun h => iteT ?_) (fun h2 => ?_)
    · rw [decide_eq_true h, Bool.or_true] at k
      exact k H (Same.refl H)
    rw [decide_eq_false h1, decide_eq_false h2] at k
    match zs, hS, k, h1, h2 with
    | [], _, _, h1, _ => exact absurd (show ((([] : List Int).length : Nat) : Int) < 1 by decide) h1
    | z :: zr, hS, k, h1, h2 =>
    refine ⟨_, rfl, l, _, 0, _, rfl, rfl, hS, at_of (j := 0) rfl rfl, z, rfl, _, rfl, ?_⟩
    have k : ∀ H' : Hp, Same H H' → Q (.bl (if (!lowZ z) = true then false else (z :: zr).all signZ)) H' := k
    show if (!lowZ z) = true then _ else _
    refine ite_bool (fun h => ?_) (fun h => ?_)
    · rw [h] at k
      exact k H (Same.refl H)
    rw [h] at k
    generalize hzs : z :: zr = zs at *
    refine ⟨_, rfl, l, rfl, ⟨_, hS⟩, fun D hD => lc_list (K := K) (a := l) (xs := iv zs) (fun i H' => Same H H' ∧ H' D = some (.lst ((zs.take i).map fun z => V.bl (signZ z)))) ⟨Same.laid hD, upd_same⟩ (fun i H' _ p => p.1.seq hS) ?_ ?_⟩
    · rintro i x H' hx ⟨s, hD'⟩
      obtain ⟨y, hy, rfl⟩ := iv_some hx
      have fin : ∀ bb, bb = signZ y → ∃ acc, H' D = some (.lst acc) ∧ acc.length < sizeLine ∧ (Same H (upd H' D (.lst (acc ++ [V.bl bb]))) ∧ upd H' D (.lst (acc ++ [V.bl bb])) D = some (.lst ((zs.take (i + 1)).map fun z => V.bl (signZ z)))) := by
        rintro bb rfl
        refine ⟨_, hD', ?_, Same.new s hD, ?_⟩
        · rw [List.length_map, List.length_take]
          exact small1000 (by omega)
        · rw [upd_same, ← take_map_snoc (fun z => V.bl (signZ z)) hy]
      refine ⟨rfl, tYes_if ⟨_, rfl, y, rfl, _, rfl, ?_⟩⟩
      show if lowZ y = true then _ else _
      refine ite_bool (fun h => ?_) (fun h => ?_)
      · exact fin true (by unfold signZ; rw [h]; rfl)
      · exact ⟨_, rfl, y, rfl, fin (digZ y) (by unfold signZ; rw [h]; rfl)⟩
    · rintro H' ⟨s, hD'⟩
      refine ⟨D, zs.map signZ, rfl, SqL.of ?_, ?_⟩
      · rw [hD', iv_len, List.take_length, List.map_map]
        rfl
      · have e : (zs.map signZ).all id = zs.all signZ := by rw [List.all_map]; rfl
        show Q (.bl ((zs.map signZ).all id)) H'
        rw [e]
        exact k H' s
end
end Fs

end

section
set_option Elab.async false
set_option linter.all false
set_option maxRecDepth 100000
set_option maxHeartbeats 2000000
namespace Fs
open PySem PySem.Spec PyProof.Rows L2 Fm
section
variable {P : Program} {w : World} {K : PySem.W.Frag} {mg : Str → Option Value} {base : Heap} {A : Ads}
/-! ### [bytes_of(w) for w in WORDS] -/
abbrev WordAt (H : Hp) (v : V) (x : Str) : Prop := ∃ l, v = .ref l ∧ H l = some (.lst (iv (cI x)))
theorem rd_words {a : Addr} {xs : List Str} {j : Nat} {σ : L2.St} {H : Hp} {Q : VK} (hT : ∀ H, SqT K H a (xs.map V.str)) (hj : j < σ.length) (hw : ∀ x ∈ xs, x.cps.size ≤ 1000) (hl : xs.length ≤ 1000)
    (q : ∀ (H' : Hp) (D : Addr) (vs : List V), Same H H' → H D = none → H' D = some (.lst vs) → Paired (WordAt H') vs xs → Q (.ref D) H') : tLc (iTup K (tC (.ref a))) (gName j) tYes (tCall spBo [] E0 (tCons (tVar j) tNil)) [j] σ H Q := by
  refine ⟨a, rfl, ⟨_, hT H⟩, fun D hD => lc_tup (K := K) (a := a) (xs := xs.map V.str) (fun i H' => Same H H' ∧ ∃ vs, H' D = some (.lst vs) ∧ Paired (fun (v : V) (x : Str) => ∃ l, v = .ref l ∧ l ≠ D ∧ H' l = some (.lst (iv (cI x)))) vs (xs.take i)) ⟨Same.laid hD, [], upd_same, .nil⟩ (fun i H' _ p => hT H') ?_ ?_⟩
  · rintro i v H' hv ⟨s, vs, hD', pr⟩
    obtain ⟨x, hx, rfl⟩ : ∃ x, xs[i]? = some x ∧ v = V.str x := by
      rw [List.getElem?_map] at hv
      cases e : xs[i]? with
      | none => rw [e] at hv; cases hv
      | some x => rw [e] at hv; exact ⟨x, rfl, (Option.some.inj hv).symm⟩
    have hi := (List.getElem?_eq_some_iff.mp hx).1
    refine ⟨?_, ?_⟩
    · show ((σ.set j none).set j (some (V.str x))).set j none = σ.set j none
      rw [List.set_set, List.set_set]
    refine tYes_if ⟨V.str x, ?_, x, rfl, hw x (List.mem_of_getElem? hx), fun H2 l s2 nl hl2 => ?_⟩
    · show ((σ.set j none).set j (some (V.str x)))[j]? = _
      rw [List.getElem?_set_self (by rw [List.length_set]; exact hj)]
    · have hD2 := s2 _ _ hD'
      have lD : l ≠ D := Ne.symm (ne_of_none hD' nl)
      have lens : vs.length = i := by
        rw [Paired.length pr, List.length_take]
        omega
      refine ⟨vs, hD2, ?_, Same.new (s.trans s2) hD, vs ++ [.ref l], upd_same, ?_⟩
      · rw [lens]
        exact small1000 (by omega)
      · have tk : xs.take (i + 1) = xs.take i ++ [x] := by
          obtain ⟨h1, h2⟩ := List.getElem?_eq_some_iff.mp hx
          rw [List.take_succ_eq_append_getElem h1, h2]
        rw [tk]
        refine Paired.snoc (Paired.mapP pr fun u y h => ?_) ⟨l, rfl, lD, by rw [upd_ne lD]; exact hl2⟩
        obtain ⟨k, rfl, ne, hk⟩ := h
        exact ⟨k, rfl, ne, by rw [upd_ne ne]; exact s2 _ _ hk⟩
  · rintro H' ⟨s, vs, hD', pr⟩
    rw [List.length_map, List.take_length] at pr
    exact q H' D vs s hD hD' (Paired.mapP pr fun u y h => let ⟨k, e, _, hk⟩ := h; ⟨k, e, hk⟩)
/-- words as data -/
def dW (xs : List Str) : List PyData := xs.map fun x => PyData.list (dI (cI x))
theorem dp_words {H : Hp} : ∀ {vs : List V} {xs : List Str}, Paired (WordAt H) vs xs → DpAll K H vs (dW xs)
  | _, _, .nil => .nil
  | _, _, .cons ⟨l, e, h⟩ t => by
    subst e
    exact .cons (dp_ints (SqL.of h)) (dp_words t)
theorem canLay_words : ∀ (xs : List Str), PyData.canLayAll0 (dW xs) = true
  | [] => rfl
  | x :: xs => by
    show (PyData.canLay0 (.list (dI (cI x))) && PyData.canLayAll0 (dW xs)) = true
    rw [canLay_words xs, Bool.and_true]
    exact canLay_ints _
theorem any_words (n : Ce.Bytes) : ∀ (xs : List Str), (dW xs).any (fun e => PyData.eqv e (.list (dI (bi n)))) = xs.any fun x => cI x == bi n
  | [] => rfl
  | x :: xs => by
    show (PyData.eqv (.list (dI (cI x))) (.list (dI (bi n))) || (dW xs).any _) = (cI x == bi n || _)
    rw [any_words n xs, eqv_ints]
/-- x in [bytes_of(w) for w in WORDS] -/
theorem rd_inWords {a : Addr} {xs : List Str} {j : Nat} {σ : L2.St} {H : Hp} {Q : VK} {l : Addr} {n : Ce.Bytes} (hT : ∀ H, SqT K H a (xs.map V.str)) (hj : j < σ.length) (hw : ∀ x ∈ xs, x.cps.size ≤ 1000) (hl : xs.length ≤ 1000)
    (hl1 : SqL K H l (bv n)) (q : ∀ H' : Hp, Same H H' → Q (.bl (xs.any fun x => cI x == bi n)) H') : tLc (iTup K (tC (.ref a))) (gName j) tYes (tCall spBo [] E0 (tCons (tVar j) tNil)) [j] σ H fun y H2 => rInD K (.ref l) y H2 Q := by
  refine rd_words hT hj hw hl fun H' D vs s nD hD pr => ?_
  refine ⟨.list (dI (bi n)), dW xs, dp_ints (s.seq hl1), .lst (SqL.of hD) (dp_words pr), shaped_ints _, canLay_words xs, ?_⟩
  rw [any_words]
  exact q H' s
/-! ### is_dial_name -/
theorem plain_any (n : Ce.Bytes) : (([("x" : Str), "y", "zoom", "light"] : List Str).any fun x => cI x == bi n) = CeF.FOUR.contains n := by
  have e1 : cI "x" = bi CeF.X := by decide +kernel
  have e2 : cI "y" = bi CeF.Y := by decide +kernel
  have e3 : cI "zoom" = bi CeF.ZOOM := by decide +kernel
  have e4 : cI "light" = bi CeF.LIGHT := by decide +kernel
  unfold CeF.FOUR
  simp only [List.any_cons, List.any_nil, List.contains_cons, List.contains_nil, e1, e2, e3, e4, Fm.bi_beq, Bool.or_false]
  rw [Bool.beq_comm (a := CeF.X), Bool.beq_comm (a := CeF.Y), Bool.beq_comm (a := CeF.ZOOM), Bool.beq_comm (a := CeF.LIGHT)]
theorem level_any (n : Ce.Bytes) : (([(".x" : Str), ".y"] : List Str).any fun x => cI x == bi n) = [Ce.ascii ".x", Ce.ascii ".y"].contains n := by
  have e1 : cI ".x" = bi (Ce.ascii ".x") := by decide +kernel
  have e2 : cI ".y" = bi (Ce.ascii ".y") := by decide +kernel
  simp only [List.any_cons, List.any_nil, List.contains_cons, List.contains_nil, e1, e2, Fm.bi_beq, Bool.or_false]
  rw [Bool.beq_comm (a := Ce.ascii ".x"), Bool.beq_comm (a := Ce.ascii ".y")]
theorem cut_last2 (n : Ce.Bytes) : cutV (bv n) (some (-2)) none = bv (n.drop (n.length - 2)) := by
  have e1 : HT.sIx (bv n).length 0 (some (-2)) = n.length - 2 := by
    show (if (-2 : Int) < 0 then ((-2 : Int) + ((bv n).length : Int)).toNat else min (-2 : Int).toNat (bv n).length) = _
    rw [if_pos (by decide), bv_len]
    omega
  unfold cutV
  rw [e1, HT.sIx_none, bv_len]
  unfold bv iv
  rw [← List.map_drop, bi_drop, ← List.map_take]
  congr 1
  refine List.take_of_length_le ?_
  rw [bi_len, List.length_drop]
  omega
theorem cut_but2 (n : Ce.Bytes) : cutV (bv n) none (some (-2)) = bv (n.take (n.length - 2)) := by
  have e1 : HT.sIx (bv n).length (bv n).length (some (-2)) = n.length - 2 := by
    show (if (-2 : Int) < 0 then ((-2 : Int) + ((bv n).length : Int)).toNat else min (-2 : Int).toNat (bv n).length) = _
    rw [if_pos (by decide), bv_len]
    omega
  unfold cutV
  rw [e1, HT.sIx_none, List.drop_zero, Nat.sub_zero]
  unfold bv iv
  rw [← List.map_take, bi_take]
theorem scDn : FnScope ["part", "word", "ending"] ["part"] (defScope sDn) := ⟨rfl, rfl, rfl, by decide +kernel, rfl, by decide +kernel, by decide +kernel⟩
theorem few4 : ∀ x ∈ ([("x" : Str), "y", "zoom", "light"] : List Str), x.cps.size ≤ 1000 := by decide +kernel
theorem few2 : ∀ x ∈ ([(".x" : Str), ".y"] : List Str), x.cps.size ≤ 1000 := by decide +kernel
theorem ok_dn (T : Txt A K mg) : FnOk P w K mg base CX0 3 A.fDn A.dDn ["part"] (spDn K) := by
  refine T.dn.F.ok scDn (fun vs H Q E h => ?_) (fun cdv A' outer s H vs Q E hr h => ?_)
  · obtain ⟨l, n, rfl, _⟩ := h
    rfl
  · obtain ⟨l, n, rfl, hS, k⟩ := h
    have hr1 : Room 1 _ := hr.mono (by decide)
    have hu : (A'.deeper (envOfC "is_dial_name" (defScope sDn) s.heap.objs.size A.fDn cdv)).units + 65 < cLine := by have := hr.un; omega
    refine ⟨_, pss_cons (ps_if (pt_cmpR (op_inD hu) (pv 0) (pe_lc (own := [("word", 1)]) rfl scDn.nd (pi_tup (pe_glob (v := .ref A.aPl) (by rfl) T.mPl rfl)) (blkOk_by (by show blkC ["part", "word", "ending"] (defScope sDn) _ [("word", 1)] = true; decide +kernel)) (fun _ _ _ _ _ => pg_name (i := 1) scDn.nd rfl (Or.inl rfl)) (fun _ _ _ _ _ => pts_nil)
          (fun _ _ _ _ _ => pe_call (ok_bo T) hr1 (by rfl) T.bo.m T.bo.F.kp T.bo.b .nil pass0 (pa_cons (pv 1) pa_nil))) (by rfl)) (pss_one (ps_ret pe_bl)) pss_nil)
      (pss_one (ps_ret (pe_and (pe_cmpR (op_inD hu) (pe_slice sl_list (pv 0) (po_some (pe_un un_neg pe_int)) po_none)
          (pe_lc (own := [("ending", 2)]) rfl scDn.nd (pi_tup (pe_glob (v := .ref A.aLe) (by rfl) T.mLe rfl)) (blkOk_by (by show blkC ["part", "word", "ending"] (defScope sDn) _ [("ending", 2)] = true; decide +kernel)) (fun _ _ _ _ _ => pg_name (i := 2) scDn.nd rfl (Or.inl rfl)) (fun _ _ _ _ _ => pts_nil)
            (fun _ _ _ _ _ => pe_call (ok_bo T) hr1 (by rfl) T.bo.m T.bo.F.kp T.bo.b .nil pass0 (pa_cons (pv 2) pa_nil))) (by rfl))
        (pe_one (pe_call (ok_nm T) hr (by rfl) T.nm.m T.nm.F.kp T.nm.b .nil pass0 (pa_cons (pe_slice sl_list (pv 0) po_none (po_some (pe_un un_neg pe_int))) pa_nil)))))), ?_⟩
    rw [dialOk_way] at k
    refine ⟨_, rfl, rd_inWords (K := K) (xs := [("x" : Str), "y", "zoom", "light"]) (n := n) T.tPl (by show 1 < 3; decide) few4 (by decide) hS fun H1 s1 => ⟨_, rfl, ?_⟩⟩
    rw [plain_any]
    refine ite_bool (fun h => ?_) (fun h => ?_)
    · rw [h] at k
      exact k H1 s1
    rw [h] at k
    have S1 := s1.seq hS
    refine ⟨_, rfl, _, rfl, _, rfl, l, _, rfl, S1, fun p1 hp1 => ?_⟩
    rw [show cutV (bv n) (some (-2)) none = bv (n.drop (n.length - 2)) from cut_last2 n]
    have s2 : Same H1 (upd H1 p1 (.lst (bv (n.drop (n.length - 2))))) := Same.laid hp1
    refine rd_inWords (K := K) (xs := [(".x" : Str), ".y"]) (n := n.drop (n.length - 2)) T.tLe (by show 2 < 3; decide) few2 (by decide) (SqL.of upd_same) fun H2 s3 => ⟨_, rfl, ?_⟩
    rw [level_any]
    refine ite_bool (fun h2 => ?_) (fun h2 => ?_)
    · rw [h2] at k
      refine ⟨_, rfl, _, rfl, _, rfl, l, _, rfl, ((s2.trans s3).seq S1), fun p2 hp2 => ?_⟩
      rw [show cutV (bv n) none (some (-2)) = bv (n.take (n.length - 2)) from cut_but2 n]
      refine ⟨p2, bi (n.take (n.length - 2)), rfl, SqL.of upd_same, fun H3 s4 => ?_⟩
      rw [nameZ_bi]
      exact k H3 (((s1.trans s2).trans s3).trans ((Same.laid hp2).trans s4))
    · rw [h2] at k
      exact k H2 ((s1.trans s2).trans s3)
/-! ### least_and_most -/
theorem scLm : FnScope ["dial_name"] ["dial_name"] (defScope sLm) := ⟨rfl, rfl, rfl, by decide +kernel, rfl, by decide +kernel, by decide +kernel⟩
theorem ok_lm (T : Txt A K mg) : FnOk P w K mg base CX0 2 A.fLm A.dLm ["dial_name"] (spLm K) := by
  refine T.lm.F.ok scLm (fun vs H Q E h => ?_) (fun cdv A' outer s H vs Q E hr h => ?_)
  · obtain ⟨l, n, rfl, _⟩ := h
    rfl
  · obtain ⟨l, n, rfl, hS, k⟩ := h
    obtain ⟨uz, mz, rz⟩ := T.cMZ
    obtain ⟨ul, ml, rl⟩ := T.cML
    obtain ⟨uv, mv, rv⟩ := T.cLV
    obtain ⟨uw, mw, rw_⟩ := T.cMV
    have hu : (A'.deeper (envOfC "least_and_most" (defScope sLm) s.heap.objs.size A.fLm cdv)).units + 64 < cLine := by have := hr.un; omega
    refine ⟨_, pss_cons (ps_if (pt_cmpR (op_eqD hu) (pv 0) (pe_call (ok_bo T) hr (by rfl) T.bo.m T.bo.F.kp T.bo.b .nil pass0 (pa_cons pe_str pa_nil)) (nomark _)) (pss_one (ps_ret (pe_tup (pa_cons pe_int (pa_cons (pe_glob (by rfl) mz rz) pa_nil))))) pss_nil)
      (pss_cons (ps_if (pt_cmpR (op_eqD hu) (pv 0) (pe_call (ok_bo T) hr (by rfl) T.bo.m T.bo.F.kp T.bo.b .nil pass0 (pa_cons pe_str pa_nil)) (nomark _)) (pss_one (ps_ret (pe_tup (pa_cons pe_int (pa_cons (pe_glob (by rfl) ml rl) pa_nil))))) pss_nil)
      (pss_one (ps_ret (pe_tup (pa_cons (pe_glob (by rfl) mv rv) (pa_cons (pe_glob (by rfl) mw rw_) pa_nil)))))), ?_⟩
    have ez : ∀ m : Ce.Bytes, (bi n == bi m) = decide (n = m) := fun m => by rw [Fm.bi_beq, Bool.beq_eq_decide_eq]
    unfold CeF.least CeF.most at k
    refine ⟨_, rfl, "zoom", rfl, (by decide +kernel), fun H1 l1 s1 n1 h1 => ⟨.list (dI (bi n)), .list (dI (cI "zoom")), dp_ints (s1.seq hS), dp_ints (SqL.of h1), shaped_ints _, shaped_ints _, _, rfl, ?_⟩⟩
    rw [eqv_ints, show cI "zoom" = bi CeF.ZOOM by decide +kernel, ez]
    refine ite_dec (fun h => ?_) (fun hz => ?_)
    · rw [if_pos h, if_pos h] at k
      exact ⟨(by show 2 ≤ sizeLine; decide), fun t ht => k _ t (s1.trans (Same.laid ht)) upd_same⟩
    rw [if_neg hz, if_neg hz] at k
    refine ⟨_, rfl, "light", rfl, (by decide +kernel), fun H2 l2 s2 n2 h2 => ⟨.list (dI (bi n)), .list (dI (cI "light")), dp_ints ((s1.trans s2).seq hS), dp_ints (SqL.of h2), shaped_ints _, shaped_ints _, _, rfl, ?_⟩⟩
    rw [eqv_ints, show cI "light" = bi CeF.LIGHT by decide +kernel, ez]
    refine ite_dec (fun h => ?_) (fun hl => ?_)
    · rw [if_pos h, if_pos h] at k
      exact ⟨(by show 2 ≤ sizeLine; decide), fun t ht => k _ t ((s1.trans s2).trans (Same.laid ht)) upd_same⟩
    rw [if_neg hl, if_neg hl] at k
    exact ⟨(by show 2 ≤ sizeLine; decide), fun t ht => k _ t ((s1.trans s2).trans (Same.laid ht)) upd_same⟩
/-! ### can_become -/
theorem scCb : FnScope ["number", "least", "most", "low", "high"] ["number", "least", "most"] (defScope sCb) := ⟨rfl, rfl, rfl, by decide +kernel, rfl, by decide +kernel, by decide +kernel⟩
theorem ok_cb (T : Txt A K mg) : FnOk P w K mg base CX0 1 A.fCb A.dCb ["number", "least", "most"] spCb := by
  refine T.cb.F.ok scCb (fun vs H Q E h => ?_) (fun cdv A' outer s H vs Q E hr h => ?_)
  · obtain ⟨n, lo, hi, rfl, _⟩ := h
    rfl
  · obtain ⟨n, lo, hi, rfl, hh, k⟩ := h
    refine ⟨_, pss_cons (ps_if (pt_cmpR op_eq (pv 0) pe_int (nomark _)) (pss_one (ps_ret (pe_cmpR op_eq (pv 1) pe_int (nomark _)))) pss_nil)
      (pss_cons (ps_set (i := 3) scCb.nd rfl (Or.inl rfl) (pv 0))
      (pss_cons (ps_set (i := 4) scCb.nd rfl (Or.inl rfl) (pv 0))
      (pss_cons (ps_while PassesOwn.never (pt_cmpR op_le (pv 3) (pv 2) (nomark _))
        (pss_cons (ps_if (pt_cmpR op_ge (pv 4) (pv 1) (nomark _)) (pss_one (ps_ret pe_bl)) pss_nil)
        (pss_cons (ps_set (i := 3) scCb.nd rfl (Or.inl rfl) (pe_op op_mul (pv 3) pe_int))
        (pss_one (ps_set (i := 4) scCb.nd rfl (Or.inl rfl) (pe_op op_add (pe_op op_mul (pv 4) pe_int) pe_int))))))
      (pss_one (ps_ret pe_bl))))), ?_⟩
    refine ⟨_, rfl, rfl, _, rfl, ?_⟩
    show if decide (V.int (n : Int) = V.int 0) = true then _ else _
    rw [dInt]
    refine ite_dec (fun h0 => ?_) (fun h0 => ?_)
    · have h0 : n = 0 := by omega
      subst h0
      refine ⟨_, rfl, rfl, ?_⟩
      show Q (.bl (decide (V.int (lo : Int) = V.int 0))) H
      rw [dInt, show decide ((lo : Int) = 0) = Ce.leadsTo lo hi 0 from ?_]
      · exact k
      · show _ = (lo == 0)
        rw [Bool.beq_eq_decide_eq]
        exact decide_eq_decide.mpr (by omega)
    have hn : n ≠ 0 := by omega
    refine ⟨_, rfl, _, rfl, ?_⟩
    refine while_in (fun m σ H' => H' = H ∧ ∃ j : Nat, σ = [some (.int n), some (.int lo), some (.int hi), some (.int ((n * 10 ^ j : Nat) : Int)), some (.int (((n + 1) * 10 ^ j : Nat) - 1 : Int))] ∧ m = hi + 1 - n * 10 ^ j ∧ ∀ i, i < j → ¬ lo < (n + 1) * 10 ^ i) (m := hi + 1 - n * 10 ^ 0) ⟨rfl, 0, ?_, rfl, fun i hi => absurd hi (by omega)⟩ ?_
    · have e1 : ((n * 10 ^ 0 : Nat) : Int) = (n : Int) := by rw [Nat.pow_zero, Nat.mul_one]
      have e2 : (((n + 1) * 10 ^ 0 : Nat) - 1 : Int) = (n : Int) := by rw [Nat.pow_zero, Nat.mul_one]; omega
      rw [e1, e2]
      rfl
    · rintro m σ H' ⟨rfl, j, rfl, rfl, hj⟩
      refine ⟨_, rfl, _, rfl, _, _, rfl, rfl, _, rfl, ?_⟩
      show if decide (((n * 10 ^ j : Nat) : Int) ≤ (hi : Int)) = true then _ else _
      refine ite_dec (fun hle => ?_) (fun hgt => ?_)
      · have hle' : n * 10 ^ j ≤ hi := by omega
        refine ⟨fun σ' H2 => H2 = H' ∧ σ' = [some (.int n), some (.int lo), some (.int hi), some (.int ((n * 10 ^ (j + 1) : Nat) : Int)), some (.int (((n + 1) * 10 ^ (j + 1) : Nat) - 1 : Int))] ∧ ¬ lo < (n + 1) * 10 ^ j, ?_, ?_⟩
        · rintro σ' H2 ⟨rfl, rfl, hno⟩
          have hp : 1 ≤ n * 10 ^ j := Nat.mul_pos (by omega) (Nat.pow_pos (by decide))
          have e : n * 10 ^ (j + 1) = 10 * (n * 10 ^ j) := by rw [Nat.pow_succ, ← Nat.mul_assoc]; omega
          refine ⟨_, ?_, rfl, j + 1, rfl, rfl, fun i hi2 => ?_⟩
          · omega
          · by_cases z : i = j
            · rw [z]; exact hno
            · exact hj i (by omega)
        · refine ⟨_, rfl, _, rfl, _, _, rfl, rfl, _, rfl, ?_⟩
          show if decide ((lo : Int) ≤ (((n + 1) * 10 ^ j : Nat) : Int) - 1) = true then _ else _
          refine ite_dec (fun hge => ?_) (fun hlt => ?_)
          · show Q (.bl true) H'
            rw [← leads_by hn hh hle' (lo := lo) (by omega)]
            exact k
          · refine ⟨_, rfl, _, _, rfl, rfl, .inr ⟨by decide, by decide⟩, ?_⟩
            refine ⟨_, rfl, _, _, rfl, rfl, .inr ⟨by decide, by decide⟩, _, _, rfl, rfl, rfl, ?_, by omega⟩
            have e1 : ((n * 10 ^ (j + 1) : Nat) : Int) = ((n * 10 ^ j : Nat) : Int) * 10 := by rw [Nat.pow_succ, ← Nat.mul_assoc]; omega
            have e2 : (((n + 1) * 10 ^ (j + 1) : Nat) - 1 : Int) = ((((n + 1) * 10 ^ j : Nat) : Int) - 1) * 10 + 9 := by rw [Nat.pow_succ, ← Nat.mul_assoc]; omega
            rw [e1, e2]
            rfl
      · show Q (.bl false) H'
        rw [← leads_not hn (lo := lo) (hi := hi) (k := j) (by omega) hj]
        exact k
end
end Fs

end

section
set_option Elab.async false
set_option linter.all false
set_option maxRecDepth 100000
set_option maxHeartbeats 2000000
namespace Fs
open PySem PySem.Spec PyProof.Rows L2 Fm
theorem flat_iv : ∀ (zs : List Int), (iv zs).all flatV = true
  | [] => rfl
  | z :: zs => by
    show (flatV (.int z) && (iv zs).all flatV) = true
    rw [flat_iv zs]; rfl
theorem inV_iv (z : Int) : ∀ (zs : List Int), inV (.int z) (iv zs) = decide (z ∈ zs)
  | [] => by simp [inV, iv]
  | y :: zs => by
    have ih : (iv zs).any (fun v => eqV v (.int z)) = decide (z ∈ zs) := inV_iv z zs
    show (eqV (.int y) (.int z) || (iv zs).any (fun v => eqV v (.int z))) = _
    rw [ih]
    show ((y == z) || decide (z ∈ zs)) = _
    by_cases e : z = y
    · subst e; simp
    · have : (y == z) = false := beq_eq_false_iff_ne.mpr (Ne.symm e)
      rw [this, Bool.false_or]
      exact decide_eq_decide.mpr (by simp [e])
theorem first_at : ∀ {zs : List Int} {z : Int}, z ∈ zs → ∃ j : Nat, zs[j]? = some z ∧ ∀ i : Nat, i < j → zs[i]? ≠ some z
  | [], _, h => by cases h
  | y :: zs, z, h => by
    by_cases e : y = z
    · exact ⟨0, by simp [e], fun i hi => absurd hi (by omega)⟩
    · have h' : z ∈ zs := by
        rcases List.mem_cons.mp h with q | q
        · exact absurd q.symm e
        · exact q
      obtain ⟨j, h1, h2⟩ := first_at h'
      refine ⟨j + 1, by simpa using h1, fun i hi => ?_⟩
      cases i with
      | zero => simp [e]
      | succ i => simpa using h2 i (by omega)
theorem cut_to (zs : List Int) (j : Nat) : cutV (iv zs) none (some (j : Int)) = iv (zs.take j) := by
  unfold cutV
  rw [HT.sIx_none, HT.sIx_nat, List.drop_zero, Nat.sub_zero]
  unfold iv
  rw [← List.map_take, List.length_map]
  congr 1
  by_cases h : j ≤ zs.length
  · rw [Nat.min_eq_left h]
  · rw [Nat.min_eq_right (by omega), List.take_of_length_le (Nat.le_refl _), List.take_of_length_le (by omega)]
theorem kV_nk (n : Ce.Bytes) : (nk n).map kV = bv n := by
  unfold nk bv iv
  rw [List.map_map]
  rfl
section
variable {P : Program} {w : World} {K : PySem.W.Frag} {mg : Str → Option Value} {base : Heap} {A : Ads}
theorem scBf : FnScope ["part", "used", "stem", "ending", "whole"] ["part", "used"] (defScope sBf) := ⟨rfl, rfl, rfl, by decide +kernel, rfl, by decide +kernel, by decide +kernel⟩
/-- what the rest of the def finds -/
def bfRest (H : Hp) (l u : Addr) (had : List Ce.Bytes) (zs : List Int) : TS := fun D σ H1 => ∃ m, σ = [some (.ref l), some (.ref u), some (.ref m), none, none] ∧ Same H H1 ∧ H1 m = some (.lst (iv (stemZ zs))) ∧ ∀ H' : Hp, Same H H' → D.rt (.bl (beginZ had zs)) H'
/-- one ending fits and is free -/
def fitsE (had : List Ce.Bytes) (zs : List Int) (e : Ce.Bytes) : Bool := ((bi (toB (stemZ zs) ++ e)).take zs.length == zs) && !had.contains (toB (stemZ zs) ++ e)
theorem beginZ_by {had : List Ce.Bytes} {zs : List Int} (h : nameZ (stemZ zs) = true) : beginZ had zs = ((decide (zs.length = (stemZ zs).length) && decide ((stemZ zs).length < 16)) || [Ce.ascii ".x", Ce.ascii ".y"].any (fitsE had zs)) := by
  unfold beginZ
  rw [h, Bool.true_and]
  rfl
def bfLoop (H : Hp) (l u : Addr) (had : List Ce.Bytes) (zs : List Int) : TS := fun D σ H1 => ∃ m, σ = [some (.ref l), some (.ref u), some (.ref m), none, none] ∧ Same H H1 ∧ H1 m = some (.lst (iv (stemZ zs))) ∧ nameZ (stemZ zs) = true ∧ ∀ H' : Hp, Same H H' → D.rt (.bl ([Ce.ascii ".x", Ce.ascii ".y"].any (fitsE had zs))) H'
theorem ok_bf (T : Txt A K mg) : FnOk P w K mg base CX0 3 A.fBf A.dBf ["part", "used"] spBf := by
  refine T.bf.F.ok scBf (fun vs H Q E h => ?_) (fun cdv A' outer s H vs Q E hr h => ?_)
  · obtain ⟨l, u, zs, had, rfl, _⟩ := h
    rfl
  · obtain ⟨l, u, zs, had, rfl, hl, U, hlen, k⟩ := h
    obtain ⟨uN, mN, rN⟩ := T.cLN
    obtain ⟨kvs, hk, _, hmem⟩ := U.ex
    have hr1 : Room 1 _ := hr.mono (by decide)
    have hu : (A'.deeper (envOfC "begins_free_dial" (defScope sBf) s.heap.objs.size A.fBf cdv)).units + 64 < cLine := by have := hr.un; omega
    have hu1 : (A'.deeper (envOfC "begins_free_dial" (defScope sBf) s.heap.objs.size A.fBf cdv)).units + 1 < cLine := by have := hr.un; omega
    refine ⟨_, pss_cons (ps_set (i := 2) scBf.nd rfl (Or.inl rfl) (pv 0))
      (pss_cons (ps_if (pt_cmpR op_in_seq (pe_callB call_ord (by rfl) T.ord boot_ord (pa_cons pe_str pa_nil)) (pv 0) (by rfl))
        (pss_one (ps_set (i := 2) scBf.nd rfl (Or.inl rfl) (pe_slice sl_list (pv 0) po_none (po_some (pe_bm PySem.F.plainAttrs_list PySem.F.slot_list_index PySem.F.type_list_index mt_index (pv 0) (pa_cons (pe_callB call_ord (by rfl) T.ord boot_ord (pa_cons pe_str pa_nil)) pa_nil)))))) pss_nil)
      (PSs.weak (t' := bfRest H l u had zs)
        (pss_cons (ps_if (pt_not (pt_val (pe_call (ok_nm T) hr (by rfl) T.nm.m T.nm.F.kp T.nm.b .nil pass0 (pa_cons (pv 2) pa_nil)))) (pss_one (ps_ret pe_bl)) pss_nil)
        (pss_cons (ps_if (pw_and (pt_cmpR op_eq (pe_callB call_len_seq (by rfl) T.len PySem.boot_len (pa_cons (pv 0) pa_nil)) (pe_callB call_len_seq (by rfl) T.len PySem.boot_len (pa_cons (pv 2) pa_nil)) (nomark _))
            (pw_and1 (pt_cmpR op_lt (pe_callB call_len_seq (by rfl) T.len PySem.boot_len (pa_cons (pv 2) pa_nil)) (pe_glob (by rfl) mN rN) (nomark _)))).pt (pss_one (ps_ret pe_bl)) pss_nil)
        (PSs.weak (t' := bfLoop H l u had zs)
          (pss_cons (ps_for PassesOwn.never rfl (pi_tup (pe_glob (v := .ref A.aLe) (by rfl) T.mLe rfl)) (pg_name (i := 3) scBf.nd rfl (Or.inl rfl))
            (pss_cons (ps_set (i := 4) scBf.nd rfl (Or.inl rfl) (pe_op op_cat (pv 2) (pe_call (ok_bo T) hr1 (by rfl) T.bo.m T.bo.F.kp T.bo.b .nil pass0 (pa_cons (pv 3) pa_nil))))
            (pss_one (ps_if (pw_and (pt_cmpR (op_eqD hu) (pe_slice sl_list (pv 4) po_none (po_some (pe_callB call_len_seq (by rfl) T.len PySem.boot_len (pa_cons (pv 0) pa_nil)))) (pv 0) (nomark _))
                (pw_and1 (pt_cmp (pc_dnotin hu1 (pe_callTy call_tuple_of (by rfl) T.tup boot_tuple (pa_cons (pv 4) pa_nil)) (pv 1)) (by rfl)))).pt (pss_one (ps_ret pe_bl)) pss_nil))))
          (pss_one (ps_ret pe_bl))) ?loop))) ?rest)), ?main⟩
    case loop =>
      rintro D σ H2 ⟨m, rfl, s2, hm, hn, k⟩
      have hb : bi (toB (stemZ zs)) = stemZ zs := nameZ_toB hn
      have h16 := nameZ_len hn
      refine ⟨A.aLe, rfl, ⟨_, T.tLe H2⟩, for_tup (K := K) (a := A.aLe) (xs := [.str ".x", .str ".y"]) (fun i σ H' => ∃ v3 v4, σ = [some (.ref l), some (.ref u), some (.ref m), v3, v4] ∧ Same H2 H' ∧ ∀ e ∈ ([Ce.ascii ".x", Ce.ascii ".y"].take i), fitsE had zs e = false)
        ⟨none, none, rfl, Same.refl H2, fun e he => by cases he⟩ (fun i σ H' _ _ => T.tLe H') ?turn ?after⟩
      case after =>
        rintro σ H' ⟨v3, v4, rfl, s3, no⟩
        have e : [Ce.ascii ".x", Ce.ascii ".y"].any (fitsE had zs) = false := by
          rw [List.any_eq_false]
          intro e he
          rw [no e he]
          exact Bool.false_ne_true
        rw [e] at k
        exact k H' (s2.trans s3)
      case turn =>
        rintro i v σ H' hv ⟨v3, v4, rfl, s3, no⟩
        obtain ⟨x, e, hx, he, hc, hf⟩ : ∃ (x : Str) (e : Ce.Bytes), v = .str x ∧ ([Ce.ascii ".x", Ce.ascii ".y"] : List Ce.Bytes)[i]? = some e ∧ cI x = bi e ∧ x.cps.size ≤ 1000 := by
          match i, hv with
          | 0, hv => exact ⟨".x", Ce.ascii ".x", (Option.some.inj hv).symm, rfl, by decide +kernel, by decide +kernel⟩
          | 1, hv => exact ⟨".y", Ce.ascii ".y", (Option.some.inj hv).symm, rfl, by decide +kernel, by decide +kernel⟩
          | i + 2, hv => exact absurd hv (by simp)
        subst hx
        have hl3 := s3 _ _ (s2 _ _ hl)
        have hm3 := s3 _ _ hm
        refine ⟨_, rfl, _, rfl, x, rfl, hf, fun H4 q4 s4 n4 h4 => ⟨m, q4, _, _, rfl, rfl, s4 _ _ hm3, h4, ?_, fun p5 hp5 => ?_⟩⟩
        · rw [iv_len, iv_len]
          have : (cI x).length = e.length := by rw [hc, bi_len]
          have e2 : e.length = 2 := by
            have := List.mem_of_getElem? he
            rcases List.mem_cons.mp this with rfl | this
            · rfl
            · rw [List.mem_singleton.mp this]; rfl
          exact Nat.le_of_lt (small1000 (by omega))
        have e5 : iv (stemZ zs) ++ iv (cI x) = bv (toB (stemZ zs) ++ e) := by
          unfold bv
          rw [bi_app, hb, hc, iv_app]
        rw [e5]
        have s5 : Same H' (upd H4 p5 (.lst (bv (toB (stemZ zs) ++ e)))) := s4.trans (Same.laid hp5)
        have hl5 := s5 _ _ hl3
        refine ⟨_, rfl, _, rfl, l, iv zs, rfl, .inl (SqL.of hl5), _, rfl, p5, _, rfl, SqL.of upd_same, fun p6 hp6 => ?_⟩
        have ecut : cutV (bv (toB (stemZ zs) ++ e)) none (some (((iv zs).length : Nat) : Int)) = iv ((bi (toB (stemZ zs) ++ e)).take zs.length) := by
          rw [iv_len]
          exact cut_to _ _
        rw [ecut]
        have s6 := s5.trans (Same.laid (o := .lst (iv ((bi (toB (stemZ zs) ++ e)).take zs.length))) hp6)
        refine ⟨_, rfl, .list (dI ((bi (toB (stemZ zs) ++ e)).take zs.length)), .list (dI zs), dp_ints (SqL.of upd_same), dp_ints (SqL.of (s6 _ _ hl3)), shaped_ints _, shaped_ints _, _, rfl, ?_⟩
        rw [eqv_ints]
        have stay : ∀ H7 : Hp, Same H' H7 → fitsE had zs e = false → (∃ v3 v4, ([some (.ref l), some (.ref u), some (.ref m), some (V.str x), some (.ref p5)] : L2.St) = [some (.ref l), some (.ref u), some (.ref m), v3, v4] ∧ Same H2 H7 ∧ ∀ e ∈ ([Ce.ascii ".x", Ce.ascii ".y"].take (i + 1)), fitsE had zs e = false) := fun H7 s7 hno => by
          refine ⟨_, _, rfl, s3.trans s7, fun e' he' => ?_⟩
          obtain ⟨h1, h2⟩ := List.getElem?_eq_some_iff.mp he
          rw [List.take_succ_eq_append_getElem h1, h2] at he'
          rcases List.mem_append.mp he' with q | q
          · exact no e' q
          · rw [List.mem_singleton.mp q]; exact hno
        refine ite_bool (fun h1 => ?_) (fun h1 => ?_)
        · have h5 : upd (upd H4 p5 (.lst (bv (toB (stemZ zs) ++ e)))) p6 (.lst (iv ((bi (toB (stemZ zs) ++ e)).take zs.length))) p5 = some (.lst (bv (toB (stemZ zs) ++ e))) := (Same.laid hp6) _ _ upd_same
          refine ⟨_, rfl, p5, _, rfl, .inl ⟨SqL.of h5, fun q7 hq7 => ?_⟩⟩
          have s7 := s6.trans (Same.laid (o := .tup (bv (toB (stemZ zs) ++ e))) hq7)
          refine ⟨_, rfl, u, _, rfl, DGet.t (k := nk (toB (stemZ zs) ++ e)) (s7 _ _ (s3 _ _ (s2 _ _ hk))) (by rw [kV_nk]; exact upd_same), _, rfl, ?_⟩
          rw [hmem]
          show if (!had.contains (toB (stemZ zs) ++ e)) = true then _ else _
          refine ite_bool (fun h2 => ?_) (fun h2 => ?_)
          · have e1 : fitsE had zs e = true := by unfold fitsE; rw [h1, h2]; rfl
            have e2 : [Ce.ascii ".x", Ce.ascii ".y"].any (fitsE had zs) = true := List.any_eq_true.mpr ⟨e, List.mem_of_getElem? he, e1⟩
            rw [e2] at k
            exact k _ ((s2.trans s3).trans s7)
          · refine stay _ s7 ?_
            unfold fitsE
            rw [h2, Bool.and_false]
        · refine iteF (stay _ s6 ?_)
          unfold fitsE
          rw [h1]; rfl
    case rest =>
      rintro D σ H1 ⟨m, rfl, s1, hm, k⟩
      refine ⟨_, rfl, m, stemZ zs, rfl, SqL.of hm, fun H2 s2 => ⟨_, rfl, ?_⟩⟩
      have s12 := s1.trans s2
      show if (!nameZ (stemZ zs)) = true then _ else _
      cases hn : nameZ (stemZ zs) with
      | false =>
        refine iteT ?_
        have e : beginZ had zs = false := by unfold beginZ; rw [hn]; rfl
        rw [e] at k
        exact k H2 s12
      | true =>
        refine iteF ?_
        rw [beginZ_by hn] at k
        have hl2 := s12 _ _ hl
        have hm2 := s2 _ _ hm
        refine ⟨_, rfl, l, iv zs, rfl, .inl (SqL.of hl2), _, rfl, m, _, rfl, .inl (SqL.of hm2), rfl, _, rfl, ?_⟩
        show if decide (V.int ((iv zs).length : Int) = V.int ((iv (stemZ zs)).length : Int)) = true then _ else _
        rw [dInt, iv_len, iv_len, show decide ((zs.length : Int) = ((stemZ zs).length : Int)) = decide (zs.length = (stemZ zs).length) from decide_eq_decide.mpr (by omega)]
        refine ite_dec (fun h1 => ?_) (fun h1 => ?_)
        · refine ⟨_, rfl, m, _, rfl, .inl (SqL.of hm2), _, _, rfl, rfl, _, rfl, ?_⟩
          show if decide (((iv (stemZ zs)).length : Int) < 16) = true then _ else _
          rw [iv_len, show decide (((stemZ zs).length : Int) < 16) = decide ((stemZ zs).length < 16) from decide_eq_decide.mpr (by omega)]
          refine ite_dec (fun h2 => ?_) (fun h2 => ?_)
          · rw [decide_eq_true h1, decide_eq_true h2] at k
            exact k H2 s12
          · rw [decide_eq_false h2, Bool.and_false, Bool.false_or] at k
            exact ⟨m, rfl, s12, hm2, hn, k⟩
        · rw [decide_eq_false h1, Bool.false_and, Bool.false_or] at k
          exact iteF ⟨m, rfl, s12, hm2, hn, k⟩
    case main =>
      refine ⟨_, rfl, _, rfl, rfl, _, rfl, l, iv zs, rfl, .inl (SqL.of hl), rfl, flat_iv zs, _, rfl, ?_⟩
      show if inV (.int 46) (iv zs) = true then _ else _
      rw [inV_iv]
      refine ite_dec (fun h46 => ?_) (fun h46 => ?_)
      · obtain ⟨j, hj, hn⟩ := first_at h46
        refine ⟨_, rfl, _, rfl, .inl ⟨rfl, _, SqL.of hl⟩, _, rfl, rfl, l, iv zs, .int 46, j, .int 46, rfl, rfl, SqL.of hl, rfl, flat_iv zs, iv_at hj, rfl, ?_, _, rfl, l, _, rfl, SqL.of hl, fun p hp => ?_⟩
        · intro i z' hi hz
          obtain ⟨y, hy, rfl⟩ := iv_some hz
          refine beq_eq_false_iff_ne.mpr fun q => ?_
          rw [q] at hy
          exact hn i hi hy
        · refine ⟨p, rfl, Same.laid hp, ?_, k⟩
          rw [upd_same, cut_to, stemZ_at hj hn]
      · exact ⟨l, rfl, Same.refl H, by rw [stemZ_no h46]; exact hl, k⟩
end
end Fs

end

section
set_option Elab.async false
set_option linter.all false
set_option maxRecDepth 100000
set_option maxHeartbeats 2000000
namespace Fs
open PySem PySem.Spec PyProof.Rows L2 Fm
/-! ### promises -/
def spRg (K : PySem.W.Frag) (CR : Addr) : Sp := fun vs H Q E => ∃ r b a p, ∃ lo hi : Nat, vs = [.ref r, .int lo, .int hi] ∧ hi < 10 ^ 11 ∧ Rdr K CR b a H r p ∧ Out K CR b a r (encI fun (n : Nat) => (n : Int)) (pdig lo hi none p (b.drop p)) H Q E
def spRn (K : PySem.W.Frag) (CR : Addr) : Sp := fun vs H Q E => ∃ r b a p, ∃ lo hi : Int, vs = [.ref r, .int lo, .int hi] ∧ -(10 ^ 11) < lo ∧ lo < 10 ^ 11 ∧ 0 ≤ hi ∧ hi < 10 ^ 11 ∧ Rdr K CR b a H r p ∧ Out K CR b a r (encI fun (z : Int) => z) (pnumber lo hi p (b.drop p)) H Q E
def spRa (K : PySem.W.Frag) (CR : Addr) : Sp := fun vs H Q E => ∃ r b a p, vs = [.ref r] ∧ Rdr K CR b a H r p ∧ Out K CR b a r encN (nameLoop [] p (b.drop p)) H Q E
def spRd (K : PySem.W.Frag) (CR : Addr) : Sp := fun vs H Q E => ∃ r u b a p had, vs = [.ref r, .ref u] ∧ Rdr K CR b a H r p ∧ UsedAt H u had ∧ Out K CR b a r encN (dialLoop had [] p (b.drop p)) H Q E
section
variable {P : Program} {w : World} {K : PySem.W.Frag} {mg : Str → Option Value} {base : Heap} {A : Ads}
theorem scRg : FnScope ["reader", "least", "most", "begin", "number", "needless", "longer"] ["reader", "least", "most"] (defScope sRg) := ⟨rfl, rfl, rfl, by decide +kernel, rfl, by decide +kernel, by decide +kernel⟩
/-- what is read of a number so far -/
def valOf (p0 p n : Nat) : Option Nat := if p = p0 then none else some n
abbrev stRg (r : Addr) (lo hi p0 n : Nat) (v5 v6 : Option V) : L2.St := [some (.ref r), some (.int lo), some (.int hi), some (.int p0), some (.int n), v5, v6]
theorem ok_rg (T : Txt A K mg) : FnOk P w K mg base (CXN P w (kd A)) 4 A.fRg A.dRg ["reader", "least", "most"] (spRg K A.CR) := by
  refine T.rg.F.okX scRg (fun vs H Q E h => ?_) (fun cdv A' outer s H vs Q E hr h => ?_)
  · obtain ⟨r, b, a, p, lo, hi, rfl, _⟩ := h
    rfl
  · obtain ⟨r, b, a, p0, lo, hi, rfl, hh, R, k⟩ := h
    have hr1 : Room 1 _ := hr.mono (by decide)
    have hr2 : Room 2 _ := hr.mono (by decide)
    refine ⟨_, pss_cons (ps_set (i := 3) scRg.nd rfl (Or.inl rfl) (pe_fld (pv 0) rfl))
      (pss_cons (ps_set (i := 4) scRg.nd rfl (Or.inl rfl) pe_int)
      (pss_cons (ps_while owns_fn (pt_val (pe_call (ok_ig T) hr1 (by rfl) T.ig.m T.ig.F.kp T.ig.b .nil pass0 (pa_cons (pe_meth0 (pv 0) T.clR T.pk.m (ok_pk T) hr2 T.pk.b .nil pass0) pa_nil)))
        (pss_cons (ps_set (i := 5) scRg.nd rfl (Or.inl rfl) (PE.weak (t' := fun σ H1 Q1 => ∃ (p n : Nat) (v5 v6 : Option V), σ = stRg r lo hi p0 n v5 v6 ∧ Rdr K A.CR b a H1 r p ∧ Q1 (.bl (decide (n = 0) && decide (p0 < p))) H1) (pe_and (pe_cmpR op_eq (pv 4) pe_int (nomark _)) (pe_one (pe_cmpR op_gt (pe_fld (pv 0) rfl) (pv 3) (nomark _)))) ?need))
        (pss_cons (ps_set (i := 6) scRg.nd rfl (Or.inl rfl) (PE.weak (t' := fun σ H1 Q1 => ∃ (p n d : Nat) (v5 v6 : Option V), σ = stRg r lo hi p0 n v5 v6 ∧ Rdr K A.CR b a H1 r p ∧ (d : Int) = pk b p - 48 ∧ Q1 (.int ((10 * n + d : Nat) : Int)) H1)
          (pe_op op_sub (pe_op op_add (pe_op op_mul (pv 4) pe_int) (pe_meth0 (pv 0) T.clR T.pk.m (ok_pk T) hr2 T.pk.b .nil pass0)) (pe_callB call_ord (by rfl) T.ord boot_ord (pa_cons pe_str pa_nil))) ?long))
        (pss_cons (ps_if (pw_or (pt_val (pv 5)) (pw_or1 (pt_not (pt_val (pe_call (ok_cb T) hr1 (by rfl) T.cb.m T.cb.F.kp T.cb.b .nil pass0 (pa_cons (pv 6) (pa_cons (pv 1) (pa_cons (pv 2) pa_nil)))))))).pt
          (pss_one (ps_raise throws_fn rfl (pe_makeX T.xc (ok_xi T) hr2 T.bxi (by rfl) T.mX (pa_cons (pe_fld (pv 0) rfl) pa_nil)))) pss_nil)
        (pss_cons (ps_set (i := 4) scRg.nd rfl (Or.inl rfl) (pv 6))
        (pss_one (ps_expr (pe_meth0 (pv 0) T.clR T.ad.m (ok_ad T) hr1 T.ad.b .nil pass0))))))))
      (pss_cons (ps_if (pw_or (pt_cmpR op_eq (pe_fld (pv 0) rfl) (pv 3) (nomark _)) (pw_or1 (pt_cmpR op_lt (pv 4) (pv 1) (nomark _)))).pt
          (pss_one (ps_raise throws_fn rfl (pe_makeX T.xc (ok_xi T) hr2 T.bxi (by rfl) T.mX (pa_cons (pe_fld (pv 0) rfl) pa_nil)))) pss_nil)
      (pss_one (ps_ret (pv 4)))))), ?main⟩
    case need =>
      rintro σ H1 Q1 ⟨p, n, v5, v6, rfl, R', q⟩
      refine ⟨_, rfl, rfl, _, rfl, ?_⟩
      show if decide (V.int (n : Int) = V.int 0) = true then _ else _
      rw [dInt, show decide ((n : Int) = 0) = decide (n = 0) from decide_eq_decide.mpr (by omega)]
      refine ite_dec (fun h => ?_) (fun h => ?_)
      · refine rd_at T rfl R' ⟨_, rfl, _, _, rfl, rfl, ?_⟩
        rw [decide_eq_true h, Bool.true_and] at q
        show Q1 (.bl (decide ((p0 : Int) < (p : Int)))) H1
        rw [show decide ((p0 : Int) < (p : Int)) = decide (p0 < p) from decide_eq_decide.mpr (by omega)]
        exact q
      · rw [decide_eq_false h, Bool.false_and] at q
        exact q
    case long =>
      rintro σ H1 Q1 ⟨p, n, d, v5, v6, rfl, R', ed, q⟩
      refine ⟨_, rfl, _, _, rfl, rfl, .inr ⟨by decide, by decide⟩, rd_pk rfl R' ⟨_, _, rfl, rfl, _, rfl, rfl, _, _, rfl, rfl, ?_⟩⟩
      have e : (n : Int) * 10 + pk b p - 48 = ((10 * n + d : Nat) : Int) := by omega
      show Q1 (.int ((n : Int) * 10 + pk b p - 48)) H1
      rw [e]
      exact q
    case main =>
      refine rd_at T rfl R ?_
      refine while_in (fun m σ H' => ∃ (p n : Nat) (v5 v6 : Option V), σ = stRg r lo hi p0 n v5 v6 ∧ m = b.length - p ∧ Rdr K A.CR b a H' r p ∧ Step r H H' ∧ p0 ≤ p ∧ (p = p0 → n = 0) ∧ pdig lo hi none p0 (b.drop p0) = pdig lo hi (valOf p0 p n) p (b.drop p))
        (m := b.length - p0) ⟨p0, 0, none, none, rfl, rfl, R, Step.refl, Nat.le_refl _, fun _ => rfl, by unfold valOf; rw [if_pos rfl]⟩ ?_
      rintro m σ H' ⟨p, n, v5, v6, rfl, rfl, R', S', hp, hn0, e⟩
      refine rd_pk rfl R' ⟨_, rfl, _, rfl, ?_⟩
      show if digZ (pk b p) = true then _ else _
      refine ite_bool (fun hd => ?_) (fun hd => ?_)
      · obtain ⟨d, ed, d9, hlt, ep⟩ := pdig_go (lo := lo) (hi := hi) (v := valOf p0 p n) hd
        rw [ep] at e
        have eg : (valOf p0 p n).getD 0 = n := by
          unfold valOf
          by_cases z : p = p0
          · rw [if_pos z, hn0 z]; rfl
          · rw [if_neg z]; rfl
        rw [eg] at e
        refine ⟨fun σ' H2 => ∃ v5 v6, σ' = stRg r lo hi p0 (10 * n + d) v5 v6 ∧ Rdr K A.CR b a H2 r (p + 1) ∧ Step r H H2 ∧ pdig lo hi none p0 (b.drop p0) = pdig lo hi (some (10 * n + d)) (p + 1) (b.drop (p + 1)), ?_, ?_⟩
        · rintro σ' H2 ⟨v5, v6, rfl, R2, S2, h4⟩
          refine ⟨_, ?_, p + 1, 10 * n + d, v5, v6, rfl, rfl, R2, S2, by omega, fun z => by omega, ?_⟩
          · omega
          · rw [h4]; unfold valOf; rw [if_neg (by omega)]
        refine ⟨p, n, v5, v6, rfl, R', ?_⟩
        refine ⟨p, n, d, _, _, rfl, R', ed, ?_⟩
        refine ⟨_, rfl, _, rfl, ?_⟩
        show if (decide (n = 0) && decide (p0 < p)) = true then _ else _
        refine ite_bool (fun hz => iteT ?_) (fun hz => ?_)
        · rw [Bool.and_eq_true, decide_eq_true_eq, decide_eq_true_eq] at hz
          refine rd_raise T rfl R' (k.er p ?_)
          rw [e, if_pos (.inl (by unfold valOf; rw [if_neg (by omega), hz.1]))]
        · refine ⟨_, rfl, _, rfl, _, rfl, 10 * n + d, lo, hi, rfl, hh, _, rfl, ?_⟩
          show if (!Ce.leadsTo lo hi (10 * n + d)) = true then _ else _
          have hv : ¬ valOf p0 p n = some 0 := fun q => by
            unfold valOf at q
            by_cases z : p = p0
            · rw [if_pos z] at q; cases q
            · rw [if_neg z] at q
              have : n = 0 := Option.some.inj q
              rw [decide_eq_true this, decide_eq_true (show p0 < p by omega)] at hz
              cases hz
          cases hle : Ce.leadsTo lo hi (10 * n + d) with
          | false =>
            refine iteT (rd_raise T rfl R' (k.er p ?_))
            rw [e, if_pos (.inr hle)]
          | true =>
            refine iteF ⟨_, rfl, rd_ad rfl R' hlt fun H2 R2 S2 => ⟨_, _, rfl, R2, S'.trans S2, ?_⟩⟩
            rw [e, if_neg (fun z => z.elim hv fun q => by rw [hle] at q; cases q)]
      · rw [pdig_fin hd] at e
        obtain ⟨dx, hrr⟩ := R'.ex
        refine ⟨_, rfl, r, A.CR, dx, _, _, rfl, hrr, T.clR, T.nAt, rf_at _ _, _, rfl, rfl, _, rfl, ?_⟩
        show if decide (V.int (p : Int) = V.int (p0 : Int)) = true then _ else _
        rw [dInt]
        refine ite_dec (fun h => iteT ?_) (fun h => ?_)
        · refine rd_raise T rfl R' (k.er p ?_)
          rw [e]; unfold valOf; rw [if_pos (by omega)]; rfl
        · have ev : valOf p0 p n = some n := by unfold valOf; rw [if_neg (by omega)]
          rw [ev, finP_some] at e
          refine ⟨_, rfl, _, rfl, _, _, rfl, rfl, _, rfl, ?_⟩
          refine ite_dec (fun h2 => ?_) (fun h2 => ?_)
          · refine rd_raise T rfl R' (k.er p ?_)
            rw [e, if_neg (by omega)]
          · refine ⟨_, rfl, k.ok n p H' _ ?_ R' S' rfl⟩
            rw [e, if_pos (by omega)]
/-! ### read_number -/
theorem scRn : FnScope ["reader", "least", "most"] ["reader", "least", "most"] (defScope sRn) := ⟨rfl, rfl, rfl, by decide +kernel, rfl, by decide +kernel, by decide +kernel⟩
theorem ok_rn (T : Txt A K mg) : FnOk P w K mg base (CXN P w (kd A)) 5 A.fRn A.dRn ["reader", "least", "most"] (spRn K A.CR) := by
  refine T.rn.F.okX scRn (fun vs H Q E h => ?_) (fun cdv A' outer s H vs Q E hr h => ?_)
  · obtain ⟨r, b, a, p, lo, hi, rfl, _⟩ := h
    rfl
  · obtain ⟨r, b, a, p, lo, hi, rfl, l1, l2, h1, h2, R, k⟩ := h
    have hr1 : Room 1 _ := hr.mono (by decide)
    have hr3 : Room 3 _ := hr.mono (by decide)
    refine ⟨_, pss_cons (ps_if (pw_and (pt_cmpR op_lt (pv 1) pe_int (nomark _)) (pw_and1 (pt_val (pe_meth (pv 0) T.clR T.co.m (ok_co T) hr3 T.co.b .nil pass0 (pa_cons pe_str pa_nil))))).pt
        (pss_cons (ps_expr (pe_meth0 (pv 0) T.clR T.ad.m (ok_ad T) hr1 T.ad.b .nil pass0))
        (pss_one (ps_ret (pe_un un_neg (pe_call (ok_rg T) hr (by rfl) T.rg.m T.rg.F.kp T.rg.b .nil passes_fn (pa_cons (pv 0) (pa_cons pe_int (pa_cons (pe_un un_neg (pv 1)) pa_nil)))))))) pss_nil)
      (PSs.weak (t' := fun D σ H1 => D.rt = Q ∧ σ = [some (.ref r), some (.int lo), some (.int hi)] ∧ H1 = H ∧ ¬ (lo < 0 ∧ pk b p = 45))
        (pss_one (ps_ret (pe_call (ok_rg T) hr (by rfl) T.rg.m T.rg.F.kp T.rg.b .nil passes_fn (pa_cons (pv 0) (pa_cons (pe_callB (call_max2 rfl) (by rfl) T.max boot_max (pa_cons (pv 1) (pa_cons pe_int pa_nil))) (pa_cons (pv 2) pa_nil)))))) ?rest), ?main⟩
    case rest =>
      rintro D σ H1 ⟨hD, rfl, rfl, hno⟩
      rw [number_plain hno] at k
      refine ⟨_, rfl, _, rfl, _, _, rfl, _, rfl, r, b, a, p, lo.toNat, hi.toNat, ?_, by omega, R, ?_⟩
      · have e1 : (if (0 : Int) > lo then (0 : Int) else lo) = (lo.toNat : Int) := by
          by_cases z : (0 : Int) > lo
          · rw [if_pos z]; omega
          · rw [if_neg z]; omega
        show [V.ref r, V.int (if (0 : Int) > lo then (0 : Int) else lo), V.int hi] = _
        rw [e1, show hi = (hi.toNat : Int) by omega]
        rfl
      · rw [hD]
        refine Out.bind k fun x p' H' v _ R' S' en o => ?_
        have en : v = .int (x : Int) := en
        subst en
        exact o.gives R' S' rfl
    case main =>
      refine ⟨_, rfl, _, _, rfl, rfl, _, rfl, ?_⟩
      refine ite_dec (fun hl => ?_) (fun hl => ?_)
      · refine rd_co (x := "-") rfl R (by decide +kernel) (fun Q' z => z) ⟨_, rfl, ?_⟩
        show if decide (pk b p = 45) = true then _ else _
        refine ite_dec (fun h45 => ?_) (fun h45 => ?_)
        · obtain ⟨hlt, en⟩ := number_minus (hi := hi) hl h45
          rw [en] at k
          refine rd_ad rfl R hlt fun H1 R1 S1 => ?_
          refine ⟨_, rfl, _, rfl, _, rfl, r, b, a, p + 1, 1, (-lo).toNat, ?_, by omega, R1, ?_⟩
          · show [V.ref r, V.int 1, V.int (-lo)] = _
            rw [show -lo = ((-lo).toNat : Int) by omega]
            rfl
          · refine Out.bind k fun x p' H' v _ R' S' en o => ?_
            have en : v = .int (x : Int) := en
            subst en
            exact ⟨_, rfl, o.gives R' (S1.trans S') rfl⟩
        · exact ⟨rfl, rfl, rfl, fun z => h45 z.2⟩
      · exact iteF ⟨rfl, rfl, rfl, fun z => hl z.1⟩
/-! ### read_name -/
theorem scRa : FnScope ["reader", "part"] ["reader"] (defScope sRa) := ⟨rfl, rfl, rfl, by decide +kernel, rfl, by decide +kernel, by decide +kernel⟩
theorem ok_ra (T : Txt A K mg) : FnOk P w K mg base (CXN P w (kd A)) 4 A.fRa A.dRa ["reader"] (spRa K A.CR) := by
  refine T.ra.F.okX scRa (fun vs H Q E h => ?_) (fun cdv A' outer s H vs Q E hr h => ?_)
  · obtain ⟨r, b, a, p, rfl, _⟩ := h
    rfl
  · obtain ⟨r, b, a, p0, rfl, R, k⟩ := h
    have hr1 : Room 1 _ := hr.mono (by decide)
    have hr2 : Room 2 _ := hr.mono (by decide)
    refine ⟨_, pss_cons (ps_set (i := 1) scRa.nd rfl (Or.inl rfl) (pe_lst pa_nil))
      (pss_cons (ps_while owns_fn (pt_val (pe_call (ok_nm T) hr2 (by rfl) T.nm.m T.nm.F.kp T.nm.b .nil pass0 (pa_cons (pe_op op_cat (pv 1) (pe_lst (pa_cons (pe_meth0 (pv 0) T.clR T.pk.m (ok_pk T) hr2 T.pk.b .nil pass0) pa_nil))) pa_nil)))
        (pss_cons (ps_expr (pe_bm PySem.F.plainAttrs_list PySem.F.slot_list_append PySem.F.type_list_append mt_append (pv 1) (pa_cons (pe_meth0 (pv 0) T.clR T.pk.m (ok_pk T) hr2 T.pk.b .nil pass0) pa_nil)))
        (pss_one (ps_expr (pe_meth0 (pv 0) T.clR T.ad.m (ok_ad T) hr1 T.ad.b .nil pass0)))))
      (pss_cons (ps_if (pt_not (pt_val (pe_call (ok_nm T) hr2 (by rfl) T.nm.m T.nm.F.kp T.nm.b .nil pass0 (pa_cons (pv 1) pa_nil))))
        (pss_one (ps_raise throws_fn rfl (pe_makeX T.xc (ok_xi T) hr2 T.bxi (by rfl) T.mX (pa_cons (pe_fld (pv 0) rfl) pa_nil)))) pss_nil)
      (pss_one (ps_ret (pv 1))))), ?_⟩
    refine ⟨Nat.zero_le _, fun l hl => ?_⟩
    refine while_in (fun m σ H' => ∃ (p : Nat) (part : Ce.Bytes), σ = [some (.ref r), some (.ref l)] ∧ m = b.length - p ∧ Rdr K A.CR b a H' r p ∧ Step r H H' ∧ H' l = some (.lst (bv part)) ∧ part.length ≤ 16 ∧ nameLoop [] p0 (b.drop p0) = nameLoop part p (b.drop p))
      (m := b.length - p0) ⟨p0, [], rfl, rfl, R.new Step.refl R hl, Step.refl.new hl, upd_same, by decide, rfl⟩ ?_
    rintro m σ H' ⟨p, part, rfl, rfl, R', S', hp, h16, e⟩
    refine ⟨_, rfl, rd_pk rfl R' ⟨(by show 1 ≤ sizeLine; decide), fun l1 hl1 => ?_⟩⟩
    have s1 : Same H' (upd H' l1 (.lst [V.int (pk b p)])) := Same.laid hl1
    refine ⟨l, l1, _, _, rfl, rfl, s1 _ _ hp, upd_same, ?_, fun l2 hl2 => ?_⟩
    · rw [bv_len]
      exact Nat.le_of_lt (small1000 (by show part.length + 1 ≤ 1000; omega))
    have e2 : bv part ++ [V.int (pk b p)] = iv (bi part ++ [pk b p]) := by unfold bv; rw [iv_app]; rfl
    rw [e2]
    have s2 := s1.trans (Same.laid (o := .lst (iv (bi part ++ [pk b p]))) hl2)
    refine ⟨l2, bi part ++ [pk b p], rfl, SqL.of upd_same, fun H3 s3 => ⟨_, rfl, ?_⟩⟩
    have s13 := s2.trans s3
    refine ite_bool (fun hn => ?_) (fun hn => ?_)
    · obtain ⟨c, ec, hlt, hok, eg⟩ := name_go hn
      have R3 := R'.same s13
      have S3 := S'.trans (Step.of s13)
      refine ⟨fun σ' H4 => σ' = [some (.ref r), some (.ref l)] ∧ Rdr K A.CR b a H4 r (p + 1) ∧ Step r H H4 ∧ H4 l = some (.lst (bv (part ++ [c]))), ?_, ?_⟩
      · rintro σ' H4 ⟨rfl, R4, S4, h4⟩
        refine ⟨_, ?_, p + 1, part ++ [c], rfl, rfl, R4, S4, h4, ?_, e.trans eg⟩
        · omega
        · have := nameOk_len hok
          exact this
      have h3 := s13 _ _ hp
      refine ⟨_, rfl, .inl ⟨rfl, _, SqL.of h3⟩, rd_pk rfl R3 ⟨l, _, _, rfl, rfl, h3, (by rw [bv_len]; exact small1000 (by omega)), ?_⟩⟩
      rw [ec, bv_snoc]
      refine rd_ad rfl (R.new S3 R3 hl) hlt fun H5 R5 S5 => ?_
      have S4 : Step r H (upd H3 l (.lst (bv (part ++ [c])))) := S3.new hl
      obtain ⟨dx, hrr⟩ := R.ex
      exact ⟨rfl, R5, S4.trans S5, S5.keep _ _ upd_same (Ne.symm (ne_of_none hrr hl))⟩
    · have R3 := R'.same s13
      have S3 := S'.trans (Step.of s13)
      have h3 := s13 _ _ hp
      rw [name_fin hn] at e
      refine ⟨_, rfl, l, bi part, rfl, SqL.of h3, fun H4 s4 => ⟨_, rfl, ?_⟩⟩
      rw [nameZ_bi]
      have R4 := R3.same s4
      unfold nameFin at e
      cases hok : Ce.nameOk part with
      | false =>
        refine iteT (rd_raise T rfl R4 (k.er p ?_))
        rw [e, hok]; rfl
      | true =>
        refine iteF ⟨_, rfl, k.ok part p H4 _ ?_ R4 (S3.trans (Step.of s4)) ⟨l, rfl, hl, s4 _ _ h3⟩⟩
        rw [e, hok]; rfl
/-! ### read_dial_name -/
theorem scRd : FnScope ["reader", "used", "part"] ["reader", "used"] (defScope sRd) := ⟨rfl, rfl, rfl, by decide +kernel, rfl, by decide +kernel, by decide +kernel⟩
theorem ok_rd (T : Txt A K mg) : FnOk P w K mg base (CXN P w (kd A)) 4 A.fRd A.dRd ["reader", "used"] (spRd K A.CR) := by
  refine T.rd.F.okX scRd (fun vs H Q E h => ?_) (fun cdv A' outer s H vs Q E hr h => ?_)
  · obtain ⟨r, u, b, a, p, had, rfl, _⟩ := h
    rfl
  · obtain ⟨r, u, b, a, p0, had, rfl, R, U, k⟩ := h
    have hr1 : Room 1 _ := hr.mono (by decide)
    have hr2 : Room 2 _ := hr.mono (by decide)
    have hu1 : (A'.deeper (envOfC "read_dial_name" (defScope sRd) s.heap.objs.size A.fRd cdv)).units + 1 < cLine := by have := hr.un; omega
    refine ⟨_, pss_cons (ps_set (i := 2) scRd.nd rfl (Or.inl rfl) (pe_lst pa_nil))
      (pss_cons (ps_while owns_fn (pt_val (pe_call (ok_bf T) hr (by rfl) T.bf.m T.bf.F.kp T.bf.b .nil pass0 (pa_cons (pe_op op_cat (pv 2) (pe_lst (pa_cons (pe_meth0 (pv 0) T.clR T.pk.m (ok_pk T) hr2 T.pk.b .nil pass0) pa_nil))) (pa_cons (pv 1) pa_nil))))
        (pss_cons (ps_expr (pe_bm PySem.F.plainAttrs_list PySem.F.slot_list_append PySem.F.type_list_append mt_append (pv 2) (pa_cons (pe_meth0 (pv 0) T.clR T.pk.m (ok_pk T) hr2 T.pk.b .nil pass0) pa_nil)))
        (pss_one (ps_expr (pe_meth0 (pv 0) T.clR T.ad.m (ok_ad T) hr1 T.ad.b .nil pass0)))))
      (pss_cons (ps_if (pw_or (pt_not (pt_val (pe_call (ok_dn T) hr (by rfl) T.dn.m T.dn.F.kp T.dn.b .nil pass0 (pa_cons (pv 2) pa_nil)))) (pw_or1 (pt_cmp (pc_din hu1 (pe_callTy call_tuple_of (by rfl) T.tup boot_tuple (pa_cons (pv 2) pa_nil)) (pv 1)) (by rfl)))).pt
        (pss_one (ps_raise throws_fn rfl (pe_makeX T.xc (ok_xi T) hr2 T.bxi (by rfl) T.mX (pa_cons (pe_fld (pv 0) rfl) pa_nil)))) pss_nil)
      (pss_one (ps_ret (pv 2))))), ?_⟩
    refine ⟨Nat.zero_le _, fun l hl => ?_⟩
    refine while_in (fun m σ H' => ∃ (p : Nat) (part : Ce.Bytes), σ = [some (.ref r), some (.ref u), some (.ref l)] ∧ m = b.length - p ∧ Rdr K A.CR b a H' r p ∧ Step r H H' ∧ H' l = some (.lst (bv part)) ∧ part.length ≤ 18 ∧ dialLoop had [] p0 (b.drop p0) = dialLoop had part p (b.drop p))
      (m := b.length - p0) ⟨p0, [], rfl, rfl, R.new Step.refl R hl, Step.refl.new hl, upd_same, by decide, rfl⟩ ?_
    rintro m σ H' ⟨p, part, rfl, rfl, R', S', hp, h18, e⟩
    refine ⟨_, rfl, rd_pk rfl R' ⟨(by show 1 ≤ sizeLine; decide), fun l1 hl1 => ?_⟩⟩
    have s1 : Same H' (upd H' l1 (.lst [V.int (pk b p)])) := Same.laid hl1
    refine ⟨l, l1, _, _, rfl, rfl, s1 _ _ hp, upd_same, ?_, fun l2 hl2 => ?_⟩
    · rw [bv_len]
      exact Nat.le_of_lt (small1000 (by show part.length + 1 ≤ 1000; omega))
    have e2 : bv part ++ [V.int (pk b p)] = iv (bi part ++ [pk b p]) := by unfold bv; rw [iv_app]; rfl
    rw [e2]
    have s2 := s1.trans (Same.laid (o := .lst (iv (bi part ++ [pk b p]))) hl2)
    have U2 : UsedAt (upd (upd H' l1 (.lst [V.int (pk b p)])) l2 (.lst (iv (bi part ++ [pk b p])))) u had := (U.step R S').same s2
    refine ⟨_, rfl, l2, u, bi part ++ [pk b p], had, rfl, upd_same, U2, (by rw [List.length_append, bi_len]; show part.length + 1 ≤ 1000; omega), fun H3 s3 => ⟨_, rfl, ?_⟩⟩
    have s13 := s2.trans s3
    have R3 := R'.same s13
    have S3 := S'.trans (Step.of s13)
    have h3 := s13 _ _ hp
    refine ite_bool (fun hn => ?_) (fun hn => ?_)
    · obtain ⟨c, ec, hlt, eg⟩ := dial_go hn
      refine ⟨fun σ' H4 => σ' = [some (.ref r), some (.ref u), some (.ref l)] ∧ Rdr K A.CR b a H4 r (p + 1) ∧ Step r H H4 ∧ H4 l = some (.lst (bv (part ++ [c]))), ?_, ?_⟩
      · rintro σ' H4 ⟨rfl, R4, S4, h4⟩
        refine ⟨_, ?_, p + 1, part ++ [c], rfl, rfl, R4, S4, h4, ?_, e.trans eg⟩
        · omega
        · have := begin_len hn
          rw [List.length_append, bi_len] at this
          rw [List.length_append]
          exact this
      refine ⟨_, rfl, .inl ⟨rfl, _, SqL.of h3⟩, rd_pk rfl R3 ⟨l, _, _, rfl, rfl, h3, (by rw [bv_len]; exact small1000 (by omega)), ?_⟩⟩
      rw [ec, bv_snoc]
      refine rd_ad rfl (R.new S3 R3 hl) hlt fun H5 R5 S5 => ?_
      have S4 : Step r H (upd H3 l (.lst (bv (part ++ [c])))) := S3.new hl
      obtain ⟨dx, hrr⟩ := R.ex
      exact ⟨rfl, R5, S4.trans S5, S5.keep _ _ upd_same (Ne.symm (ne_of_none hrr hl))⟩
    · rw [dial_fin hn] at e
      unfold dialFin at e
      refine ⟨_, rfl, l, part, rfl, SqL.of h3, fun H4 s4 => ⟨_, rfl, ?_⟩⟩
      have R4 := R3.same s4
      have S4 := S3.trans (Step.of s4)
      cases hok : CeF.dialOk part with
      | false =>
        refine iteT (iteT (rd_raise T rfl R4 (k.er p ?_)))
        rw [e, hok]; rfl
      | true =>
        obtain ⟨kvs, hk, _, hmem⟩ := (U.step R S4).ex
        refine iteF ⟨_, rfl, l, _, rfl, .inl ⟨SqL.of (s4 _ _ h3), fun q5 hq5 => ?_⟩⟩
        have s5 : Same H4 (upd H4 q5 (.tup (bv part))) := Same.laid hq5
        refine ⟨_, rfl, u, _, rfl, DGet.t (k := nk part) (s5 _ _ hk) (by rw [kV_nk]; exact upd_same), _, rfl, ?_⟩
        rw [hmem]
        have R5 := R4.same s5
        cases hc : had.contains part with
        | true =>
          refine iteT (rd_raise T rfl R5 (k.er p ?_))
          rw [e, hok, hc]; rfl
        | false =>
          refine iteF ⟨_, rfl, k.ok part p _ _ ?_ R5 (S4.trans (Step.of s5)) ⟨l, rfl, hl, s5 _ _ (s4 _ _ h3)⟩⟩
          rw [e, hok, hc]; rfl
end
end Fs

end

section
set_option Elab.async false
set_option linter.all false
set_option maxRecDepth 100000
set_option maxHeartbeats 2000000
namespace Fs
open PySem PySem.Spec PyProof.Rows L2 Fm
/-! ### promises -/
def spRe (K : PySem.W.Frag) (CR : Addr) : Sp := fun vs H Q E => ∃ r b a p, vs = [.ref r] ∧ Rdr K CR b a H r p ∧ Out K CR b a r (encI fun e => (CeF.easeNo e : Int)) (CeF.ease_ p (b.drop p)) H Q E
abbrev bnd (n : Ce.Bytes) : HO := .tup [.int (CeF.least n), .int (CeF.most n)]
def spMv (K : PySem.W.Frag) (CR : Addr) : Sp := fun vs H Q E => ∃ r t b a p n, ∃ frames at_ : Nat, vs = [.ref r, .int at_, .int frames, .ref t] ∧ at_ + 2 ≤ frames ∧ frames ≤ 1024 ∧ H t = some (bnd n) ∧ Rdr K CR b a H r p ∧ Out K CR b a r encM (pmove n frames at_ p (b.drop p)) H Q E
/-- moves, the line's end not yet taken -/
structure OutM (K : PySem.W.Frag) (CR : Addr) (b : Ce.Bytes) (a r : Addr) (res : Res (List CeF.Move)) (H : Hp) (Q : VK) (E : XK) : Prop where
  er : ∀ i : Nat, res = .error i → Er E (i : Int)
  ok : ∀ (ms : List CeF.Move) (p' : Nat) (H' : Hp) (v : V), res = Ce.andThen (Ce.byte_ 10) (fun _ => Ce.gives ms) p' (b.drop p') → Rdr K CR b a H' r p' → Step r H H' → MovesAt ms v H H' → Q v H'
def spMs (K : PySem.W.Frag) (CR : Addr) : Sp := fun vs H Q E => ∃ r t b a p n, ∃ frames : Nat, vs = [.ref r, .int frames, .ref t] ∧ 1 ≤ frames ∧ frames ≤ 1024 ∧ H t = some (bnd n) ∧ Rdr K CR b a H r p ∧ OutM K CR b a r (pmoves n frames 64 0 p (b.drop p)) H Q E
def spDl (K : PySem.W.Frag) (CR CD : Addr) : Sp := fun vs H Q E => ∃ r u b a p had, ∃ frames : Nat, vs = [.ref r, .int frames, .ref u] ∧ 1 ≤ frames ∧ frames ≤ 1024 ∧ Rdr K CR b a H r p ∧ UsedAt H u had ∧ Out K CR b a r (DialAt CD) (pdial frames had p (b.drop p)) H Q E
def spDs (K : PySem.W.Frag) (CR CD : Addr) : Sp := fun vs H Q E => ∃ r b a p, ∃ frames : Nat, vs = [.ref r, .int frames] ∧ 1 ≤ frames ∧ frames ≤ 1024 ∧ Rdr K CR b a H r p ∧ Out K CR b a r (DialsAt CD) (pdials frames 32 [] p (b.drop p)) H Q E
section
variable {CR r a : Addr} {K : PySem.W.Frag} {b : Ce.Bytes} {H : Hp} {σ : L2.St} {Q : VK} {E : XK} {i p : Nat}
/-- reader.take of one sign -/
theorem rd_tk1 {t : TA} {x : Str} {c : UInt8} (hσ : σ[i]? = some (some (.ref r))) (R : Rdr K CR b a H r p) (hx : Codes x [c]) (ht : ∀ Q' : List V → Hp → Prop, Q' [.str x] H → t σ H Q') (o : Out K CR b a r encU (Ce.byte_ c p (b.drop p)) H Q E) : tMeth CR "take" (spTk K CR) [] E (tVar i) t σ H Q :=
  rd_tk hσ R hx ht (by rw [bytes_one]; exact o)
end
theorem cod_min : Codes "-" [45] := by decide +kernel
theorem cod_col : Codes ":" [58] := by decide +kernel
theorem cod_sla : Codes "/" [47] := by decide +kernel
theorem cod_bla : Codes " " [32] := by decide +kernel
theorem cod_end : Codes "\n" [10] := by decide +kernel
theorem cod_dial : Codes "dial " (Ce.ascii "dial ") := by decide +kernel
theorem cod_cam : Codes "camera " (Ce.ascii "camera ") := by decide +kernel
section
variable {P : Program} {w : World} {K : PySem.W.Frag} {mg : Str → Option Value} {base : Heap} {A : Ads}
/-! ### read_ease -/
theorem scRe : FnScope ["reader", "number", "word"] ["reader"] (defScope sRe) := ⟨rfl, rfl, rfl, by decide +kernel, rfl, by decide +kernel, by decide +kernel⟩
def firsts : List Int := [101, 105, 111, 98]
theorem ease_at {b : Ce.Bytes} {p i : Nat} {v : V} (hv : ([.str "even", .str "in", .str "out", .str "both"] : List V)[i]? = some v) :
    ∃ (x : Str) (ws : Ce.Bytes) (e : CeF.Ease) (c : Nat), v = .str x ∧ Codes x ws ∧ x.cps.toList[0]? = some c ∧ x.length ≤ sizeLine ∧ firsts[i]? = some (c : Int) ∧ CeF.easeNo e = i ∧
      (pk b p = (c : Int) → (∀ j, j < i → firsts[j]? ≠ some (pk b p)) → CeF.ease_ p (b.drop p) = Ce.andThen (Ce.bytes_ ws) (fun _ => Ce.gives e) p (b.drop p)) := by
  match i, hv with
  | 0, hv =>
    refine ⟨"even", Ce.ascii "even", .even, 101, (Option.some.inj hv).symm, by decide +kernel, by decide +kernel, by decide +kernel, rfl, rfl, fun h no => ?_⟩
    have h : pk b p = 101 := h
    rw [ease_unf, if_pos h]
  | 1, hv =>
    refine ⟨"in", Ce.ascii "in", .in_, 105, (Option.some.inj hv).symm, by decide +kernel, by decide +kernel, by decide +kernel, rfl, rfl, fun h no => ?_⟩
    have h : pk b p = 105 := h
    rw [ease_unf, if_neg (by omega), if_pos h]
  | 2, hv =>
    refine ⟨"out", Ce.ascii "out", .out, 111, (Option.some.inj hv).symm, by decide +kernel, by decide +kernel, by decide +kernel, rfl, rfl, fun h no => ?_⟩
    have h : pk b p = 111 := h
    rw [ease_unf, if_neg (by omega), if_neg (by omega), if_pos h]
  | 3, hv =>
    refine ⟨"both", Ce.ascii "both", .both, 98, (Option.some.inj hv).symm, by decide +kernel, by decide +kernel, by decide +kernel, rfl, rfl, fun h no => ?_⟩
    have h : pk b p = 98 := h
    rw [ease_unf, if_neg (by omega), if_neg (by omega), if_neg (by omega)]
  | i + 4, hv => exact absurd hv (by simp)
theorem ok_re (T : Txt A K mg) : FnOk P w K mg base (CXN P w (kd A)) 5 A.fRe A.dRe ["reader"] (spRe K A.CR) := by
  refine T.re.F.okX scRe (fun vs H Q E h => ?_) (fun cdv A' outer s H vs Q E hr h => ?_)
  · obtain ⟨r, b, a, p, rfl, _⟩ := h
    rfl
  · obtain ⟨r, b, a, p, rfl, R, k⟩ := h
    have hr2 : Room 2 _ := hr.mono (by decide)
    have hr3 : Room 3 _ := hr.mono (by decide)
    refine ⟨_, pss_cons (ps_for owns_fn rfl (pi_enumT (by rfl) T.enu (pa_cons (pe_glob (v := .ref A.aEa) (by rfl) T.mEa rfl) pa_nil)) (pg_tup rfl (pgs_cons (pg_name (i := 1) scRe.nd rfl (Or.inl rfl)) (pgs_cons (pg_name (i := 2) scRe.nd rfl (Or.inl rfl)) pgs_nil)))
        (pss_one (ps_if (pt_val (pe_meth (pv 0) T.clR T.co.m (ok_co T) hr3 T.co.b .nil pass0 (pa_cons (pe_ix ix_str (pv 2) pe_int (fun _ _ => rfl)) pa_nil)))
          (pss_cons (ps_expr (pe_meth (pv 0) T.clR T.tk.m (ok_tk T) hr T.tk.b .nil passes_fn (pa_cons (pv 2) pa_nil))) (pss_one (ps_ret (pv 1)))) pss_nil)))
      (pss_one (ps_raise throws_fn rfl (pe_makeX T.xc (ok_xi T) hr2 T.bxi (by rfl) T.mX (pa_cons (pe_fld (pv 0) rfl) pa_nil)))), ?_⟩
    refine ⟨A.aEa, _, rfl, T.tEa H, for_enumT (K := K) (a := A.aEa) (xs := [.str "even", .str "in", .str "out", .str "both"]) (fun i σ H' => ∃ v1 v2, σ = [some (.ref r), v1, v2] ∧ Same H H' ∧ ∀ j, j < i → firsts[j]? ≠ some (pk b p)) ⟨none, none, rfl, Same.refl H, fun j hj => absurd hj (by omega)⟩ T.tEa ?_ ?_⟩
    · rintro i v σ H' tt hv ⟨v1, v2, rfl, s1, no⟩ nT
      obtain ⟨x, ws, e, c, rfl, hcod, hc0, hxl, hfi, hei, hyes⟩ := ease_at (b := b) (p := p) hv
      have s2 : Same H (upd H' tt (.tup [.int (i : Nat), .str x])) := s1.trans (Same.laid nT)
      refine ⟨tt, _, rfl, SqT.of upd_same, rfl, _, _, rfl, _, _, rfl, rfl, ?_⟩
      have R2 := R.same s2
      refine rd_co (x := ⟨#[c]⟩) rfl R2 rfl (fun Q' z => ⟨_, rfl, x, 0, c, rfl, rfl, hxl, atI_nat (j := 0) hc0, z⟩) ⟨_, rfl, ?_⟩
      show if decide (pk b p = ((c : Nat) : Int)) = true then _ else _
      refine ite_dec (fun hy => ?_) (fun hn => ?_)
      · have e2 := hyes hy no
        rw [e2] at k
        refine rd_tk rfl R2 hcod (fun Q' z => ⟨_, rfl, z⟩) (Out.bind k fun _ p' H3 v3 _ R3 S3 _ o => ⟨_, rfl, ?_⟩)
        refine o.gives R3 ((Step.of s2).trans S3) ?_
        show V.int ((i : Nat) : Int) = V.int ((CeF.easeNo e : Nat) : Int)
        rw [hei]
      · refine ⟨_, _, rfl, s2, fun j hj => ?_⟩
        by_cases z : j = i
        · rw [z, hfi]; intro q; exact hn (Option.some.inj q).symm
        · exact no j (by omega)
    · rintro σ H' ⟨v1, v2, rfl, s1, no⟩
      refine rd_raise (D := { nx := fun _ _ => True, rt := Q }) T rfl (R.same s1) (k.er p ?_)
      refine ease_none (fun h => no 0 (by decide) (by rw [h]; rfl)) (fun h => no 1 (by decide) (by rw [h]; rfl)) (fun h => no 2 (by decide) (by rw [h]; rfl)) (fun h => no 3 (by decide) (by rw [h]; rfl))
/-! ### read_move -/
theorem scMv : FnScope ["reader", "earliest", "frames", "bounds", "start", "end", "target"] ["reader", "earliest", "frames", "bounds"] (defScope sMv) := ⟨rfl, rfl, rfl, by decide +kernel, rfl, by decide +kernel, by decide +kernel⟩
theorem ok_mv (T : Txt A K mg) : FnOk P w K mg base (CXN P w (kd A)) 6 A.fMv A.dMv ["reader", "earliest", "frames", "bounds"] (spMv K A.CR) := by
  refine T.mv.F.okX scMv (fun vs H Q E h => ?_) (fun cdv A' outer s H vs Q E hr h => ?_)
  · obtain ⟨r, t, b, a, p, n, frames, at_, rfl, _⟩ := h
    rfl
  · obtain ⟨r, t, b, a, p, n, frames, at_, rfl, hat, hfr, ht, R, k⟩ := h
    have hr4 : Room 4 _ := hr.mono (by decide)
    refine ⟨_, pss_cons (ps_set (i := 4) scMv.nd rfl (Or.inl rfl) (pe_call (ok_rn T) hr (by rfl) T.rn.m T.rn.F.kp T.rn.b .nil passes_fn (pa_cons (pv 0) (pa_cons (pv 1) (pa_cons (pe_op op_sub (pv 2) pe_int) pa_nil)))))
      (pss_cons (ps_expr (pe_meth (pv 0) T.clR T.tk.m (ok_tk T) hr4 T.tk.b .nil passes_fn (pa_cons pe_str pa_nil)))
      (pss_cons (ps_set (i := 5) scMv.nd rfl (Or.inl rfl) (pe_call (ok_rn T) hr (by rfl) T.rn.m T.rn.F.kp T.rn.b .nil passes_fn (pa_cons (pv 0) (pa_cons (pe_op op_add (pv 4) pe_int) (pa_cons (pe_op op_sub (pv 2) pe_int) pa_nil)))))
      (pss_cons (ps_expr (pe_meth (pv 0) T.clR T.tk.m (ok_tk T) hr4 T.tk.b .nil passes_fn (pa_cons pe_str pa_nil)))
      (pss_cons (ps_set (i := 6) scMv.nd rfl (Or.inl rfl) (pe_call (ok_rn T) hr (by rfl) T.rn.m T.rn.F.kp T.rn.b .nil passes_fn (pa_cons (pv 0) (pa_cons (pe_ix ix_tup (pv 3) pe_int (fun _ _ => rfl)) (pa_cons (pe_ix ix_tup (pv 3) pe_int (fun _ _ => rfl)) pa_nil)))))
      (pss_cons (ps_expr (pe_meth (pv 0) T.clR T.tk.m (ok_tk T) hr4 T.tk.b .nil passes_fn (pa_cons pe_str pa_nil)))
      (pss_one (ps_ret (pe_tup (pa_cons (pv 4) (pa_cons (pv 5) (pa_cons (pv 6) (pa_cons (pe_call (ok_re T) hr (by rfl) T.re.m T.re.F.kp T.re.b .nil passes_fn (pa_cons (pv 0) pa_nil)) pa_nil)))))))))))), ?_⟩
    have lm := least_most n
    unfold pmove at k
    refine ⟨_, rfl, _, rfl, _, rfl, _, _, rfl, rfl, r, b, a, p, (at_ : Int), (frames : Int) - 2, rfl, by omega, by omega, by omega, by omega, R, Out.bind k fun f p1 H1 v1 e1 R1 S1 en1 o1 => ?_⟩
    have en1 : v1 = .int f := en1
    subst en1
    have b1 := number_in (by omega) (by omega) e1
    refine rd_tk1 rfl R1 cod_min (fun Q' z => z) (Out.bind o1 fun _ p2 H2 v2 _ R2 S2 _ o2 => ?_)
    refine ⟨_, rfl, _, rfl, _, _, rfl, rfl, _, rfl, _, _, rfl, rfl, r, b, a, p2, f + 1, (frames : Int) - 1, rfl, by omega, by omega, by omega, by omega, R2, Out.bind o2 fun g p3 H3 v3 e3 R3 S3 en3 o3 => ?_⟩
    have en3 : v3 = .int g := en3
    subst en3
    have b3 := number_in (by omega) (by omega) e3
    have S13 := (S1.trans S2).trans S3
    refine rd_tk1 rfl R3 cod_col (fun Q' z => z) (Out.bind o3 fun _ p4 H4 v4 _ R4 S4 _ o4 => ?_)
    have S14 := S13.trans S4
    have ht4 := S14.keep _ _ ht (R.ne ht fun _ _ _ z => nomatch z)
    refine ⟨_, rfl, _, rfl, t, _, 0, _, rfl, rfl, SqT.of ht4, atI_nat (j := 0) rfl, _, rfl, t, _, 1, _, rfl, rfl, SqT.of ht4, atI_nat (j := 1) rfl, r, b, a, p4, CeF.least n, CeF.most n, rfl, by omega, by omega, by omega, by omega, R4, Out.bind o4 fun y p5 H5 v5 e5 R5 S5 en5 o5 => ?_⟩
    have en5 : v5 = .int y := en5
    subst en5
    refine rd_tk1 rfl R5 cod_sla (fun Q' z => z) (Out.bind o5 fun _ p6 H6 v6 _ R6 S6 _ o6 => ?_)
    refine ⟨_, rfl, _, rfl, _, rfl, _, rfl, r, b, a, p6, rfl, R6, Out.bind o6 fun e p7 H7 v7 _ R7 S7 en7 o7 => ?_⟩
    have en7 : v7 = .int ((CeF.easeNo e : Nat) : Int) := en7
    subst en7
    refine ⟨(by show 4 ≤ sizeLine; decide), fun q hq => ?_⟩
    have s8 := Same.laid (o := .tup [.int f, .int g, .int y, .int ((CeF.easeNo e : Nat) : Int)]) hq
    refine o7.gives (R7.same s8) ((((S14.trans S5).trans S6).trans S7).trans (Step.of s8)) ⟨q, rfl, ?_⟩
    rw [upd_same]
    have f1 : f = (f.toNat : Int) := by omega
    have g1 : g = (g.toNat : Int) := by omega
    show some (HO.tup [.int f, .int g, .int y, .int ((CeF.easeNo e : Nat) : Int)]) = some (HO.tup [.int (f.toNat : Int), .int (g.toNat : Int), .int y, .int ((CeF.easeNo e : Nat) : Int)])
    rw [← f1, ← g1]
end
end Fs

end

section
set_option Elab.async false
set_option linter.all false
set_option maxRecDepth 100000
set_option maxHeartbeats 2000000
namespace Fs
open PySem PySem.Spec PyProof.Rows L2 Fm
theorem then_id {α : Type} (g : Ce.Rd α) : Ce.andThen g (fun x => Ce.gives x) = g := by
  funext p t
  unfold Ce.andThen
  cases e : g p t with
  | error i => rfl
  | ok x => obtain ⟨u, p', t'⟩ := x; rfl
section
variable {P : Program} {w : World} {K : PySem.W.Frag} {mg : Str → Option Value} {base : Heap} {A : Ads}
/-! ### read_moves -/
theorem scMs : FnScope ["reader", "frames", "bounds", "moves", "earliest", "move"] ["reader", "frames", "bounds"] (defScope sMs) := ⟨rfl, rfl, rfl, by decide +kernel, rfl, by decide +kernel, by decide +kernel⟩
abbrev stMs (r : Addr) (frames : Nat) (t l : Addr) (at_ : Nat) (v : Option V) : L2.St := [some (.ref r), some (.int frames), some (.ref t), some (.ref l), some (.int at_), v]
theorem ok_ms (T : Txt A K mg) : FnOk P w K mg base (CXN P w (kd A)) 7 A.fMs A.dMs ["reader", "frames", "bounds"] (spMs K A.CR) := by
  refine T.ms.F.okX scMs (fun vs H Q E h => ?_) (fun cdv A' outer s H vs Q E hr h => ?_)
  · obtain ⟨r, t, b, a, p, n, frames, rfl, _⟩ := h
    rfl
  · obtain ⟨r, t, b, a, p0, n, frames, rfl, hf1, hf2, ht, R, k⟩ := h
    have hr1 : Room 1 _ := hr.mono (by decide)
    have hr2 : Room 2 _ := hr.mono (by decide)
    have hr3 : Room 3 _ := hr.mono (by decide)
    obtain ⟨uN, mN, rN⟩ := T.cMM
    refine ⟨_, pss_cons (ps_set (i := 3) scMs.nd rfl (Or.inl rfl) (pe_lst pa_nil))
      (pss_cons (ps_set (i := 4) scMs.nd rfl (Or.inl rfl) pe_int)
      (pss_cons (ps_while owns_fn (pt_val (pe_meth (pv 0) T.clR T.co.m (ok_co T) hr3 T.co.b .nil pass0 (pa_cons pe_str pa_nil)))
        (pss_cons (ps_if (pw_or (pt_cmpR op_eq (pe_callB call_len_seq (by rfl) T.len PySem.boot_len (pa_cons (pv 3) pa_nil)) (pe_glob (by rfl) mN rN) (nomark _)) (pw_or1 (pt_cmpR op_gt (pv 4) (pe_op op_sub (pv 1) pe_int) (nomark _)))).pt
          (pss_one (ps_raise throws_fn rfl (pe_makeX T.xc (ok_xi T) hr2 T.bxi (by rfl) T.mX (pa_cons (pe_fld (pv 0) rfl) pa_nil)))) pss_nil)
        (pss_cons (ps_expr (pe_meth0 (pv 0) T.clR T.ad.m (ok_ad T) hr1 T.ad.b .nil pass0))
        (pss_cons (ps_set (i := 5) scMs.nd rfl (Or.inl rfl) (pe_call (ok_mv T) hr (by rfl) T.mv.m T.mv.F.kp T.mv.b .nil passes_fn (pa_cons (pv 0) (pa_cons (pv 4) (pa_cons (pv 1) (pa_cons (pv 2) pa_nil))))))
        (pss_cons (ps_expr (pe_bm PySem.F.plainAttrs_list PySem.F.slot_list_append PySem.F.type_list_append mt_append (pv 3) (pa_cons (pv 5) pa_nil)))
        (pss_one (ps_set (i := 4) scMs.nd rfl (Or.inl rfl) (pe_ix ix_tup (pv 5) pe_int (fun _ _ => rfl)))))))))
      (pss_one (ps_ret (pv 3))))), ?_⟩
    refine ⟨Nat.zero_le _, fun l hl => ?_⟩
    refine while_in (fun m σ H' => ∃ (p at_ : Nat) (ms : List CeF.Move) (vs : List V) (v5 : Option V), σ = stMs r frames t l at_ v5 ∧ m = 64 - ms.length ∧ Rdr K A.CR b a H' r p ∧ Step r H H' ∧ H' l = some (.lst vs) ∧ Paired (fun (u : V) (m : CeF.Move) => MoveAt m u H') vs ms ∧ ms.length ≤ 64 ∧
        pmoves n frames 64 0 p0 (b.drop p0) = Ce.andThen (pmoves n frames (64 - ms.length) at_) (fun rr => Ce.gives (ms ++ rr)) p (b.drop p))
      (m := 64) ⟨p0, 0, [], [], none, rfl, rfl, R.new Step.refl R hl, Step.refl.new hl, upd_same, .nil, by decide, ?_⟩ ?_
    · show pmoves n frames 64 0 p0 (b.drop p0) = Ce.andThen (pmoves n frames 64 0) (fun rr => Ce.gives rr) p0 (b.drop p0)
      rw [then_id]
    rintro m σ H' ⟨p, at_, ms, vs, v5, rfl, rfl, R', S', hl', pr, h64, e⟩
    have hvl : vs.length = ms.length := Paired.length pr
    refine rd_co (x := " ") rfl R' (by decide +kernel) (fun Q' z => z) ⟨_, rfl, ?_⟩
    show if decide (pk b p = 32) = true then _ else _
    refine ite_dec (fun hbl => ?_) (fun hbl => ?_)
    · refine ⟨fun σ' H4 => ∃ (p4 at4 : Nat) (m4 : CeF.Move) (v4 : V), σ' = stMs r frames t l at4 (some v4) ∧ ms.length < 64 ∧ Rdr K A.CR b a H4 r p4 ∧ Step r H H4 ∧ H4 l = some (.lst (vs ++ [v4])) ∧ Paired (fun (u : V) (m : CeF.Move) => MoveAt m u H4) (vs ++ [v4]) (ms ++ [m4]) ∧
          pmoves n frames 64 0 p0 (b.drop p0) = Ce.andThen (pmoves n frames (64 - (ms ++ [m4]).length) at4) (fun rr => Ce.gives ((ms ++ [m4]) ++ rr)) p4 (b.drop p4), ?_, ?_⟩
      · rintro σ' H4 ⟨p4, at4, m4, v4, rfl, hlt, R4, S4, hl4, pr4, e4⟩
        refine ⟨_, ?_, p4, at4, ms ++ [m4], vs ++ [v4], some v4, rfl, rfl, R4, S4, hl4, pr4, ?_, e4⟩
        · rw [List.length_append]; show 64 - (ms.length + 1) < 64 - ms.length; omega
        · rw [List.length_append]; show ms.length + 1 ≤ 64; omega
      refine ⟨_, rfl, l, vs, rfl, .inl (SqL.of hl'), rfl, _, rfl, ?_⟩
      show if decide (V.int ((vs.length : Nat) : Int) = V.int 64) = true then _ else _
      rw [dInt, hvl]
      refine ite_dec (fun hfull => iteT ?_) (fun hfull => ?_)
      · refine rd_raise T rfl R' (k.er p ?_)
        have z : 64 - ms.length = 0 := by omega
        rw [e, z]
        exact then_er (moves_full hbl)
      refine ⟨_, rfl, _, rfl, _, _, rfl, rfl, _, _, rfl, rfl, _, rfl, ?_⟩
      show if decide ((frames : Int) - 2 < (at_ : Int)) = true then _ else _
      refine ite_dec (fun hlate => ?_) (fun hlate => ?_)
      · refine rd_raise T rfl R' (k.er p ?_)
        rw [e]
        exact then_er (moves_late hbl (by omega))
      obtain ⟨kk, ek⟩ : ∃ kk, 64 - ms.length = kk + 1 := ⟨63 - ms.length, by omega⟩
      rw [ek] at e
      obtain ⟨hlt, eg⟩ := moves_go (n := n) (frames := frames) (k := kk) (at_ := at_) hbl (by omega)
      have e' : pmoves n frames 64 0 p0 (b.drop p0) = Ce.andThen (pmove n frames at_) (fun m => Ce.andThen (pmoves n frames kk m.to) fun rr => Ce.gives (ms ++ (m :: rr))) (p + 1) (b.drop (p + 1)) := by
        rw [e]
        show Ce.andThen _ _ p (b.drop p) = _
        rw [show Ce.andThen (pmoves n frames (kk + 1) at_) (fun rr => Ce.gives (ms ++ rr)) p (b.drop p) = Ce.andThen (Ce.andThen (pmove n frames at_) (fun (m : CeF.Move) => Ce.andThen (pmoves n frames kk m.to) fun (r : List CeF.Move) => Ce.gives (m :: r))) (fun rr => Ce.gives (ms ++ rr)) (p + 1) (b.drop (p + 1)) from then_eq eg, then_assoc]
        refine congrFun (congrFun (then_congr fun x => ?_) _) _
        rw [then_assoc]
        refine then_congr fun y => rfl
      refine rd_ad rfl R' hlt fun H1 R1 S1 => ?_
      have S01 := S'.trans S1
      have ht1 := S01.keep _ _ ht (R.ne ht fun _ _ _ z => nomatch z)
      refine ⟨_, rfl, _, rfl, _, rfl, _, rfl, r, t, b, a, p + 1, n, frames, at_, rfl, by omega, hf2, ht1, R1, ⟨fun i ei => k.er i (by rw [e']; exact then_er ei), fun x p2 H2 v2 e2 R2 S2 en2 => ?_⟩⟩
      have en2 : MoveAt x v2 H2 := en2
      rw [then_ok e2] at e'
      have S12 := S1.trans S2
      have hl2 := S12.keep _ _ hl' (R'.ne hl' fun _ _ _ z => nomatch z)
      have pr2 : Paired (fun (u : V) (m : CeF.Move) => MoveAt m u H2) vs ms := Paired.mapP pr fun _ _ y => MoveAt.kp (S12.kp R') y
      refine ⟨_, rfl, .inl ⟨rfl, _, SqL.of hl2⟩, _, rfl, l, _, _, rfl, rfl, hl2, (by rw [hvl]; exact small1000 (by omega)), ?_⟩
      have S02 : Step r H H2 := S01.trans S2
      have en3 := MoveAt.upd (ys := vs ++ [v2]) hl2 en2
      obtain ⟨q, rfl, hq⟩ := en3
      refine ⟨_, rfl, q, _, 1, _, rfl, rfl, SqT.of hq, atI_nat (j := 1) rfl, ?_⟩
      refine ⟨p2, x.to, x, .ref q, rfl, by omega, R.new S02 R2 hl, S02.new hl, upd_same, Paired.snoc (Paired.mapP pr2 fun _ _ y => MoveAt.upd hl2 y) ⟨q, rfl, hq⟩, ?_⟩
      rw [e', List.length_append, show 64 - (ms.length + [x].length) = kk by show 64 - (ms.length + 1) = kk; omega]
      refine congrFun (congrFun (then_congr fun y => ?_) _) _
      rw [List.append_assoc]
      rfl
    · refine ⟨_, rfl, k.ok ms p H' _ ?_ R' S' ⟨l, vs, rfl, hl, hl', pr⟩⟩
      rw [e, then_eq (moves_end hbl), then_assoc]
      refine congrFun (congrFun (then_congr fun y => ?_) _) _
      show Ce.gives (ms ++ []) = _
      rw [List.append_nil]
/-! ### Dial(..) -/
def spDI (CD : Addr) : Sp := fun vs H Q _ => ∃ s dx vn vm, ∃ f : Int, vs = [.ref s, vn, .int f, vm] ∧ H s = some (.ins CD dx []) ∧ ∀ H' : Hp, (∃ dx, H' s = some (.ins CD dx (df vn vm f))) → Step s H H' → Q .non H'
theorem scDI : FnScope ["self", "name", "first", "moves"] ["self", "name", "first", "moves"] (defScope sDI) := ⟨rfl, rfl, rfl, by decide +kernel, rfl, by decide +kernel, by decide +kernel⟩
theorem ok_di (T : Txt A K mg) : FnOk P w K mg base CX0 1 A.fDI A.dDI ["self", "name", "first", "moves"] (spDI A.CD) := by
  refine T.di.ok scDI (fun vs H Q E h => ?_) (fun cdv A' outer s H vs Q E hr h => ?_)
  · obtain ⟨s, dx, vn, vm, f, rfl, _⟩ := h
    rfl
  · obtain ⟨r, dx, vn, vm, f, rfl, hs, k⟩ := h
    refine ⟨_, pss_cons (ps_fld (pv 0) (pv 1) rfl) (pss_cons (ps_fld (pv 0) (pv 2) rfl) (pss_one (ps_fld (pv 0) (pv 3) rfl))), ?_⟩
    have l1 := putF_len "name" vn []
    have l2 := putF_len "first" (.int f) (putF "name" vn [])
    have l0 : ([] : List (Str × V)).length = 0 := rfl
    refine ⟨_, rfl, _, rfl, r, A.CD, dx, [], rfl, hs, T.clD, T.nDn, (by show 0 < 1000; decide), ?_⟩
    refine ⟨_, rfl, _, rfl, r, A.CD, dx, _, rfl, upd_same, T.clD, T.nDf, by omega, ?_⟩
    refine ⟨_, rfl, _, rfl, r, A.CD, dx, _, rfl, upd_same, T.clD, T.nDm, by omega, ?_⟩
    rw [upd_upd, upd_upd]
    exact k _ ⟨dx, upd_same⟩ (Step.self hs)
/-! ### read_dial -/
theorem scDl : FnScope ["reader", "frames", "used", "name", "bounds", "first", "moves"] ["reader", "frames", "used"] (defScope sDl) := ⟨rfl, rfl, rfl, by decide +kernel, rfl, by decide +kernel, by decide +kernel⟩
theorem ok_dl (T : Txt A K mg) : FnOk P w K mg base (CXN P w (kd A)) 8 A.fDl A.dDl ["reader", "frames", "used"] (spDl K A.CR A.CD) := by
  refine T.dl.F.okX scDl (fun vs H Q E h => ?_) (fun cdv A' outer s H vs Q E hr h => ?_)
  · obtain ⟨r, u, b, a, p, had, frames, rfl, _⟩ := h
    rfl
  · obtain ⟨r, u, b, a, p, had, frames, rfl, hf1, hf2, R, U, k⟩ := h
    have hr2 : Room 2 _ := hr.mono (by decide)
    have hr4 : Room 4 _ := hr.mono (by decide)
    have hr5 : Room 5 _ := hr.mono (by decide)
    refine ⟨_, pss_cons (ps_expr (pe_meth (pv 0) T.clR T.tk.m (ok_tk T) hr4 T.tk.b .nil passes_fn (pa_cons pe_str pa_nil)))
      (pss_cons (ps_set (i := 3) scDl.nd rfl (Or.inl rfl) (pe_call (ok_rd T) hr4 (by rfl) T.rd.m T.rd.F.kp T.rd.b .nil passes_fn (pa_cons (pv 0) (pa_cons (pv 2) pa_nil))))
      (pss_cons (ps_set (i := 4) scDl.nd rfl (Or.inl rfl) (pe_call (ok_lm T) hr2 (by rfl) T.lm.m T.lm.F.kp T.lm.b .nil pass0 (pa_cons (pv 3) pa_nil)))
      (pss_cons (ps_expr (pe_meth (pv 0) T.clR T.tk.m (ok_tk T) hr4 T.tk.b .nil passes_fn (pa_cons pe_str pa_nil)))
      (pss_cons (ps_set (i := 5) scDl.nd rfl (Or.inl rfl) (pe_call (ok_rn T) hr5 (by rfl) T.rn.m T.rn.F.kp T.rn.b .nil passes_fn (pa_cons (pv 0) (pa_cons (pe_ix ix_tup (pv 4) pe_int (fun _ _ => rfl)) (pa_cons (pe_ix ix_tup (pv 4) pe_int (fun _ _ => rfl)) pa_nil)))))
      (pss_cons (ps_set (i := 6) scDl.nd rfl (Or.inl rfl) (pe_call (ok_ms T) hr (by rfl) T.ms.m T.ms.F.kp T.ms.b .nil passes_fn (pa_cons (pv 0) (pa_cons (pv 1) (pa_cons (pv 4) pa_nil)))))
      (pss_cons (ps_expr (pe_meth (pv 0) T.clR T.tk.m (ok_tk T) hr4 T.tk.b .nil passes_fn (pa_cons pe_str pa_nil)))
      (pss_one (ps_ret (pe_make T.mkD (ok_di T) hr2 (by rfl) T.mD T.bdi .nil pass0 (pa_cons (pv 3) (pa_cons (pv 5) (pa_cons (pv 6) pa_nil)))))))))))), ?_⟩
    unfold pdial at k
    refine rd_tk rfl R cod_dial (fun Q' z => z) (Out.bind k fun _ p1 H1 _ _ R1 S1 _ o1 => ?_)
    refine ⟨_, rfl, _, rfl, r, u, b, a, p1, had, rfl, R1, U.step R S1, Out.bind o1 fun n p2 H2 v2 _ R2 S2 en2 o2 => ?_⟩
    obtain ⟨ln, rfl, fn, hn⟩ := en2
    refine ⟨_, rfl, ln, n, rfl, SqL.of hn, fun H3 t s3 ht => ?_⟩
    have lm := least_most n
    have R3 := R2.same s3
    refine rd_tk1 rfl R3 cod_bla (fun Q' z => z) (Out.bind o2 fun _ p4 H4 _ _ R4 S4 _ o4 => ?_)
    have ht4 := S4.keep _ _ ht (R3.ne ht fun _ _ _ z => nomatch z)
    refine ⟨_, rfl, _, rfl, t, _, 0, _, rfl, rfl, SqT.of ht4, atI_nat (j := 0) rfl, _, rfl, t, _, 1, _, rfl, rfl, SqT.of ht4, atI_nat (j := 1) rfl, r, b, a, p4, CeF.least n, CeF.most n, rfl, by omega, by omega, by omega, by omega, R4, Out.bind o4 fun y p5 H5 v5 _ R5 S5 en5 o5 => ?_⟩
    have en5 : v5 = .int y := en5
    subst en5
    have ht5 := S5.keep _ _ ht4 (R4.ne ht4 fun _ _ _ z => nomatch z)
    refine ⟨_, rfl, _, rfl, _, rfl, r, t, b, a, p5, n, frames, rfl, hf1, hf2, ht5, R5, ⟨fun i ei => o5.er i (then_er ei), fun ms p6 H6 v6 e6 R6 S6 en6 => ?_⟩⟩
    have o6 := o5
    rw [then_eq e6, then_assoc] at o6
    refine rd_tk1 rfl R6 cod_end (fun Q' z => z) (Out.bind o6 fun _ p7 H7 _ _ R7 S7 _ o7 => ?_)
    refine ⟨_, rfl, _, rfl, _, rfl, ?_⟩
    intro q dq nq ndq neq
    refine ⟨q, dq, .ref ln, v6, y, rfl, upd_same, fun Hc hc Sc => ⟨rfl, ?_⟩⟩
    have sb : Same H7 (upd (upd H7 dq (.own q)) q (.ins A.CD dq [])) := Same.new (Same.laid ndq) nq
    have s8 : Same H7 Hc := fun c o e => Sc.keep c o (sb c o e) (ne_of_none e nq)
    have Sn : Step r H2 H7 := ((((Step.of s3).trans S4).trans S5).trans S6).trans S7
    have S02 : Step r H H2 := S1.trans S2
    have kp7 : Kp H2 Hc := (Sn.kp R2).trans (Same.kp s8)
    obtain ⟨dxc, hc⟩ := hc
    refine o7.gives (R7.same s8) ((S02.trans Sn).trans (Step.of s8)) ⟨q, dxc, _, _, rfl, hc, encN_kp kp7 ⟨ln, rfl, S1.gone _ fn, hn⟩, ?_⟩
    refine MovesAt.kp ((S7.kp R6).trans (Same.kp s8)) (old_Ms _ _ _ _ _ ?_ en6)
    exact ((((S02.trans (Step.of s3)).trans S4).trans S5)).gone
end
end Fs

end

section
set_option Elab.async false
set_option linter.all false
set_option maxRecDepth 100000
set_option maxHeartbeats 2000000
namespace Fs
open PySem PySem.Spec PyProof.Rows L2 Fm
/-! ### promises -/
def spSI (CS : Addr) : Sp := fun vs H Q _ => ∃ s dx vn vd, ∃ f w h : Int, vs = [.ref s, vn, .int f, .int w, .int h, vd] ∧ H s = some (.ins CS dx []) ∧ ∀ H' : Hp, (∃ dx, H' s = some (.ins CS dx (sf vn vd f w h))) → Step s H H' → Q .non H'
def spSh (K : PySem.W.Frag) (CS CD : Addr) : Sp := fun vs H Q E => ∃ a b, vs = [.ref a] ∧ SqL K H a (bv b) ∧ (∀ i : Nat, CeF.readC b = .error i → Er E (i : Int)) ∧ ∀ (c : CeF.Camera) (H' : Hp) (v : V), CeF.readC b = .ok c → Same H H' → SheetAt CS CD c v H H' → Q v H'
theorem nk_inj {n m : Ce.Bytes} (h : nk n = nk m) : n = m := by
  unfold nk at h
  have : bi n = bi m := by
    have q := congrArg (List.map fun (k : Key) => match k with | .inl i => i | .inr _ => (0 : Int)) h
    simpa [List.map_map, Function.comp_def] using q
  exact bi_inj this
theorem putK_len (kvs : List (List Key × V)) (k : List Key) (v : V) : (putK kvs k v).length ≤ kvs.length + 1 := by
  unfold putK
  split
  · rw [List.length_map]; omega
  · rw [List.length_append]; exact Nat.le_refl _
section
variable {P : Program} {w : World} {K : PySem.W.Frag} {mg : Str → Option Value} {base : Heap} {A : Ads}
/-! ### read_dials -/
theorem scDs : FnScope ["reader", "frames", "dials", "used", "dial"] ["reader", "frames"] (defScope sDs) := ⟨rfl, rfl, rfl, by decide +kernel, rfl, by decide +kernel, by decide +kernel⟩
abbrev stDs (r : Addr) (frames : Nat) (l u : Addr) (v : Option V) : L2.St := [some (.ref r), some (.int frames), some (.ref l), some (.ref u), v]
theorem ok_ds (T : Txt A K mg) : FnOk P w K mg base (CXN P w (kd A)) 9 A.fDs A.dDs ["reader", "frames"] (spDs K A.CR A.CD) := by
  refine T.ds.F.okX scDs (fun vs H Q E h => ?_) (fun cdv A' outer s H vs Q E hr h => ?_)
  · obtain ⟨r, b, a, p, frames, rfl, _⟩ := h
    rfl
  · obtain ⟨r, b, a, p0, frames, rfl, hf1, hf2, R, k⟩ := h
    have hr1 : Room 1 _ := hr.mono (by decide)
    have hr2 : Room 2 _ := hr.mono (by decide)
    have hu1 : (A'.deeper (envOfC "read_dials" (defScope sDs) s.heap.objs.size A.fDs cdv)).units + 1 < cLine := by have := hr.un; omega
    obtain ⟨uN, mN, rN⟩ := T.cMD
    refine ⟨_, pss_cons (ps_set (i := 2) scDs.nd rfl (Or.inl rfl) (pe_lst pa_nil))
      (pss_cons (ps_set (i := 3) scDs.nd rfl (Or.inl rfl) pe_dnewT)
      (pss_cons (ps_while owns_fn (pt_not (pt_val (pe_meth0 (pv 0) T.clR T.ae.m (ok_ae T) hr1 T.ae.b .nil pass0)))
        (pss_cons (ps_if (pt_cmpR op_eq (pe_callB call_len_seq (by rfl) T.len PySem.boot_len (pa_cons (pv 2) pa_nil)) (pe_glob (by rfl) mN rN) (nomark _))
          (pss_one (ps_raise throws_fn rfl (pe_makeX T.xc (ok_xi T) hr2 T.bxi (by rfl) T.mX (pa_cons (pe_fld (pv 0) rfl) pa_nil)))) pss_nil)
        (pss_cons (ps_set (i := 4) scDs.nd rfl (Or.inl rfl) (pe_call (ok_dl T) hr (by rfl) T.dl.m T.dl.F.kp T.dl.b .nil passes_fn (pa_cons (pv 0) (pa_cons (pv 1) (pa_cons (pv 3) pa_nil)))))
        (pss_cons (ps_expr (pe_bm PySem.F.plainAttrs_list PySem.F.slot_list_append PySem.F.type_list_append mt_append (pv 2) (pa_cons (pv 4) pa_nil)))
        (pss_one (ps_dput hu1 (pv 3) (pe_callTy call_tuple_of (by rfl) T.tup boot_tuple (pa_cons (pe_fld (pv 4) rfl) pa_nil)) pe_bl rfl))))))
      (pss_one (ps_ret (pv 2))))), ?_⟩
    refine ⟨Nat.zero_le _, fun l hl => ?_⟩
    intro u hu
    have hl1 : upd (upd H l (.lst [])) u (.dT []) l = some (.lst []) := by rw [upd_ne (ne_of_none upd_same hu)]; exact upd_same
    have hul : H u = none := by
      have q := hu
      by_cases z : u = l
      · rw [z, upd_same] at q; cases q
      · rw [upd_ne z] at q; exact q
    have lu : l ≠ u := ne_of_none (H := upd H l (.lst [])) upd_same hu
    have S1 : Step r H (upd (upd H l (.lst [])) u (.dT [])) := (Step.refl.new hl).new hul
    have R1 : Rdr K A.CR b a (upd (upd H l (.lst [])) u (.dT [])) r p0 := R.new (Step.refl.new hl) (R.new Step.refl R hl) hul
    generalize hH1 : upd (upd H l (.lst [])) u (.dT []) = H1 at *
    have hu1' : H1 u = some (.dT []) := by rw [← hH1]; exact upd_same
    refine while_in (fun m σ H' => ∃ (p : Nat) (ds : List CeF.Dial) (had : List Ce.Bytes) (vs : List V) (v4 : Option V), σ = stDs r frames l u v4 ∧ m = 32 - ds.length ∧ Rdr K A.CR b a H' r p ∧ Step r H H' ∧ (∀ c, H' c = none → H1 c = none) ∧ H' l = some (.lst vs) ∧ Paired (fun (v : V) (d : CeF.Dial) => DialAt A.CD d v H1 H') vs ds ∧ UsedAt H' u had ∧ had.length = ds.length ∧ ds.length ≤ 32 ∧
        pdials frames 32 [] p0 (b.drop p0) = Ce.andThen (pdials frames (32 - ds.length) had) (fun rr => Ce.gives (ds ++ rr)) p (b.drop p))
      (m := 32) ⟨p0, [], [], [], none, rfl, rfl, R1, S1, fun _ z => z, hl1, .nil, ⟨[], hu1', Nat.le_refl _, fun n => rfl⟩, rfl, by decide, ?_⟩ ?_
    · show pdials frames 32 [] p0 (b.drop p0) = Ce.andThen (pdials frames 32 []) (fun rr => Ce.gives rr) p0 (b.drop p0)
      rw [then_id]
    rintro m σ H' ⟨p, ds, had, vs, v4, rfl, rfl, R', S', G', hl', pr, U', hlen, h32, e⟩
    have hvl : vs.length = ds.length := Paired.length pr
    refine rd_ae rfl R' ⟨_, rfl, ?_⟩
    show if (!decide (p = b.length)) = true then _ else _
    refine ite_ndec (fun hp => ?_) (fun hp => ?_)
    · have hlt : p < b.length := Nat.lt_of_le_of_ne R'.le hp
      refine ⟨fun σ' H4 => ∃ (p4 : Nat) (d4 : CeF.Dial) (v4 : V), σ' = stDs r frames l u (some v4) ∧ ds.length < 32 ∧ Rdr K A.CR b a H4 r p4 ∧ Step r H H4 ∧ (∀ c, H4 c = none → H1 c = none) ∧ H4 l = some (.lst (vs ++ [v4])) ∧ Paired (fun (v : V) (d : CeF.Dial) => DialAt A.CD d v H1 H4) (vs ++ [v4]) (ds ++ [d4]) ∧ UsedAt H4 u (d4.name :: had) ∧
          pdials frames 32 [] p0 (b.drop p0) = Ce.andThen (pdials frames (32 - (ds ++ [d4]).length) (d4.name :: had)) (fun rr => Ce.gives ((ds ++ [d4]) ++ rr)) p4 (b.drop p4), ?_, ?_⟩
      · rintro σ' H4 ⟨p4, d4, v4, rfl, hd32, R4, S4, G4, hl4, pr4, U4, e4⟩
        refine ⟨_, ?_, p4, ds ++ [d4], d4.name :: had, vs ++ [v4], some v4, rfl, rfl, R4, S4, G4, hl4, pr4, U4, ?_, ?_, e4⟩
        · rw [List.length_append]; show 32 - (ds.length + 1) < 32 - ds.length; omega
        · rw [List.length_append, List.length_cons]; show had.length + 1 = ds.length + 1; omega
        · rw [List.length_append]; show ds.length + 1 ≤ 32; omega
      refine ⟨_, rfl, l, vs, rfl, .inl (SqL.of hl'), rfl, _, rfl, ?_⟩
      show if decide (V.int ((vs.length : Nat) : Int) = V.int 32) = true then _ else _
      rw [dInt, hvl]
      refine ite_dec (fun hfull => ?_) (fun hfull => ?_)
      · refine rd_raise T rfl R' (k.er p ?_)
        have z : 32 - ds.length = 0 := by omega
        rw [e, z]
        exact then_er (dials_full hlt)
      obtain ⟨kk, ek⟩ : ∃ kk, 32 - ds.length = kk + 1 := ⟨31 - ds.length, by omega⟩
      rw [ek] at e
      have e' : pdials frames 32 [] p0 (b.drop p0) = Ce.andThen (pdial frames had) (fun d => Ce.andThen (pdials frames kk (d.name :: had)) fun rr => Ce.gives (ds ++ (d :: rr))) p (b.drop p) := by
        rw [e, show Ce.andThen (pdials frames (kk + 1) had) (fun rr => Ce.gives (ds ++ rr)) p (b.drop p) = Ce.andThen (Ce.andThen (pdial frames had) (fun (d : CeF.Dial) => Ce.andThen (pdials frames kk (d.name :: had)) fun (r : List CeF.Dial) => Ce.gives (d :: r))) (fun rr => Ce.gives (ds ++ rr)) p (b.drop p) from then_eq (dials_go hlt), then_assoc]
        refine congrFun (congrFun (then_congr fun x => ?_) _) _
        rw [then_assoc]
        refine then_congr fun y => rfl
      refine ⟨_, rfl, _, rfl, _, rfl, r, u, b, a, p, had, frames, rfl, hf1, hf2, R', U', ⟨fun i ei => k.er i (by rw [e']; exact then_er ei), fun x p2 H2 v2 e2 R2 S2 en2 => ?_⟩⟩
      rw [then_ok e2] at e'
      have hl2 := S2.keep _ _ hl' (R'.ne hl' fun _ _ _ z => nomatch z)
      have G2 : ∀ c, H2 c = none → H1 c = none := fun c z => G' c (S2.gone c z)
      have en2 : DialAt A.CD x v2 H1 H2 := old_D _ _ _ _ _ G' en2
      have pr2 : Paired (fun (v : V) (d : CeF.Dial) => DialAt A.CD d v H1 H2) vs ds := Paired.mapP pr fun _ _ y => DialAt.kp (S2.kp R') y
      refine ⟨_, rfl, .inl ⟨rfl, _, SqL.of hl2⟩, _, rfl, l, _, _, rfl, rfl, hl2, (by rw [hvl]; exact small1000 (by omega)), ?_⟩
      have S02 : Step r H H2 := S'.trans S2
      have en3 := DialAt.upd (ys := vs ++ [v2]) hl1 hl2 en2
      have pr3 : Paired (fun (v : V) (d : CeF.Dial) => DialAt A.CD d v H1 (upd H2 l (.lst (vs ++ [v2])))) (vs ++ [v2]) (ds ++ [x]) := Paired.snoc (Paired.mapP pr2 fun _ _ y => DialAt.upd hl1 hl2 y) en3
      have R3 : Rdr K A.CR b a (upd H2 l (.lst (vs ++ [v2]))) r p2 := R.new S02 R2 hl
      have S3 : Step r H (upd H2 l (.lst (vs ++ [v2]))) := S02.new hl
      have G3 : ∀ c, upd H2 l (.lst (vs ++ [v2])) c = none → H1 c = none := fun c z => by
        by_cases y : c = l
        · rw [y, upd_same] at z; cases z
        · rw [upd_ne y] at z; exact G2 c z
      obtain ⟨kvs, hk, hkl, hmem⟩ := (U'.step R' S2).ex
      have hk3 : upd H2 l (.lst (vs ++ [v2])) u = some (.dT kvs) := by rw [upd_ne (Ne.symm lu)]; exact hk
      have hl3 : upd H2 l (.lst (vs ++ [v2])) l = some (.lst (vs ++ [v2])) := upd_same
      generalize upd H2 l (.lst (vs ++ [v2])) = H3 at *
      obtain ⟨q, dq, vn, vm, rfl, hq, ⟨ln, rfl, fn, hn⟩, hms⟩ := id en3
      refine ⟨_, rfl, _, rfl, q, A.CD, dq, _, _, rfl, hq, T.clD, T.nDn, df_name _ _ _, ln, _, rfl, .inl ⟨SqL.of hn, fun t ht => ?_⟩⟩
      have s4 : Same H3 (upd H3 t (.tup (bv x.name))) := Same.laid ht
      have hk4 := s4 _ _ hk3
      refine ⟨u, _, rfl, DPut.t (k := nk x.name) hk4 (by rw [kV_nk]; exact upd_same) (Nat.lt_of_le_of_lt hkl (by rw [hlen]; exact small1000 (by omega))), ?_⟩
      have kp5 : Kp H3 (upd (upd H3 t (.tup (bv x.name))) u (.dT (putK kvs (nk x.name) (.bl true)))) := (Same.kp s4).trans (Kp.dict hk4)
      refine ⟨p2, x, .ref q, rfl, by omega, ?_, ?_, ?_, kp5.l _ _ hl3, Paired.mapP pr3 fun _ _ y => DialAt.kp kp5 y, ?_, ?_⟩
      · exact R.new (S3.trans (Step.of s4)) (R3.same s4) hul
      · exact (S3.trans (Step.of s4)).new hul
      · intro c z
        by_cases y : c = u
        · rw [y, upd_same] at z; cases z
        · rw [upd_ne y] at z; exact G3 c (s4.free z)
      · refine ⟨_, upd_same, ?_, fun n => ?_⟩
        · rw [List.length_cons]
          exact Nat.le_trans (putK_len _ _ _) (Nat.add_le_add_right hkl 1)
        · rw [valV_put, List.contains_cons, ← hmem n]
          by_cases z : nk n = nk x.name
          · rw [if_pos z, nk_inj z]; simp
          · rw [if_neg z, show (n == x.name) = false from beq_eq_false_iff_ne.mpr fun y => z (by rw [y]), Bool.false_or]
      · rw [e', List.length_append, show 32 - (ds.length + [x].length) = kk by show 32 - (ds.length + 1) = kk; omega]
        refine congrFun (congrFun (then_congr fun y => ?_) _) _
        rw [List.append_assoc]
        rfl
    · subst hp
      have e2 : pdials frames 32 [] p0 (b.drop p0) = .ok (ds ++ [], b.length, b.drop b.length) := by rw [e, then_ok dials_end]; rfl
      rw [List.append_nil] at e2
      exact ⟨_, rfl, k.ok ds b.length H' _ e2 R' S' ⟨l, vs, rfl, hl, hl', Paired.mapP pr fun _ _ y => old_D _ _ _ _ _ S1.gone y⟩⟩
end
end Fs

end

section
set_option Elab.async false
set_option linter.all false
set_option maxRecDepth 100000
set_option maxHeartbeats 2000000
namespace Fs
open PySem PySem.Spec PyProof.Rows L2 Fm
section
variable {P : Program} {w : World} {K : PySem.W.Frag} {mg : Str → Option Value} {base : Heap} {A : Ads}
/-! ### Sheet(..) -/
theorem scSI : FnScope ["self", "name", "frames", "width", "height", "dials"] ["self", "name", "frames", "width", "height", "dials"] (defScope sSI) := ⟨rfl, rfl, rfl, by decide +kernel, rfl, by decide +kernel, by decide +kernel⟩
theorem ok_si (T : Txt A K mg) : FnOk P w K mg base CX0 1 A.fSI A.dSI ["self", "name", "frames", "width", "height", "dials"] (spSI A.CS) := by
  refine T.si.ok scSI (fun vs H Q E h => ?_) (fun cdv A' outer s H vs Q E hr h => ?_)
  · obtain ⟨s, dx, vn, vd, f, w, h, rfl, _⟩ := h
    rfl
  · obtain ⟨r, dx, vn, vd, f, ww, h, rfl, hs, k⟩ := h
    refine ⟨_, pss_cons (ps_fld (pv 0) (pv 1) rfl) (pss_cons (ps_fld (pv 0) (pv 2) rfl) (pss_cons (ps_fld (pv 0) (pv 3) rfl) (pss_cons (ps_fld (pv 0) (pv 4) rfl) (pss_one (ps_fld (pv 0) (pv 5) rfl))))), ?_⟩
    have l1 := putF_len "name" vn []
    have l2 := putF_len "frames" (.int f) (putF "name" vn [])
    have l3 := putF_len "width" (.int ww) (putF "frames" (.int f) (putF "name" vn []))
    have l4 := putF_len "height" (.int h) (putF "width" (.int ww) (putF "frames" (.int f) (putF "name" vn [])))
    have l0 : ([] : List (Str × V)).length = 0 := rfl
    refine ⟨_, rfl, _, rfl, r, A.CS, dx, [], rfl, hs, T.clS, T.nSn, (by show 0 < 1000; decide), ?_⟩
    refine ⟨_, rfl, _, rfl, r, A.CS, dx, _, rfl, upd_same, T.clS, T.nSf, by omega, ?_⟩
    refine ⟨_, rfl, _, rfl, r, A.CS, dx, _, rfl, upd_same, T.clS, T.nSw, by omega, ?_⟩
    refine ⟨_, rfl, _, rfl, r, A.CS, dx, _, rfl, upd_same, T.clS, T.nSh, by omega, ?_⟩
    refine ⟨_, rfl, _, rfl, r, A.CS, dx, _, rfl, upd_same, T.clS, T.nSd, by omega, ?_⟩
    rw [upd_upd, upd_upd, upd_upd, upd_upd]
    exact k _ ⟨dx, upd_same⟩ (Step.self hs)
/-! ### read_sheet -/
theorem scSh : FnScope ["t", "reader", "name", "frames", "width", "height"] ["t"] (defScope sSh) := ⟨rfl, rfl, rfl, by decide +kernel, rfl, by decide +kernel, by decide +kernel⟩
theorem ok_sh (T : Txt A K mg) : FnOk P w K mg base (CXN P w (kd A)) 10 A.fSh A.dSh ["t"] (spSh K A.CS A.CD) := by
  refine T.sh.F.okX scSh (fun vs H Q E h => ?_) (fun cdv A' outer s H vs Q E hr h => ?_)
  · obtain ⟨a, b, rfl, _⟩ := h
    rfl
  · obtain ⟨a, b, rfl, hS, her, hok⟩ := h
    have hr2 : Room 2 _ := hr.mono (by decide)
    have hr4 : Room 4 _ := hr.mono (by decide)
    have hr5 : Room 5 _ := hr.mono (by decide)
    obtain ⟨uF, mF, rF⟩ := T.cMF
    obtain ⟨uL, mL, rL⟩ := T.cLS
    refine ⟨_, pss_cons (ps_set (i := 1) scSh.nd rfl (Or.inl rfl) (pe_make T.mkR (ok_ri T) hr2 (by rfl) T.mR T.bri .nil pass0 (pa_cons (pv 0) pa_nil)))
      (pss_cons (ps_expr (pe_meth (pv 1) T.clR T.tk.m (ok_tk T) hr4 T.tk.b .nil passes_fn (pa_cons pe_str pa_nil)))
      (pss_cons (ps_set (i := 2) scSh.nd rfl (Or.inl rfl) (pe_call (ok_ra T) hr4 (by rfl) T.ra.m T.ra.F.kp T.ra.b .nil passes_fn (pa_cons (pv 1) pa_nil)))
      (pss_cons (ps_expr (pe_meth (pv 1) T.clR T.tk.m (ok_tk T) hr4 T.tk.b .nil passes_fn (pa_cons pe_str pa_nil)))
      (pss_cons (ps_set (i := 3) scSh.nd rfl (Or.inl rfl) (pe_call (ok_rn T) hr5 (by rfl) T.rn.m T.rn.F.kp T.rn.b .nil passes_fn (pa_cons (pv 1) (pa_cons pe_int (pa_cons (pe_glob (by rfl) mF rF) pa_nil)))))
      (pss_cons (ps_expr (pe_meth (pv 1) T.clR T.tk.m (ok_tk T) hr4 T.tk.b .nil passes_fn (pa_cons pe_str pa_nil)))
      (pss_cons (ps_set (i := 4) scSh.nd rfl (Or.inl rfl) (pe_call (ok_rn T) hr5 (by rfl) T.rn.m T.rn.F.kp T.rn.b .nil passes_fn (pa_cons (pv 1) (pa_cons pe_int (pa_cons (pe_glob (by rfl) mL rL) pa_nil)))))
      (pss_cons (ps_expr (pe_meth (pv 1) T.clR T.tk.m (ok_tk T) hr4 T.tk.b .nil passes_fn (pa_cons pe_str pa_nil)))
      (pss_cons (ps_set (i := 5) scSh.nd rfl (Or.inl rfl) (pe_call (ok_rn T) hr5 (by rfl) T.rn.m T.rn.F.kp T.rn.b .nil passes_fn (pa_cons (pv 1) (pa_cons pe_int (pa_cons (pe_glob (by rfl) mL rL) pa_nil)))))
      (pss_cons (ps_expr (pe_meth (pv 1) T.clR T.tk.m (ok_tk T) hr4 T.tk.b .nil passes_fn (pa_cons pe_str pa_nil)))
      (pss_one (ps_ret (pe_make T.mkS (ok_si T) hr2 (by rfl) T.mS T.bsi .nil pass0
        (pa_cons (pv 2) (pa_cons (pv 3) (pa_cons (pv 4) (pa_cons (pv 5) (pa_cons (pe_call (ok_ds T) hr (by rfl) T.ds.m T.ds.F.kp T.ds.b .nil passes_fn (pa_cons (pv 1) (pa_cons (pv 3) pa_nil))) pa_nil))))))))))))))))), ?_⟩
    refine ⟨_, rfl, fun r dx nr ndx ne => ⟨r, a, dx, rfl, upd_same, fun H1 hr1 S1 => ⟨rfl, ?_⟩⟩⟩
    have s0 : Same H (upd (upd H dx (.own r)) r (.ins A.CR dx [])) := Same.new (Same.laid ndx) nr
    have Sa : Same H H1 := fun c o e => S1.keep c o (s0 c o e) (ne_of_none e nr)
    have R1 : Rdr K A.CR b a H1 r 0 := ⟨hr1, Sa.seq hS, Nat.zero_le _⟩
    have k : Out K A.CR b a r (SheetAt A.CS A.CD) (preadC 0 (b.drop 0)) H1 Q E := by
      refine ⟨fun i e => her i (by rw [read_of, e]), fun c p' H' v e R' S' en => hok c H' v (by rw [read_of, e]) ?_ ?_⟩
      · exact fun d o q => S'.keep d o (Sa d o q) (ne_of_none q nr)
      · obtain ⟨q, dq, vn, vd, e1, e2, e3, e4⟩ := en
        exact ⟨q, dq, vn, vd, e1, e2, old_N _ _ _ _ _ (fun c z => Sa.free z) e3, old_Ds _ _ _ _ _ (fun c z => Sa.free z) e4⟩
    unfold preadC at k
    refine rd_tk rfl R1 cod_cam (fun Q' z => z) (Out.bind k fun _ p2 H2 _ _ R2 S2 _ o2 => ?_)
    refine ⟨_, rfl, r, b, a, p2, rfl, R2, Out.bind o2 fun n p3 H3 v3 _ R3 S3 en3 o3 => ?_⟩
    refine rd_tk1 rfl R3 cod_bla (fun Q' z => z) (Out.bind o3 fun _ p4 H4 _ _ R4 S4 _ o4 => ?_)
    refine ⟨_, rfl, r, b, a, p4, 1, 1024, rfl, by decide, by decide, by decide, by decide, R4, Out.bind o4 fun f p5 H5 v5 e5 R5 S5 en5 o5 => ?_⟩
    have en5 : v5 = .int f := en5
    subst en5
    have b5 := number_in (by decide) (by decide) e5
    refine rd_tk1 rfl R5 cod_bla (fun Q' z => z) (Out.bind o5 fun _ p6 H6 _ _ R6 S6 _ o6 => ?_)
    refine ⟨_, rfl, r, b, a, p6, 1, 256, rfl, by decide, by decide, by decide, by decide, R6, Out.bind o6 fun ww p7 H7 v7 e7 R7 S7 en7 o7 => ?_⟩
    have en7 : v7 = .int ww := en7
    subst en7
    have b7 := number_in (by decide) (by decide) e7
    refine rd_tk1 rfl R7 cod_bla (fun Q' z => z) (Out.bind o7 fun _ p8 H8 _ _ R8 S8 _ o8 => ?_)
    refine ⟨_, rfl, r, b, a, p8, 1, 256, rfl, by decide, by decide, by decide, by decide, R8, Out.bind o8 fun h p9 H9 v9 e9 R9 S9 en9 o9 => ?_⟩
    have en9 : v9 = .int h := en9
    subst en9
    have b9 := number_in (by decide) (by decide) e9
    refine rd_tk1 rfl R9 cod_end (fun Q' z => z) (Out.bind o9 fun _ pa Ha _ _ Ra S10 _ oa => ?_)
    have f1 : f = (f.toNat : Int) := by omega
    have w1 : ww = (ww.toNat : Int) := by omega
    have h1 : h = (h.toNat : Int) := by omega
    refine ⟨_, rfl, _, rfl, _, rfl, _, rfl, _, rfl, _, rfl, r, b, a, pa, f.toNat, (by rw [← f1]; rfl), by omega, by omega, Ra, Out.bind oa fun l pb Hb vb _ Rb S11 enb ob => ?_⟩
    intro q dq nq ndq neq
    refine ⟨q, dq, v3, vb, f, ww, h, rfl, upd_same, fun Hc hc Sc => ⟨rfl, ?_⟩⟩
    have sb : Same Hb (upd (upd Hb dq (.own q)) q (.ins A.CS dq [])) := Same.new (Same.laid ndq) nq
    have sc : Same Hb Hc := fun c o e => Sc.keep c o (sb c o e) (ne_of_none e nq)
    have S3a : Step r H3 Ha := (((((S4.trans S5).trans S6).trans S7).trans S8).trans S9).trans S10
    have S1a : Step r H1 Ha := (S2.trans S3).trans S3a
    obtain ⟨dxc, hc⟩ := hc
    refine ob.gives (Rb.same sc) ((S1a.trans S11).trans (Step.of sc)) ⟨q, dxc, v3, vb, rfl, ?_, ?_, ?_⟩
    · show Hc q = some (.ins A.CS dxc (sf v3 vb (f.toNat : Int) (ww.toNat : Int) (h.toNat : Int)))
      rw [← f1, ← w1, ← h1]
      exact hc
    · refine encN_kp (((S3a.trans S11).kp R3).trans (Same.kp sc)) (old_N _ _ _ _ _ S2.gone en3)
    · exact DialsAt.kp (Same.kp sc) (old_Ds _ _ _ _ _ S1a.gone enb)
end
end Fs

end

section
set_option Elab.async false
set_option linter.all false
set_option maxRecDepth 100000
set_option maxHeartbeats 2000000
namespace Fs
open PySem PySem.Spec PyProof.Rows L2 Fm
section
variable {P : Program} {w : World} {K : PySem.W.Frag} {mg : Str → Option Value} {base : Heap} {A : Ads}
theorem scLI : FnScope ["self"] ["self"] (defScope sLI) := ⟨rfl, rfl, rfl, by decide +kernel, rfl, by decide +kernel, by decide +kernel⟩
theorem ok_li {C N f : Addr} {es : Array DictEntry} {fd : FuncData} {qual : Str} (xc : XCls K C N f es) (F : Fun K "__init__" qual sLI f fd) : FnOk P w K mg base CX0 1 f fd ["self"] (spXI C (g0 (-2))) := by
  refine F.ok scLI (fun vs H Q E h => ?_) (fun cdv A' outer s H vs Q E hr h => ?_)
  · obtain ⟨a, us, fs, rfl, ⟨rfl, _⟩, _⟩ := h
    rfl
  · obtain ⟨a, us, fs, rfl, ⟨rfl, rfl⟩, ha, k⟩ := h
    refine ⟨_, pss_one (ps_fldX xc.refusal (pv 0) (pe_un un_neg pe_int) rfl), ?_⟩
    exact ⟨_, rfl, _, rfl, a, rfl, ha, fun dx hdx => k dx hdx⟩
/-! ### read_text -/
def spRt (K : PySem.W.Frag) (CS CD : Addr) : Sp := fun vs H Q E => ∃ a b, vs = [.ref a] ∧ SqL K H a (bv b) ∧ (65536 < b.length → Er E (-2)) ∧ (b.length ≤ 65536 → (∀ i : Nat, CeF.readC b = .error i → Er E (i : Int)) ∧ ∀ (c : CeF.Camera) (H' : Hp) (v : V), CeF.readC b = .ok c → Same H H' → SheetAt CS CD c v H H' → Q v H')
theorem scRt : FnScope ["t"] ["t"] (defScope sRt) := ⟨rfl, rfl, rfl, by decide +kernel, rfl, by decide +kernel, by decide +kernel⟩
theorem ok_rt (T : Txt A K mg) : FnOk P w K mg base (CXN P w (kd A)) 11 A.fRt A.dRt ["t"] (spRt K A.CS A.CD) := by
  refine T.rt.F.okX scRt (fun vs H Q E h => ?_) (fun cdv A' outer s H vs Q E hr h => ?_)
  · obtain ⟨a, b, rfl, _⟩ := h
    rfl
  · obtain ⟨a, b, rfl, hS, h1, h2⟩ := h
    obtain ⟨N, f, es, fd, xc, mX, xi, bx⟩ := T.xL.ex
    obtain ⟨uL, mL, rL⟩ := T.cLT
    have hr2 : Room 2 _ := hr.mono (by decide)
    refine ⟨_, pss_cons (ps_if (pt_cmpR op_gt (pe_callB call_len_seq (by rfl) T.len PySem.boot_len (pa_cons (pv 0) pa_nil)) (pe_glob (by rfl) mL rL) (nomark _))
        (pss_one (ps_raise throws_fn rfl (pe_makeX0 xc (ok_li xc xi) hr2 bx (by rfl) mX))) pss_nil)
      (pss_one (ps_ret (pe_call (ok_sh T) hr (by rfl) T.sh.m T.sh.F.kp T.sh.b .nil passes_fn (pa_cons (pv 0) pa_nil)))), ?_⟩
    refine ⟨_, rfl, a, bv b, rfl, .inl hS, _, _, rfl, rfl, _, rfl, ?_⟩
    show if decide ((65536 : Int) < ((bv b).length : Int)) = true then _ else _
    rw [bv_len]
    refine ite_dec (fun hl => ?_) (fun hl => ?_)
    · exact rd_raise0 xc (.inr (.inl ⟨rfl, rfl, rfl⟩)) (h1 (by omega))
    · obtain ⟨h3, h4⟩ := h2 (by omega)
      exact ⟨_, rfl, a, b, rfl, hS, h3, h4⟩
end
end Fs

end

section
set_option linter.all false
namespace Fm
open Ce CeF
/-! ### easing -/
theorem mul_bd {a b : Int} {m n : Int} (ha : 0 ≤ a) (ha2 : a ≤ m) (hb : 0 ≤ b) (hb2 : b ≤ n) : 0 ≤ a * b ∧ a * b ≤ m * n := by
  refine ⟨Int.mul_nonneg ha hb, ?_⟩
  exact Int.le_trans (Int.mul_le_mul_of_nonneg_right ha2 hb) (Int.mul_le_mul_of_nonneg_left hb2 (by omega))
theorem share_q {e : Ease} {n i : Nat} (h1 : 1 ≤ n) (h2 : n ≤ 1023) : 1 ≤ (e.share n i).2 ∧ (e.share n i).2 ≤ 1070599167 := by
  have a1 : 1 * 1 ≤ n * n := Nat.mul_le_mul h1 h1
  have a2 : n * n ≤ 1023 * 1023 := Nat.mul_le_mul h2 h2
  have a3 : 1 * 1 ≤ n * n * n := Nat.mul_le_mul (by omega) h1
  have a4 : n * n * n ≤ 1046529 * 1023 := Nat.mul_le_mul (by omega) h2
  cases e
  · show 1 ≤ n ∧ n ≤ _; omega
  · show 1 ≤ n * n ∧ n * n ≤ _; omega
  · show 1 ≤ n * n ∧ n * n ≤ _; omega
  · show 1 ≤ n * n * n ∧ n * n * n ≤ _; omega
theorem share_p {e : Ease} {n i : Nat} (h1 : i ≤ n) (h2 : n ≤ 1023) : -10000000000 ≤ (e.share n i).1 ∧ (e.share n i).1 ≤ 10000000000 := by
  have b1 : (0 : Int) ≤ (i : Int) := by omega
  have b2 : (i : Int) ≤ 1023 := by omega
  have c1 : (0 : Int) ≤ (n : Int) := by omega
  have c2 : (n : Int) ≤ 1023 := by omega
  have ii := mul_bd b1 b2 b1 b2
  have ni := mul_bd (a := 2 * (n : Int)) (by omega) (by omega : 2 * (n : Int) ≤ 2046) b1 b2
  have n3 := mul_bd (a := 3 * (n : Int)) (by omega) (by omega : 3 * (n : Int) ≤ 3069) b1 b2
  have n4 := mul_bd n3.1 n3.2 b1 b2
  have i3 := mul_bd (a := 2 * (i : Int)) (by omega) (by omega : 2 * (i : Int) ≤ 2046) b1 b2
  have i4 := mul_bd i3.1 i3.2 b1 b2
  cases e
  · show _ ≤ (i : Int) ∧ (i : Int) ≤ _; omega
  · show _ ≤ (i : Int) * i ∧ (i : Int) * i ≤ _; omega
  · show _ ≤ 2 * (n : Int) * i - (i : Int) * i ∧ 2 * (n : Int) * i - (i : Int) * i ≤ _; omega
  · show _ ≤ 3 * (n : Int) * i * i - 2 * (i : Int) * i * i ∧ 3 * (n : Int) * i * i - 2 * (i : Int) * i * i ≤ _; omega
theorem near_zero {q : Nat} (h : 1 ≤ q) : nearest 0 q = 0 := by
  show (2 * 0 + (q : Int)) / (2 * (q : Int)) = 0
  refine Int.ediv_eq_zero_of_lt (by omega) (by omega)
theorem eased_zero {e : Ease} {n : Nat} {a b : Int} (h1 : 1 ≤ n) (h2 : n ≤ 1023) : eased e n 0 a b = a := by
  have z : (e.share n 0).1 = 0 := by
    cases e
    · rfl
    · rfl
    · show 2 * (n : Int) * ((0 : Nat) : Int) - ((0 : Nat) : Int) * ((0 : Nat) : Int) = 0
      simp
    · show 3 * (n : Int) * ((0 : Nat) : Int) * ((0 : Nat) : Int) - 2 * ((0 : Nat) : Int) * ((0 : Nat) : Int) * ((0 : Nat) : Int) = 0
      simp
  have q := (share_q (e := e) (i := 0) h1 h2).1
  unfold eased
  rw [z, Int.zero_mul, near_zero q, Int.add_zero]
/-- the code's way through the moves -/
theorem from_stay {f : Nat} {v : Int} {m : Move} {r : List Move} (h : f < m.from_) : valueFrom f v (m :: r) = v := by
  show (if f ≤ m.from_ then v else _) = v
  rw [if_pos (by omega)]
theorem from_in {f : Nat} {v : Int} {m : Move} {r : List Move} (g : GoodM m) (h : ¬ f < m.from_) (h2 : f < m.to) : valueFrom f v (m :: r) = eased m.ease (m.to - m.from_) (f - m.from_) v m.value := by
  have g1 := g.lt
  have g2 := g.to
  show (if f ≤ m.from_ then v else if f < m.to then _ else _) = _
  by_cases c : f ≤ m.from_
  · rw [if_pos c, show f - m.from_ = 0 by omega, eased_zero (by omega) (by omega)]
  · rw [if_neg c, if_pos h2]
theorem from_past {f : Nat} {v : Int} {m : Move} {r : List Move} (g : GoodM m) (h2 : ¬ f < m.to) : valueFrom f v (m :: r) = valueFrom f m.value r := by
  have g1 := g.lt
  show (if f ≤ m.from_ then v else if f < m.to then _ else _) = _
  rw [if_neg (by omega), if_neg h2]
/-- the dial of a name among them -/
theorem find_hit {ds : List Dial} {n : Bytes} {d : Dial} {r : List Dial} (e : d.name = n) : (d :: r).find? (fun (d : Dial) => d.name == n) = some d := by
  rw [List.find?_cons, show (d.name == n) = true by rw [e]; exact beq_self_eq_true n]
theorem find_miss {n : Bytes} {d : Dial} {r : List Dial} (e : ¬ d.name = n) : (d :: r).find? (fun (d : Dial) => d.name == n) = r.find? (fun (d : Dial) => d.name == n) := by
  rw [List.find?_cons, show (d.name == n) = false from beq_eq_false_iff_ne.mpr e]
end Fm

end

section
set_option linter.all false
namespace Fm
open Ce CeF
/-! ### the calls of the later stages -/
theorem easec_eq (e n i a b : Int) : PyWqasbt.ease e n i a b = match easeOf e.toNat with
    | none => [-1]
    | some k => if n.toNat < 1 ∨ 1023 < n.toNat ∨ n.toNat < i.toNat ∨ within (-9999) 9999 a = false ∨ within (-9999) 9999 b = false then [-1] else [eased k n.toNat i.toNat a b] := by
  show FieldNeutral.shown (match easeOf e.toNat with
    | none => no 1
    | some k => if n.toNat < 1 ∨ 1023 < n.toNat ∨ n.toNat < i.toNat ∨ within (-9999) 9999 a = false ∨ within (-9999) 9999 b = false then no 1 else .nums [eased k n.toNat i.toNat a b]) = _
  cases easeOf e.toNat with
  | none => rfl
  | some k =>
    dsimp only
    split <;> rfl
theorem rangec_eq (zs ss : List Int) : PyWqasbt.range_of zs ss = if dialOk (toB ss) = false then [-1] else if 65536 < zs.length then [-2] else match readC (toB zs) with
    | .error _ => [-6]
    | .ok c => [(firstBy (fun (x y : Int) => decide (x < y)) (c.values (toB ss))).1, (firstBy (fun (x y : Int) => decide (x < y)) (c.values (toB ss))).2, (firstBy (fun (x y : Int) => decide (y < x)) (c.values (toB ss))).1, (firstBy (fun (x y : Int) => decide (y < x)) (c.values (toB ss))).2] := by
  show FieldNeutral.shown (if dialOk (toB ss) = false then no 1 else ofCamera (toB zs) fun c => .nums [(firstBy (fun (x y : Int) => decide (x < y)) (c.values (toB ss))).1, (firstBy (fun (x y : Int) => decide (x < y)) (c.values (toB ss))).2, (firstBy (fun (x y : Int) => decide (y < x)) (c.values (toB ss))).1, (firstBy (fun (x y : Int) => decide (y < x)) (c.values (toB ss))).2]) = _
  split
  · rfl
  · rw [of_cam]
    split
    · rfl
    · cases readC (toB zs) <;> rfl
theorem seec_eq (cx cy z w h : Int) (l : List Int) : PyWqasbt.see cx cy z w h l = if z.toNat < 1 ∨ 256 < z.toNat ∨ sizeOk w.toNat h.toNat = false then [-1] else match levelsIn LEVELS l with
    | some m => ((seen m cx cy (z.toNat : Int) w.toNat h.toNat).length : Int) :: bi (seen m cx cy (z.toNat : Int) w.toNat h.toNat)
    | none => [-1] := by
  show FieldNeutral.shown (if z.toNat < 1 ∨ 256 < z.toNat ∨ sizeOk w.toNat h.toNat = false then no 1 else match levelsIn LEVELS l with
    | some m => .bytes (seen m cx cy (z.toNat : Int) w.toNat h.toNat)
    | none => no 1) = _
  split
  · rfl
  · cases levelsIn LEVELS l <;> rfl
theorem shotc_eq (f : Int) (zs l : List Int) : PyWqasbt.shot f zs l = match namedIn LEVELS l with
    | none => [-1]
    | some m => if 65536 < zs.length then [-2] else match readC (toB zs) with
      | .error _ => [-6]
      | .ok c => if c.frames ≤ f.toNat then [-4] else ((c.picture f.toNat m).length : Int) :: bi (c.picture f.toNat m) := by
  show FieldNeutral.shown (match namedIn LEVELS l with
    | none => no 1
    | some m => ofCamera (toB zs) fun c => if c.frames ≤ f.toNat then no 4 else .bytes (c.picture f.toNat m)) = _
  cases namedIn LEVELS l with
  | none => rfl
  | some m =>
    dsimp only
    rw [of_cam]
    split
    · rfl
    · cases readC (toB zs) with
      | error i => rfl
      | ok c =>
        dsimp only
        split <;> rfl
/-! ### the first best of a row -/
/-- the best of g 0 .. g k, the first of them -/
def best (better : Int → Int → Bool) (g : Nat → Int) : Nat → Int × Nat
  | 0 => (g 0, 0)
  | k + 1 => if better (g (k + 1)) (best better g k).1 = true then (g (k + 1), k + 1) else best better g k
theorem zipIdx_fold {better : Int → Int → Bool} (g : Nat → Int) : ∀ (n j : Nat) (b : Int × Nat), ((((List.range' j n).map g)).zipIdx j).foldl (fun (b : Int × Nat) (x : Int × Nat) => if better x.1 b.1 = true then x else b) b =
    (List.range' j n).foldl (fun (b : Int × Nat) (i : Nat) => if better (g i) b.1 = true then (g i, i) else b) b
  | 0, j, b => rfl
  | n + 1, j, b => by
    rw [List.range'_succ, List.map_cons, List.zipIdx_cons, List.foldl_cons, List.foldl_cons]
    exact zipIdx_fold g n (j + 1) _
theorem fold_best {better : Int → Int → Bool} (g : Nat → Int) : ∀ k : Nat, (List.range' 1 k).foldl (fun (b : Int × Nat) (i : Nat) => if better (g i) b.1 = true then (g i, i) else b) (g 0, 0) = best better g k
  | 0 => rfl
  | k + 1 => by
    rw [List.range'_concat, List.foldl_append, fold_best g k, Nat.one_mul, Nat.add_comm 1 k]
    rfl
theorem firstBy_best (better : Int → Int → Bool) (g : Nat → Int) (k : Nat) : firstBy better ((List.range (k + 1)).map g) = ((best better g k).1, ((best better g k).2 : Int)) := by
  rw [List.range_eq_range', List.range'_succ, List.map_cons]
  show (fun (b : Int × Nat) => (b.1, (b.2 : Int))) (((((List.range' 1 k).map g)).zipIdx 1).foldl (fun (b : Int × Nat) (x : Int × Nat) => if better x.1 b.1 = true then x else b) (g 0, 0)) = _
  rw [zipIdx_fold, fold_best]
end Fm

end

section
set_option linter.all false
namespace Fm
open Ce CeF
/-! ### what is seen, row by row -/
theorem range_rows {α : Type} (F : Nat → Nat → α) {w : Nat} (hw : 1 ≤ w) : ∀ h : Nat, (List.range (w * h)).map (fun i => F (i % w) (i / w)) = (List.range h).flatMap fun y => (List.range w).map fun x => F x y
  | 0 => by simp
  | h + 1 => by
    rw [Nat.mul_succ, List.range_add, List.map_append, range_rows F hw h, List.range_succ, List.flatMap_append, List.flatMap_singleton, List.map_map]
    congr 1
    refine List.map_congr_left fun x hx => ?_
    have hx : x < w := List.mem_range.mp hx
    show F ((w * h + x) % w) ((w * h + x) / w) = F x h
    rw [Nat.mul_add_mod, Nat.mod_eq_of_lt hx, Nat.mul_add_div (by omega), Nat.div_eq_of_lt hx, Nat.add_zero]
theorem seen_rows (l : List Level) (cx cy zoom : Int) {w : Nat} (h : Nat) (hw : 1 ≤ w) : seen l cx cy zoom w h = (List.range h).flatMap fun y => (List.range w).map fun x => paintAt (l.map fun (k : Level) => (k.sheet.paints.toArray, k)) (where_ cx w zoom x) (where_ cy h zoom y) :=
  range_rows (fun x y => paintAt (l.map fun (k : Level) => (k.sheet.paints.toArray, k)) (where_ cx w zoom x) (where_ cy h zoom y)) hw h
theorem seen_len (l : List Level) (cx cy zoom : Int) (w h : Nat) : (seen l cx cy zoom w h).length = w * h := by
  unfold seen
  rw [List.length_map, List.length_range]
end Fm

end

section
set_option linter.all false
namespace Fm
open Ce CeF
/-! ### ease -/
theorem ease_no {e n i a b : Int} (h0 : 0 ≤ e) (h1 : 0 ≤ n) (h2 : 0 ≤ i) (h : ¬ (e ≤ 3 ∧ 1 ≤ n ∧ n ≤ 1023 ∧ i ≤ n ∧ -9999 ≤ a ∧ a ≤ 9999 ∧ -9999 ≤ b ∧ b ≤ 9999)) : PyWqasbt.ease e n i a b = [-1] := by
  rw [easec_eq]
  cases he : easeOf e.toNat with
  | none => rfl
  | some k =>
    have h3 : e ≤ 3 := by
      by_cases z : e ≤ 3
      · exact z
      · obtain ⟨m, hm⟩ : ∃ m, e.toNat = m + 4 := ⟨e.toNat - 4, by omega⟩
        rw [hm] at he
        cases he
    show (if n.toNat < 1 ∨ 1023 < n.toNat ∨ n.toNat < i.toNat ∨ within (-9999) 9999 a = false ∨ within (-9999) 9999 b = false then [-1] else _) = _
    rw [if_pos]
    unfold within
    simp only [Bool.and_eq_false_iff, decide_eq_false_iff_not]
    omega
theorem ease_yes {e n i a b : Int} (h0 : 0 ≤ e) (h1 : 0 ≤ n) (h2 : 0 ≤ i) (h : e ≤ 3 ∧ 1 ≤ n ∧ n ≤ 1023 ∧ i ≤ n ∧ -9999 ≤ a ∧ a ≤ 9999 ∧ -9999 ≤ b ∧ b ≤ 9999) : ∃ k : Ease, (easeNo k : Int) = e ∧ PyWqasbt.ease e n i a b = [eased k n.toNat i.toNat a b] := by
  have hk : ∃ k : Ease, (easeNo k : Int) = e ∧ easeOf e.toNat = some k := by
    have : e = 0 ∨ e = 1 ∨ e = 2 ∨ e = 3 := by omega
    rcases this with rfl | rfl | rfl | rfl
    · exact ⟨.even, rfl, rfl⟩
    · exact ⟨.in_, rfl, rfl⟩
    · exact ⟨.out, rfl, rfl⟩
    · exact ⟨.both, rfl, rfl⟩
  obtain ⟨k, e1, e2⟩ := hk
  refine ⟨k, e1, ?_⟩
  rw [easec_eq, e2]
  show (if n.toNat < 1 ∨ 1023 < n.toNat ∨ n.toNat < i.toNat ∨ within (-9999) 9999 a = false ∨ within (-9999) 9999 b = false then [-1] else _) = _
  rw [if_neg]
  unfold within
  simp only [Bool.and_eq_false_iff, decide_eq_false_iff_not]
  omega
/-! ### the least, the greatest, the first frame that has it -/
theorem best_spec (f : Int → Int) (g : Nat → Int) : ∀ k : Nat, (best (fun x y => decide (f x < f y)) g k).2 ≤ k ∧ (best (fun x y => decide (f x < f y)) g k).1 = g (best (fun x y => decide (f x < f y)) g k).2 ∧
    (∀ i, i ≤ k → f (best (fun x y => decide (f x < f y)) g k).1 ≤ f (g i)) ∧ ∀ i, i < (best (fun x y => decide (f x < f y)) g k).2 → f (best (fun x y => decide (f x < f y)) g k).1 < f (g i)
  | 0 => ⟨Nat.le_refl _, rfl, fun i hi => by rw [Nat.le_zero.mp hi]; exact Int.le_refl _, fun i hi => absurd hi (Nat.not_lt_zero _)⟩
  | k + 1 => by
    obtain ⟨h1, h2, h3, h4⟩ := best_spec f g k
    show (if decide (f (g (k + 1)) < f (best _ g k).1) = true then (g (k + 1), k + 1) else best _ g k).2 ≤ _ ∧ (if decide (f (g (k + 1)) < f (best _ g k).1) = true then (g (k + 1), k + 1) else best _ g k).1 = g (if decide (f (g (k + 1)) < f (best _ g k).1) = true then (g (k + 1), k + 1) else best _ g k).2 ∧
      (∀ i, i ≤ k + 1 → f (if decide (f (g (k + 1)) < f (best _ g k).1) = true then (g (k + 1), k + 1) else best _ g k).1 ≤ f (g i)) ∧ ∀ i, i < (if decide (f (g (k + 1)) < f (best _ g k).1) = true then (g (k + 1), k + 1) else best _ g k).2 → f (if decide (f (g (k + 1)) < f (best _ g k).1) = true then (g (k + 1), k + 1) else best _ g k).1 < f (g i)
    by_cases h : f (g (k + 1)) < f (best (fun x y => decide (f x < f y)) g k).1
    · rw [if_pos (decide_eq_true h)]
      refine ⟨Nat.le_refl _, rfl, fun i hi => ?_, fun i hi => ?_⟩
      · by_cases e : i = k + 1
        · rw [e]; exact Int.le_refl _
        · have := h3 i (by omega)
          show f (g (k + 1)) ≤ _
          omega
      · have hi : i < k + 1 := hi
        have := h3 i (by omega)
        show f (g (k + 1)) < _
        omega
    · rw [if_neg (fun z => h (of_decide_eq_true z))]
      refine ⟨Nat.le_succ_of_le h1, h2, fun i hi => ?_, h4⟩
      by_cases e : i = k + 1
      · rw [e]; omega
      · exact h3 i (by omega)
/-- the row of values, the best one of it and where it stands first -/
structure Firsts (l : List Int) (f : Int → Int) (m : Int) (j : Nat) : Prop where
  at_ : l[j]? = some m
  le : ∀ y ∈ l, f m ≤ f y
  lt : ∀ i z, i < j → l[i]? = some z → f m < f z
theorem firsts_of {better : Int → Int → Bool} (f : Int → Int) (hb : better = fun x y => decide (f x < f y)) (g : Nat → Int) {n : Nat} (hn : 1 ≤ n) : ∃ j : Nat, j < n ∧ Firsts ((List.range n).map g) f (g j) j ∧ firstBy better ((List.range n).map g) = (g j, (j : Int)) := by
  subst hb
  obtain ⟨k, rfl⟩ : ∃ k, n = k + 1 := ⟨n - 1, by omega⟩
  obtain ⟨h1, h2, h3, h4⟩ := best_spec f g k
  refine ⟨(best (fun x y => decide (f x < f y)) g k).2, by omega, ⟨?_, fun y hy => ?_, fun i z hi hz => ?_⟩, ?_⟩
  · rw [List.getElem?_map, List.getElem?_range (by omega)]
    rfl
  · obtain ⟨i, hi, rfl⟩ := List.mem_map.mp hy
    rw [← h2]
    exact h3 i (by have := List.mem_range.mp hi; omega)
  · rw [List.getElem?_map, List.getElem?_range (by omega)] at hz
    cases hz
    rw [← h2]
    exact h4 i hi
  · rw [firstBy_best, ← h2]
theorem Firsts.uniq {l : List Int} {f : Int → Int} {m x : Int} {j : Nat} (h : Firsts l f m j) (hx : x ∈ l) (hl : ∀ y ∈ l, f x ≤ f y) (inj : f x = f m → x = m) : x = m :=
  inj (by have := h.le x hx; have := hl m (List.mem_of_getElem? h.at_); omega)
theorem lt_id : (fun (x y : Int) => decide (x < y)) = fun x y => decide ((fun z : Int => z) x < (fun z : Int => z) y) := rfl
theorem lt_neg : (fun (x y : Int) => decide (y < x)) = fun x y => decide ((fun z : Int => -z) x < (fun z : Int => -z) y) := by
  funext x y
  exact decide_eq_decide.mpr (by show y < x ↔ -x < -y; omega)
end Fm

end

section
set_option Elab.async false
set_option linter.all false
set_option maxRecDepth 100000
set_option maxHeartbeats 2000000
namespace Fs
open PySem PySem.Spec PyProof.Rows L2 Fm
/-! ### raise WrongInput() -/
section
variable {P : Program} {w : World} {K : PySem.W.Frag} {mg : Str → Option Value} {base : Heap} {A : Ads}
theorem scNI : FnScope ["self"] ["self"] (defScope sNI) := ⟨rfl, rfl, rfl, by decide +kernel, rfl, by decide +kernel, by decide +kernel⟩
theorem ok_ni {C N f : Addr} {es : Array DictEntry} {fd : FuncData} {qual : Str} (xc : XCls K C N f es) (F : Fun K "__init__" qual sNI f fd) : FnOk P w K mg base CX0 1 f fd ["self"] (spXI C (g0 (-1))) := by
  refine F.ok scNI (fun vs H Q E h => ?_) (fun cdv A' outer s H vs Q E hr h => ?_)
  · obtain ⟨a, us, fs, rfl, ⟨rfl, _⟩, _⟩ := h
    rfl
  · obtain ⟨a, us, fs, rfl, ⟨rfl, rfl⟩, ha, k⟩ := h
    refine ⟨_, pss_one (ps_fldX xc.refusal (pv 0) (pe_un un_neg pe_int) rfl), ?_⟩
    exact ⟨_, rfl, _, rfl, a, rfl, ha, fun dx hdx => k dx hdx⟩
abbrev XN (A : Ads) (K : PySem.W.Frag) (mg : Str → Option Value) : Prop := Xcp K mg A.CN "WrongInput" "WrongInput.__init__" sNI ["self"]
theorem kd_N : kd A A.CN [(("refusal" : Str), V.int (-1))] (-1) := .inr (.inr (.inr ⟨rfl, rfl, rfl⟩))
end
end Fs

end

section
set_option Elab.async false
set_option linter.all false
set_option maxRecDepth 100000
set_option maxHeartbeats 2000000
namespace L2
open PySem PySem.Spec PyProof.Rows
def CDivB (i j : Int) : Prop := 0 < j ∧ j < 18446744073709551616
theorem op_fdivB {X : Cx} : OpR X (binaryOp .FloorDiv) (rI CDivB fun i j => .int (i / j)) := opI fun i j _ _ _ _ _ hc q => by
  have h1 : (0 : Int) < j := hc.1
  have h2 : j < 18446744073709551616 := hc.2
  refine floordiv_int (by omega) (by rw [Int.fdiv_eq_ediv_of_nonneg i (by omega)]; exact q) (.inl (PyProof.noPylong_of_log2 ?_))
  have h3 : j.natAbs < 2 ^ 64 := by omega
  have h4 : j.natAbs.log2 < 64 := (Nat.log2_lt (by omega)).mpr h3
  omega
end L2
namespace Fs
open PySem PySem.Spec PyProof.Rows L2 Fm
section
variable {P : Program} {w : World} {K : PySem.W.Frag} {mg : Str → Option Value} {base : Heap} {A : Ads}
/-! ### share -/
def spSr : Sp := fun vs H Q _ => ∃ e : CeF.Ease, ∃ n i : Nat, vs = [.int (CeF.easeNo e : Int), .int n, .int i] ∧ n ≤ 1023 ∧ i ≤ 1023 ∧ ∀ (H' : Hp) (t : Addr), Same H H' → H' t = some (.tup [.int (e.share n i).1, .int ((e.share n i).2 : Int)]) → Q (.ref t) H'
theorem scSr : FnScope ["ease", "n", "i"] ["ease", "n", "i"] (defScope sSr) := ⟨rfl, rfl, rfl, by decide +kernel, rfl, by decide +kernel, by decide +kernel⟩
theorem cm_r {i j : Int} (h0 : 0 ≤ j) (h1 : j ≤ 1023) : CMul i j := .inr ⟨by omega, by omega⟩
theorem cm_l {i j : Int} (h0 : -10000000000 ≤ i) (h1 : i ≤ 10000000000) : CMul i j := .inl ⟨by omega, by omega⟩
theorem ok_sr {f : Addr} {fd : FuncData} (c0 : Cint mg "EVEN" 0) (c1 : Cint mg "IN" 1) (c2 : Cint mg "OUT" 2) (D : Df K mg "share" sSr ["ease", "n", "i"] f fd) : FnOk P w K mg base CX0 1 f fd ["ease", "n", "i"] spSr := by
  refine D.F.ok scSr (fun vs H Q E h => ?_) (fun cdv A' outer s H vs Q E hr h => ?_)
  · obtain ⟨e, n, i, rfl, _⟩ := h
    rfl
  · obtain ⟨e, n, i, rfl, hn, hi, k⟩ := h
    obtain ⟨u0, m0, r0⟩ := c0
    obtain ⟨u1, m1, r1⟩ := c1
    obtain ⟨u2, m2, r2⟩ := c2
    refine ⟨_, pss_cons (ps_if (pt_cmpR op_eq (pv 0) (pe_glob (by rfl) m0 r0) (nomark _)) (pss_one (ps_ret (pe_tup (pa_cons (pv 2) (pa_cons (pv 1) pa_nil))))) pss_nil)
      (pss_cons (ps_if (pt_cmpR op_eq (pv 0) (pe_glob (by rfl) m1 r1) (nomark _)) (pss_one (ps_ret (pe_tup (pa_cons (pe_op op_mul (pv 2) (pv 2)) (pa_cons (pe_op op_mul (pv 1) (pv 1)) pa_nil))))) pss_nil)
      (pss_cons (ps_if (pt_cmpR op_eq (pv 0) (pe_glob (by rfl) m2 r2) (nomark _)) (pss_one (ps_ret (pe_tup (pa_cons (pe_op op_sub (pe_op op_mul (pe_op op_mul pe_int (pv 1)) (pv 2)) (pe_op op_mul (pv 2) (pv 2))) (pa_cons (pe_op op_mul (pv 1) (pv 1)) pa_nil))))) pss_nil)
      (pss_one (ps_ret (pe_tup (pa_cons (pe_op op_sub (pe_op op_mul (pe_op op_mul (pe_op op_mul pe_int (pv 1)) (pv 2)) (pv 2)) (pe_op op_mul (pe_op op_mul (pe_op op_mul pe_int (pv 2)) (pv 2)) (pv 2))) (pa_cons (pe_op op_mul (pe_op op_mul (pv 1) (pv 1)) (pv 1)) pa_nil))))))), ?_⟩
    have hn0 : (0 : Int) ≤ (n : Int) := by omega
    have hn1 : (n : Int) ≤ 1023 := by omega
    have hi0 : (0 : Int) ≤ (i : Int) := by omega
    have hi1 : (i : Int) ≤ 1023 := by omega
    have cn : ∀ x : Int, CMul x (n : Int) := fun x => cm_r hn0 hn1
    have ci : ∀ x : Int, CMul x (i : Int) := fun x => cm_r hi0 hi1
    refine ⟨_, rfl, rfl, _, rfl, ?_⟩
    show if decide (V.int (CeF.easeNo e : Int) = V.int 0) = true then _ else _
    rw [dInt]
    cases e with
    | even =>
      refine iteT ⟨_, rfl, _, rfl, (by show 2 ≤ sizeLine; decide), fun t ht => k _ t (Same.laid ht) upd_same⟩
    | in_ =>
      refine iteF ⟨_, rfl, rfl, _, rfl, ?_⟩
      show if decide (V.int (1 : Int) = V.int 1) = true then _ else _
      rw [dInt]
      refine iteT ⟨_, rfl, _, rfl, _, _, rfl, rfl, ci _, _, rfl, _, rfl, _, _, rfl, rfl, cn _, (by show 2 ≤ sizeLine; decide), fun t ht => k _ t (Same.laid ht) ?_⟩
      rw [upd_same]
      show some (HO.tup [V.int ((i : Int) * i), V.int ((n : Int) * n)]) = some (.tup [V.int ((i : Int) * i), V.int ((n * n : Nat) : Int)])
      rw [Int.natCast_mul]
    | out =>
      refine iteF ⟨_, rfl, rfl, _, rfl, ?_⟩
      show if decide (V.int (2 : Int) = V.int 1) = true then _ else _
      rw [dInt]
      refine iteF ⟨_, rfl, rfl, _, rfl, ?_⟩
      show if decide (V.int (2 : Int) = V.int 2) = true then _ else _
      rw [dInt]
      refine iteT ⟨_, rfl, _, _, rfl, rfl, cn _, _, rfl, _, _, rfl, rfl, ci _, _, rfl, _, rfl, _, _, rfl, rfl, ci _, _, _, rfl, rfl, _, rfl, _, rfl, _, _, rfl, rfl, cn _, (by show 2 ≤ sizeLine; decide), fun t ht => k _ t (Same.laid ht) ?_⟩
      rw [upd_same]
      show some (HO.tup [V.int (2 * (n : Int) * i - (i : Int) * i), V.int ((n : Int) * n)]) = some (.tup [V.int (2 * (n : Int) * i - (i : Int) * i), V.int ((n * n : Nat) : Int)])
      rw [Int.natCast_mul]
    | both =>
      refine iteF ⟨_, rfl, rfl, _, rfl, ?_⟩
      show if decide (V.int (3 : Int) = V.int 1) = true then _ else _
      rw [dInt]
      refine iteF ⟨_, rfl, rfl, _, rfl, ?_⟩
      show if decide (V.int (3 : Int) = V.int 2) = true then _ else _
      rw [dInt]
      refine iteF ⟨_, rfl, _, _, rfl, rfl, cn _, _, rfl, _, _, rfl, rfl, ci _, _, rfl, _, _, rfl, rfl, ci _, _, rfl, _, _, rfl, rfl, ci _, _, rfl, _, _, rfl, rfl, ci _, _, rfl, _, _, rfl, rfl, ci _, _, _, rfl, rfl, _, rfl, _, rfl, _, _, rfl, rfl, cn _, _, rfl, _, _, rfl, rfl, cn _, (by show 2 ≤ sizeLine; decide), fun t ht => k _ t (Same.laid ht) ?_⟩
      rw [upd_same]
      show some (HO.tup [V.int (3 * (n : Int) * i * i - 2 * (i : Int) * i * i), V.int ((n : Int) * n * n)]) = some (.tup [V.int (3 * (n : Int) * i * i - 2 * (i : Int) * i * i), V.int ((n * n * n : Nat) : Int)])
      rw [Int.natCast_mul, Int.natCast_mul]
/-! ### nearest -/
def spNe : Sp := fun vs H Q _ => ∃ (a : Int) (q : Nat), vs = [.int a, .int q] ∧ 1 ≤ q ∧ q ≤ 1070599167 ∧ Q (.int (CeF.nearest a q)) H
theorem scNe : FnScope ["a", "q"] ["a", "q"] (defScope sNe) := ⟨rfl, rfl, rfl, by decide +kernel, rfl, by decide +kernel, by decide +kernel⟩
theorem ok_ne {f : Addr} {fd : FuncData} (D : Df K mg "nearest" sNe ["a", "q"] f fd) : FnOk P w K mg base CX0 1 f fd ["a", "q"] spNe := by
  refine D.F.ok scNe (fun vs H Q E h => ?_) (fun cdv A' outer s H vs Q E hr h => ?_)
  · obtain ⟨a, q, rfl, _⟩ := h
    rfl
  · obtain ⟨a, q, rfl, h1, h2, k⟩ := h
    refine ⟨_, pss_one (ps_ret (pe_op op_fdivB (pe_op op_add (pe_op op_mul pe_int (pv 0)) (pv 1)) (pe_op op_mul pe_int (pv 1)))), ?_⟩
    exact ⟨_, rfl, _, _, rfl, rfl, cm_l (by decide) (by decide), _, rfl, _, _, rfl, rfl, _, rfl, _, _, rfl, rfl, cm_l (by decide) (by decide), _, _, rfl, rfl, ⟨by show (0 : Int) < 2 * (q : Int); omega, by show 2 * (q : Int) < _; omega⟩, k⟩
/-! ### eased -/
def spEd : Sp := fun vs H Q _ => ∃ e : CeF.Ease, ∃ n i : Nat, ∃ a b : Int, vs = [.int (CeF.easeNo e : Int), .int n, .int i, .int a, .int b] ∧ 1 ≤ n ∧ n ≤ 1023 ∧ i ≤ n ∧ ∀ H', Same H H' → Q (.int (CeF.eased e n i a b)) H'
theorem scEd : FnScope ["ease", "n", "i", "a", "b", "part"] ["ease", "n", "i", "a", "b"] (defScope sEd) := ⟨rfl, rfl, rfl, by decide +kernel, rfl, by decide +kernel, by decide +kernel⟩
theorem ok_ed {f f1 f2 : Addr} {fd d1 d2 : FuncData} (c0 : Cint mg "EVEN" 0) (c1 : Cint mg "IN" 1) (c2 : Cint mg "OUT" 2) (D1 : Df K mg "share" sSr ["ease", "n", "i"] f1 d1) (D2 : Df K mg "nearest" sNe ["a", "q"] f2 d2) (D : Df K mg "eased" sEd ["ease", "n", "i", "a", "b"] f fd) :
    FnOk P w K mg base CX0 2 f fd ["ease", "n", "i", "a", "b"] spEd := by
  refine D.F.ok scEd (fun vs H Q E h => ?_) (fun cdv A' outer s H vs Q E hr h => ?_)
  · obtain ⟨e, n, i, a, b, rfl, _⟩ := h
    rfl
  · obtain ⟨e, n, i, a, b, rfl, h1, h2, h3, k⟩ := h
    refine ⟨_, pss_cons (ps_set (i := 5) scEd.nd rfl (Or.inl rfl) (pe_call (ok_sr c0 c1 c2 D1) hr (by rfl) D1.m D1.F.kp D1.b .nil pass0 (pa_cons (pv 0) (pa_cons (pv 1) (pa_cons (pv 2) pa_nil)))))
      (pss_one (ps_ret (pe_op op_add (pv 3) (pe_call (ok_ne D2) hr (by rfl) D2.m D2.F.kp D2.b .nil pass0 (pa_cons (pe_op op_mul (pe_ix ix_tup (pv 5) pe_int (fun _ _ => rfl)) (pe_op op_sub (pv 4) (pv 3))) (pa_cons (pe_ix ix_tup (pv 5) pe_int (fun _ _ => rfl)) pa_nil)))))), ?_⟩
    have hq := share_q (e := e) (i := i) h1 h2
    have hp := share_p (e := e) h3 h2
    refine ⟨_, rfl, _, rfl, _, rfl, e, n, i, rfl, h2, by omega, fun H' t s' ht => ?_⟩
    refine ⟨_, rfl, _, rfl, t, _, 0, _, rfl, rfl, SqT.of ht, atI_nat (j := 0) rfl, _, rfl, _, rfl, _, _, rfl, rfl, _, _, rfl, rfl, cm_l hp.1 hp.2, _, rfl, t, _, 1, _, rfl, rfl, SqT.of ht, atI_nat (j := 1) rfl, _, _, rfl, hq.1, hq.2, _, _, rfl, rfl, ?_⟩
    exact k H' s'
end
end Fs

end

section
set_option Elab.async false
set_option linter.all false
set_option maxRecDepth 100000
set_option maxHeartbeats 2000000
namespace Fs
open PySem PySem.Spec PyProof.Rows L2 Fm
section
variable {P : Program} {w : World} {K : PySem.W.Frag} {mg : Str → Option Value} {base : Heap} {A : Ads}
/-- the defs of easing -/
structure TxE (K : PySem.W.Frag) (mg : Str → Option Value) : Prop where
  c0 : Cint mg "EVEN" 0
  c1 : Cint mg "IN" 1
  c2 : Cint mg "OUT" 2
  sr : ∃ f fd, Df K mg "share" sSr ["ease", "n", "i"] f fd
  ne : ∃ f fd, Df K mg "nearest" sNe ["a", "q"] f fd
  ed : ∃ f fd, Df K mg "eased" sEd ["ease", "n", "i", "a", "b"] f fd
/-! ### value_of_dial -/
def spVd (CD : Addr) : Sp := fun vs H Q _ => ∃ x d H0, ∃ f : Nat, vs = [.ref x, .int f] ∧ DialAt CD d (.ref x) H0 H ∧ GoodD d ∧ ∀ H', Same H H' → Q (.int (d.value f)) H'
theorem scVd : FnScope ["dial", "f", "held", "start", "end", "target", "ease"] ["dial", "f"] (defScope sVd) := ⟨rfl, rfl, rfl, by decide +kernel, rfl, by decide +kernel, by decide +kernel⟩
theorem ok_vd {f : Addr} {fd : FuncData} (T : Txt A K mg) (TE : TxE K mg) (D : Df K mg "value_of_dial" sVd ["dial", "f"] f fd) : FnOk P w K mg base CX0 3 f fd ["dial", "f"] (spVd A.CD) := by
  refine D.F.ok scVd (fun vs H Q E h => ?_) (fun cdv A' outer s H vs Q E hr h => ?_)
  · obtain ⟨x, d, H0, f, rfl, _⟩ := h
    rfl
  · obtain ⟨x, d, H0, f, rfl, hd, gd, k⟩ := h
    obtain ⟨f1, d1, D1⟩ := TE.sr
    obtain ⟨f2, d2, D2⟩ := TE.ne
    obtain ⟨f3, d3, D3⟩ := TE.ed
    refine ⟨_, pss_cons (ps_set (i := 2) scVd.nd rfl (Or.inl rfl) (pe_fld (pv 0) rfl))
      (pss_cons (ps_for PassesOwn.never rfl (pi_list (pe_fld (pv 0) rfl)) (pg_tup rfl (pgs_cons (pg_name (i := 3) scVd.nd rfl (Or.inl rfl)) (pgs_cons (pg_name (i := 4) scVd.nd rfl (Or.inl rfl)) (pgs_cons (pg_name (i := 5) scVd.nd rfl (Or.inl rfl)) (pgs_cons (pg_name (i := 6) scVd.nd rfl (Or.inl rfl)) pgs_nil)))))
        (pss_cons (ps_if (pt_cmpR op_lt (pv 1) (pv 3) (nomark _)) (pss_one (ps_ret (pv 2))) pss_nil)
        (pss_cons (ps_if (pt_cmpR op_lt (pv 1) (pv 4) (nomark _)) (pss_one (ps_ret (pe_call (ok_ed TE.c0 TE.c1 TE.c2 D1 D2 D3) hr (by rfl) D3.m D3.F.kp D3.b .nil pass0 (pa_cons (pv 6) (pa_cons (pe_op op_sub (pv 4) (pv 3)) (pa_cons (pe_op op_sub (pv 1) (pv 3)) (pa_cons (pv 2) (pa_cons (pv 5) pa_nil)))))))) pss_nil)
        (pss_one (ps_set (i := 2) scVd.nd rfl (Or.inl rfl) (pv 5))))))
      (pss_one (ps_ret (pv 2)))), ?_⟩
    obtain ⟨x', dx, vn, vm, ex, hx, _, lm, ms, rfl, _, hm, pm⟩ := hd
    cases ex
    refine ⟨_, rfl, x, A.CD, dx, _, _, rfl, hx, T.clD, T.nDf, df_first _ _ _, ?_⟩
    refine ⟨_, rfl, x, A.CD, dx, _, _, rfl, hx, T.clD, T.nDm, df_moves _ _ _, lm, rfl, ⟨_, SqL.of hm⟩, for_list (xs := ms) (fun i σ H' => H' = H ∧ ∃ held o3 o4 o5 o6, σ = [some (.ref x), some (.int f), some (.int held), o3, o4, o5, o6] ∧ CeF.valueFrom f d.first d.moves = CeF.valueFrom f held (d.moves.drop i)) ⟨rfl, d.first, none, none, none, none, rfl, by rw [List.drop_zero]⟩ ?_ ?_ ?_⟩
    · rintro i σ H' _ ⟨rfl, _⟩
      exact SqL.of hm
    · rintro i y σ H' hy ⟨rfl, held, o3, o4, o5, o6, rfl, e⟩
      obtain ⟨m, em, q, rfl, hq⟩ := Paired.at pm i hy
      have gm := gd.ms m (List.mem_of_getElem? em)
      have g1 := gm.lt
      have g2 := gm.to
      have ed : d.moves.drop i = m :: d.moves.drop (i + 1) := by
        obtain ⟨hl, he⟩ := List.getElem?_eq_some_iff.mp em
        rw [List.drop_eq_getElem_cons hl, he]
      rw [ed] at e
      refine ⟨q, _, rfl, SqT.of hq, rfl, _, _, rfl, _, _, rfl, _, _, rfl, _, _, rfl, rfl, ?_⟩
      refine ⟨_, rfl, _, rfl, _, _, rfl, rfl, _, rfl, ?_⟩
      show if decide ((f : Int) < (m.from_ : Int)) = true then _ else _
      refine ite_dec (fun h1 => ?_) (fun h1 => ?_)
      · refine ⟨_, rfl, ?_⟩
        have k1 := k _ (Same.refl H')
        unfold CeF.Dial.value at k1
        rw [e, from_stay (by omega)] at k1
        exact k1
      refine ⟨_, rfl, _, rfl, _, _, rfl, rfl, _, rfl, ?_⟩
      show if decide ((f : Int) < (m.to : Int)) = true then _ else _
      refine ite_dec (fun h2 => ?_) (fun h2 => ?_)
      · refine ⟨_, rfl, _, rfl, _, rfl, _, _, rfl, rfl, _, rfl, _, rfl, _, _, rfl, rfl, _, rfl, _, rfl, m.ease, m.to - m.from_, f - m.from_, held, m.value, ?_, by omega, by omega, by omega, fun H2 s2 => ?_⟩
        · rw [show ((m.to - m.from_ : Nat) : Int) = (m.to : Int) - (m.from_ : Int) by omega, show ((f - m.from_ : Nat) : Int) = (f : Int) - (m.from_ : Int) by omega]
          rfl
        · have k1 := k _ s2
          unfold CeF.Dial.value at k1
          rw [e, from_in gm (by omega) (by omega)] at k1
          exact k1
      · refine ⟨_, rfl, rfl, m.value, _, _, _, _, rfl, ?_⟩
        rw [e, from_past gm (by omega)]
    · rintro σ H' ⟨rfl, held, o3, o4, o5, o6, rfl, e⟩
      rw [Paired.length pm, List.drop_length] at e
      refine ⟨_, rfl, ?_⟩
      have k1 := k _ (Same.refl H')
      unfold CeF.Dial.value at k1
      rw [e] at k1
      exact k1
end
end Fs

end

section
set_option Elab.async false
set_option linter.all false
set_option maxRecDepth 100000
set_option maxHeartbeats 2000000
namespace Fs
open PySem PySem.Spec PyProof.Rows L2 Fm
section
variable {P : Program} {w : World} {K : PySem.W.Frag} {mg : Str → Option Value} {base : Heap} {A : Ads}
/-! ### usual_value -/
def spUv (K : PySem.W.Frag) (CS CD : Addr) : Sp := fun vs H Q _ => ∃ x l c n H0, vs = [.ref x, .ref l] ∧ SheetAt CS CD c (.ref x) H0 H ∧ SqL K H l (bv n) ∧ ∀ H', Same H H' → Q (.int (c.rest n)) H'
theorem scUv : FnScope ["sheet", "dial_name"] ["sheet", "dial_name"] (defScope sUv) := ⟨rfl, rfl, rfl, by decide +kernel, rfl, by decide +kernel, by decide +kernel⟩
theorem ok_uv {f : Addr} {fd : FuncData} (T : Txt A K mg) (cz : Cint mg "USUAL_ZOOM" 64) (cl : Cint mg "USUAL_LIGHT" 64) (D : Df K mg "usual_value" sUv ["sheet", "dial_name"] f fd) : FnOk P w K mg base CX0 2 f fd ["sheet", "dial_name"] (spUv K A.CS A.CD) := by
  refine D.F.ok scUv (fun vs H Q E h => ?_) (fun cdv A' outer s H vs Q E hr h => ?_)
  · obtain ⟨x, l, c, n, H0, rfl, _⟩ := h
    rfl
  · obtain ⟨x, l, c, n, H0, rfl, hs, hS, k⟩ := h
    obtain ⟨uz, mz, rz⟩ := cz
    obtain ⟨ul, ml, rl⟩ := cl
    have hu : (A'.deeper (envOfC "usual_value" (defScope sUv) s.heap.objs.size f cdv)).units + 64 < cLine := by have := hr.un; omega
    refine ⟨_, pss_cons (ps_if (pt_cmpR (op_eqD hu) (pv 1) (pe_call (ok_bo T) hr (by rfl) T.bo.m T.bo.F.kp T.bo.b .nil pass0 (pa_cons pe_str pa_nil)) (nomark _)) (pss_one (ps_ret (pe_op op_fdiv (pe_fld (pv 0) rfl) pe_int))) pss_nil)
      (pss_cons (ps_if (pt_cmpR (op_eqD hu) (pv 1) (pe_call (ok_bo T) hr (by rfl) T.bo.m T.bo.F.kp T.bo.b .nil pass0 (pa_cons pe_str pa_nil)) (nomark _)) (pss_one (ps_ret (pe_op op_fdiv (pe_fld (pv 0) rfl) pe_int))) pss_nil)
      (pss_cons (ps_if (pt_cmpR (op_eqD hu) (pv 1) (pe_call (ok_bo T) hr (by rfl) T.bo.m T.bo.F.kp T.bo.b .nil pass0 (pa_cons pe_str pa_nil)) (nomark _)) (pss_one (ps_ret (pe_glob (by rfl) mz rz))) pss_nil)
      (pss_cons (ps_if (pt_cmpR (op_eqD hu) (pv 1) (pe_call (ok_bo T) hr (by rfl) T.bo.m T.bo.F.kp T.bo.b .nil pass0 (pa_cons pe_str pa_nil)) (nomark _)) (pss_one (ps_ret (pe_glob (by rfl) ml rl))) pss_nil)
      (pss_one (ps_ret pe_int))))), ?_⟩
    have ez : ∀ m : Ce.Bytes, (bi n == bi m) = decide (n = m) := fun m => by rw [Fm.bi_beq, Bool.beq_eq_decide_eq]
    obtain ⟨x', dx, vn, vd, ex, hx, _⟩ := hs
    cases ex
    unfold CeF.Camera.rest at k
    refine ⟨_, rfl, "x", rfl, (by decide +kernel), fun H1 l1 s1 n1 h1 => ⟨.list (dI (bi n)), .list (dI (cI "x")), dp_ints (s1.seq hS), dp_ints (SqL.of h1), shaped_ints _, shaped_ints _, _, rfl, ?_⟩⟩
    rw [eqv_ints, show cI "x" = bi CeF.X by decide +kernel, ez]
    refine ite_dec (fun h => ?_) (fun hx1 => ?_)
    · rw [if_pos h] at k
      refine ⟨_, rfl, x, A.CS, dx, _, _, rfl, s1 _ _ hx, T.clS, T.nSw, sf_width _ _ _ _ _, _, _, rfl, rfl, ⟨by decide, by decide⟩, ?_⟩
      have k1 := k _ s1
      rw [show ((c.wide / 2 : Nat) : Int) = (c.wide : Int) / 2 by omega] at k1
      exact k1
    rw [if_neg hx1] at k
    refine ⟨_, rfl, "y", rfl, (by decide +kernel), fun H2 l2 s2 n2 h2 => ⟨.list (dI (bi n)), .list (dI (cI "y")), dp_ints ((s1.trans s2).seq hS), dp_ints (SqL.of h2), shaped_ints _, shaped_ints _, _, rfl, ?_⟩⟩
    rw [eqv_ints, show cI "y" = bi CeF.Y by decide +kernel, ez]
    have s12 := s1.trans s2
    refine ite_dec (fun h => ?_) (fun hy1 => ?_)
    · rw [if_pos h] at k
      refine ⟨_, rfl, x, A.CS, dx, _, _, rfl, s12 _ _ hx, T.clS, T.nSh, sf_height _ _ _ _ _, _, _, rfl, rfl, ⟨by decide, by decide⟩, ?_⟩
      have k1 := k _ s12
      rw [show ((c.high / 2 : Nat) : Int) = (c.high : Int) / 2 by omega] at k1
      exact k1
    rw [if_neg hy1] at k
    refine ⟨_, rfl, "zoom", rfl, (by decide +kernel), fun H3 l3 s3 n3 h3 => ⟨.list (dI (bi n)), .list (dI (cI "zoom")), dp_ints ((s12.trans s3).seq hS), dp_ints (SqL.of h3), shaped_ints _, shaped_ints _, _, rfl, ?_⟩⟩
    rw [eqv_ints, show cI "zoom" = bi CeF.ZOOM by decide +kernel, ez]
    have s13 := s12.trans s3
    refine ite_dec (fun h => ?_) (fun hz1 => ?_)
    · rw [if_pos (.inl h)] at k
      exact k _ s13
    refine ⟨_, rfl, "light", rfl, (by decide +kernel), fun H4 l4 s4 n4 h4 => ⟨.list (dI (bi n)), .list (dI (cI "light")), dp_ints ((s13.trans s4).seq hS), dp_ints (SqL.of h4), shaped_ints _, shaped_ints _, _, rfl, ?_⟩⟩
    rw [eqv_ints, show cI "light" = bi CeF.LIGHT by decide +kernel, ez]
    have s14 := s13.trans s4
    refine ite_dec (fun h => ?_) (fun hl1 => ?_)
    · rw [if_pos (.inr h)] at k
      exact k _ s14
    · rw [if_neg (fun z => z.elim hz1 hl1)] at k
      exact k _ s14
/-! ### value_at -/
structure TxD (K : PySem.W.Frag) (mg : Str → Option Value) : Prop where
  e : TxE K mg
  cz : Cint mg "USUAL_ZOOM" 64
  cl : Cint mg "USUAL_LIGHT" 64
  vd : ∃ f fd, Df K mg "value_of_dial" sVd ["dial", "f"] f fd
  uv : ∃ f fd, Df K mg "usual_value" sUv ["sheet", "dial_name"] f fd
  va : ∃ f fd, Df K mg "value_at" sVa ["sheet", "dial_name", "f"] f fd
def spVa (K : PySem.W.Frag) (CS CD : Addr) : Sp := fun vs H Q _ => ∃ x l c n H0, ∃ f : Nat, vs = [.ref x, .ref l, .int f] ∧ SheetAt CS CD c (.ref x) H0 H ∧ GoodC c ∧ SqL K H l (bv n) ∧ ∀ H', Same H H' → Q (.int (c.value n f)) H'
theorem scVa : FnScope ["sheet", "dial_name", "f", "dial"] ["sheet", "dial_name", "f"] (defScope sVa) := ⟨rfl, rfl, rfl, by decide +kernel, rfl, by decide +kernel, by decide +kernel⟩
theorem ok_va {f : Addr} {fd : FuncData} (T : Txt A K mg) (TD : TxD K mg) (D : Df K mg "value_at" sVa ["sheet", "dial_name", "f"] f fd) : FnOk P w K mg base CX0 4 f fd ["sheet", "dial_name", "f"] (spVa K A.CS A.CD) := by
  refine D.F.ok scVa (fun vs H Q E h => ?_) (fun cdv A' outer s H vs Q E hr h => ?_)
  · obtain ⟨x, l, c, n, H0, f, rfl, _⟩ := h
    rfl
  · obtain ⟨x, l, c, n, H0, fr, rfl, hs, gc, hS, k⟩ := h
    obtain ⟨f1, d1, D1⟩ := TD.vd
    obtain ⟨f2, d2, D2⟩ := TD.uv
    have hr2 : Room 2 _ := hr.mono (by decide)
    have hu : (A'.deeper (envOfC "value_at" (defScope sVa) s.heap.objs.size f cdv)).units + 64 < cLine := by have := hr.un; omega
    refine ⟨_, pss_cons (ps_for PassesOwn.never rfl (pi_list (pe_fld (pv 0) rfl)) (pg_name (i := 3) scVa.nd rfl (Or.inl rfl))
        (pss_one (ps_if (pt_cmpR (op_eqD hu) (pe_fld (pv 3) rfl) (pv 1) (nomark _)) (pss_one (ps_ret (pe_call (ok_vd T TD.e D1) hr (by rfl) D1.m D1.F.kp D1.b .nil pass0 (pa_cons (pv 3) (pa_cons (pv 2) pa_nil))))) pss_nil)))
      (pss_one (ps_ret (pe_call (ok_uv T TD.cz TD.cl D2) hr2 (by rfl) D2.m D2.F.kp D2.b .nil pass0 (pa_cons (pv 0) (pa_cons (pv 1) pa_nil))))), ?_⟩
    obtain ⟨x', dx, vn, vd, ex, hx, hn, ld, us, rfl, fl, hl, pr⟩ := id hs
    cases ex
    refine ⟨_, rfl, x, A.CS, dx, _, _, rfl, hx, T.clS, T.nSd, sf_dials _ _ _ _ _, ld, rfl, ⟨_, SqL.of hl⟩, for_list (xs := us) (fun i σ H' => H' = H ∧ ∃ o3, σ = [some (.ref x), some (.ref l), some (.int fr), o3] ∧ c.dials.find? (fun (d : CeF.Dial) => d.name == n) = (c.dials.drop i).find? (fun (d : CeF.Dial) => d.name == n)) ⟨rfl, none, rfl, by rw [List.drop_zero]⟩ ?_ ?_ ?_⟩
    · rintro i σ H' _ ⟨rfl, _⟩
      exact SqL.of hl
    · rintro i y σ H' hy ⟨rfl, o3, rfl, e⟩
      obtain ⟨d, em, hd⟩ := Paired.at pr i hy
      have gd := gc.ds d (List.mem_of_getElem? em)
      have ed : c.dials.drop i = d :: c.dials.drop (i + 1) := by
        obtain ⟨hl, he⟩ := List.getElem?_eq_some_iff.mp em
        rw [List.drop_eq_getElem_cons hl, he]
      rw [ed] at e
      obtain ⟨q, dq, vn2, vm2, rfl, hq, ⟨ln, rfl, _, hln⟩, _⟩ := id hd
      refine ⟨_, rfl, q, A.CD, dq, _, _, rfl, hq, T.clD, T.nDn, df_name _ _ _, _, rfl, .list (dI (bi d.name)), .list (dI (bi n)), dp_ints (SqL.of hln), dp_ints hS, shaped_ints _, shaped_ints _, _, rfl, ?_⟩
      rw [eqv_ints, Fm.bi_beq, Bool.beq_eq_decide_eq]
      refine ite_dec (fun h1 => ?_) (fun h1 => ?_)
      · refine ⟨_, rfl, _, rfl, q, d, H0, fr, rfl, hd, gd, fun H2 s2 => ?_⟩
        have k1 := k _ s2
        unfold CeF.Camera.value at k1
        rw [e, find_hit (ds := []) h1] at k1
        exact k1
      · refine ⟨rfl, _, rfl, ?_⟩
        rw [e, find_miss h1]
    · rintro σ H' ⟨rfl, o3, rfl, e⟩
      rw [Paired.length pr, List.drop_length] at e
      refine ⟨_, rfl, _, rfl, x, l, c, n, H0, rfl, hs, hS, fun H2 s2 => ?_⟩
      have k1 := k _ s2
      unfold CeF.Camera.value at k1
      rw [e] at k1
      exact k1
end
end Fs

end

section
set_option Elab.async false
set_option linter.all false
set_option maxRecDepth 100000
set_option maxHeartbeats 2000000
namespace Fs
open PySem PySem.Spec PyProof.Rows L2 Fm
section
variable {P : Program} {w : World} {K : PySem.W.Frag} {mg : Str → Option Value} {base : Heap} {A : Ads}
/-! ### check_dial_name -/
def spCd (K : PySem.W.Frag) : Sp := fun vs H Q E => ∃ l n, vs = [.ref l] ∧ SqL K H l (bv n) ∧ (CeF.dialOk n = false → Er E (-1)) ∧ (CeF.dialOk n = true → ∀ H', Same H H' → Q .non H')
theorem scCd : FnScope ["s"] ["s"] (defScope sCd) := ⟨rfl, rfl, rfl, by decide +kernel, rfl, by decide +kernel, by decide +kernel⟩
theorem ok_cd {f : Addr} {fd : FuncData} (T : Txt A K mg) (xN : XN A K mg) (D : Df K mg "check_dial_name" sCd ["s"] f fd) : FnOk P w K mg base (CXN P w (kd A)) 4 f fd ["s"] (spCd K) := by
  refine D.F.okX scCd (fun vs H Q E h => ?_) (fun cdv A' outer s H vs Q E hr h => ?_)
  · obtain ⟨l, n, rfl, _⟩ := h
    rfl
  · obtain ⟨l, n, rfl, hS, h1, h2⟩ := h
    obtain ⟨N, fT, es, dT, xc, mX, xi, bx⟩ := xN.ex
    have hr2 : Room 2 _ := hr.mono (by decide)
    refine ⟨_, pss_one (ps_if (pt_not (pt_val (pe_call (ok_dn T) hr (by rfl) T.dn.m T.dn.F.kp T.dn.b .nil pass0 (pa_cons (pv 0) pa_nil)))) (pss_one (ps_raise throws_fn rfl (pe_makeX0 xc (ok_ni xc xi) hr2 bx (by rfl) mX))) pss_nil), ?_⟩
    refine ⟨_, rfl, l, n, rfl, hS, fun H' s' => ⟨_, rfl, ?_⟩⟩
    cases hd : CeF.dialOk n with
    | true => exact iteF (h2 hd H' s')
    | false => exact iteT (rd_raise0 xc kd_N (h1 hd))
end
end Fs

end

section
set_option Elab.async false
set_option linter.all false
set_option maxRecDepth 100000
set_option maxHeartbeats 2000000
namespace Fs
open PySem PySem.Spec PyProof.Rows L2 Fm
structure MtR (K : PySem.W.Frag) (CN CL CX : Addr) : Prop where
  n : PySem.W.exmAny K (.ref CN) [.ref CN, .ref CL, .ref CX] = some true
  l : PySem.W.exmAny K (.ref CL) [.ref CN, .ref CL, .ref CX] = some true
  x : PySem.W.exmAny K (.ref CX) [.ref CN, .ref CL, .ref CX] = some true
def RR (r : List Int) (i : Int) : Prop := (0 ≤ i ∧ r = [-6]) ∨ (i = -2 ∧ r = [-2]) ∨ (i = -1 ∧ r = [-1])
section
variable {P : Program} {w : World} {K : PySem.W.Frag} {mg : Str → Option Value} {base : Heap} {A : Ads}
theorem hd_refR {j : Nat} {D : Ends} {σ : L2.St} {H : Hp} {a C : Addr} {fs : List (Str × V)} {i : Int} {tr : THd} {r : List Int} (T : Txt A K mg) (xN : XN A K mg) (M : MtR K A.CN A.CL A.CX) (hk : kd A C fs i) (hi : RR r i) (hl : j < σ.length)
    (q : ∀ H' p, H' p = some (.lst (iv r)) → D.rt (.ref p) H') : hAs K [A.CN, A.CL, A.CX] j (tRet (tLst (tCons (tXf K "refusal" (tVar j)) tNil))) tr C fs a D σ H := by
  obtain ⟨NL, fL, eL, dL, xcL, mL, _, _⟩ := T.xL.ex
  obtain ⟨NN, fN, eN, dN, xcN, mN, _, _⟩ := xN.ex
  rcases hi with ⟨hi, rfl⟩ | ⟨rfl, rfl⟩ | ⟨rfl, rfl⟩
  · rcases hk with ⟨rfl, _, rfl⟩ | ⟨_, z, _⟩ | ⟨_, z, _⟩ | ⟨_, z, _⟩
    · exact hd_ref M.x hl T.xc.refusal (lk_ref _ _) q
    · omega
    · omega
    · omega
  · rcases hk with ⟨_, z, _⟩ | ⟨rfl, _, rfl⟩ | ⟨_, z, _⟩ | ⟨_, z, _⟩
    · omega
    · exact hd_ref M.l hl xcL.refusal (lk_ref _ _) q
    · omega
    · omega
  · rcases hk with ⟨_, z, _⟩ | ⟨_, z, _⟩ | ⟨_, z, _⟩ | ⟨rfl, _, rfl⟩
    · omega
    · omega
    · omega
    · exact hd_ref M.n hl xcN.refusal (lk_ref _ _) q
/-! ### least_and_greatest -/
def leastAt (c : CeF.Camera) (n : Ce.Bytes) : Int × Int := CeF.firstBy (fun (x y : Int) => decide (x < y)) (c.values n)
def mostAt (c : CeF.Camera) (n : Ce.Bytes) : Int × Int := CeF.firstBy (fun (x y : Int) => decide (y < x)) (c.values n)
def spLg (K : PySem.W.Frag) (CS CD : Addr) : Sp := fun vs H Q _ => ∃ x l c n H0, vs = [.ref x, .ref l] ∧ SheetAt CS CD c (.ref x) H0 H ∧ GoodC c ∧ SqL K H l (bv n) ∧ ∀ (H' : Hp) (p : Addr), H' p = some (.lst (iv [(leastAt c n).1, (leastAt c n).2, (mostAt c n).1, (mostAt c n).2])) → Q (.ref p) H'
theorem scLg : FnScope ["sheet", "dial_name", "course", "least", "greatest", "f"] ["sheet", "dial_name"] (defScope sLg) := ⟨rfl, rfl, rfl, by decide +kernel, rfl, by decide +kernel, by decide +kernel⟩
theorem ok_lg {f : Addr} {fd : FuncData} (T : Txt A K mg) (TD : TxD K mg) (rng : mg "range" = none) (mn : mg "min" = none) (D : Df K mg "least_and_greatest" sLg ["sheet", "dial_name"] f fd) : FnOk P w K mg base CX0 5 f fd ["sheet", "dial_name"] (spLg K A.CS A.CD) := by
  refine D.F.ok scLg (fun vs H Q E h => ?_) (fun cdv A' outer s H vs Q E hr h => ?_)
  · obtain ⟨x, l, c, n, H0, rfl, _⟩ := h
    rfl
  · obtain ⟨x, l, c, n, H0, rfl, hs, gc, hS, k⟩ := h
    obtain ⟨f1, d1, D1⟩ := TD.va
    refine ⟨_, pss_cons (ps_setLc (i := 2) (own := [("f", 5)]) rfl scLg.nd rfl rfl (sw_true rfl rfl rfl rfl) (pi_range1 (by rfl) rng (pa_cons (pe_fld (pv 0) rfl) pa_nil)) (blkOk_by (by show blkC ["sheet", "dial_name", "course", "least", "greatest", "f"] (defScope sLg) _ [("f", 5)] = true; decide +kernel)) (fun _ _ _ _ _ => pg_name (i := 5) scLg.nd rfl (Or.inl rfl)) (fun _ _ _ _ _ => pts_nil)
        (fun _ _ _ _ _ => pe_call (ok_va T TD D1) hr (by rfl) D1.m D1.F.kp D1.b .nil pass0 (pa_cons (pv 0) (pa_cons (pv 1) (pa_cons (pv 5) pa_nil)))))
      (pss_cons (ps_set (i := 3) scLg.nd rfl (Or.inl rfl) (pe_callB (cr_min rfl) (by rfl) mn boot_min (pa_cons (pv 2) pa_nil)))
      (pss_cons (ps_set (i := 4) scLg.nd rfl (Or.inl rfl) (pe_callB (cr_max rfl) (by rfl) T.max boot_max (pa_cons (pv 2) pa_nil)))
      (pss_one (ps_ret (pe_lst (pa_cons (pv 3) (pa_cons (pe_bm PySem.F.plainAttrs_list PySem.F.slot_list_index PySem.F.type_list_index mt_index (pv 2) (pa_cons (pv 3) pa_nil))
        (pa_cons (pv 4) (pa_cons (pe_bm PySem.F.plainAttrs_list PySem.F.slot_list_index PySem.F.type_list_index mt_index (pv 2) (pa_cons (pv 4) pa_nil)) pa_nil))))))))), ?_⟩
    obtain ⟨x', dx, vn, vd, ex, hx, _⟩ := id hs
    cases ex
    have f1 := gc.f1
    have f2 := gc.f2
    refine ⟨_, rfl, x, A.CS, dx, _, _, rfl, hx, T.clS, T.nSf, sf_frames _ _ _ _ _, (c.frames : Int), rfl, by omega, by omega, fun D hD => lc_range (lo := 0) (n := c.frames) (fun i H' => Same H H' ∧ H' D = some (.lst (iv ((List.range i).map (c.value n))))) ⟨Same.laid hD, upd_same⟩ ?_ ?_⟩
    · rintro i H' hi ⟨s, hD'⟩
      refine ⟨rfl, tYes_if ⟨_, rfl, _, rfl, _, rfl, x, l, c, n, H0, i, (by rw [Int.zero_add]; rfl), SheetAt.same hs s, gc, s.seq hS, fun H2 s2 => ⟨_, s2 _ _ hD', ?_, Same.new (s.trans s2) hD, ?_⟩⟩⟩
      · rw [iv_len, List.length_map, List.length_range, sizeLine_eq]
        omega
      · rw [upd_same, List.range_succ, List.map_append, iv_app]
        rfl
    · rintro H' ⟨s, hD'⟩
      obtain ⟨j1, hj1, F1, e1⟩ := firsts_of (fun z => z) lt_id (c.value n) f1
      obtain ⟨j2, hj2, F2, e2⟩ := firsts_of (fun z => -z) lt_neg (c.value n) f1
      have e1 : leastAt c n = (c.value n j1, (j1 : Int)) := e1
      have e2 : mostAt c n = (c.value n j2, (j2 : Int)) := e2
      have len : 0 < ((List.range c.frames).map (c.value n)).length := by rw [List.length_map, List.length_range]; omega
      rw [e1, e2] at k
      refine ⟨_, rfl, D, (List.range c.frames).map (c.value n), rfl, SqL.of hD', len, fun m hm hle => ?_⟩
      have em : m = c.value n j1 := F1.uniq hm hle id
      subst em
      refine ⟨_, rfl, D, (List.range c.frames).map (c.value n), rfl, SqL.of hD', len, fun m2 hm2 hle2 => ?_⟩
      have em2 : m2 = c.value n j2 := F2.uniq hm2 (fun y hy => by have := hle2 y hy; show -m2 ≤ -y; omega) (fun q => by have q : -m2 = -(c.value n j2) := q; omega)
      subst em2
      refine ⟨_, rfl, _, rfl, .inl ⟨rfl, _, SqL.of hD'⟩, _, rfl, D, _, _, j1, .int (c.value n j1), rfl, rfl, SqL.of hD', rfl, flat_iv _, iv_at F1.at_, beq_self_eq_true (c.value n j1), fun i z' hi hz => ?_, ?_⟩
      · obtain ⟨y, hy, rfl⟩ := iv_some hz
        have q := F1.lt i y hi hy
        exact beq_eq_false_iff_ne.mpr fun z => by have z : y = c.value n j1 := z; have q : c.value n j1 < y := q; omega
      refine ⟨_, rfl, _, rfl, .inl ⟨rfl, _, SqL.of hD'⟩, _, rfl, D, _, _, j2, .int (c.value n j2), rfl, rfl, SqL.of hD', rfl, flat_iv _, iv_at F2.at_, beq_self_eq_true (c.value n j2), fun i z' hi hz => ?_, ?_⟩
      · obtain ⟨y, hy, rfl⟩ := iv_some hz
        have q := F2.lt i y hi hy
        exact beq_eq_false_iff_ne.mpr fun z => by have z : y = c.value n j2 := z; have q : -(c.value n j2) < -y := q; omega
      exact ⟨(by show 4 ≤ sizeLine; decide), fun p hp => k _ p upd_same⟩
/-! ### range_of -/
def spRo (K : PySem.W.Frag) : Sp := fun vs H Q _ => ∃ a b zs ss, vs = [.ref a, .ref b] ∧ SqL K H a (iv zs) ∧ (∀ z ∈ zs, 0 ≤ z ∧ z ≤ 255) ∧ SqL K H b (iv ss) ∧ (∀ z ∈ ss, 0 ≤ z ∧ z ≤ 255) ∧ ∀ (H' : Hp) (p : Addr), H' p = some (.lst (iv (PyWqasbt.range_of zs ss))) → Q (.ref p) H'
theorem scRo : FnScope ["t", "s", "sheet", "e"] ["t", "s"] (defScope sRo) := ⟨rfl, rfl, rfl, by decide +kernel, rfl, by decide +kernel, by decide +kernel⟩
theorem ok_ro {f f2 f3 : Addr} {fd d2 d3 : FuncData} (T : Txt A K mg) (xN : XN A K mg) (M : MtR K A.CN A.CL A.CX) (TD : TxD K mg) (rng : mg "range" = none) (mn : mg "min" = none) (D2 : Df K mg "check_dial_name" sCd ["s"] f2 d2) (D3 : Df K mg "least_and_greatest" sLg ["sheet", "dial_name"] f3 d3) (F : Fun K "range_of" "range_of" sRo f fd) :
    FnOk P w K mg base CX0 12 f fd ["t", "s"] (spRo K) := by
  refine F.ok0 scRo (fun vs H Q E h => ?_) (fun cdv A' outer s H vs Q E hr h => ?_)
  · obtain ⟨a, b, zs, ss, rfl, _⟩ := h
    rfl
  · obtain ⟨a, b, zs, ss, rfl, hS, hz, hS2, hz2, k⟩ := h
    obtain ⟨NL, fL, eL, dL, xcL, mL, _, _⟩ := T.xL.ex
    obtain ⟨NN, fN, eN, dN, xcN, mN, _, _⟩ := xN.ex
    have hr4 : Room 4 _ := hr.mono (by decide)
    have hr5 : Room 5 _ := hr.mono (by decide)
    refine ⟨_, pss0_cons (ps0_try (Kd := kd A) (E := exR (RR (PyWqasbt.range_of zs ss))) rfl rfl
        (PSs.zero (pss_cons (ps_expr (pe_call (ok_cd T xN D2) hr4 (by rfl) D2.m D2.F.kp D2.b .nil throws_try.passes (pa_cons (pv 1) pa_nil)))
          (pss_one (ps_set (i := 2) scRo.nd rfl (Or.inl rfl) (pe_call (ok_rt T) hr (by rfl) T.rt.m T.rt.F.kp T.rt.b .nil throws_try.passes (pa_cons (pv 0) pa_nil))))))
        (ph_as (j := 3) (cs := [A.CN, A.CL, A.CX]) (fun x => ht_three (by rfl) mN (by rfl) mL (by rfl) T.mX) scRo.nd rfl rfl (fun x => PSs.zero (pss_one (ps_ret (pe_lst (pa_cons (pe_xf K (pv 3) rfl) pa_nil))))) ph_nil))
      (pss0_one (PS.zero (ps_ret (pe_call (ok_lg T TD rng mn D3) hr5 (by rfl) D3.m D3.F.kp D3.b .nil pass0 (pa_cons (pv 2) (pa_cons (pv 1) pa_nil)))))), ?_⟩
    have eL : (toB zs).length = zs.length := toB_len zs
    have hb := Text.sq ⟨hS2, hz2⟩
    refine ⟨?_, ?_⟩
    · refine ⟨_, rfl, b, toB ss, rfl, hb, fun hd => exR_er (.inr (.inr ⟨rfl, ?_⟩)), fun hd H1 s1 => ?_⟩
      · rw [rangec_eq, if_pos hd]
      have hd' : ¬ CeF.dialOk (toB ss) = false := by rw [hd]; exact Bool.noConfusion
      refine ⟨_, rfl, a, toB zs, rfl, s1.seq (Text.sq ⟨hS, hz⟩), fun hl => exR_er (.inr (.inl ⟨rfl, ?_⟩)), fun hl => ⟨fun i e => exR_er (.inl ⟨Int.natCast_nonneg i, ?_⟩), fun c H' v e s' en => ?_⟩⟩
      · rw [rangec_eq, if_neg hd', if_pos (by omega)]
      · rw [rangec_eq, if_neg hd', if_neg (by omega), e]
      · have hv : ∃ x, v = .ref x := by obtain ⟨q, _, _, _, rfl, _⟩ := en; exact ⟨q, rfl⟩
        obtain ⟨x, rfl⟩ := hv
        rw [rangec_eq, if_neg hd', if_neg (by omega), e] at k
        exact ⟨_, rfl, _, rfl, x, b, c, toB ss, H1, rfl, en, read_good e, (s1.trans s').seq hb, fun H2 p hp => k H2 p hp⟩
    · intro σ1 H1 x C fs i hlen hk hF her
      have hl : 3 < σ1.length := by rw [hlen]; show 3 < 4; decide
      exact hd_refR T xN M hk (exR_of her) hl fun H' p hp => k H' p hp
end
end Fs

end

section
set_option Elab.async false
set_option linter.all false
set_option maxRecDepth 100000
namespace Att
open PySem PySem.W PySem.Calls PyProof.Rows
/-! ### rules over ANY heap (no ledger) from facts about the written part K: the library's own take a ledger (News) for what they write -/
section
variable {prog : Program} {w : World} {A : Around} {E : Value → Shared → Prop} {s : Shared} {K : Frag}
end
end Att
namespace L2
open PySem PySem.Spec PyProof.Rows
end L2
namespace L2
open PySem PySem.Spec PyProof.Rows
end L2
end
section
set_option Elab.async false
set_option linter.all false
set_option maxRecDepth 100000
set_option maxHeartbeats 2000000
namespace L2
open PySem PySem.Spec PyProof.Rows
open PySem.W (WData Codec OpenSpec Well WellAll ReadsW ReadsAllW)
/-! ### an answer as data -/
mutual
/-- x stands for the datum d, lists and tuples all the way -/
inductive Dw (K : PySem.W.Frag) (H : Hp) : V → WData → Prop
  | non : Dw K H .non .none
  | bl (b : Bool) : Dw K H (.bl b) (.bool b)
  | int (i : Int) : Dw K H (.int i) (.int i)
  | str (x : Str) : Dw K H (.str x) (.str x)
  | byt (b : Array UInt8) : Dw K H (.byt b) (.bytes b.toList)
  | lst {a : Addr} {xs : List V} {ds : List WData} : SqL K H a xs → DwAll K H xs ds → Dw K H (.ref a) (.list ds)
  | tup {a : Addr} {xs : List V} {ds : List WData} : SqT K H a xs → DwAll K H xs ds → Dw K H (.ref a) (.tuple ds)
inductive DwAll (K : PySem.W.Frag) (H : Hp) : List V → List WData → Prop
  | nil : DwAll K H [] []
  | cons {v : V} {vs : List V} {d : WData} {ds : List WData} : Dw K H v d → DwAll K H vs ds → DwAll K H (v :: vs) (d :: ds)
end
theorem dw_ints {K : PySem.W.Frag} {H : Hp} : ∀ ns : List Int, DwAll K H (ns.map V.int) (ns.map WData.int)
  | [] => .nil
  | n :: r => .cons (.int n) (dw_ints r)
theorem ints_dw {K : PySem.W.Frag} {H : Hp} : ∀ (ns : List Int) (xs : List V), DwAll K H xs (ns.map WData.int) → xs = ns.map V.int
  | [], xs, h => by
    cases h
    rfl
  | n :: r, xs, h => by
    cases h with
    | cons h1 h2 =>
      cases h1
      rw [ints_dw r _ h2] <;> rfl
section
variable {P : Program} {w : World} {K : PySem.W.Frag} {H : Hp} {h : Heap} {R : PySem.W.WRecords} {cl : Str → Option Addr}
theorem sqL_at {a : Addr} {xs : List V} (hok : HOk P w H h) (KX : K.In h) (q : SqL K H a xs) : ∃ (its : List Value) (o : Obj) (n : Nat), Vals xs its ∧ h.get? a = some o ∧ o.cls = .type "list" ∧ o.data = .seq its.toArray n := by
  rcases q with q | ⟨o, its, n, e, hc, _, hd, _, hv⟩
  · obtain ⟨_, its, n, hv, e⟩ := (show ObjOk P w H h a (.lst xs) from q.ok hok)
    exact ⟨its, _, n, hv, e, rfl, rfl⟩
  · exact ⟨its.toList, o, n, hv, KX _ _ e, hc, by simp [hd]⟩
theorem sqT_at {a : Addr} {xs : List V} (hok : HOk P w H h) (KX : K.In h) (q : SqT K H a xs) : ∃ (its : List Value) (o : Obj) (n : Nat), Vals xs its ∧ h.get? a = some o ∧ o.cls = .type "tuple" ∧ o.data = .seq its.toArray n := by
  rcases q with q | ⟨o, its, n, e, hc, hd, _, hv⟩
  · obtain ⟨_, its, hv, o, e, hc, n, hd⟩ := (show ObjOk P w H h a (.tup xs) from q.ok hok)
    exact ⟨its, o, n, hv, e, hc, hd⟩
  · exact ⟨its.toList, o, n, hv, KX _ _ e, hc, by simp [hd]⟩
mutual
theorem Dw.reads (hok : HOk P w H h) (KX : K.In h) : ∀ (d : WData) (v : V) (u : Value), Dw K H v d → RelV v u → ∃ as, ReadsW R cl h u d as
  | .none, _, _, x, r => by
    cases x
    cases r
    exact ⟨_, ReadsW.none⟩
  | .bool b, _, _, x, r => by
    cases x
    cases r
    exact ⟨_, ReadsW.bool b⟩
  | .int i, _, _, x, r => by
    cases x
    obtain ⟨t, rfl⟩ := r
    exact ⟨_, ReadsW.int i t⟩
  | .str s, _, _, x, r => by
    cases x
    obtain ⟨t, rfl⟩ := r
    exact ⟨_, ReadsW.str s t⟩
  | .bytes b, _, _, x, r => by
    cases x
    obtain ⟨t, rfl⟩ := r
    exact ⟨_, ReadsW.bytes _ t⟩
  | .list ds, _, _, x, r => by
    cases x with
    | lst hs ha =>
      cases r
      obtain ⟨its, o, n, rv, ho, hc, hd⟩ := sqL_at hok KX hs
      obtain ⟨as, hr⟩ := Dw.readsAll hok KX ds _ its ha rv
      exact ⟨_, ReadsW.list ho hc hd hr⟩
  | .tuple ds, _, _, x, r => by
    cases x with
    | tup hs ha =>
      cases r
      obtain ⟨its, o, n, rv, ho, hc, hd⟩ := sqT_at hok KX hs
      obtain ⟨as, hr⟩ := Dw.readsAll hok KX ds _ its ha rv
      exact ⟨_, ReadsW.tuple ho hc hd hr⟩
  | .float _, _, _, x, _ => by cases x
  | .dict _, _, _, x, _ => by cases x
  | .bytearray _, _, _, x, _ => by cases x
  | .set _, _, _, x, _ => by cases x
  | .frozenset _, _, _, x, _ => by cases x
  | .obj _ _, _, _, x, _ => by cases x
theorem Dw.readsAll (hok : HOk P w H h) (KX : K.In h) : ∀ (ds : List WData) (vs : List V) (us : List Value), DwAll K H vs ds → Vals vs us → ∃ as, ReadsAllW R cl h us ds as
  | [], _, _, x, r => by
    cases x
    cases r
    exact ⟨_, ReadsAllW.nil⟩
  | d :: ds, _, _, x, r => by
    cases x with
    | cons h1 h2 =>
      cases r with
      | cons r1 r2 =>
        obtain ⟨as, q1⟩ := Dw.reads hok KX d _ _ h1 r1
        obtain ⟨bs, q2⟩ := Dw.readsAll hok KX ds _ _ h2 r2
        exact ⟨_, ReadsAllW.cons q1 q2⟩
end
end
/-! ### the arguments -/
mutual
/-- data that a codec tells -/
def plW : WData → Bool
  | .none => true
  | .bool _ => true
  | .int _ => true
  | .str _ => true
  | .bytes _ => true
  | .list xs => plWs xs
  | .tuple xs => plWs xs
  | _ => false
def plWs : List WData → Bool
  | [] => true
  | x :: r => plW x && plWs r
end
theorem plWs_map {α : Type} {f : α → WData} (h : ∀ a, plW (f a) = true) : ∀ l : List α, plWs (l.map f) = true
  | [] => rfl
  | x :: r => by
    show (plW (f x) && plWs (r.map f)) = true
    rw [h x, plWs_map h r] <;> rfl
theorem pl_enc : ∀ (c : Codec) (a : c.denote), plW (c.enc a) = true
  | .unit, _ => rfl
  | .bool, _ => rfl
  | .int _ _, _ => rfl
  | .nat _ _, _ => rfl
  | .u8, _ => rfl
  | .bytes _ _, _ => rfl
  | .text _ _ _ _, _ => rfl
  | .list _ _ c, a => plWs_map (fun x => pl_enc c x) a
  | .pair c d, a => by
    show (plW (c.enc a.1) && (plW (d.enc a.2) && true)) = true
    rw [pl_enc c a.1, pl_enc d a.2] <;> rfl
  | .triple c d e, a => by
    show (plW (c.enc a.1) && (plW (d.enc a.2.1) && (plW (e.enc a.2.2) && true))) = true
    rw [pl_enc c a.1, pl_enc d a.2.1, pl_enc e a.2.2] <;> rfl
  | .option c, none => rfl
  | .option c, some x => pl_enc c x
theorem pl_encAll : ∀ (cs : List Codec) (a : Codec.denoteAll cs), plWs (Codec.encAll cs a) = true
  | [], _ => rfl
  | c :: cs, a => by
    show (plW (c.enc a.1) && plWs (Codec.encAll cs a.2)) = true
    rw [pl_enc c a.1, pl_encAll cs a.2] <;> rfl
theorem weight_mem : ∀ {xs : List WData} {d : WData}, d ∈ xs → d.weight ≤ WData.weightAll xs
  | [], d, h => absurd h (by simp)
  | x :: r, d, h => by
    show d.weight ≤ x.weight + 1 + WData.weightAll r
    rcases List.mem_cons.mp h with e | m
    · rw [e]
      omega
    · have z := weight_mem m
      omega
def toV : Value → V
  | .none => .non
  | .bool b => .bl b
  | .int i _ => .int i
  | .str x _ => .str x
  | .bytes b _ => .byt b
  | .ref a => .ref a
  | _ => .non
/-- a value of the arguments, its objects among A -/
def OkU (A : List Addr) : Value → Prop
  | .none => True
  | .bool _ => True
  | .int _ _ => True
  | .str _ _ => True
  | .bytes _ _ => True
  | .ref a => a ∈ A
  | _ => False
theorem OkU.mono {A B : List Addr} (h : ∀ a ∈ A, a ∈ B) : ∀ {u : Value}, OkU A u → OkU B u := fun {u} x => by
  cases u with
  | ref a => exact h a x
  | none => trivial
  | bool b => trivial
  | int i t => trivial
  | str s t => trivial
  | bytes b t => trivial
  | _ => exact False.elim x
theorem relV_toV {A : List Addr} {u : Value} (x : OkU A u) : RelV (toV u) u := by
  cases u with
  | ref a => rfl
  | none => rfl
  | bool b => rfl
  | int i t => exact ⟨t, rfl⟩
  | str s t => exact ⟨t, rfl⟩
  | bytes b t => exact ⟨t, rfl⟩
  | _ => exact False.elim x
theorem vals_toV {A : List Addr} : ∀ {vs : List Value}, (∀ u ∈ vs, OkU A u) → Vals (vs.map toV) vs
  | [], _ => .nil
  | u :: r, h => .cons (relV_toV (h u (List.mem_cons_self ..))) (vals_toV fun x hx => h x (List.mem_cons_of_mem _ hx))
/-- an object of the arguments -/
def ArgOb (h : Heap) (A : List Addr) (a : Addr) : Prop := ∃ vs : List Value, vs.length ≤ sizeLine ∧ (∀ u ∈ vs, OkU A u) ∧
  (h.get? a = some { cls := .type "list", data := .seq vs.toArray } ∨ h.get? a = some { cls := .type "tuple", data := .seq vs.toArray })
theorem ArgOb.mono {h : Heap} {A B : List Addr} {a : Addr} (k : ∀ a ∈ A, a ∈ B) (x : ArgOb h A a) : ArgOb h B a := by
  obtain ⟨vs, h1, h2, h3⟩ := x
  exact ⟨vs, h1, fun u hu => (h2 u hu).mono k, h3⟩
theorem wellAll_len {P : Params} {h : Heap} : ∀ {vs : List Value} {ds : List WData}, WellAll P h vs ds → vs.length = ds.length
  | _, _, .nil => rfl
  | _, _, .cons _ b => by
    show _ + 1 = _ + 1
    rw [wellAll_len b]
theorem well_list {P : Params} {h : Heap} {v : Value} {ds : List WData} (x : Well P h v (.list ds)) : ∃ (a : Addr) (vs : List Value), v = .ref a ∧ h.get? a = some { cls := .type "list", data := .seq vs.toArray } ∧ WellAll P h vs ds := by
  cases x with
  | list ho hall => exact ⟨_, _, rfl, ho, hall⟩
theorem well_tuple {P : Params} {h : Heap} {v : Value} {ds : List WData} (x : Well P h v (.tuple ds)) : ∃ (a : Addr) (vs : List Value), v = .ref a ∧ h.get? a = some { cls := .type "tuple", data := .seq vs.toArray } ∧ WellAll P h vs ds := by
  cases x with
  | tuple ho hall => exact ⟨_, _, rfl, ho, hall⟩
theorem well_cons {P : Params} {h : Heap} {us : List Value} {d : WData} {ds : List WData} (x : WellAll P h us (d :: ds)) : ∃ (v : Value) (vs : List Value), us = v :: vs ∧ Well P h v d ∧ WellAll P h vs ds := by
  cases x with
  | cons a b => exact ⟨_, _, rfl, a, b⟩
theorem line_of {n : Nat} (h : n ≤ 1048576) : n ≤ sizeLine := Nat.le_trans h (by decide)
section
variable {P : Params} {h : Heap}
mutual
theorem area_one : ∀ (d : WData) (v : Value), Well P h v d → plW d = true → d.weight ≤ 1048576 → ∃ A : List Addr, OkU A v ∧ ∀ a ∈ A, ArgOb h A a
  | .none, _, x, _, _ => by
    cases x
    exact ⟨[], trivial, fun a m => absurd m (by simp)⟩
  | .bool b, _, x, _, _ => by
    cases x
    exact ⟨[], trivial, fun a m => absurd m (by simp)⟩
  | .int i, _, x, _, _ => by
    cases x
    exact ⟨[], trivial, fun a m => absurd m (by simp)⟩
  | .str s, _, x, _, _ => by
    cases x
    exact ⟨[], trivial, fun a m => absurd m (by simp)⟩
  | .bytes b, _, x, _, _ => by
    cases x
    exact ⟨[], trivial, fun a m => absurd m (by simp)⟩
  | .list ds, _, x, p, z => by
    obtain ⟨a, vs, rfl, ho, hall⟩ := well_list x
    have z2 : WData.weightAll ds ≤ 1048576 := z
    obtain ⟨A, h1, h2⟩ := area_all ds _ hall p fun d hd => Nat.le_trans (weight_mem hd) z2
    have k : ∀ b ∈ A, b ∈ a :: A := fun b hb => List.mem_cons_of_mem _ hb
    refine ⟨a :: A, List.mem_cons_self .., fun b hb => ?_⟩
    rcases List.mem_cons.mp hb with e | m
    · rw [e]
      exact ⟨vs, line_of (by rw [wellAll_len hall]; exact Nat.le_trans (PySem.W.length_le_weightAllW ds) z2), fun u hu => (h1 u hu).mono k, .inl ho⟩
    · exact (h2 b m).mono k
  | .tuple ds, _, x, p, z => by
    obtain ⟨a, vs, rfl, ho, hall⟩ := well_tuple x
    have z2 : WData.weightAll ds ≤ 1048576 := z
    obtain ⟨A, h1, h2⟩ := area_all ds _ hall p fun d hd => Nat.le_trans (weight_mem hd) z2
    have k : ∀ b ∈ A, b ∈ a :: A := fun b hb => List.mem_cons_of_mem _ hb
    refine ⟨a :: A, List.mem_cons_self .., fun b hb => ?_⟩
    rcases List.mem_cons.mp hb with e | m
    · rw [e]
      exact ⟨vs, line_of (by rw [wellAll_len hall]; exact Nat.le_trans (PySem.W.length_le_weightAllW ds) z2), fun u hu => (h1 u hu).mono k, .inr ho⟩
    · exact (h2 b m).mono k
  | .float _, _, _, p, _ => Bool.noConfusion (show false = true from p)
  | .dict _, _, _, p, _ => Bool.noConfusion (show false = true from p)
  | .bytearray _, _, _, p, _ => Bool.noConfusion (show false = true from p)
  | .set _, _, _, p, _ => Bool.noConfusion (show false = true from p)
  | .frozenset _, _, _, p, _ => Bool.noConfusion (show false = true from p)
  | .obj _ _, _, _, p, _ => Bool.noConfusion (show false = true from p)
theorem area_all : ∀ (ds : List WData) (vs : List Value), WellAll P h vs ds → plWs ds = true → (∀ d ∈ ds, d.weight ≤ 1048576) → ∃ A : List Addr, (∀ u ∈ vs, OkU A u) ∧ ∀ a ∈ A, ArgOb h A a
  | [], _, x, _, _ => by
    cases x
    exact ⟨[], fun u m => absurd m (by simp), fun a m => absurd m (by simp)⟩
  | d :: ds, _, x, p, z => by
    obtain ⟨v, vs, rfl, x1, x2⟩ := well_cons x
    have q : plW d = true ∧ plWs ds = true := Bool.and_eq_true_iff.mp p
    obtain ⟨A, a1, a2⟩ := area_one d v x1 q.1 (z d (List.mem_cons_self ..))
    obtain ⟨B, b1, b2⟩ := area_all ds vs x2 q.2 fun e he => z e (List.mem_cons_of_mem _ he)
    have kA : ∀ b ∈ A, b ∈ A ++ B := fun b hb => List.mem_append.mpr (.inl hb)
    have kB : ∀ b ∈ B, b ∈ A ++ B := fun b hb => List.mem_append.mpr (.inr hb)
    refine ⟨A ++ B, fun u hu => ?_, fun b hb => ?_⟩
    · rcases List.mem_cons.mp hu with e | m
      · rw [e]
        exact a1.mono kA
      · exact (b1 u m).mono kB
    · rcases List.mem_append.mp hb with m | m
      · exact (a2 b m).mono kA
      · exact (b2 b m).mono kB
end
end
/-- what is tracked of an argument's object -/
def hoOf (o : Obj) : Option HO := match o.data with
  | .seq vs _ => if (o.cls == Value.type "list") = true then some (.frz o (.lst (vs.toList.map toV))) else some (.frz o (.tup (vs.toList.map toV)))
  | _ => none
def argH (K : PySem.W.Frag) (h : Heap) (A : List Addr) : Hp := fun b => if b ∈ A then (if (K.lookup b).isNone = true then (h.get? b).bind hoOf else none) else none
/-- nothing is tracked but what is known to the object -/
def OnlyF (H : Hp) : Prop := ∀ b, H b = none ∨ ∃ o u, H b = some (.frz o u)
theorem hoOf_lst (vs : List Value) : hoOf { cls := .type "list", data := .seq vs.toArray } = some (.frz { cls := .type "list", data := .seq vs.toArray } (.lst (vs.map toV))) := by
  show (if (Value.type "list" == Value.type "list") = true then some (HO.frz { cls := .type "list", data := .seq vs.toArray } (.lst (vs.toArray.toList.map toV))) else some (HO.frz { cls := .type "list", data := .seq vs.toArray } (.tup (vs.toArray.toList.map toV)))) = _
  rw [if_pos (beq_self_eq_true _)]
theorem hoOf_tup (vs : List Value) : hoOf { cls := .type "tuple", data := .seq vs.toArray } = some (.frz { cls := .type "tuple", data := .seq vs.toArray } (.tup (vs.map toV))) := by
  show (if (Value.type "tuple" == Value.type "list") = true then some (HO.frz { cls := .type "tuple", data := .seq vs.toArray } (.lst (vs.toArray.toList.map toV))) else some (HO.frz { cls := .type "tuple", data := .seq vs.toArray } (.tup (vs.toArray.toList.map toV)))) = _
  rw [if_neg (by decide)]
section
variable {P : Program} {w : World} {K : PySem.W.Frag} {h : Heap} {A : List Addr}
theorem argH_at {b : Addr} {o : Obj} (hb : b ∈ A) (hk : K.lookup b = none) (e : h.get? b = some o) : argH K h A b = hoOf o := by
  unfold argH
  rw [if_pos hb, hk, if_pos (show (none : Option Obj).isNone = true from rfl), e] <;> rfl
theorem of_argH {b : Addr} {u : HO} (q : argH K h A b = some u) : b ∈ A ∧ K.lookup b = none := by
  unfold argH at q
  by_cases hb : b ∈ A
  · rw [if_pos hb] at q
    cases hk : K.lookup b with
    | none => exact ⟨hb, rfl⟩
    | some o =>
      rw [hk, if_neg (by simp)] at q
      cases q
  · rw [if_neg hb] at q
    cases q
/-- what stands tracked -/
theorem argH_is (ar : ∀ a ∈ A, ArgOb h A a) {b : Addr} {u : HO} (q : argH K h A b = some u) : K.lookup b = none ∧ ∃ vs : List Value, vs.length ≤ sizeLine ∧ (∀ u ∈ vs, OkU A u) ∧
    ((h.get? b = some { cls := .type "list", data := .seq vs.toArray } ∧ u = .frz { cls := .type "list", data := .seq vs.toArray } (.lst (vs.map toV))) ∨
     (h.get? b = some { cls := .type "tuple", data := .seq vs.toArray } ∧ u = .frz { cls := .type "tuple", data := .seq vs.toArray } (.tup (vs.map toV)))) := by
  obtain ⟨hb, hk⟩ := of_argH q
  obtain ⟨vs, h1, h2, h3⟩ := ar b hb
  refine ⟨hk, vs, h1, h2, ?_⟩
  rcases h3 with e | e
  · rw [argH_at hb hk e, hoOf_lst] at q
    exact .inl ⟨e, (Option.some.inj q).symm⟩
  · rw [argH_at hb hk e, hoOf_tup] at q
    exact .inr ⟨e, (Option.some.inj q).symm⟩
theorem argH_only (ar : ∀ a ∈ A, ArgOb h A a) : OnlyF (argH K h A) := fun b => by
  cases q : argH K h A b with
  | none => exact .inl rfl
  | some u =>
    obtain ⟨_, vs, _, _, ⟨_, e⟩ | ⟨_, e⟩⟩ := argH_is ar q
    · exact .inr ⟨_, _, by rw [e]⟩
    · exact .inr ⟨_, _, by rw [e]⟩
theorem argH_ok (ar : ∀ a ∈ A, ArgOb h A a) : HOk P w (argH K h A) h := fun b u q => by
  obtain ⟨_, vs, h1, h2, ⟨e, rfl⟩ | ⟨e, rfl⟩⟩ := argH_is ar q
  · exact ⟨e, by rw [List.length_map]; exact h1, vs, _, vals_toV h2, e⟩
  · exact ⟨e, by rw [List.length_map]; exact h1, vs, vals_toV h2, _, e, rfl, _, rfl⟩
theorem seq_inj {c c' : Value} {vs us : List Value} (e : (some { cls := c, data := .seq vs.toArray } : Option Obj) = some { cls := c', data := .seq us.toArray }) : c = c' ∧ vs = us := by
  have e1 := Option.some.inj e
  have e2 : c = c' := congrArg Obj.cls e1
  have e3 : Data.seq vs.toArray = Data.seq us.toArray := congrArg Obj.data e1
  injection e3 with e4
  refine ⟨e2, ?_⟩
  have e5 := congrArg Array.toList e4
  simpa using e5
/-- a list argument -/
theorem argL (KX : K.In h) (ar : ∀ a ∈ A, ArgOb h A a) {a : Addr} {vs : List Value} (ha : a ∈ A) (e : h.get? a = some { cls := .type "list", data := .seq vs.toArray }) : (∀ u ∈ vs, OkU A u) ∧ SqL K (argH K h A) a (vs.map toV) := by
  obtain ⟨us, h1, h2, h3⟩ := ar a ha
  have hu : us = vs := by
    rcases h3 with q | q
    · rw [e] at q
      exact (seq_inj q).2.symm
    · rw [e] at q
      exact absurd (Value.type.inj (seq_inj q).1) (by decide)
  subst hu
  refine ⟨h2, ?_⟩
  cases hk : K.lookup a with
  | none => exact .inl (.inr ⟨_, by rw [argH_at ha hk e, hoOf_lst]⟩)
  | some o =>
    have e2 := KX a o hk
    rw [e] at e2
    obtain rfl := Option.some.inj e2
    exact .inr ⟨_, us.toArray, _, hk, rfl, rfl, rfl, by rw [List.size_toArray]; exact h1, by simpa using vals_toV h2⟩
theorem argT (KX : K.In h) (ar : ∀ a ∈ A, ArgOb h A a) {a : Addr} {vs : List Value} (ha : a ∈ A) (e : h.get? a = some { cls := .type "tuple", data := .seq vs.toArray }) : (∀ u ∈ vs, OkU A u) ∧ SqT K (argH K h A) a (vs.map toV) := by
  obtain ⟨us, h1, h2, h3⟩ := ar a ha
  have hu : us = vs := by
    rcases h3 with q | q
    · rw [e] at q
      exact absurd (Value.type.inj (seq_inj q).1) (by decide)
    · rw [e] at q
      exact (seq_inj q).2.symm
  subst hu
  refine ⟨h2, ?_⟩
  cases hk : K.lookup a with
  | none => exact .inl (.inr ⟨_, by rw [argH_at ha hk e, hoOf_tup]⟩)
  | some o =>
    have e2 := KX a o hk
    rw [e] at e2
    obtain rfl := Option.some.inj e2
    exact .inr ⟨_, us.toArray, _, hk, rfl, rfl, by rw [List.size_toArray]; exact h1, by simpa using vals_toV h2⟩
mutual
theorem dw_one {Pm : Params} (KX : K.In h) (ar : ∀ a ∈ A, ArgOb h A a) : ∀ (d : WData) (v : Value), Well Pm h v d → plW d = true → OkU A v → Dw K (argH K h A) (toV v) d
  | .none, _, x, _, _ => by
    cases x
    exact .non
  | .bool b, _, x, _, _ => by
    cases x
    exact .bl b
  | .int i, _, x, _, _ => by
    cases x
    exact .int i
  | .str s, _, x, _, _ => by
    cases x
    exact .str s
  | .bytes b, _, x, _, _ => by
    cases x
    have z := Dw.byt (K := K) (H := argH K h A) b.toArray
    exact z
  | .list ds, _, x, p, hu => by
    obtain ⟨a, vs, rfl, ho, hall⟩ := well_list x
    obtain ⟨h2, hs⟩ := argL KX ar hu ho
    exact .lst hs (dw_all KX ar ds _ hall p h2)
  | .tuple ds, _, x, p, hu => by
    obtain ⟨a, vs, rfl, ho, hall⟩ := well_tuple x
    obtain ⟨h2, hs⟩ := argT KX ar hu ho
    exact .tup hs (dw_all KX ar ds _ hall p h2)
  | .float _, _, _, p, _ => Bool.noConfusion (show false = true from p)
  | .dict _, _, _, p, _ => Bool.noConfusion (show false = true from p)
  | .bytearray _, _, _, p, _ => Bool.noConfusion (show false = true from p)
  | .set _, _, _, p, _ => Bool.noConfusion (show false = true from p)
  | .frozenset _, _, _, p, _ => Bool.noConfusion (show false = true from p)
  | .obj _ _, _, _, p, _ => Bool.noConfusion (show false = true from p)
theorem dw_all {Pm : Params} (KX : K.In h) (ar : ∀ a ∈ A, ArgOb h A a) : ∀ (ds : List WData) (vs : List Value), WellAll Pm h vs ds → plWs ds = true → (∀ u ∈ vs, OkU A u) → DwAll K (argH K h A) (vs.map toV) ds
  | [], _, x, _, _ => by
    cases x
    exact .nil
  | d :: ds, _, x, p, hu => by
    obtain ⟨v, vs, rfl, x1, x2⟩ := well_cons x
    have q : plW d = true ∧ plWs ds = true := Bool.and_eq_true_iff.mp p
    exact .cons (dw_one KX ar d v x1 q.1 (hu _ (List.mem_cons_self ..))) (dw_all KX ar ds vs x2 q.2 fun u m => hu u (List.mem_cons_of_mem _ m))
end
end
/-! ### the call -/
theorem spec_call {P : Program} {w : World} {K : PySem.W.Frag} {mg mb : Str → Option Value} {CX : CXT} {k : Nat} {fa : Addr} {fd : FuncData} {ps : List Str} {sp : Sp} {s₁ : Shared} {vals : List Value} {ds : List WData} {R : PySem.W.WRecords} {cl : Str → Option Addr} {d0 : WData}
    (KX : K.In s₁.heap) (hns : s₁.heap.Ns mainGlobals mg) (hb : s₁.heap.Ns builtinsNs mb) (hbb : ∀ x : Str, x ≠ "__name__" → mb x = bootBuiltins x) (hlim : s₁.heap.NoLimit) (hg : s₁.gens = #[])
    (hwl : WellAll w.params s₁.heap vals ds) (hpl : plWs ds = true) (hwt : ∀ d ∈ ds, d.weight ≤ 1048576) (hr : Room k callerA)
    (F : ∀ base : Heap, K.In base → base.Ns mainGlobals mg → FnOk P w K mg base CX k fa fd ps sp) (hbind : ∀ (s : Shared) (us : List Value), us.length = ps.length → BindsTo s fd ⟨us, []⟩ (ps.zip us)) (hlen : ds.length = ps.length)
    (hsp : ∀ (H : Hp) (xs : List V), OnlyF H → DwAll K H xs ds → sp xs H (fun v H' => Dw K H' v d0) fun _ _ _ => False)
    (hCX : ∀ H e s', CX [] H s₁ (fun _ _ _ => False) e s' → False) :
    codeAny (model P w) callerA (.call (.ref fa) ⟨vals, []⟩) (fun r s' => ∃ u as, r = .ok (.ret u) ∧ ReadsW R cl s'.heap u d0 as ∧ OldK s₁.heap s'.heap ∧ s'.os = s₁.os ∧ AllBare s'.gens) s₁ := by
  obtain ⟨A, ho, ar⟩ := area_all ds vals hwl hpl hwt
  have hO : OnlyF (argH K s₁.heap A) := argH_only ar
  have hok : HOk P w (argH K s₁.heap A) s₁.heap := argH_ok ar
  have hS := dw_all KX ar ds vals hwl hpl ho
  have hV := vals_toV ho
  have hK : ∀ b u, argH K s₁.heap A b = some u → K.lookup b = none := fun b u q => (argH_is ar q).1
  have noA : ∀ {b : Addr} {o : Obj} {es : Array DictEntry} {ep : Nat}, s₁.heap.get? b = some o → o.data = .dict es ep → argH K s₁.heap A b = none := fun {b o es ep} e d => by
    cases q : argH K s₁.heap A b with
    | none => rfl
    | some u =>
      obtain ⟨_, vs, _, _, ⟨e2, _⟩ | ⟨e2, _⟩⟩ := argH_is ar q
      · rw [e2] at e
        cases e
        have d' : Data.seq vs.toArray _ = Data.dict es ep := d
        cases d'
      · rw [e2] at e
        cases e
        have d' : Data.seq vs.toArray _ = Data.dict es ep := d
        cases d'
  generalize argH K s₁.heap A = H at hO hok hS hK noA
  have base_of : ∀ {b : Addr} {o : Obj}, s₁.heap.get? b = some o → H b = none → (hidT s₁.heap H).get? b = some o := fun e n => hidT_get e n
  have nsK : ∀ {b : Addr} {m : Str → Option Value}, s₁.heap.Ns b m → (hidT s₁.heap H).Ns b m := fun {b m} ⟨o, es, ep, e, d, r⟩ => ⟨o, es, ep, base_of e (noA e d), d, r⟩
  have nK : ∀ b o, K.lookup b = some o → H b = none := fun b o e => by
    cases q : H b with
    | none => rfl
    | some u =>
      rw [hK b u q] at e
      cases e
  have hKb : K.In (hidT s₁.heap H) := fun b o e => base_of (KX b o e) (nK b o e)
  have hM : Mod K mg (hidT s₁.heap H) := ⟨hKb, nsK hns, ⟨mb, nsK hb, hbb⟩, let ⟨mc, h1, h2⟩ := hlim; ⟨mc, nsK h1, h2⟩⟩
  have e0 : Env0 P w K mg (hidT s₁.heap H) callerA [] s₁ H := ⟨rfl, hM, fun b o e => of_hidT e, Nat.le_of_eq (hidT_size _ _), trivial, fun b hb => absurd (show b ∈ ([] : List Addr) from hb) (by simp), hok, .of_eq hg⟩
  have hl : vals.length = ps.length := by rw [wellAll_len hwl]; exact hlen
  refine codeAny_mono ((F _ hKb (nsK hns)).run callerA [] s₁ H ⟨vals, []⟩ vals (vals.map toV) _ _ hr e0 (hbind s₁ vals hl) hV (hsp H _ hO hS)) fun r s' x => ?_
  cases r with
  | error e => exact (hCX H e s' x).elim
  | ok fl =>
    cases fl with
    | next => exact False.elim x
    | brk => exact False.elim x
    | cont => exact False.elim x
    | ret u =>
      obtain ⟨v, H', os, bare, un, hok', r', q⟩ := x
      have kept : ∀ b o, s₁.heap.get? b = some o → s'.heap.get? b = some o := fun b o e => by
        cases q2 : H b with
        | none => exact un.keep b o e q2 (by intro z; exact absurd (show b ∈ ([] : List Addr) from z) (by simp)) (by simp)
        | some u2 =>
          rcases hO b with z | ⟨ob, u3, z⟩
          · rw [q2] at z
            cases z
          · have z2 := un.frzs b ob _ z
            obtain ⟨e1, _⟩ := hok b _ z
            obtain ⟨e2, _⟩ := hok' b _ z2
            rw [e] at e1
            cases e1
            exact e2
      have KX' : K.In s'.heap := fun b o e => kept b o (KX b o e)
      obtain ⟨as, hrd⟩ := Dw.reads (R := R) (cl := cl) hok' KX' d0 v u q r'
      exact ⟨u, as, rfl, hrd, OldK.of_keep kept, os, bare⟩
/-! ### the row -/
theorem layable_weight {ds : List WData} (h : WData.layableAll ds = true) : ∀ d ∈ ds, d.weight ≤ 1048576 := fun d hd =>
  (PySem.W.layableW_iff.mp (List.all_eq_true.mp h d hd)).2.2
theorem encAll_len : ∀ (cs : List Codec) (a : Codec.denoteAll cs), (Codec.encAll cs a).length = cs.length
  | [], _ => rfl
  | c :: cs, a => by
    show (Codec.encAll cs a.2).length + 1 = cs.length + 1
    rw [encAll_len cs a.2]
/-- the goal that k_headS leaves (case hc), from the promise of the row's def: whatever the arguments that the codecs let and the row asks for, the def gives what stands for enc (f ..) -/
theorem walk_spec {r : OpenSpec} {k : Nat} {q : Program} {loose : List Str} {XP : (Str → Option Value) → Heap → Prop} {YP : World → Heap → Prop} {d : DefRec} {K : Params → PySem.W.Frag} {CX : World → CXT} {ps : List Str} {sp : World → Sp}
    (hwell : r.wellSaid = true) (hdf : d.params.defaults = []) (hlen : r.args.length = ps.length) (hr : Room k callerA)
    (hY : ∀ (w : World) (h : Heap), YP w h → (K w.params).In h)
    (F : ∀ (w : World) (mg : Str → Option Value) (fa : Addr) (h : Heap), YP w h → (K w.params).In h → h.Ns mainGlobals mg → mg d.name = some (.ref fa) →
      ∃ fd : FuncData, (∀ (s : Shared) (us : List Value), us.length = ps.length → BindsTo s fd ⟨us, []⟩ (ps.zip us)) ∧
        ∀ base : Heap, (K w.params).In base → base.Ns mainGlobals mg → FnOk r.prog w (K w.params) mg base (CX w) k fa fd ps (sp w))
    (hsp : ∀ (w : World) (H : Hp) (xs : List V) (a : Codec.denoteAll r.args), OnlyF H → Codec.withinAll r.args a = true → Codec.app r.args r.asked a = true → DwAll (K w.params) H xs (Codec.encAll r.args a) →
      sp w xs H (fun v H' => Dw (K w.params) H' v (r.ret.enc (Codec.app r.args r.f a))) fun _ _ _ => False)
    (hCX : ∀ (w : World) (H : Hp) (s : Shared) (e : Value) (s' : Shared), CX w [] H s (fun _ _ _ => False) e s' → False) :
    PySem.W.WalkOS q loose XP YP r d [] (fun f vs => PySem.call f vs) := by
  intro w s_0 s₁ mg mb G Y fa o pm cd doc dV kV ho hd hcd hD hmg hg args vals as hpre hlay hrd hwl hlo
  obtain ⟨a, e1, e2⟩ := PySem.W.os_pre_some hpre
  obtain ⟨e3, hwi⟩ := Codec.encAll_of_decAll r.args args a e1
  subst e3
  have KX := hY w _ Y
  obtain ⟨fd, hb, hF⟩ := F w mg fa _ Y KX G.T.g hmg
  refine PySem.W.enter_call (codeAny_mono (spec_call (R := []) (cl := classAt s_0.heap) (d0 := r.ret.enc (Codec.app r.args r.f a)) KX G.T.g G.T.b G.T.builtins G.T.nolimit hg hwl (pl_encAll _ _) (layable_weight hlay) hr hF hb (by rw [encAll_len]; exact hlen)
    (fun H xs hO hS => hsp w H xs a hO hwi e2 hS) fun H e s' => hCX w H s₁ e s') fun r' s' hq => ?_)
  obtain ⟨u, as', rfl, h1, h2, h3, h4⟩ := hq
  exact ⟨.inl ⟨u, _, as', rfl, fun _ => rfl, h1, (OpenSpec.post_iff hwell hwi _ _).mpr rfl, fun z => Bool.noConfusion (show false = true from z)⟩, h2, h3, h4⟩
/-- the same where the promise hangs on the written part alone -/
theorem walk_specK {r : OpenSpec} {k : Nat} {q : Program} {loose : List Str} {XP : (Str → Option Value) → Heap → Prop} {YP : World → Heap → Prop} {d : DefRec} {K : Params → PySem.W.Frag} {CX : CXT} {ps : List Str} {sp : PySem.W.Frag → Sp}
    (hwell : r.wellSaid = true) (hdf : d.params.defaults = []) (hlen : r.args.length = ps.length) (hr : Room k callerA)
    (hY : ∀ (w : World) (h : Heap), YP w h → (K w.params).In h)
    (F : ∀ (w : World) (mg : Str → Option Value) (fa : Addr) (h : Heap), YP w h → (K w.params).In h → h.Ns mainGlobals mg → mg d.name = some (.ref fa) →
      ∃ fd : FuncData, (∀ (s : Shared) (us : List Value), us.length = ps.length → BindsTo s fd ⟨us, []⟩ (ps.zip us)) ∧
        ∀ base : Heap, (K w.params).In base → base.Ns mainGlobals mg → FnOk r.prog w (K w.params) mg base CX k fa fd ps (sp (K w.params)))
    (hsp : ∀ (K : PySem.W.Frag) (H : Hp) (xs : List V) (a : Codec.denoteAll r.args), OnlyF H → Codec.withinAll r.args a = true → Codec.app r.args r.asked a = true → DwAll K H xs (Codec.encAll r.args a) →
      sp K xs H (fun v H' => Dw K H' v (r.ret.enc (Codec.app r.args r.f a))) fun _ _ _ => False)
    (hCX : ∀ (H : Hp) (s : Shared) (e : Value) (s' : Shared), CX [] H s (fun _ _ _ => False) e s' → False) :
    PySem.W.WalkOS q loose XP YP r d [] (fun f vs => PySem.call f vs) :=
  walk_spec (K := K) (CX := fun _ => CX) (sp := fun w => sp (K w.params)) hwell hdf hlen hr hY F (fun w H xs a h1 h2 h3 h4 => hsp (K w.params) H xs a h1 h2 h3 h4) fun _ H s e s' => hCX H s e s'
end L2
-- rests on (row put in by the clerk, for the bench that shows a file only what it spells): KE.SpHead KE.OsShapes
end
section
set_option Elab.async false
set_option linter.all false
set_option maxRecDepth 100000
set_option maxHeartbeats 2000000
namespace Fs
open PySem PySem.Spec PyProof.Rows L2 Fm
open PySem.W (nsIn findIn isFn codeIn keepIn fnOf mg_of mg_none_of plainGet hasDictIn plainOver makesIn)
abbrev KOf {K : PySem.W.Frag} {h : Heap} (_ : K.In h) : PySem.W.Frag := K
/-! ### what the top has written -/
section
variable {K : PySem.W.Frag} {h : Heap} {mg : Str → Option Value} {x qual : Str} {st : Stmt} {f C : Addr} {ps : List Str} {oc kV doc pm cdv ct : Value} {od an : Option Addr} {sl : Array (Option Value)}
abbrev BindsOf (x qual : Str) (st : Stmt) (ps : List Str) : Prop := ∀ (kV doc pm : Value) (an : Option Addr) (cdv ct : Value) (us : List Value), us.length = ps.length → bindArgs (fnOf x qual (defArgs st) (defBody st) (defScope st) .none kV doc pm an cdv ct) ⟨us, []⟩ = pure (ps.zip us)
theorem df_mk (X : K.In h) (G : h.Ns mainGlobals mg) (hb : BindsOf x x st ps) (a : nsIn K mainGlobals x = some (some (.ref f)))
    (l : K.lookup f = some ⟨oc, od, .func (fnOf x x (defArgs st) (defBody st) (defScope st) .none kV doc pm an cdv ct), sl⟩) (c : codeIn K cdv x = true) (k : keepIn K (.ref f) = true) : ∃ f fd, Df K mg x st ps f fd :=
  ⟨f, _, fun_mk l c k, (fun_mk l c k).binds hb, mg_of X G a⟩
theorem md_mk (hb : BindsOf x qual st ps) (a : findIn K (.ref C) x = some (some (.ref f))) (i : isFn K (.ref f) = true)
    (l : K.lookup f = some ⟨oc, od, .func (fnOf x qual (defArgs st) (defBody st) (defScope st) .none kV doc pm an cdv ct), sl⟩) (c : codeIn K cdv qual = true) (k : keepIn K (.ref f) = true) : ∃ f fd, Md K C x qual st ps f fd :=
  ⟨f, _, fun_mk l c k, (fun_mk l c k).binds hb, ⟨a, i, k⟩⟩
/-- an own class with its __init__ -/
theorem cl_mk (X : K.In h) (G : h.Ns mainGlobals mg) (hb : BindsOf "__init__" qual st ps) (a : nsIn K mainGlobals x = some (some (.ref C))) (ai : findIn K (.ref C) "__init__" = some (some (.ref f))) (i : isFn K (.ref f) = true)
    (l : K.lookup f = some ⟨oc, od, .func (fnOf "__init__" qual (defArgs st) (defBody st) (defScope st) .none kV doc pm an cdv ct), sl⟩) (c : codeIn K cdv qual = true) (k : keepIn K (.ref f) = true)
    (pg : plainGet K C Str.empty = true) (hd : hasDictIn K C = true) (po : plainOver K C = true) (sa : findIn K (.ref C) "__setattr__" = some (some (.builtin "object.__setattr__"))) (mk : makesIn K C = true) (kc : keepIn K (.ref C) = true) :
    ∃ fd, Cls K C ∧ Mk K C f ∧ mg x = some (.ref C) ∧ Fun K "__init__" qual st f fd ∧ Binds K fd ps [] :=
  ⟨_, ⟨pg, hd, po, sa⟩, ⟨mk, ai, i, kc⟩, mg_of X G a, fun_mk l c k, (fun_mk l c k).binds hb⟩
theorem xp_mk {N : Addr} {nm q : Str} {bs sub : List Value} {sn : List Str} {ab : Bool} {col : Option Bool} {dd od2 : Option Addr} {k0 k1 k2 k3 k5 : Option Value} {oc2 : Value} {n2 : Nat} {sl2 : Array (Option Value)} {es : Array DictEntry}
    (X : K.In h) (G : h.Ns mainGlobals mg) (hb : BindsOf "__init__" qual st ps) (a : nsIn K mainGlobals x = some (some (.ref C)))
    (lC : K.lookup C = some (excClassObj nm q C N bs Xl.BM true sn sub ab col dd k0 k1 k2 k3 k5 "Exception.__new__")) (lN : K.lookup N = some ⟨oc2, od2, .dict es n2, sl2⟩)
    (keys : (es.toList.all fun e => match e.key with | .str _ _ => true | _ => false) = true) (hi : nsFind es "__init__" = some (.ref f)) (sa : nsFind es "__setattr__" = none) (ga : nsFind es "__getattribute__" = none) (gg : nsFind es "__getattr__" = none) (fa : nsFind es "fault" = none) (re : nsFind es "refusal" = none)
    (l : K.lookup f = some ⟨.type "function", od, .func (fnOf "__init__" qual (defArgs st) (defBody st) (defScope st) .none kV doc pm an cdv ct), sl⟩) (c : codeIn K cdv qual = true) (k : keepIn K (.ref f) = true) (kc : keepIn K (.ref C) = true) :
    Xcp K mg C x qual st ps :=
  ⟨N, f, es, _, ⟨⟨_, _, _, _, _, _, _, _, _, _, _, _, _, lC⟩, ⟨_, _, _, _, lN⟩, keys, hi, sa, ga, gg, fa, re, ⟨_, _, _, l⟩, kc⟩, mg_of X G a, fun_mk l c k, (fun_mk l c k).binds hb⟩
theorem ci_mk {i : Int} {t : Tok} (X : K.In h) (G : h.Ns mainGlobals mg) (a : nsIn K mainGlobals x = some (some (.int i t))) : Cint mg x i := ⟨_, mg_of X G a, _, rfl⟩
theorem tp4_mk {a : Addr} {x1 x2 x3 x4 : Str} {t1 t2 t3 t4 : Tok} {n : Nat} (l : K.lookup a = some ⟨.type "tuple", od, .seq #[.str x1 t1, .str x2 t2, .str x3 t3, .str x4 t4] n, sl⟩) (H : Hp) : SqT K H a [.str x1, .str x2, .str x3, .str x4] :=
  .inr ⟨_, _, _, l, rfl, rfl, (by show 4 ≤ sizeLine; decide), .cons ⟨_, rfl⟩ (.cons ⟨_, rfl⟩ (.cons ⟨_, rfl⟩ (.cons ⟨_, rfl⟩ .nil)))⟩
theorem tp2_mk {a : Addr} {x1 x2 : Str} {t1 t2 : Tok} {n : Nat} (l : K.lookup a = some ⟨.type "tuple", od, .seq #[.str x1 t1, .str x2 t2] n, sl⟩) (H : Hp) : SqT K H a [.str x1, .str x2] :=
  .inr ⟨_, _, _, l, rfl, rfl, (by show 2 ≤ sizeLine; decide), .cons ⟨_, rfl⟩ (.cons ⟨_, rfl⟩ .nil)⟩
end
theorem fin_mk {P : Program} {w : World} {K : PySem.W.Frag} {h : Heap} {mg : Str → Option Value} {x : Str} {st : Stmt} {fa f : Addr} {ps : List Str} {sp : Sp} {kk : Nat} {oc kV doc pm cdv ct : Value} {od an : Option Addr} {sl : Array (Option Value)}
    (X : K.In h) (G : h.Ns mainGlobals mg) (hfa : mg x = some (.ref fa)) (ok : ∀ (base : Heap) (f : Addr) (fd : FuncData), Fun K x x st f fd → FnOk P w K mg base CX0 kk f fd ps sp)
    (hb : ∀ (kV doc pm : Value) (an : Option Addr) (cdv ct : Value) (s : Shared) (us : List Value), us.length = ps.length → BindsTo s (fnOf x x (defArgs st) (defBody st) (defScope st) .none kV doc pm an cdv ct) ⟨us, []⟩ (ps.zip us))
    (a : nsIn K mainGlobals x = some (some (.ref f))) (l : K.lookup f = some ⟨oc, od, .func (fnOf x x (defArgs st) (defBody st) (defScope st) .none kV doc pm an cdv ct), sl⟩) (c : codeIn K cdv x = true) (k : keepIn K (.ref f) = true) :
    ∃ fd : FuncData, (∀ (s : Shared) (us : List Value), us.length = ps.length → BindsTo s fd ⟨us, []⟩ (ps.zip us)) ∧ ∀ base : Heap, K.In base → base.Ns mainGlobals mg → FnOk P w K mg base CX0 kk fa fd ps sp := by
  have e := hfa.symm.trans (mg_of X G a)
  cases e
  exact ⟨_, hb kV doc pm an cdv ct, fun base _ _ => ok base _ _ (fun_mk l c k)⟩
end Fs

end

-- these names are taken ahead, so that the head of the last theorem writes no twins of its largest heaps: with them the compiled file would pass 64 MB
def PySem.W.Fast.tw4731986796345357842 : Nat := 0
def PySem.W.Fast.tw2160499975473623914 : Nat := 0
def PySem.W.Fast.tw15993776274354654631 : Nat := 0
def PySem.W.Fast.tw3048256434115024225 : Nat := 0
def PySem.W.Fast.tw7780679069528175240 : Nat := 0
def PySem.W.Fast.tw17611724238837586971 : Nat := 0
def PySem.W.Fast.tw15061296678045578595 : Nat := 0
def PySem.W.Fast.tw11964154791097190644 : Nat := 0
def PySem.W.Fast.tw2783579024285962198 : Nat := 0
def PySem.W.Fast.tw6337527644819364316 : Nat := 0
def PySem.W.Fast.tw16446840066488149489 : Nat := 0
def PySem.W.Fast.tw12251476302808227431 : Nat := 0
def PySem.W.Fast.tw16265795329410755284 : Nat := 0
def PySem.W.Fast.tw1734456693552650494 : Nat := 0
def PySem.W.Fast.tw16270609925638276596 : Nat := 0

open PySem PySem.W PyProof.Rows
set_option maxRecDepth 100000 in
set_option maxHeartbeats 0 in
theorem PySem.Challenge.cw_fieldsheets_s07_range_of_holds : PySem.Challenge.rw_fieldsheets_s07_range_of.Holds := by
  w_on; k_headS; (case hw => exact ⟨[.list [], .list []], by decide +kernel, by decide +kernel⟩)
  k_fillS
  refine L2.walk_specK (r := PySem.Challenge.rw_fieldsheets_s07_range_of) (k := 12) (CX := L2.CX0) (ps := ["t", "s"]) (sp := Fs.spRo) (by decide +kernel) rfl rfl ⟨rfl, by decide, by decide⟩ (fun w h Y => PySem.W.kIn_of Y) ?F ?S (fun _ _ _ _ z => z)
  case F =>
    intro w mg fa h Y KX G hmg
    obtain ⟨CN, CL, CX, xN, xL, xX, m0, m1, m2⟩ : ∃ CN CL CX : Addr, Fs.Xcp (Fs.KOf KX) mg CN "WrongInput" "WrongInput.__init__" Fs.sNI ["self"] ∧ Fs.Xcp (Fs.KOf KX) mg CL "TooLong" "TooLong.__init__" Fs.sLI ["self"] ∧ Fs.Xcp (Fs.KOf KX) mg CX "NotASheet" "NotASheet.__init__" Fs.sXI ["self", "fault"] ∧ PySem.W.exmAny (Fs.KOf KX) (.ref CN) [.ref CN, .ref CL, .ref CX] = some true ∧ PySem.W.exmAny (Fs.KOf KX) (.ref CL) [.ref CN, .ref CL, .ref CX] = some true ∧ PySem.W.exmAny (Fs.KOf KX) (.ref CX) [.ref CN, .ref CL, .ref CX] = some true := by
      dsimp only [Fs.KOf]
      refine' ⟨_, _, _, Fs.xp_mk KX G (fun _ _ _ _ _ _ us hl => match us, hl with | [_], _ => rfl) ?Na ?NlC ?NlN ?Nkeys ?Nhi ?Nsa ?Nga ?Ngg ?Nfa ?Nre ?Nl ?Nc ?Nk ?Nkc, Fs.xp_mk KX G (fun _ _ _ _ _ _ us hl => match us, hl with | [_], _ => rfl) ?La ?LlC ?LlN ?Lkeys ?Lhi ?Lsa ?Lga ?Lgg ?Lfa ?Lre ?Ll ?Lc ?Lk ?Lkc, Fs.xp_mk KX G (fun _ _ _ _ _ _ us hl => match us, hl with | [_, _], _ => rfl) ?Xa ?XlC ?XlN ?Xkeys ?Xhi ?Xsa ?Xga ?Xgg ?Xfa ?Xre ?Xl ?Xc ?Xk ?Xkc, ?m0, ?m1, ?m2⟩
      (case Na => k_is); (case NlC => k_is); (case NlN => k_is); (case Nkeys => rfl); (case Nhi => rfl); (case Nsa => rfl); (case Nga => rfl); (case Ngg => rfl); (case Nfa => rfl); (case Nre => rfl); (case Nl => k_is); (case Nc => k_is); (case Nk => k_is); (case Nkc => k_is)
      (case La => k_is); (case LlC => k_is); (case LlN => k_is); (case Lkeys => rfl); (case Lhi => rfl); (case Lsa => rfl); (case Lga => rfl); (case Lgg => rfl); (case Lfa => rfl); (case Lre => rfl); (case Ll => k_is); (case Lc => k_is); (case Lk => k_is); (case Lkc => k_is)
      (case Xa => k_is); (case XlC => k_is); (case XlN => k_is); (case Xkeys => rfl); (case Xhi => rfl); (case Xsa => rfl); (case Xga => rfl); (case Xgg => rfl); (case Xfa => rfl); (case Xre => rfl); (case Xl => k_is); (case Xc => k_is); (case Xk => k_is); (case Xkc => k_is)
      (case m0 => kts_exm); (case m1 => kts_exm); (case m2 => kts_exm)
    obtain ⟨NX, fXI, es, dXI, xc, mX, xi, bxi⟩ := xX.ex
    obtain ⟨CS, fSI, ⟨dSI, clS, mkS, mS, si, bsi⟩, nSn, nSf, nSw, nSh, nSd⟩ : ∃ (C f : Addr), (∃ fd, L2.Cls (Fs.KOf KX) C ∧ L2.Mk (Fs.KOf KX) C f ∧ mg "Sheet" = some (.ref C) ∧ L2.Fun (Fs.KOf KX) "__init__" "Sheet.__init__" Fs.sSI f fd ∧ L2.Binds (Fs.KOf KX) fd ["self", "name", "frames", "width", "height", "dials"] []) ∧ L2.NoAttr (Fs.KOf KX) C "name" ∧ L2.NoAttr (Fs.KOf KX) C "frames" ∧ L2.NoAttr (Fs.KOf KX) C "width" ∧ L2.NoAttr (Fs.KOf KX) C "height" ∧ L2.NoAttr (Fs.KOf KX) C "dials" := by
      dsimp only [Fs.KOf]
      refine' ⟨_, _, Fs.cl_mk KX G (fun _ _ _ _ _ _ us hl => match us, hl with | [_, _, _, _, _, _], _ => rfl) ?a ?ai ?i ?l ?c ?k ?pg ?hd ?po ?sa ?mk ?kc, ?n0, ?n1, ?n2, ?n3, ?n4⟩
      (case a => k_is); (case ai => k_is); (case i => k_is); (case l => k_is); (case c => k_is); (case k => k_is); (case pg => k_is); (case hd => k_is); (case po => k_is); (case sa => k_is); (case mk => k_is); (case kc => k_is); (case n0 => exact show PySem.W.findIn _ _ _ = _ from by k_is); (case n1 => exact show PySem.W.findIn _ _ _ = _ from by k_is); (case n2 => exact show PySem.W.findIn _ _ _ = _ from by k_is); (case n3 => exact show PySem.W.findIn _ _ _ = _ from by k_is); (case n4 => exact show PySem.W.findIn _ _ _ = _ from by k_is)
    obtain ⟨CD, fDI, ⟨dDI, clD, mkD, mD, di, bdi⟩, nDn, nDf, nDm⟩ : ∃ (C f : Addr), (∃ fd, L2.Cls (Fs.KOf KX) C ∧ L2.Mk (Fs.KOf KX) C f ∧ mg "Dial" = some (.ref C) ∧ L2.Fun (Fs.KOf KX) "__init__" "Dial.__init__" Fs.sDI f fd ∧ L2.Binds (Fs.KOf KX) fd ["self", "name", "first", "moves"] []) ∧ L2.NoAttr (Fs.KOf KX) C "name" ∧ L2.NoAttr (Fs.KOf KX) C "first" ∧ L2.NoAttr (Fs.KOf KX) C "moves" := by
      dsimp only [Fs.KOf]
      refine' ⟨_, _, Fs.cl_mk KX G (fun _ _ _ _ _ _ us hl => match us, hl with | [_, _, _, _], _ => rfl) ?a ?ai ?i ?l ?c ?k ?pg ?hd ?po ?sa ?mk ?kc, ?n0, ?n1, ?n2⟩
      (case a => k_is); (case ai => k_is); (case i => k_is); (case l => k_is); (case c => k_is); (case k => k_is); (case pg => k_is); (case hd => k_is); (case po => k_is); (case sa => k_is); (case mk => k_is); (case kc => k_is); (case n0 => exact show PySem.W.findIn _ _ _ = _ from by k_is); (case n1 => exact show PySem.W.findIn _ _ _ = _ from by k_is); (case n2 => exact show PySem.W.findIn _ _ _ = _ from by k_is)
    obtain ⟨CR, fRI, ⟨dRI, clR, mkR, mR, ri, bri⟩, nT, nAt, ⟨fAE, dAE, hae⟩, ⟨fPk, dPk, hpk⟩, ⟨fAd, dAd, had⟩, ⟨fCo, dCo, hco⟩, ⟨fTk, dTk, htk⟩⟩ : ∃ (C f : Addr), (∃ fd, L2.Cls (Fs.KOf KX) C ∧ L2.Mk (Fs.KOf KX) C f ∧ mg "Reader" = some (.ref C) ∧ L2.Fun (Fs.KOf KX) "__init__" "Reader.__init__" Fs.sRI f fd ∧ L2.Binds (Fs.KOf KX) fd ["self", "t"] []) ∧ L2.NoAttr (Fs.KOf KX) C "t" ∧ L2.NoAttr (Fs.KOf KX) C "at" ∧ (∃ f fd, Fs.Md (Fs.KOf KX) C "at_end" "Reader.at_end" Fs.sAE ["self"] f fd) ∧ (∃ f fd, Fs.Md (Fs.KOf KX) C "peek" "Reader.peek" Fs.sPk ["self"] f fd) ∧ (∃ f fd, Fs.Md (Fs.KOf KX) C "advance" "Reader.advance" Fs.sAd ["self"] f fd) ∧ (∃ f fd, Fs.Md (Fs.KOf KX) C "comes" "Reader.comes" Fs.sCo ["self", "sign"] f fd) ∧ (∃ f fd, Fs.Md (Fs.KOf KX) C "take" "Reader.take" Fs.sTk ["self", "word"] f fd) := by
      dsimp only [Fs.KOf]
      refine' ⟨_, _, Fs.cl_mk KX G (fun _ _ _ _ _ _ us hl => match us, hl with | [_, _], _ => rfl) ?a ?ai ?i ?l ?c ?k ?pg ?hd ?po ?sa ?mk ?kc, ?n0, ?n1, Fs.md_mk (fun _ _ _ _ _ _ us hl => match us, hl with | [_], _ => rfl) ?aea ?aei ?ael ?aec ?aek, Fs.md_mk (fun _ _ _ _ _ _ us hl => match us, hl with | [_], _ => rfl) ?pka ?pki ?pkl ?pkc ?pkk, Fs.md_mk (fun _ _ _ _ _ _ us hl => match us, hl with | [_], _ => rfl) ?ada ?adi ?adl ?adc ?adk, Fs.md_mk (fun _ _ _ _ _ _ us hl => match us, hl with | [_, _], _ => rfl) ?coa ?coi ?col ?coc ?cok, Fs.md_mk (fun _ _ _ _ _ _ us hl => match us, hl with | [_, _], _ => rfl) ?tka ?tki ?tkl ?tkc ?tkk⟩
      (case a => k_is); (case ai => k_is); (case i => k_is); (case l => k_is); (case c => k_is); (case k => k_is); (case pg => k_is); (case hd => k_is); (case po => k_is); (case sa => k_is); (case mk => k_is); (case kc => k_is); (case n0 => exact show PySem.W.findIn _ _ _ = _ from by k_is); (case n1 => exact show PySem.W.findIn _ _ _ = _ from by k_is); (case aea => k_is); (case aei => k_is); (case ael => k_is); (case aec => k_is); (case aek => k_is); (case pka => k_is); (case pki => k_is); (case pkl => k_is); (case pkc => k_is); (case pkk => k_is); (case ada => k_is); (case adi => k_is); (case adl => k_is); (case adc => k_is); (case adk => k_is); (case coa => k_is); (case coi => k_is); (case col => k_is); (case coc => k_is); (case cok => k_is); (case tka => k_is); (case tki => k_is); (case tkl => k_is); (case tkc => k_is); (case tkk => k_is)
    obtain ⟨fBo, dBo, hbo⟩ : ∃ f fd, Fs.Df (Fs.KOf KX) mg "bytes_of" Fs.sBo ["word"] f fd := by
      dsimp only [Fs.KOf]
      refine' Fs.df_mk KX G (fun _ _ _ _ _ _ us hl => match us, hl with | [_], _ => rfl) ?a ?l ?c ?k
      (case a => k_is); (case l => k_is); (case c => k_is); (case k => k_is)
    obtain ⟨fIl, dIl, hil⟩ : ∃ f fd, Fs.Df (Fs.KOf KX) mg "is_letter" Fs.sIl ["byte"] f fd := by
      dsimp only [Fs.KOf]
      refine' Fs.df_mk KX G (fun _ _ _ _ _ _ us hl => match us, hl with | [_], _ => rfl) ?a ?l ?c ?k
      (case a => k_is); (case l => k_is); (case c => k_is); (case k => k_is)
    obtain ⟨fIg, dIg, hig⟩ : ∃ f fd, Fs.Df (Fs.KOf KX) mg "is_digit" Fs.sIg ["byte"] f fd := by
      dsimp only [Fs.KOf]
      refine' Fs.df_mk KX G (fun _ _ _ _ _ _ us hl => match us, hl with | [_], _ => rfl) ?a ?l ?c ?k
      (case a => k_is); (case l => k_is); (case c => k_is); (case k => k_is)
    obtain ⟨fNm, dNm, hnm⟩ : ∃ f fd, Fs.Df (Fs.KOf KX) mg "is_name" Fs.sNm ["part"] f fd := by
      dsimp only [Fs.KOf]
      refine' Fs.df_mk KX G (fun _ _ _ _ _ _ us hl => match us, hl with | [_], _ => rfl) ?a ?l ?c ?k
      (case a => k_is); (case l => k_is); (case c => k_is); (case k => k_is)
    obtain ⟨fDn, dDn, hdn⟩ : ∃ f fd, Fs.Df (Fs.KOf KX) mg "is_dial_name" Fs.sDn ["part"] f fd := by
      dsimp only [Fs.KOf]
      refine' Fs.df_mk KX G (fun _ _ _ _ _ _ us hl => match us, hl with | [_], _ => rfl) ?a ?l ?c ?k
      (case a => k_is); (case l => k_is); (case c => k_is); (case k => k_is)
    obtain ⟨fBf, dBf, hbf⟩ : ∃ f fd, Fs.Df (Fs.KOf KX) mg "begins_free_dial" Fs.sBf ["part", "used"] f fd := by
      dsimp only [Fs.KOf]
      refine' Fs.df_mk KX G (fun _ _ _ _ _ _ us hl => match us, hl with | [_, _], _ => rfl) ?a ?l ?c ?k
      (case a => k_is); (case l => k_is); (case c => k_is); (case k => k_is)
    obtain ⟨fLm, dLm, hlm⟩ : ∃ f fd, Fs.Df (Fs.KOf KX) mg "least_and_most" Fs.sLm ["dial_name"] f fd := by
      dsimp only [Fs.KOf]
      refine' Fs.df_mk KX G (fun _ _ _ _ _ _ us hl => match us, hl with | [_], _ => rfl) ?a ?l ?c ?k
      (case a => k_is); (case l => k_is); (case c => k_is); (case k => k_is)
    obtain ⟨fCb, dCb, hcb⟩ : ∃ f fd, Fs.Df (Fs.KOf KX) mg "can_become" Fs.sCb ["number", "least", "most"] f fd := by
      dsimp only [Fs.KOf]
      refine' Fs.df_mk KX G (fun _ _ _ _ _ _ us hl => match us, hl with | [_, _, _], _ => rfl) ?a ?l ?c ?k
      (case a => k_is); (case l => k_is); (case c => k_is); (case k => k_is)
    obtain ⟨fRg, dRg, hrg⟩ : ∃ f fd, Fs.Df (Fs.KOf KX) mg "read_digits" Fs.sRg ["reader", "least", "most"] f fd := by
      dsimp only [Fs.KOf]
      refine' Fs.df_mk KX G (fun _ _ _ _ _ _ us hl => match us, hl with | [_, _, _], _ => rfl) ?a ?l ?c ?k
      (case a => k_is); (case l => k_is); (case c => k_is); (case k => k_is)
    obtain ⟨fRn, dRn, hrn⟩ : ∃ f fd, Fs.Df (Fs.KOf KX) mg "read_number" Fs.sRn ["reader", "least", "most"] f fd := by
      dsimp only [Fs.KOf]
      refine' Fs.df_mk KX G (fun _ _ _ _ _ _ us hl => match us, hl with | [_, _, _], _ => rfl) ?a ?l ?c ?k
      (case a => k_is); (case l => k_is); (case c => k_is); (case k => k_is)
    obtain ⟨fRa, dRa, hra⟩ : ∃ f fd, Fs.Df (Fs.KOf KX) mg "read_name" Fs.sRa ["reader"] f fd := by
      dsimp only [Fs.KOf]
      refine' Fs.df_mk KX G (fun _ _ _ _ _ _ us hl => match us, hl with | [_], _ => rfl) ?a ?l ?c ?k
      (case a => k_is); (case l => k_is); (case c => k_is); (case k => k_is)
    obtain ⟨fRd, dRd, hrd⟩ : ∃ f fd, Fs.Df (Fs.KOf KX) mg "read_dial_name" Fs.sRd ["reader", "used"] f fd := by
      dsimp only [Fs.KOf]
      refine' Fs.df_mk KX G (fun _ _ _ _ _ _ us hl => match us, hl with | [_, _], _ => rfl) ?a ?l ?c ?k
      (case a => k_is); (case l => k_is); (case c => k_is); (case k => k_is)
    obtain ⟨fRe, dRe, hre⟩ : ∃ f fd, Fs.Df (Fs.KOf KX) mg "read_ease" Fs.sRe ["reader"] f fd := by
      dsimp only [Fs.KOf]
      refine' Fs.df_mk KX G (fun _ _ _ _ _ _ us hl => match us, hl with | [_], _ => rfl) ?a ?l ?c ?k
      (case a => k_is); (case l => k_is); (case c => k_is); (case k => k_is)
    obtain ⟨fMv, dMv, hmv⟩ : ∃ f fd, Fs.Df (Fs.KOf KX) mg "read_move" Fs.sMv ["reader", "earliest", "frames", "bounds"] f fd := by
      dsimp only [Fs.KOf]
      refine' Fs.df_mk KX G (fun _ _ _ _ _ _ us hl => match us, hl with | [_, _, _, _], _ => rfl) ?a ?l ?c ?k
      (case a => k_is); (case l => k_is); (case c => k_is); (case k => k_is)
    obtain ⟨fMs, dMs, hms⟩ : ∃ f fd, Fs.Df (Fs.KOf KX) mg "read_moves" Fs.sMs ["reader", "frames", "bounds"] f fd := by
      dsimp only [Fs.KOf]
      refine' Fs.df_mk KX G (fun _ _ _ _ _ _ us hl => match us, hl with | [_, _, _], _ => rfl) ?a ?l ?c ?k
      (case a => k_is); (case l => k_is); (case c => k_is); (case k => k_is)
    obtain ⟨fDl, dDl, hdl⟩ : ∃ f fd, Fs.Df (Fs.KOf KX) mg "read_dial" Fs.sDl ["reader", "frames", "used"] f fd := by
      dsimp only [Fs.KOf]
      refine' Fs.df_mk KX G (fun _ _ _ _ _ _ us hl => match us, hl with | [_, _, _], _ => rfl) ?a ?l ?c ?k
      (case a => k_is); (case l => k_is); (case c => k_is); (case k => k_is)
    obtain ⟨fDs, dDs, hds⟩ : ∃ f fd, Fs.Df (Fs.KOf KX) mg "read_dials" Fs.sDs ["reader", "frames"] f fd := by
      dsimp only [Fs.KOf]
      refine' Fs.df_mk KX G (fun _ _ _ _ _ _ us hl => match us, hl with | [_, _], _ => rfl) ?a ?l ?c ?k
      (case a => k_is); (case l => k_is); (case c => k_is); (case k => k_is)
    obtain ⟨fSh, dSh, hsh⟩ : ∃ f fd, Fs.Df (Fs.KOf KX) mg "read_sheet" Fs.sSh ["t"] f fd := by
      dsimp only [Fs.KOf]
      refine' Fs.df_mk KX G (fun _ _ _ _ _ _ us hl => match us, hl with | [_], _ => rfl) ?a ?l ?c ?k
      (case a => k_is); (case l => k_is); (case c => k_is); (case k => k_is)
    obtain ⟨fRt, dRt, hrt⟩ : ∃ f fd, Fs.Df (Fs.KOf KX) mg "read_text" Fs.sRt ["t"] f fd := by
      dsimp only [Fs.KOf]
      refine' Fs.df_mk KX G (fun _ _ _ _ _ _ us hl => match us, hl with | [_], _ => rfl) ?a ?l ?c ?k
      (case a => k_is); (case l => k_is); (case c => k_is); (case k => k_is)
    obtain ⟨fSr, dSr, hsr⟩ : ∃ f fd, Fs.Df (Fs.KOf KX) mg "share" Fs.sSr ["ease", "n", "i"] f fd := by
      dsimp only [Fs.KOf]
      refine' Fs.df_mk KX G (fun _ _ _ _ _ _ us hl => match us, hl with | [_, _, _], _ => rfl) ?a ?l ?c ?k
      (case a => k_is); (case l => k_is); (case c => k_is); (case k => k_is)
    obtain ⟨fNe, dNe, hne⟩ : ∃ f fd, Fs.Df (Fs.KOf KX) mg "nearest" Fs.sNe ["a", "q"] f fd := by
      dsimp only [Fs.KOf]
      refine' Fs.df_mk KX G (fun _ _ _ _ _ _ us hl => match us, hl with | [_, _], _ => rfl) ?a ?l ?c ?k
      (case a => k_is); (case l => k_is); (case c => k_is); (case k => k_is)
    obtain ⟨fEd, dEd, hed⟩ : ∃ f fd, Fs.Df (Fs.KOf KX) mg "eased" Fs.sEd ["ease", "n", "i", "a", "b"] f fd := by
      dsimp only [Fs.KOf]
      refine' Fs.df_mk KX G (fun _ _ _ _ _ _ us hl => match us, hl with | [_, _, _, _, _], _ => rfl) ?a ?l ?c ?k
      (case a => k_is); (case l => k_is); (case c => k_is); (case k => k_is)
    obtain ⟨fVd, dVd, hvd⟩ : ∃ f fd, Fs.Df (Fs.KOf KX) mg "value_of_dial" Fs.sVd ["dial", "f"] f fd := by
      dsimp only [Fs.KOf]
      refine' Fs.df_mk KX G (fun _ _ _ _ _ _ us hl => match us, hl with | [_, _], _ => rfl) ?a ?l ?c ?k
      (case a => k_is); (case l => k_is); (case c => k_is); (case k => k_is)
    obtain ⟨fUv, dUv, huv⟩ : ∃ f fd, Fs.Df (Fs.KOf KX) mg "usual_value" Fs.sUv ["sheet", "dial_name"] f fd := by
      dsimp only [Fs.KOf]
      refine' Fs.df_mk KX G (fun _ _ _ _ _ _ us hl => match us, hl with | [_, _], _ => rfl) ?a ?l ?c ?k
      (case a => k_is); (case l => k_is); (case c => k_is); (case k => k_is)
    obtain ⟨fVa, dVa, hva⟩ : ∃ f fd, Fs.Df (Fs.KOf KX) mg "value_at" Fs.sVa ["sheet", "dial_name", "f"] f fd := by
      dsimp only [Fs.KOf]
      refine' Fs.df_mk KX G (fun _ _ _ _ _ _ us hl => match us, hl with | [_, _, _], _ => rfl) ?a ?l ?c ?k
      (case a => k_is); (case l => k_is); (case c => k_is); (case k => k_is)
    obtain ⟨fCd, dCd, hcd⟩ : ∃ f fd, Fs.Df (Fs.KOf KX) mg "check_dial_name" Fs.sCd ["s"] f fd := by
      dsimp only [Fs.KOf]
      refine' Fs.df_mk KX G (fun _ _ _ _ _ _ us hl => match us, hl with | [_], _ => rfl) ?a ?l ?c ?k
      (case a => k_is); (case l => k_is); (case c => k_is); (case k => k_is)
    obtain ⟨fLg, dLg, hlg⟩ : ∃ f fd, Fs.Df (Fs.KOf KX) mg "least_and_greatest" Fs.sLg ["sheet", "dial_name"] f fd := by
      dsimp only [Fs.KOf]
      refine' Fs.df_mk KX G (fun _ _ _ _ _ _ us hl => match us, hl with | [_, _], _ => rfl) ?a ?l ?c ?k
      (case a => k_is); (case l => k_is); (case c => k_is); (case k => k_is)
    have cNB : Fs.Cint mg "NO_BYTE" (-1) := by
      refine' Fs.ci_mk KX G ?a
      (case a => k_is)
    have cMF : Fs.Cint mg "MOST_FRAMES" 1024 := by
      refine' Fs.ci_mk KX G ?a
      (case a => k_is)
    have cLS : Fs.Cint mg "LONGEST_SIDE" 256 := by
      refine' Fs.ci_mk KX G ?a
      (case a => k_is)
    have cLN : Fs.Cint mg "LONGEST_NAME" 16 := by
      refine' Fs.ci_mk KX G ?a
      (case a => k_is)
    have cMD : Fs.Cint mg "MOST_DIALS" 32 := by
      refine' Fs.ci_mk KX G ?a
      (case a => k_is)
    have cMM : Fs.Cint mg "MOST_MOVES" 64 := by
      refine' Fs.ci_mk KX G ?a
      (case a => k_is)
    have cLT : Fs.Cint mg "LONGEST_TEXT" 65536 := by
      refine' Fs.ci_mk KX G ?a
      (case a => k_is)
    have cMZ : Fs.Cint mg "MOST_ZOOM" 256 := by
      refine' Fs.ci_mk KX G ?a
      (case a => k_is)
    have cML : Fs.Cint mg "MOST_LIGHT" 64 := by
      refine' Fs.ci_mk KX G ?a
      (case a => k_is)
    have cLV : Fs.Cint mg "LEAST_VALUE" (-9999) := by
      refine' Fs.ci_mk KX G ?a
      (case a => k_is)
    have cMV : Fs.Cint mg "MOST_VALUE" 9999 := by
      refine' Fs.ci_mk KX G ?a
      (case a => k_is)
    have cEV : Fs.Cint mg "EVEN" 0 := by
      refine' Fs.ci_mk KX G ?a
      (case a => k_is)
    have cIN : Fs.Cint mg "IN" 1 := by
      refine' Fs.ci_mk KX G ?a
      (case a => k_is)
    have cOU : Fs.Cint mg "OUT" 2 := by
      refine' Fs.ci_mk KX G ?a
      (case a => k_is)
    have cUZ : Fs.Cint mg "USUAL_ZOOM" 64 := by
      refine' Fs.ci_mk KX G ?a
      (case a => k_is)
    have cUL : Fs.Cint mg "USUAL_LIGHT" 64 := by
      refine' Fs.ci_mk KX G ?a
      (case a => k_is)
    have len_ : mg "len" = none := by
      refine' PySem.W.mg_none_of KX G ?a
      (case a => k_is)
    have ord_ : mg "ord" = none := by
      refine' PySem.W.mg_none_of KX G ?a
      (case a => k_is)
    have all_ : mg "all" = none := by
      refine' PySem.W.mg_none_of KX G ?a
      (case a => k_is)
    have max_ : mg "max" = none := by
      refine' PySem.W.mg_none_of KX G ?a
      (case a => k_is)
    have enu : mg "enumerate" = none := by
      refine' PySem.W.mg_none_of KX G ?a
      (case a => k_is)
    have tup_ : mg "tuple" = none := by
      refine' PySem.W.mg_none_of KX G ?a
      (case a => k_is)
    have rng : mg "range" = none := by
      refine' PySem.W.mg_none_of KX G ?a
      (case a => k_is)
    have min_ : mg "min" = none := by
      refine' PySem.W.mg_none_of KX G ?a
      (case a => k_is)
    obtain ⟨aPl, mPl, tPl⟩ : ∃ a, mg "PLAIN_DIALS" = some (.ref a) ∧ ∀ H, L2.SqT (Fs.KOf KX) H a [.str "x", .str "y", .str "zoom", .str "light"] := by
      dsimp only [Fs.KOf]
      refine' ⟨_, PySem.W.mg_of KX G ?a, Fs.tp4_mk ?l⟩
      (case a => k_is); (case l => k_is)
    obtain ⟨aLe, mLe, tLe⟩ : ∃ a, mg "LEVEL_ENDINGS" = some (.ref a) ∧ ∀ H, L2.SqT (Fs.KOf KX) H a [.str ".x", .str ".y"] := by
      dsimp only [Fs.KOf]
      refine' ⟨_, PySem.W.mg_of KX G ?a, Fs.tp2_mk ?l⟩
      (case a => k_is); (case l => k_is)
    obtain ⟨aEa, mEa, tEa⟩ : ∃ a, mg "EASES" = some (.ref a) ∧ ∀ H, L2.SqT (Fs.KOf KX) H a [.str "even", .str "in", .str "out", .str "both"] := by
      dsimp only [Fs.KOf]
      refine' ⟨_, PySem.W.mg_of KX G ?a, Fs.tp4_mk ?l⟩
      (case a => k_is); (case l => k_is)
    have T : Fs.Txt ⟨CX, CL, 0, CN, CD, NX, CS, CR, es, fXI, fSI, fDI, fRI, fAE, fPk, fAd, fCo, fTk, fBo, fIl, fIg, fNm, fDn, fBf, fLm, fCb, fRg, fRn, fRa, fRd, fRe, fMv, fMs, fDl, fDs, fSh, fRt, dXI, dSI, dDI, dRI, dAE, dPk, dAd, dCo, dTk, dBo, dIl, dIg, dNm, dDn, dBf, dLm, dCb, dRg, dRn, dRa, dRd, dRe, dMv, dMs, dDl, dDs, dSh, dRt, aPl, aLe, aEa⟩ (Fs.KOf KX) mg := ⟨xc, mX, xi, bxi, xL, clS, mkS, mS, si, bsi, nSn, nSf, nSw, nSh, nSd, clD, mkD, mD, di, bdi, nDn, nDf, nDm, clR, mkR, mR, ri, bri, nT, nAt, hae, hpk, had, hco, htk, hbo, hil, hig, hnm, hdn, hbf, hlm, hcb, hrg, hrn, hra, hrd, hre, hmv, hms, hdl, hds, hsh, hrt, len_, ord_, all_, max_, enu, tup_, cNB, cMF, cLS, cLN, cMD, cMM, cLT, cMZ, cML, cLV, cMV, mPl, mLe, mEa, tPl, tLe, tEa⟩
    refine' Fs.fin_mk (st := Fs.sRo) KX G hmg (fun base f fd F => Fs.ok_ro T xN ⟨m0, m1, m2⟩ ⟨⟨cEV, cIN, cOU, ⟨_, _, hsr⟩, ⟨_, _, hne⟩, ⟨_, _, hed⟩⟩, cUZ, cUL, ⟨_, _, hvd⟩, ⟨_, _, huv⟩, ⟨_, _, hva⟩⟩ rng min_ hcd hlg F) (fun _ _ _ _ _ _ s us hu => match us, hu with | [_, _], _ => .of_eq rfl) ?a ?l ?c ?k
    (case a => k_is); (case l => k_is); (case c => k_is); (case k => k_is)
  case S =>
    intro K H xs a hO hwi hask hx
    cases hx with
    | cons h0 r0 =>
      cases r0 with
      | cons h1 r1 =>
        cases r1
        cases h0 with
        | lst hs0 ha0 =>
          have e0 := L2.ints_dw a.1 _ ha0
          subst e0
          cases h1 with
          | lst hs1 ha1 =>
            have e1 := L2.ints_dw a.2.1 _ ha1
            subst e1
            have q : ((Codec.inLen 0 66000 a.1 && a.1.all (Codec.inInt 0 255)) && ((Codec.inLen 0 100 a.2.1 && a.2.1.all (Codec.inInt 0 255)) && true)) = true := hwi
            simp only [Bool.and_eq_true] at q
            exact ⟨_, _, a.1, a.2.1, rfl, hs0, fun z hz => Codec.inInt_iff.mp (List.all_eq_true.mp q.1.2 z hz), hs1, fun z hz => Codec.inInt_iff.mp (List.all_eq_true.mp q.2.1.2 z hz), fun H' p hp => .lst (L2.SqL.of hp) (L2.dw_ints _)⟩
