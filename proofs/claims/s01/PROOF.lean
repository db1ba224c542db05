import PyProof.Rows.All
import Wide.All
import OpenK.AllK
import Wide.FinOn
import PyProof.EqAt
import PyProof.EqKinds
import PyProof.TupleCall
import KE.BitLaws
import Open.SpecLaws
import KE.OsHead
import KE.OsGo
import KE.RegMulBits
import PyRc49
import PySem.Challenge.RW_hiddenstates_s01_answers
section
-- CHANGE: your row's module here, as the last of these rows
set_option Elab.async false
set_option linter.all false
set_option maxRecDepth 100000
/-! THE HAND LAYER, for ints, bools, texts, own classes, lists, tuples, dicts, comprehensions, walks over dicts, enumerate, zip, reversed, texts, calls, loops. Paste it whole ahead of your own text; what your proof does not reach may be deleted. -/
namespace L2
open PySem PySem.Spec PyProof.Rows

/-- a key: an int or a str -/
abbrev Key := Sum Int Str
def keyIs : Key → Value → Bool
  | .inl k, v => Value.isInt k v
  | .inr x, v => Value.isStrOf x v
def keyH (w : World) : Key → Int
  | .inl k => hashInt k
  | .inr x => hashStr w x
theorem keyIs_shape : ∀ {k : Key} {v : Value}, keyIs k v = true → (∃ i t, k = Sum.inl i ∧ v = Value.int i t) ∨ (∃ x t, k = Sum.inr x ∧ v = Value.str x t)
  | .inl i, v, h => by
    obtain ⟨t, e⟩ := Value.isInt_shape (k := i) (v := v) h
    exact .inl ⟨i, t, rfl, e⟩
  | .inr x, v, h => by
    obtain ⟨t, e⟩ := Value.isStrOf_shape (x := x) (v := v) h
    exact .inr ⟨x, t, rfl, e⟩
theorem key_ll (a b : Int) : decide ((Sum.inl a : Key) = Sum.inl b) = (a == b) := by
  by_cases e : a = b
  · subst e; simp
  · have h : ¬ (Sum.inl a : Key) = Sum.inl b := fun q => e (Sum.inl.inj q)
    rw [decide_eq_false h]
    exact (beq_eq_false_iff_ne.mpr e).symm
theorem key_rr (a b : Str) : decide ((Sum.inr a : Key) = Sum.inr b) = decide (a = b) := by
  by_cases e : a = b
  · subst e; simp
  · have h : ¬ (Sum.inr a : Key) = Sum.inr b := fun q => e (Sum.inr.inj q)
    rw [decide_eq_false h, decide_eq_false e]
theorem key_lr (a : Int) (b : Str) : decide ((Sum.inl a : Key) = Sum.inr b) = false := decide_eq_false (fun q => nomatch q)
theorem key_rl (a : Str) (b : Int) : decide ((Sum.inr a : Key) = Sum.inl b) = false := decide_eq_false (fun q => nomatch q)

def mixKind (prog : Program) (w : World) : PySem.KeyKind prog w Key where
  is := keyIs
  hash := keyH w
  inj := fun v a b ha hb => by
    rcases keyIs_shape ha with ⟨i, t, rfl, rfl⟩ | ⟨x, t, rfl, rfl⟩
    · rcases keyIs_shape hb with ⟨j, u, rfl, e⟩ | ⟨y, u, rfl, e⟩
      · injection e with e1 _; rw [e1]
      · exact nomatch e
    · rcases keyIs_shape hb with ⟨j, u, rfl, e⟩ | ⟨y, u, rfl, e⟩
      · exact nomatch e
      · injection e with e1 _; rw [e1]
  byValue := fun k v h => by
    rcases keyIs_shape h with ⟨i, t, rfl, rfl⟩ | ⟨x, t, rfl, rfl⟩ <;> rfl
  pyHash := fun hv h => by
    rcases keyIs_shape hv with ⟨i, t, rfl, rfl⟩ | ⟨x, t, rfl, rfl⟩
    · exact wpAny_pyHash_int h
    · exact wpAny_pyHash_str h
  eqBool := fun hu hv h => by
    rcases keyIs_shape hu with ⟨i, t, rfl, rfl⟩ | ⟨x, t, rfl, rfl⟩
    · rcases keyIs_shape hv with ⟨j, u, rfl, rfl⟩ | ⟨y, u, rfl, rfl⟩
      · rw [key_ll] at h; exact wpAny_eqBool_int h
      · rw [key_lr] at h; exact SeqAt.EqAt.int_str i t y u _ _ _ _ h
    · rcases keyIs_shape hv with ⟨j, u, rfl, rfl⟩ | ⟨y, u, rfl, rfl⟩
      · rw [key_rl] at h; exact SeqAt.EqAt.str_int x t j u _ _ _ _ h
      · rw [key_rr] at h; exact wpAny_eqBool_str h
  «strs» := fun k x t v h => by
    rcases keyIs_shape h with ⟨i, u, rfl, e⟩ | ⟨y, u, rfl, e⟩
    · exact nomatch e
    · injection e with e1 _
      subst e1
      cases v <;> rfl

end L2

namespace L2
open PySem PySem.Spec PyProof.Rows

/-- a value, without the heap -/
inductive V where
  | non | bl (b : Bool) | int (i : Int) | str (x : Str) | byt (b : Array UInt8) | flt (b : UInt64) | ref (a : Addr) | ty (n : String)
  deriving DecidableEq

def RelV : V → Value → Prop
  | .non, u => u = Value.none
  | .bl b, u => u = Value.bool b
  | .int i, u => ∃ t, u = Value.int i t
  | .str x, u => ∃ t, u = Value.str x t
  | .byt b, u => ∃ t, u = Value.bytes b t
  | .flt b, u => ∃ t, u = Value.float b t
  | .ref a, u => u = Value.ref a
  | .ty n, u => u = Value.type n

abbrev Vals : List V → List Value → Prop := Paired RelV
theorem Vals.length {xs : List V} {us : List Value} (r : Vals xs us) : xs.length = us.length := Paired.length r
theorem Vals.get : ∀ {xs : List V} {us : List Value} {i : Nat} {x : V}, Vals xs us → xs[i]? = some x → ∃ u, us[i]? = some u ∧ RelV x u
  | _, _, _, _, .nil, e => by simp at e
  | _, _, 0, _, .cons r _, e => by simp at e; subst e; exact ⟨_, rfl, r⟩
  | _, _, i + 1, x, .cons _ t, e => by
    obtain ⟨u, h1, h2⟩ := Vals.get (i := i) (x := x) t (by simpa using e)
    exact ⟨u, by simpa using h1, h2⟩
theorem Vals.set {x : V} {u : Value} (r : RelV x u) : ∀ {xs : List V} {us : List Value} (i : Nat), Vals xs us → Vals (xs.set i x) (us.set i u)
  | _, _, _, .nil => .nil
  | _, _, 0, .cons _ t => .cons r t
  | _, _, i + 1, .cons q t => .cons q (Vals.set r i t)
theorem Vals.append : ∀ {xs ys : List V} {us ws : List Value}, Vals xs us → Vals ys ws → Vals (xs ++ ys) (us ++ ws)
  | _, _, _, _, .nil, s => s
  | _, _, _, _, .cons r t, s => .cons r (Vals.append t s)
theorem Vals.take : ∀ {xs : List V} {us : List Value} (n : Nat), Vals xs us → Vals (xs.take n) (us.take n)
  | _, _, 0, _ => .nil
  | _, _, _ + 1, .nil => .nil
  | _, _, n + 1, .cons r t => .cons r (Vals.take n t)
theorem Vals.drop : ∀ {xs : List V} {us : List Value} (n : Nat), Vals xs us → Vals (xs.drop n) (us.drop n)
  | _, _, 0, r => r
  | _, _, _ + 1, .nil => .nil
  | _, _, n + 1, .cons _ t => Vals.drop n t
def RelO : Option V → Option Value → Prop
  | some v, some u => RelV v u
  | none, none => True
  | _, _ => False
def KV {κ : Type} : List (κ × V) → List (κ × Value) → Prop := Paired fun (p : κ × V) (q : κ × Value) => p.1 = q.1 ∧ RelV p.2 q.2

/-- a key of a dict (00_mix): an int or a text -/
def kV : Key → V
  | .inl i => .int i
  | .inr x => .str x

/-- what stands at a tracked address -/
inductive HO where
  /-- a list -/
  | lst (xs : List V)
  /-- a tuple (never changes) -/
  | tup (xs : List V)
  /-- a dict whose keys are ints and texts; one whose keys are tuples of ints and texts (the empty one is both) -/
  | dK (kvs : List (Key × V)) | dT (kvs : List (List Key × V))
  /-- a set of ints: its members, its size -/
  | set (S : Int → Bool) (n : Nat)
  /-- an instance of the class at C, its dict at dx, its attributes -/
  | ins (C dx : Addr) (fs : List (Str × V))
  /-- the dict of the instance at x -/
  | own (x : Addr)
  /-- the dict of an exception -/
  | xd (fs : List (Str × V))
  /-- a bound method, f of x -/
  | met (f x : Addr)
  /-- a range object lo, lo + 1, .. below hi -/
  | rng (lo hi : Int)
  /-- a thing that is known to the object (the script; a dict while a loop walks it): read, never written while it is so -/
  | frz (o : Obj) (u : HO)
  /-- a code object's table -/
  | tbl (ps : Array Value)
  /-- any other thing, by what is true of its one object (a def of one's own: SetO a S n := HO.ext fun h => ..) -/
  | ext (φ : Heap → Prop)

abbrev Hp := Addr → Option HO
def upd (H : Hp) (a : Addr) (o : HO) : Hp := fun b => if b = a then some o else H b
theorem upd_same {H : Hp} {a : Addr} {o : HO} : upd H a o a = some o := by unfold upd; rw [if_pos rfl]
theorem upd_ne {H : Hp} {a b : Addr} {o : HO} (h : b ≠ a) : upd H a o b = H b := by unfold upd; rw [if_neg h]
theorem upd_upd {H : Hp} {a : Addr} {o u : HO} : upd (upd H a o) a u = upd H a u := by
  funext b; unfold upd; split <;> rfl
/-- two objects of different content stand apart -/
theorem ne_of {H : Hp} {a b : Addr} {o u : HO} (h : H a = some o) (h' : H b = some u) (d : o ≠ u) : a ≠ b := by
  intro e; subst e; rw [h] at h'; exact d (Option.some.inj h')
theorem ne_of_none {H : Hp} {a b : Addr} {o : HO} (h : H a = some o) (h' : H b = none) : a ≠ b := by
  intro e; subst e; rw [h] at h'; cases h'

section
variable (P : Program) (w : World)
def ObjOk (H : Hp) (h : Heap) (a : Addr) : HO → Prop
  | .lst xs => xs.length ≤ sizeLine ∧ ∃ (its : List Value) (n : Nat), Vals xs its ∧ h.get? a = some { cls := .type "list", data := .seq its.toArray n }
  | .tup xs => xs.length ≤ sizeLine ∧ ∃ its : List Value, Vals xs its ∧ IsTup h a its.toArray
  | .dK kvs => kvs.length ≤ sizeLine ∧ (a == sysModules) = false ∧ ∃ vs, KV kvs vs ∧ h.DictOf (mixKind P w) a vs
  | .dT kvs => kvs.length ≤ sizeLine ∧ (a == sysModules) = false ∧ ∃ xs : List (List Key × Addr × Value),
      Paired (fun (p : List Key × V) (q : List Key × Addr × Value) => p.1 = q.1 ∧ H q.2.1 = some (.tup (p.1.map kV)) ∧ RelV p.2 q.2.2) kvs xs ∧
      ∃ o es ep, h.get? a = some o ∧ o.ExactDict ∧ o.data = .dict es ep ∧ es.toList = xs.map (entryOfKey (tupleKind (mixKind P w))) ∧ (xs.map (·.1)).Nodup
  | .set S n => h.SetOf (intKind P w) a S n
  | .ins C dx fs => H dx = some (.own a) ∧ fs.length ≤ 1000 ∧ dx ≠ a ∧ h.get? a = some (PySem.W.instObj C dx) ∧
      ∃ mA, h.Ns1 dx mA ∧ (∀ f, RelO (fs.lookup f) (mA f)) ∧ PySem.Within mA (fs.map (·.1))
  | .own _ => ∃ o, h.get? a = some o
  | .xd fs => ∃ mA, h.Ns1 a mA ∧ ∀ f, RelO (fs.lookup f) (mA f)
  | .rng lo hi => ∃ t u v, h.get? a = some { cls := .type "range", data := .fields #[.int lo t, .int hi u, .int 1 v] }
  | .frz o u => h.get? a = some o ∧ ObjOk H h a u
  | .tbl ps => h.get? a = some { cls := .none, data := .fields ps }
  | .met f x => h.get? a = some (PySem.W.methodObj (.ref f) (.ref x))
  | .ext φ => φ h ∧ (∃ o, h.get? a = some o) ∧ ∀ h1 h2 : Heap, φ h1 → (∀ o, h1.get? a = some o → h2.get? a = some o) → φ h2
/-- the abstract heap is held -/
def HOk (H : Hp) (h : Heap) : Prop := ∀ a o, H a = some o → ObjOk P w H h a o
end

section
variable {P : Program} {w : World} {H H' : Hp} {h h' : Heap} {a : Addr} {o : HO}
theorem ObjOk.lt (x : ObjOk P w H h a o) : a < h.objs.size := by
  cases o with
  | lst xs => obtain ⟨_, _, _, _, e⟩ := x; exact Heap.lt_size e
  | tup xs => obtain ⟨_, _, _, p⟩ := x; exact p.lt
  | dK kvs => obtain ⟨_, _, _, _, o, _, _, e, _⟩ := x; exact Heap.lt_size e
  | dT kvs => obtain ⟨_, _, _, _, o, _, _, e, _⟩ := x; exact Heap.lt_size e
  | set S n => obtain ⟨o, _, _, _, e, _⟩ := x; exact Heap.lt_size e
  | ins C dx fs => obtain ⟨_, _, _, e, _⟩ := x; exact Heap.lt_size e
  | own y => obtain ⟨_, e⟩ := x; exact Heap.lt_size e
  | xd fs => obtain ⟨_, ⟨_, _, _, e, _⟩, _⟩ := x; exact Heap.lt_size e
  | rng lo hi => obtain ⟨_, _, _, e⟩ := x; exact Heap.lt_size e
  | frz ob u => obtain ⟨e, _⟩ := x; exact Heap.lt_size e
  | tbl ps => exact Heap.lt_size (show h.get? a = some _ from x)
  | met f y => exact Heap.lt_size (show h.get? a = some _ from x)
  | ext φ => obtain ⟨_, ⟨_, e⟩, _⟩ := x; exact Heap.lt_size e
theorem Paired.mapP {α β : Type} {F G : α → β → Prop} : ∀ {l₁ : List α} {l₂ : List β}, Paired F l₁ l₂ → (∀ a b, F a b → G a b) → Paired G l₁ l₂
  | _, _, .nil, _ => .nil
  | _, _, .cons r t, f => .cons (f _ _ r) (Paired.mapP t f)
/-- what an object's description leans on: its own object, its own dict, the tuples -/
theorem ObjOk.stay (x : ObjOk P w H h a o) (k : ∀ b u, (b = a ∨ H b = some (.own a)) → h.get? b = some u → h'.get? b = some u)
    (ho : ∀ b, H b = some (.own a) → H' b = some (.own a)) (ht : ∀ b xs, H b = some (.tup xs) → H' b = some (.tup xs)) : ObjOk P w H' h' a o := by
  induction o with
  | lst xs => obtain ⟨z, its, n, r, e⟩ := x; exact ⟨z, its, n, r, k _ _ (.inl rfl) e⟩
  | tup xs => obtain ⟨z, its, r, ob, e, c⟩ := x; exact ⟨z, its, r, ob, k _ _ (.inl rfl) e, c⟩
  | dK kvs => obtain ⟨z, y, vs, r, ob, es, ep, e, c⟩ := x; exact ⟨z, y, vs, r, ob, es, ep, k _ _ (.inl rfl) e, c⟩
  | dT kvs =>
    obtain ⟨z, y, xs, r, ob, es, ep, e, c⟩ := x
    exact ⟨z, y, xs, Paired.mapP r fun p q z => ⟨z.1, ht _ _ z.2.1, z.2.2⟩, ob, es, ep, k _ _ (.inl rfl) e, c⟩
  | set S n => obtain ⟨ob, es, ep, t, e, c⟩ := x; exact ⟨ob, es, ep, t, k _ _ (.inl rfl) e, c⟩
  | ins C dx fs =>
    obtain ⟨d, z, ne, e, mA, ⟨od, es, ep, e2, c⟩, r⟩ := x
    exact ⟨ho _ d, z, ne, k _ _ (.inl rfl) e, mA, ⟨od, es, ep, k _ _ (.inr d) e2, c⟩, r⟩
  | own y => obtain ⟨ob, e⟩ := x; exact ⟨ob, k _ _ (.inl rfl) e⟩
  | xd fs => obtain ⟨mA, ⟨od, es, ep, e, c⟩, r⟩ := x; exact ⟨mA, ⟨od, es, ep, k _ _ (.inl rfl) e, c⟩, r⟩
  | rng lo hi => obtain ⟨t, u, v, e⟩ := x; exact ⟨t, u, v, k _ _ (.inl rfl) e⟩
  | frz ob u ih => obtain ⟨e, q⟩ := x; exact ⟨k _ _ (.inl rfl) e, ih q⟩
  | tbl ps =>
    have e : h.get? a = some { cls := .none, data := .fields ps } := x
    show h'.get? a = some { cls := .none, data := .fields ps }
    exact k a _ (.inl rfl) e
  | met f y =>
    have e : h.get? a = some (PySem.W.methodObj (.ref f) (.ref y)) := x
    show h'.get? a = some (PySem.W.methodObj (.ref f) (.ref y))
    exact k a _ (.inl rfl) e
  | ext φ => obtain ⟨p, ⟨o, e⟩, st⟩ := x; exact ⟨st _ _ p fun o q => k _ _ (.inl rfl) q, ⟨o, k _ _ (.inl rfl) e⟩, st⟩
theorem HOk.lt (x : HOk P w H h) (e : H a = some o) : a < h.objs.size := (x a o e).lt
theorem HOk.fresh (x : HOk P w H h) (e : h.objs.size ≤ a) : H a = none := by
  cases q : H a with
  | none => rfl
  | some u => exact absurd (Nat.lt_of_lt_of_le (x.lt q) e) (Nat.lt_irrefl _)
/-- every object of the heap is kept -/
theorem HOk.kept (x : HOk P w H h) (k : ∀ b u, h.get? b = some u → h'.get? b = some u) : HOk P w H h' := fun a o e =>
  (x a o e).stay (fun b u _ q => k b u q) (fun _ q => q) fun _ _ q => q
/-- a new object is laid and tracked -/
theorem HOk.laid (x : HOk P w H h) (k : ∀ b u, h.get? b = some u → h'.get? b = some u) (hp : h.objs.size ≤ a) (new : ObjOk P w (upd H a o) h' a o) : HOk P w (upd H a o) h' := fun b u e => by
  have hn := x.fresh hp
  by_cases hb : b = a
  · subst hb; rw [upd_same] at e; cases e; exact new
  · rw [upd_ne hb] at e
    exact (x b u e).stay (fun c v _ q => k c v q) (fun c q => by rw [upd_ne (ne_of_none q hn)]; exact q) fun c xs q => by rw [upd_ne (ne_of_none q hn)]; exact q
end

/-- what may be read as u: it is u, or a known u -/
def Rd (H : Hp) (a : Addr) (u : HO) : Prop := H a = some u ∨ ∃ o, H a = some (.frz o u)
theorem Rd.ok {P : Program} {w : World} {H : Hp} {h : Heap} {a : Addr} {u : HO} (r : Rd H a u) (x : HOk P w H h) : ObjOk P w H h a u := by
  rcases r with r | ⟨o, r⟩
  · exact x a u r
  · obtain ⟨_, q⟩ := x a _ r
    exact q
/-- what may be written -/
def Mut : Option HO → Prop
  | some (.lst _) => True
  | some (.dK _) => True
  | some (.dT _) => True
  | some (.set _ _) => True
  | some (.ins _ _ _) => True
  | some (.ext _) => True
  | _ => False
section
variable {P : Program} {w : World} {H : Hp} {h h' : Heap} {x e : Addr} {o' : HO}
/-- the object at e is changed: x itself, or the dict of the instance x -/
theorem HOk.write (ok : HOk P w H h) (mu : Mut (H x)) (he : e = x ∨ H e = some (.own x)) (k : ∀ b u, b ≠ e → h.get? b = some u → h'.get? b = some u) (heo : ∃ u, h'.get? e = some u)
    (new : ObjOk P w (upd H x o') h' x o') : HOk P w (upd H x o') h' := fun b u q => by
  have nown : ∀ c y, H c = some (.own y) → c ≠ x := fun c y r z => by subst z; rw [r] at mu; exact mu
  have ntup : ∀ c xs, H c = some (.tup xs) → c ≠ x := fun c xs r z => by subst z; rw [r] at mu; exact mu
  by_cases hb : b = x
  · subst hb; rw [upd_same] at q; cases q; exact new
  · rw [upd_ne hb] at q
    by_cases hbe : b = e
    · have q' : H b = some (.own x) := by
        rcases he with z | z
        · exact absurd (hbe.trans z) hb
        · rw [hbe]; exact z
      rw [q] at q'; cases q'
      obtain ⟨v, hv⟩ := heo
      exact ⟨v, by rw [hbe]; exact hv⟩
    · refine (ok b u q).stay (fun c v hc r => k c v ?_ r) (fun c r => by rw [upd_ne (nown c b r)]; exact r) fun c xs r => by rw [upd_ne (ntup c xs r)]; exact r
      rcases hc with rfl | hc
      · exact hbe
      · rintro rfl
        rcases he with z | z
        · exact nown c b hc z
        · rw [hc] at z; cases z; exact hb rfl
end

/-! ### kept unless tracked; of the frames at fs (the callers') the slots may change (an exception that passes writes there); of the records at ex (iterators) nothing is said -/
structure Un (fs ex : List Addr) (H H' : Hp) (h h' : Heap) : Prop where
  keep : ∀ b o, h.get? b = some o → H b = none → b ∉ fs → b ∉ ex → h'.get? b = some o
  slot : ∀ b o, h.get? b = some o → H b = none → b ∈ fs → b ∉ ex → ∃ sl, h'.get? b = some { o with slots := sl }
  free : ∀ b o, h.get? b = some o → H b = none → b ∉ ex → H' b = none
  there : ∀ b o, h.get? b = some o → b ∉ ex → ∃ o', h'.get? b = some o'
  tups : ∀ b xs, H b = some (.tup xs) → H' b = some (.tup xs)
  frzs : ∀ b o u, H b = some (.frz o u) → H' b = some (.frz o u)
  tbls : ∀ b ps, H b = some (.tbl ps) → ∃ more, H' b = some (.tbl (ps ++ more))
section
variable {fs fs' ex ex' : List Addr} {H H1 H2 : Hp} {h h1 h2 h' : Heap} {a x e : Addr} {o : HO}
theorem Un.any (u : Un fs ex H H1 h h1) {b : Addr} {ob : Obj} (q : h.get? b = some ob) (n : H b = none) (hx : b ∉ ex) : ∃ sl, h1.get? b = some { ob with slots := sl } := by
  by_cases hb : b ∈ fs
  · exact u.slot b ob q n hb hx
  · exact ⟨ob.slots, u.keep b ob q n hb hx⟩
theorem Un.kept (k : ∀ b u, h.get? b = some u → h'.get? b = some u) : Un fs ex H H h h' :=
  ⟨fun b ob q _ _ _ => k b ob q, fun b ob q _ _ _ => ⟨ob.slots, k b ob q⟩, fun _ _ _ n _ => n, fun b ob q _ => ⟨ob, k b ob q⟩, fun _ _ q => q, fun _ _ _ q => q, fun _ ps q => ⟨#[], by rw [q]; simp⟩⟩
theorem Un.refl : Un fs ex H H h h := Un.kept fun _ _ q => q
theorem Un.laid (k : ∀ b u, h.get? b = some u → h'.get? b = some u) (hp : h.objs.size ≤ a) (hn : H a = none) : Un fs ex H (upd H a o) h h' where
  keep := fun b u q _ _ _ => k b u q
  slot := fun b u q _ _ _ => ⟨u.slots, k b u q⟩
  free := fun b u q n _ => by rw [upd_ne (Nat.ne_of_lt (Nat.lt_of_lt_of_le (Heap.lt_size q) hp))]; exact n
  there := fun b u q _ => ⟨u, k b u q⟩
  tups := fun b xs q => by rw [upd_ne (ne_of_none q hn)]; exact q
  frzs := fun b u xs q => by rw [upd_ne (ne_of_none q hn)]; exact q
  tbls := fun b ps q => ⟨#[], by rw [upd_ne (ne_of_none q hn), q]; simp⟩
theorem Un.write (mu : Mut (H x)) (he : e = x ∨ H e = some (.own x)) (k : ∀ b u, b ≠ e → h.get? b = some u → h'.get? b = some u) (heo : ∃ u, h'.get? e = some u) : Un fs ex H (upd H x o) h h' := by
  have hx : ∀ b, H b = none → b ≠ x := fun b n z => by subst z; rw [n] at mu; exact mu
  have hb : ∀ b, H b = none → b ≠ e := fun b n z => by
    subst z
    rcases he with r | r
    · exact hx b n r
    · rw [n] at r; cases r
  have hm : ∀ b u, H b = some u → ¬ Mut (some u) → b ≠ x := fun b u q nm z => by subst z; rw [q] at mu; exact nm mu
  refine ⟨fun b u q n _ _ => k b u (hb b n) q, fun b u q n _ _ => ⟨u.slots, k b u (hb b n) q⟩, fun b u q n _ => by rw [upd_ne (hx b n)]; exact n, fun b u q _ => ?_,
    fun b xs q => by rw [upd_ne (hm b _ q fun z => z)]; exact q, fun b u xs q => by rw [upd_ne (hm b _ q fun z => z)]; exact q, fun b ps q => ⟨#[], by rw [upd_ne (hm b _ q fun z => z), q]; simp⟩⟩
  by_cases hbe : b = e
  · subst hbe; exact heo
  · exact ⟨u, k b u hbe q⟩
end

/-! ### the heap without what is tracked -/
def trk (h : Heap) (H : Hp) : List Addr := (List.range h.objs.size).filter fun a => (H a).isSome
def hidT (h : Heap) (H : Hp) : Heap := PySem.W.hideAll h (trk h H)
theorem hidT_size (h : Heap) (H : Hp) : (hidT h H).objs.size = h.objs.size := PySem.W.hideAll_size _ _
theorem hidT_get {h : Heap} {H : Hp} {b : Addr} {o : Obj} (e : h.get? b = some o) (n : H b = none) : (hidT h H).get? b = some o :=
  PySem.W.hideAll_get _ e fun hm => by
    have q : (H b).isSome = true := (List.mem_filter.mp hm).2
    rw [n] at q; simp at q
theorem of_hidT {h : Heap} {H : Hp} {b : Addr} {o : Obj} (e : (hidT h H).get? b = some o) : h.get? b = some o ∧ H b = none := by
  have e' : h.get? b = some o := PySem.W.of_hideAll (trk h H) e
  refine ⟨e', ?_⟩
  cases q : H b with
  | none => rfl
  | some x =>
    have hm : b ∈ trk h H := List.mem_filter.mpr ⟨List.mem_range.mpr (Heap.lt_size e'), by simp [q]⟩
    have z : (hidT h H).get? b = none := PySem.W.hideAll_none (trk h H) hm
    rw [z] at e; cases e

/-! ### OpenK's ledger, filled with every new object but one -/
def allNews (g h : Heap) (L : Addr) : List (Addr × Obj) := (List.range h.objs.size).filterMap fun a => if a = L ∨ (g.get? a).isSome = true then none else (h.get? a).map fun o => (a, o)
def rest (g h : Heap) (L d : Addr) : List (Addr × Obj) := (allNews g h L).filter fun p => decide (p.1 ≠ d)
end L2

namespace L2
open PySem PySem.Spec PyProof.Rows

/-- the module's facts, over the base: the heap at the law's entry without what is tracked there -/
structure Mod (K : PySem.W.Frag) (mg : Str → Option Value) (base : Heap) : Prop where
  kin : K.In base
  glob : base.Ns mainGlobals mg
  blt : ∃ mb, base.Ns builtinsNs mb ∧ ∀ x : Str, x ≠ "__name__" → mb x = bootBuiltins x
  nolimit : base.NoLimit

/-- the context: a def's body (or a comprehension's block) running. base: fixed through the whole law; s₀, H₀: the entry; outer: the frames whose slots others may change (a def's callers); stack: all frames that run;
   ex: iterators that were made ahead of the entry and are walked here (a comprehension's); fn: the names whose cells were made at the entry (a def: all; a comprehension's block: its own); calm: not within an except suite; pn: pins that every state bears; xe: what is wanted of an exception that leaves the code -/
structure Cx where
  prog : Program
  w : World
  K : PySem.W.Frag
  mg : Str → Option Value
  base : Heap
  A : Around
  N : List Str
  s_0 : Shared
  H_0 : Hp
  env : Env
  outer : List Env
  stack : List Env
  ex : List Addr
  fn : Str → Bool
  calm : Bool
  pn : List (Addr × Obj)
  xe : Value → Shared → Prop
/-- the callers' frames -/
def frs (l : List Env) : List Addr := l.filterMap (·.frame)
abbrev Cx.fs (X : Cx) : List Addr := frs X.outer

def Vis (sc : Scope) (x : Str) : Prop := sc.names.lookup x = some .local ∨ sc.names.lookup x = some .cell ∨ sc.names.lookup x = some .free
def Loc (sc : Scope) (x : Str) : Prop := sc.names.lookup x = some .local ∨ sc.names.lookup x = some .cell
def Look (env : Env) (h : Heap) (m : Str → Option Value) (x : Str) (u : Value) : Prop :=
  (env.kindOf x = some .local ∧ m x = some u) ∨ ((env.kindOf x = some .cell ∨ env.kindOf x = some .free) ∧ ∃ c, env.cells.lookup x = some c ∧ h.IsCell c (some u))

structure Cx.Ok (X : Cx) : Prop where
  mod : Mod X.K X.mg X.base
  kind : X.env.scope.kind = .function
  glob : X.env.globals = mainGlobals
  blt : X.env.builtins = builtinsNs
  above : X.s_0.heap.objs.size ≤ X.env.locals
  inj : ∀ x y c, X.env.cells.lookup x = some c → X.env.cells.lookup y = some c → x = y
  has : ∀ x, (X.env.kindOf x = some .cell ∨ X.env.kindOf x = some .free) → ∃ c, X.env.cells.lookup x = some c
  cab : ∀ x c, X.fn x = true → X.env.cells.lookup x = some c → X.s_0.heap.objs.size ≤ c
  hd : X.calm = true → X.A.handled = none
  frames : X.A.frames = some X.stack
  stk : X.stack = X.outer ∨ (X.stack = X.env :: X.outer ∧ X.env.frame = some X.env.locals)
  exf : ∀ b ∈ X.ex, b ≠ X.env.locals ∧ ∀ x c, X.env.cells.lookup x = some c → c ≠ b
  bs : ∀ b o, X.base.get? b = some o → X.s_0.heap.get? b = some o ∧ X.H_0 b = none
  bsz : X.base.objs.size ≤ X.s_0.heap.objs.size
  noex : ∀ b o, X.base.get? b = some o → b ∉ X.ex
  exfs : ∀ b ∈ X.ex, b ∉ X.fs
  funs : X.s_0.heap.FunFrames X.base X.outer
  frf : ∀ b ∈ X.fs, X.H_0 b = none

structure Inv (X : Cx) (pins : List (Addr × Obj)) (σ : List (Option V)) (H : Hp) (s : Shared) : Prop where
  ok : X.Ok
  os : s.os = X.s_0.os
  bare : AllBare s.gens
  base : Un X.fs X.ex X.H_0 H X.s_0.heap s.heap
  loc : ∃ m, s.heap.Ns X.env.locals m ∧ ∀ (i : Nat) (x : Str) (v : V), X.N[i]? = some x → σ[i]? = some (some v) → Vis X.env.scope x → ∃ u, RelV v u ∧ Look X.env s.heap m x u
  cell : ∀ x c, X.env.cells.lookup x = some c → ∃ v, s.heap.IsCell c v
  free : H X.env.locals = none
  freeC : ∀ x c, X.env.cells.lookup x = some c → H c = none
  pin : ∀ p ∈ X.pn ++ pins, s.heap.get? p.1 = some p.2 ∧ H p.1 = none ∧ p.1 ≠ X.env.locals ∧ p.1 ∉ X.fs ∧ ∀ v, p.2.data ≠ .cell v
  hok : HOk X.prog X.w H s.heap
  len : σ.length = X.N.length

section
variable {X : Cx} {pins : List (Addr × Obj)} {σ : List (Option V)} {H H' : Hp} {s : Shared} {h' : Heap}

theorem Cx.Ok.nofr (ok : X.Ok) {b : Addr} {o : Obj} (e : X.base.get? b = some o) : b ∉ X.fs := fun hb => by
  have := (ok.funs.mem hb).1
  rw [e] at this; cases this
theorem Inv.bs (I : Inv X pins σ H s) : ∀ b o, X.base.get? b = some o → s.heap.get? b = some o ∧ H b = none := fun b o e =>
  ⟨I.base.keep b o (I.ok.bs b o e).1 (I.ok.bs b o e).2 (I.ok.nofr e) (I.ok.noex b o e), I.base.free b o (I.ok.bs b o e).1 (I.ok.bs b o e).2 (I.ok.noex b o e)⟩
theorem Inv.bk (I : Inv X pins σ H s) : ∀ b o, X.base.get? b = some o → s.heap.get? b = some o := fun b o e => (I.bs b o e).1
theorem Inv.mod (I : Inv X pins σ H s) : Mod X.K X.mg X.base := I.ok.mod
theorem Inv.kIn (I : Inv X pins σ H s) : X.K.In s.heap := I.ok.mod.kin.keeps I.bk
/-- the frame over the base: for OpenK's rules (K.In X.base is I.mod.kin) -/
theorem Inv.fr (I : Inv X pins σ H s) : ∃ m, Fr X.base X.env.locals s.heap m :=
  let ⟨m, hn, _⟩ := I.loc
  ⟨m, hn, I.bk, Nat.le_trans I.ok.bsz I.ok.above⟩
theorem Inv.lt (I : Inv X pins σ H s) : X.env.locals < s.heap.objs.size := let ⟨_, hn, _⟩ := I.loc; hn.lt
theorem Inv.sz (I : Inv X pins σ H s) : X.s_0.heap.objs.size ≤ s.heap.objs.size := Nat.le_trans I.ok.above (Nat.le_of_lt I.lt)
theorem Inv.nofs (I : Inv X pins σ H s) {a : Addr} (h : s.heap.objs.size ≤ a) : a ∉ X.fs := fun hb => by
  obtain ⟨_, o, ho, _⟩ := I.ok.funs.mem hb
  exact absurd (Nat.lt_of_lt_of_le (Heap.lt_size ho) (Nat.le_trans I.sz h)) (Nat.lt_irrefl _)
theorem Inv.cne (I : Inv X pins σ H s) : ∀ x c, X.env.cells.lookup x = some c → c ≠ X.env.locals := fun x c e z => by
  obtain ⟨v, o, ho, hd⟩ := I.cell x c e
  obtain ⟨m, ⟨o', es, ep, ho', hd', _⟩, _⟩ := I.loc
  rw [z, ho'] at ho; cases ho; rw [hd'] at hd; cases hd
theorem Inv.funs (I : Inv X pins σ H s) : s.heap.FunFrames X.base X.outer := by
  have all : ∀ (l : List Env), (∀ b ∈ frs l, b ∈ X.fs) → X.s_0.heap.FunFrames X.base l → s.heap.FunFrames X.base l := by
    intro l
    induction l with
    | nil => intro _ _; trivial
    | cons env r ih =>
      intro hs hl
      obtain ⟨hk, ⟨L, o, hf, hn, ho, hd⟩, hr⟩ := hl
      have hL : L ∈ X.fs := hs L (by unfold frs; rw [List.filterMap_cons, hf]; exact List.mem_cons_self)
      obtain ⟨sl, e⟩ := I.base.slot L o ho (I.ok.frf L hL) hL fun z => I.ok.exfs L z hL
      exact ⟨hk, ⟨L, _, hf, hn, e, hd⟩, ih (fun b hb => hs b (by unfold frs; rw [List.filterMap_cons, hf]; exact List.mem_cons_of_mem _ hb)) hr⟩
  exact all X.outer (fun _ hb => hb) I.ok.funs

/-- the frames that run, for a call -/
theorem Inv.stack (I : Inv X pins σ H s) : s.heap.FunFrames X.base X.stack := by
  rcases I.ok.stk with e | ⟨e, hf⟩
  · rw [e]; exact I.funs
  · rw [e]
    obtain ⟨m, hn, _⟩ := I.loc
    refine .cons (by rw [I.ok.kind]; decide) hf hn ?_ I.funs
    exact Heap.get?_none_of_le (Nat.le_trans I.ok.bsz I.ok.above)
theorem Inv.stkSub (I : Inv X pins σ H s) : ∀ b ∈ frs X.stack, b ∈ X.env.locals :: X.fs := fun b hb => by
  rcases I.ok.stk with e | ⟨e, hf⟩
  · rw [e] at hb; exact List.mem_cons_of_mem _ hb
  · rw [e] at hb
    unfold frs at hb
    rw [List.filterMap_cons, hf] at hb
    exact hb
theorem Inv.stkFree (I : Inv X pins σ H s) : ∀ b ∈ frs X.stack, H b = none := fun b hb => by
  rcases List.mem_cons.mp (I.stkSub b hb) with e | hb
  · rw [e]; exact I.free
  · obtain ⟨_, o, ho, _⟩ := I.ok.funs.mem hb
    exact I.base.free b o ho (I.ok.frf b hb) fun z => I.ok.exfs b z hb

/-- THE STEP: the untracked objects but the frame and the records at ch are kept (the callers' frames up to slots), the frame's map is kept, the new abstract heap is held -/
theorem Inv.step {g' : Array GenState} {t' : Nat} {d' : Drawn} {ch : List Addr} (I : Inv X pins σ H s)
    (hch : ∀ b ∈ ch, (b ∈ X.ex ∨ X.s_0.heap.objs.size ≤ b) ∧ b ≠ X.env.locals ∧ (∀ x c, X.env.cells.lookup x = some c → c ≠ b) ∧ ∀ p ∈ X.pn ++ pins, p.1 ≠ b)
    (keep : ∀ b o, b ≠ X.env.locals → b ∉ X.fs → b ∉ ch → s.heap.get? b = some o → H b = none → h'.get? b = some o)
    (slot : ∀ b o, b ≠ X.env.locals → b ∈ X.fs → b ∉ ch → s.heap.get? b = some o → H b = none → ∃ sl, h'.get? b = some { o with slots := sl }) (free : ∀ b o, b ∉ ch → s.heap.get? b = some o → H b = none → H' b = none)
    (there : ∀ b o, b ∉ ch → s.heap.get? b = some o → ∃ o', h'.get? b = some o')
    (tups : ∀ b xs, H b = some (.tup xs) → H' b = some (.tup xs)) (frzs : ∀ b o u, H b = some (.frz o u) → H' b = some (.frz o u)) (tbls : ∀ b ps, H b = some (.tbl ps) → ∃ more, H' b = some (.tbl (ps ++ more)))
    (ns : ∀ m, s.heap.Ns X.env.locals m → h'.Ns X.env.locals m) (hok : HOk X.prog X.w H' h') (hg : AllBare g') :
    Inv X pins σ H' { s with heap := h', gens := g', drawn := d', toks := t' } := by
  have neL : ∀ b o, X.s_0.heap.get? b = some o → b ≠ X.env.locals := fun b o e => Nat.ne_of_lt (Nat.lt_of_lt_of_le (Heap.lt_size e) I.ok.above)
  have neC : ∀ b o, X.s_0.heap.get? b = some o → b ∉ X.ex → b ∉ ch := fun b o e hx hb => by
    rcases (hch b hb).1 with z | z
    · exact hx z
    · exact absurd (Nat.lt_of_lt_of_le (Heap.lt_size e) z) (Nat.lt_irrefl _)
  have cellK : ∀ x c, X.env.cells.lookup x = some c → ∀ v, s.heap.IsCell c v → h'.IsCell c v := fun x c e v ⟨o, ho, hd⟩ => by
    have nch : c ∉ ch := fun z => (hch c z).2.2.1 x c e rfl
    by_cases hc : c ∈ X.fs
    · obtain ⟨sl, q⟩ := slot c o (I.cne x c e) hc nch ho (I.freeC x c e)
      exact ⟨_, q, hd⟩
    · exact ⟨o, keep c o (I.cne x c e) hc nch ho (I.freeC x c e), hd⟩
  refine ⟨I.ok, I.os, hg, ⟨fun b o e n hb hx => ?_, fun b o e n hb hx => ?_, fun b o e n hx => ?_, fun b o e hx => ?_, fun b xs e => tups b xs (I.base.tups b xs e), fun b o xs e => frzs b o xs (I.base.frzs b o xs e), fun b ps e => ?_⟩, ?_, fun x c e => ?_, ?_, fun x c e => ?_, fun p hp => ?_, hok, I.len⟩
  · exact keep b o (neL b o e) hb (neC b o e hx) (I.base.keep b o e n hb hx) (I.base.free b o e n hx)
  · obtain ⟨sl, e1⟩ := I.base.slot b o e n hb hx
    obtain ⟨sl', e2⟩ := slot b _ (neL b o e) hb (neC b o e hx) e1 (I.base.free b o e n hx)
    exact ⟨sl', e2⟩
  · obtain ⟨o', e1⟩ := I.base.there b o e hx
    exact free b o' (neC b o e hx) e1 (I.base.free b o e n hx)
  · obtain ⟨o', e1⟩ := I.base.there b o e hx
    exact there b o' (neC b o e hx) e1
  · obtain ⟨m1, e1⟩ := I.base.tbls b ps e
    obtain ⟨m2, e2⟩ := tbls b _ e1
    exact ⟨m1 ++ m2, by rw [e2, Array.append_assoc]⟩
  · obtain ⟨m, hn, hl⟩ := I.loc
    refine ⟨m, ns m hn, fun i x v e1 e2 e3 => ?_⟩
    obtain ⟨u, r, l⟩ := hl i x v e1 e2 e3
    refine ⟨u, r, ?_⟩
    rcases l with l | ⟨k, c, e, z⟩
    · exact .inl l
    · exact .inr ⟨k, c, e, cellK x c e _ z⟩
  · obtain ⟨v, z⟩ := I.cell x c e
    exact ⟨v, cellK x c e v z⟩
  · obtain ⟨m, ⟨o, _, _, ho, _⟩, _⟩ := I.loc
    exact free _ o (fun z => (hch _ z).2.1 rfl) ho I.free
  · obtain ⟨v, o, ho, hd⟩ := I.cell x c e
    exact free c o (fun z => (hch c z).2.2.1 x c e rfl) ho (I.freeC x c e)
  · obtain ⟨e, n, ne, nf, d⟩ := I.pin p hp
    have nch : p.1 ∉ ch := fun z => (hch p.1 z).2.2.2 p hp rfl
    exact ⟨keep p.1 p.2 ne nf nch e n, free p.1 p.2 nch e n, ne, nf, d⟩
/-- .. where the frame's own object is kept too -/
theorem Inv.un {t' : Nat} (I : Inv X pins σ H s) (u : Un X.fs [] H H' s.heap h') (hok : HOk X.prog X.w H' h') : Inv X pins σ H' { s with heap := h', toks := t' } := by
  obtain ⟨m, ⟨o, es, ep, ho, r⟩, _⟩ := id I.loc
  obtain ⟨sl, hL⟩ := u.any ho I.free (by simp)
  exact I.step (g' := s.gens) (d' := s.drawn) (ch := []) (fun _ z => nomatch z) (fun b o _ hb _ e n => u.keep b o e n hb (by simp)) (fun b o _ hb _ e n => u.slot b o e n hb (by simp)) (fun b o _ e n => u.free b o e n (by simp)) (fun b o _ e => u.there b o e (by simp)) u.tups u.frzs u.tbls (fun m' hm => by
    obtain ⟨o', es', ep', ho', r'⟩ := hm
    rw [ho] at ho'; cases ho'
    exact ⟨_, es', ep', hL, r'⟩) hok I.bare
/-- behind a call (or a comprehension's block): the slots of this frame may have changed too, the records at ch may have turned -/
theorem Inv.call {g' : Array GenState} {t' : Nat} {d' : Drawn} {ch : List Addr} (I : Inv X pins σ H s) (u : Un (frs X.stack) ch H H' s.heap h') (hok : HOk X.prog X.w H' h') (hg : AllBare g')
    (hch : ∀ b ∈ ch, (b ∈ X.ex ∨ X.s_0.heap.objs.size ≤ b) ∧ b ≠ X.env.locals ∧ (∀ x c, X.env.cells.lookup x = some c → c ≠ b) ∧ ∀ p ∈ X.pn ++ pins, p.1 ≠ b) :
    Inv X pins σ H' { s with heap := h', gens := g', drawn := d', toks := t' } := by
  obtain ⟨m, ⟨o, es, ep, ho, r⟩, _⟩ := id I.loc
  obtain ⟨sl, hL⟩ := u.any ho I.free fun z => (hch _ z).2.1 rfl
  exact I.step (ch := ch) hch (fun b o hL hb hc e n => u.keep b o e n (fun z => (List.mem_cons.mp (I.stkSub b z)).elim hL hb) hc) (fun b o _ _ hc e n => u.any e n hc) (fun b o hc e n => u.free b o e n hc) (fun b o hc e => u.there b o e hc) u.tups u.frzs u.tbls (fun m' hm => by
    obtain ⟨o', es', ep', ho', r'⟩ := hm
    rw [ho] at ho'; cases ho'
    exact ⟨_, es', ep', hL, r'⟩) hok hg
/-- an untracked record of ours (an iterator) has turned -/
theorem Inv.turned {t' : Nat} {it : Addr} (I : Inv X pins σ H s) (k : ∀ b o, b ≠ it → s.heap.get? b = some o → h'.get? b = some o) (hn : H it = none) (hL : it ≠ X.env.locals)
    (h1 : it ∈ X.ex ∨ X.s_0.heap.objs.size ≤ it) (h2 : ∀ x c, X.env.cells.lookup x = some c → c ≠ it) (h3 : ∀ p ∈ X.pn ++ pins, p.1 ≠ it) : Inv X pins σ H { s with heap := h', toks := t' } := by
  have nit : ∀ b u, H b = some u → b ≠ it := fun b u e z => by rw [z, hn] at e; cases e
  refine I.step (g' := s.gens) (d' := s.drawn) (ch := [it]) (fun b hb => ?_) (fun b o _ _ hc e _ => k b o (fun z => hc (by simp [z])) e) (fun b o _ _ hc e _ => ⟨o.slots, k b o (fun z => hc (by simp [z])) e⟩) (fun _ _ _ _ n => n)
    (fun b o hc e => ⟨o, k b o (fun z => hc (by simp [z])) e⟩) (fun _ _ e => e) (fun _ _ _ e => e) (fun b ps e => ⟨#[], by rw [e]; simp⟩) (fun m hm => ?_) (fun b u e => ?_) I.bare
  · have e : b = it := by simpa using hb
    subst e
    exact ⟨h1, hL, h2, h3⟩
  · obtain ⟨o, es, ep, ho, r⟩ := hm
    exact ⟨o, es, ep, k _ o (Ne.symm hL) ho, r⟩
  · refine (I.hok b u e).stay (fun c v hc q => k c v ?_ q) (fun _ q => q) fun _ _ q => q
    rcases hc with z | z
    · rw [z]; exact nit b u e
    · exact nit c _ z
theorem Inv.tok (I : Inv X pins σ H s) (t : Nat) : Inv X pins σ H { s with toks := t } := I.un (h' := s.heap) (t' := t) Un.refl I.hok
/-- all objects kept -/
theorem Inv.kept {t' : Nat} (I : Inv X pins σ H s) (k : ∀ b u, s.heap.get? b = some u → h'.get? b = some u) : Inv X pins σ H { s with heap := h', toks := t' } := I.un (Un.kept k) (I.hok.kept k)
/-- a new object laid and tracked -/
theorem Inv.laid {a : Addr} {o : HO} {t' : Nat} (I : Inv X pins σ H s) (k : ∀ b u, s.heap.get? b = some u → h'.get? b = some u) (hp : s.heap.objs.size ≤ a) (new : ObjOk X.prog X.w (upd H a o) h' a o) :
    Inv X pins σ (upd H a o) { s with heap := h', toks := t' } := I.un (Un.laid k hp (I.hok.fresh hp)) (I.hok.laid k hp new)
/-- an object written -/
theorem Inv.write {x e : Addr} {o : HO} {t' : Nat} (I : Inv X pins σ H s) (mu : Mut (H x)) (he : e = x ∨ H e = some (.own x)) (k : ∀ b u, b ≠ e → s.heap.get? b = some u → h'.get? b = some u) (heo : ∃ u, h'.get? e = some u)
    (new : ObjOk X.prog X.w (upd H x o) h' x o) : Inv X pins σ (upd H x o) { s with heap := h', toks := t' } := I.un (Un.write mu he k heo) (I.hok.write mu he k heo new)
/-- forgetting slots, pins -/
theorem Inv.weak {σ' : List (Option V)} (I : Inv X pins σ H s) (hl : σ'.length = σ.length) (w : ∀ (i : Nat) v, σ'[i]? = some (some v) → σ[i]? = some (some v)) : Inv X pins σ' H s :=
  ⟨I.ok, I.os, I.bare, I.base, let ⟨m, hn, hl'⟩ := I.loc; ⟨m, hn, fun i x v e1 e2 e3 => hl' i x v e1 (w i v e2) e3⟩, I.cell, I.free, I.freeC, I.pin, I.hok, hl.trans I.len⟩
theorem Inv.pins_of {pins' : List (Addr × Obj)} (I : Inv X pins σ H s) (h : ∀ p ∈ pins', s.heap.get? p.1 = some p.2 ∧ H p.1 = none ∧ p.1 ≠ X.env.locals ∧ p.1 ∉ X.fs ∧ ∀ v, p.2.data ≠ .cell v) : Inv X pins' σ H s :=
  ⟨I.ok, I.os, I.bare, I.base, I.loc, I.cell, I.free, I.freeC, fun p hp => (List.mem_append.mp hp).elim (fun z => I.pin p (List.mem_append_left _ z)) (h p), I.hok, I.len⟩

theorem nodup_ix {N : List Str} (hN : N.Nodup) {i j : Nat} {x : Str} (a : N[i]? = some x) (b : N[j]? = some x) : i = j := by
  obtain ⟨h1, e1⟩ := List.getElem?_eq_some_iff.mp a
  obtain ⟨h2, e2⟩ := List.getElem?_eq_some_iff.mp b
  exact (List.getElem_inj hN).mp (e1.trans e2.symm)

/-- a name is stored; what changed -/
theorem store_ok2 {M : Model} {A : Around} {E : Value → Shared → Prop} {i : Nat} {x : Str} {v : V} {u : Value} {Q : Unit → Shared → Prop} (I : Inv X pins σ H s) (hN : X.N.Nodup) (hi : X.N[i]? = some x) (hx : Loc X.env.scope x) (r : RelV v u)
    (h : ∀ s', Inv X pins (σ.set i (some v)) H s' → (∃ a, Heap.SameBut a s.heap s'.heap ∧ (a = X.env.locals ∨ X.env.cells.lookup x = some a)) → Q () s') (hf : X.fn x = true ∨ X.env.scope.names.lookup x = some .local := by first | exact .inl rfl | exact .inr rfl | assumption) : wpAny M A (storeName X.env x u) Q E s := by
  obtain ⟨m, hn, hl⟩ := id I.loc
  have hcls : (X.env.scope.kind == .class || (X.env.scope.kind == .module && X.env.locals != X.env.globals)) = false := by rw [I.ok.kind]; rfl
  have hiσ : i < σ.length := by rw [I.len]; exact (List.getElem?_eq_some_iff.mp hi).1
  have cne := I.cne
  have tracked : ∀ {a : Addr} {h' : Heap}, (∃ o, s.heap.get? a = some o ∧ H a = none) → Heap.SameBut a s.heap h' → HOk X.prog X.w H h' := fun {a h'} ha hs b ob e => by
    obtain ⟨_, _, hfree⟩ := ha
    refine (I.hok b ob e).stay (fun c w' hc q => (hs.2 c ?_).trans q) (fun _ q => q) fun _ _ q => q
    rintro rfl
    rcases hc with rfl | hc
    · rw [hfree] at e; cases e
    · rw [hfree] at hc; cases hc
  rcases hx with hk | hk
  · refine wpAny_storeName_local hk hn (fun h' hn' hs => ?_) hcls
    obtain ⟨oL, _, _, hoL, _⟩ := id hn
    refine h _ ⟨I.ok, I.os, I.bare, ⟨fun b o e n hb hx => ?_, fun b o e n hb hx => ?_, I.base.free, fun b o e hx => ?_, I.base.tups, I.base.frzs, I.base.tbls⟩, ⟨_, hn', fun j y v' e1 e2 e3 => ?_⟩, fun y c e => ?_, I.free, I.freeC, fun p hp => ?_, tracked ⟨oL, hoL, I.free⟩ hs, by simpa using I.len⟩ ⟨_, hs, .inl rfl⟩
    · exact (hs.2 b (Nat.ne_of_lt (Nat.lt_of_lt_of_le (Heap.lt_size e) I.ok.above))).trans (I.base.keep b o e n hb hx)
    · obtain ⟨sl, e1⟩ := I.base.slot b o e n hb hx
      exact ⟨sl, (hs.2 b (Nat.ne_of_lt (Nat.lt_of_lt_of_le (Heap.lt_size e) I.ok.above))).trans e1⟩
    · obtain ⟨o', e1⟩ := I.base.there b o e hx
      exact ⟨o', (hs.2 b (Nat.ne_of_lt (Nat.lt_of_lt_of_le (Heap.lt_size e) I.ok.above))).trans e1⟩
    · by_cases hj : j = i
      · subst hj
        rw [hi] at e1; cases e1
        rw [List.getElem?_set_self hiσ] at e2
        cases e2
        exact ⟨u, r, .inl ⟨hk, by simp⟩⟩
      · rw [List.getElem?_set_ne (Ne.symm hj)] at e2
        obtain ⟨u', r', q⟩ := hl j y v' e1 e2 e3
        refine ⟨u', r', ?_⟩
        rcases q with ⟨k, e⟩ | ⟨k, c, e, z⟩
        · refine .inl ⟨k, ?_⟩
          have : y ≠ x := fun e => hj (nodup_ix hN e1 (e ▸ hi))
          simp [this, e]
        · exact .inr ⟨k, c, e, z.sameBut hs (cne y c e)⟩
    · obtain ⟨w', z⟩ := I.cell y c e
      exact ⟨w', z.sameBut hs (cne y c e)⟩
    · obtain ⟨e, n, ne, nf, d⟩ := I.pin p hp
      exact ⟨(hs.2 p.1 ne).trans e, n, ne, nf, d⟩
  · have hfn : X.fn x = true := by
      rcases hf with z | z
      · exact z
      · rw [z] at hk; cases hk
    obtain ⟨c, hc⟩ := I.ok.has x (.inl hk)
    obtain ⟨w', z⟩ := I.cell x c hc
    refine wpAny_storeName_cell I.ok.kind hk hc z (fun h' hc' hs => ?_)
    obtain ⟨oc, hoc, hocd⟩ := id z
    refine h { s with heap := h' } ⟨I.ok, I.os, I.bare, ⟨fun b o e n hb hx => ?_, fun b o e n hb hx => ?_, I.base.free, fun b o e hx => ?_, I.base.tups, I.base.frzs, I.base.tbls⟩, ⟨m, hn.sameBut hs (Ne.symm (cne x c hc)), fun j y v' e1 e2 e3 => ?_⟩, fun y c' e => ?_, I.free, I.freeC, fun p hp => ?_, tracked ⟨oc, hoc, I.freeC x c hc⟩ hs, by simpa using I.len⟩ ⟨c, hs, .inr hc⟩
    · exact (hs.2 b (Nat.ne_of_lt (Nat.lt_of_lt_of_le (Heap.lt_size e) (I.ok.cab x c hfn hc)))).trans (I.base.keep b o e n hb hx)
    · obtain ⟨sl, e1⟩ := I.base.slot b o e n hb hx
      exact ⟨sl, (hs.2 b (Nat.ne_of_lt (Nat.lt_of_lt_of_le (Heap.lt_size e) (I.ok.cab x c hfn hc)))).trans e1⟩
    · obtain ⟨o', e1⟩ := I.base.there b o e hx
      exact ⟨o', (hs.2 b (Nat.ne_of_lt (Nat.lt_of_lt_of_le (Heap.lt_size e) (I.ok.cab x c hfn hc)))).trans e1⟩
    · by_cases hj : j = i
      · subst hj
        rw [hi] at e1; cases e1
        rw [List.getElem?_set_self hiσ] at e2
        cases e2
        exact ⟨u, r, .inr ⟨.inl hk, c, hc, hc'⟩⟩
      · rw [List.getElem?_set_ne (Ne.symm hj)] at e2
        obtain ⟨u', r', q⟩ := hl j y v' e1 e2 e3
        refine ⟨u', r', ?_⟩
        rcases q with q | ⟨k, c', e, z'⟩
        · exact .inl q
        · refine .inr ⟨k, c', e, z'.sameBut hs ?_⟩
          rintro rfl
          exact hj (nodup_ix hN e1 (I.ok.inj _ _ _ e hc ▸ hi))
    · by_cases hcc : c' = c
      · subst hcc; exact ⟨_, hc'⟩
      · obtain ⟨w2, z2⟩ := I.cell y c' e
        exact ⟨w2, z2.sameBut hs hcc⟩
    · obtain ⟨e, n, ne, nf, d⟩ := I.pin p hp
      refine ⟨(hs.2 p.1 ?_).trans e, n, ne, nf, d⟩
      intro q
      rw [q, hoc] at e
      have q' : oc = p.2 := Option.some.inj e
      exact d w' (by rw [← q']; exact hocd)
theorem store_ok {M : Model} {A : Around} {E : Value → Shared → Prop} {i : Nat} {x : Str} {v : V} {u : Value} {Q : Unit → Shared → Prop} (I : Inv X pins σ H s) (hN : X.N.Nodup) (hi : X.N[i]? = some x) (hx : Loc X.env.scope x) (r : RelV v u)
    (h : ∀ s', Inv X pins (σ.set i (some v)) H s' → Q () s') (hf : X.fn x = true ∨ X.env.scope.names.lookup x = some .local := by first | exact .inl rfl | exact .inr rfl | assumption) : wpAny M A (storeName X.env x u) Q E s :=
  store_ok2 I hN hi hx r (fun s' I' _ => h s' I') hf
/-- behind a call or a block, the state as it is -/
theorem Inv.call' {s' : Shared} {ch : List Addr} (I : Inv X pins σ H s) (ho : s'.os = s.os) (u : Un (frs X.stack) ch H H' s.heap s'.heap) (hok : HOk X.prog X.w H' s'.heap) (hg : AllBare s'.gens)
    (hch : ∀ b ∈ ch, (b ∈ X.ex ∨ X.s_0.heap.objs.size ≤ b) ∧ b ≠ X.env.locals ∧ (∀ x c, X.env.cells.lookup x = some c → c ≠ b) ∧ ∀ p ∈ X.pn ++ pins, p.1 ≠ b) : Inv X pins σ H' s' := by
  obtain ⟨h', g', d', t', o'⟩ := s'
  have e : o' = s.os := ho
  subst e
  exact I.call (g' := g') (t' := t') (d' := d') u hok hg hch
end

/-! ### the judgements -/
/-- an exception: its class, its own dict's address (where it has one), the abstract heap behind it -/
abbrev XK := Value → Option Addr → Hp → Prop
abbrev St := List (Option V)
abbrev VK := V → Hp → Prop
/-- an expression's reading; a test's; an argument list's -/
abbrev TE := St → Hp → VK → Prop
abbrev TT := St → Hp → (Bool → Hp → Prop) → Prop
abbrev TA := St → Hp → (List V → Hp → Prop) → Prop
/-- what is wanted behind a statement -/
structure Ends where
  nx : St → Hp → Prop
  rt : VK
  bk : St → Hp → Prop := fun _ _ => False
  ct : St → Hp → Prop := fun _ _ => False
abbrev TS := Ends → St → Hp → Prop

def EP (X : Cx) (pins : List (Addr × Obj)) (σ : St) (Q : VK) (u : Value) (s' : Shared) : Prop := ∃ v H', Inv X pins σ H' s' ∧ RelV v u ∧ Q v H'
def TP (X : Cx) (pins : List (Addr × Obj)) (σ : St) (Q : Bool → Hp → Prop) (b : Bool) (s' : Shared) : Prop := ∃ H', Inv X pins σ H' s' ∧ Q b H'
def AP (X : Cx) (pins : List (Addr × Obj)) (σ : St) (Q : List V → Hp → Prop) (us : List Value) (s' : Shared) : Prop := ∃ vs H', Inv X pins σ H' s' ∧ Vals vs us ∧ Q vs H'
def SP (X : Cx) (pins : List (Addr × Obj)) (D : Ends) (f : Flow) (s' : Shared) : Prop :=
  match f with
  | .next => ∃ σ' H', Inv X pins σ' H' s' ∧ D.nx σ' H'
  | .brk => ∃ σ' H', Inv X pins σ' H' s' ∧ D.bk σ' H'
  | .cont => ∃ σ' H', Inv X pins σ' H' s' ∧ D.ct σ' H'
  | .ret u => ∃ v σ' H', Inv X pins σ' H' s' ∧ RelV v u ∧ D.rt v H'

def PE (X : Cx) (e : Expr) (t : TE) : Prop :=
  ∀ (pins : List (Addr × Obj)) (s : Shared) (σ : St) (H : Hp) (Q : VK), Inv X pins σ H s → t σ H Q → wpAny (model X.prog X.w) X.A (eval e X.env) (EP X pins σ Q) X.xe s
def PT (X : Cx) (e : Expr) (t : TT) : Prop :=
  ∀ (pins : List (Addr × Obj)) (s : Shared) (σ : St) (H : Hp) (Q : Bool → Hp → Prop), Inv X pins σ H s → t σ H Q → wpAny (model X.prog X.w) X.A (isTrue e X.env (eval e X.env)) (TP X pins σ Q) X.xe s
/-- a test whatever its 'whole' is (and, or) -/
def PW (X : Cx) (e : Expr) (t : TT) : Prop :=
  ∀ (whole : Sem Value) (pins : List (Addr × Obj)) (s : Shared) (σ : St) (H : Hp) (Q : Bool → Hp → Prop), Inv X pins σ H s → t σ H Q → wpAny (model X.prog X.w) X.A (isTrue e X.env whole) (TP X pins σ Q) X.xe s
theorem PW.pt {X : Cx} {e : Expr} {t : TT} (h : PW X e t) : PT X e t := h _
/-- an argument list (no star), from the left -/
def PA (X : Cx) (es : List Expr) (t : TA) : Prop :=
  ∀ (pos : Pos) (pins : List (Addr × Obj)) (s : Shared) (σ : St) (H : Hp) (Q : List V → Hp → Prop), Inv X pins σ H s → t σ H Q → wpAny (model X.prog X.w) X.A (spliced (backTo pos (starEach es X.env))) (AP X pins σ Q) X.xe s
def PS (X : Cx) (st : Stmt) (t : TS) : Prop :=
  ∀ (pins : List (Addr × Obj)) (s : Shared) (σ : St) (H : Hp) (D : Ends), Inv X pins σ H s → t D σ H → wpAny (model X.prog X.w) X.A (exec st X.env) (SP X pins D) X.xe s
def PSs (X : Cx) (st : List Stmt) (t : TS) : Prop :=
  ∀ (pins : List (Addr × Obj)) (s : Shared) (σ : St) (H : Hp) (D : Ends), Inv X pins σ H s → t D σ H → wpAny (model X.prog X.w) X.A (execs st X.env) (SP X pins D) X.xe s
/-- weaken the end -/
theorem thn {α : Type} {t : Sem α} {Q Q' : α → Shared → Prop} {M : Model} {A : Around} {E : Value → Shared → Prop} {s : Shared} (h : wpAny M A t Q E s) (hQ : ∀ a s, Q a s → Q' a s) : wpAny M A t Q' E s := wpAny_mono h hQ fun _ _ x => x
end L2

namespace L2
open PySem PySem.Spec PyProof.Rows
section
variable {X : Cx}

/-- two expressions in a row -/
theorem bin {a b : Expr} {ta tb : TE} (ha : PE X a ta) (hb : PE X b tb) {pins : List (Addr × Obj)} {s : Shared} {σ : St} {H : Hp} {R : V → V → Hp → Prop} (I : Inv X pins σ H s) (h : ta σ H fun x H1 => tb σ H1 fun y H2 => R x y H2)
    {α : Type} {Q : α → Shared → Prop} {f : Value → Value → Sem α}
    (hf : ∀ v u s2 x y H2, Inv X pins σ H2 s2 → RelV x v → RelV y u → R x y H2 → wpAny (model X.prog X.w) X.A (f v u) Q X.xe s2) :
    wpAny (model X.prog X.w) X.A (eval a X.env) (fun v s₁ => wpAny (model X.prog X.w) X.A (eval b X.env) (fun u s₂ => wpAny (model X.prog X.w) X.A (f v u) Q X.xe s₂) X.xe s₁) X.xe s := by
  refine thn (ha pins s σ H _ I h) fun v s1 ⟨x, H1, I1, r1, q1⟩ => ?_
  refine thn (hb pins s1 σ H1 _ I1 q1) fun u s2 ⟨y, H2, I2, r2, q2⟩ => ?_
  exact hf v u s2 x y H2 I2 r1 r2 q2

/-! ### names and constants -/
def tVar (i : Nat) : TE := fun σ H Q => ∃ v, σ[i]? = some (some v) ∧ Q v H
def tC (v : V) : TE := fun _ H Q => Q v H
theorem pe_var {i : Nat} {x : Str} {pos : Pos} (hN : X.N[i]? = some x) (hv : Vis X.env.scope x) (hd : (x == ("__debug__" : Str)) = false := by decide) (hcd : (x == ("__classdict__" : Str)) = false := by decide) : PE X (.Name x pos) (tVar i) := by
  intro pins s σ H Q I h
  obtain ⟨v, e, h⟩ := h
  obtain ⟨m, hn, hl⟩ := I.loc
  obtain ⟨u, r, l⟩ := hl i x v hN e hv
  have fin : EP X pins σ Q u s := ⟨v, H, I, r, h⟩
  rcases l with ⟨hk, hm⟩ | ⟨hk, c, hc, hcell⟩
  · exact wpAny_Name (wpAny_loadName_local I.ok.kind hk hn hm fin) hd
  · rcases hk with hk | hk
    · exact wpAny_Name (wpAny_loadName_cell I.ok.kind hk hc hcell fin) hd
    · exact wpAny_Name (wpAny_loadName_free I.ok.kind hk hc hcell fin hcd) hd
theorem pe_int {i j pos} : PE X (.Constant (.int i) j pos) (tC (.int i)) := fun _ _ _ H _ I h => wpAny_Constant_int ⟨.int i, H, I.tok _, ⟨_, rfl⟩, h⟩
theorem pe_bl {b j pos} : PE X (.Constant (.bool b) j pos) (tC (.bl b)) := fun _ _ _ H _ I h => Constant_bool ⟨.bl b, H, I, rfl, h⟩
theorem pe_non {j pos} : PE X (.Constant .none j pos) (tC .non) := fun _ _ _ H _ I h => Constant_none ⟨.non, H, I, rfl, h⟩
/-- a global name of the def -/
def Gl (X : Cx) (x : Str) : Prop := X.env.kindOf x = some .globalImplicit
theorem ld_glob {E : Value → Shared → Prop} {pins : List (Addr × Obj)} {s : Shared} {σ : St} {H : Hp} {x : Str} {u : Value} {pos : Pos} {Q : Value → Shared → Prop} (I : Inv X pins σ H s) (hg : Gl X x) (hm : X.mg x = some u) (h : Q u s)
    (hd : (x == ("__debug__" : Str)) = false := by decide) : wpAny (model X.prog X.w) X.A (eval (.Name x pos) X.env) Q E s :=
  Calls.Name_function_global I.ok.kind hg (Calls.loadGlobal_global (by rw [I.ok.glob]; exact I.mod.glob.keeps I.bk) hm h) hd
theorem ld_blt {E : Value → Shared → Prop} {pins : List (Addr × Obj)} {s : Shared} {σ : St} {H : Hp} {x : Str} {u : Value} {pos : Pos} {Q : Value → Shared → Prop} (I : Inv X pins σ H s) (hg : Gl X x) (hm : X.mg x = none) (hv : bootBuiltins x = some u) (h : Q u s)
    (hn : x ≠ "__name__" := by decide) (hd : (x == ("__debug__" : Str)) = false := by decide) : wpAny (model X.prog X.w) X.A (eval (.Name x pos) X.env) Q E s := by
  obtain ⟨mb, h1, h2⟩ := I.mod.blt
  exact Calls.Name_function_global I.ok.kind hg (Calls.loadGlobal_builtin (by rw [I.ok.glob]; exact I.mod.glob.keeps I.bk) hm (by rw [I.ok.blt]; exact h1.keeps I.bk) ((h2 x hn).trans hv) h) hd
/-- a module's constant, a class, a function, as a value -/
theorem pe_glob {x : Str} {v : V} {u : Value} {pos : Pos} (hg : Gl X x) (hm : X.mg x = some u) (r : RelV v u) (hd : (x == ("__debug__" : Str)) = false := by decide) : PE X (.Name x pos) (tC v) :=
  fun _ _ _ H _ I h => ld_glob I hg hm ⟨v, H, I, r, h⟩ hd
/-! ### arithmetic -/
/-- two ints -/
def t2I (ta tb : TE) (k : Int → Int → Hp → Prop) : St → Hp → Prop := fun σ H => ta σ H fun x H1 => tb σ H1 fun y H2 => ∃ i j, x = .int i ∧ y = .int j ∧ k i j H2
def tAdd (ta tb : TE) : TE := fun σ H Q => t2I ta tb (fun i j H2 => Q (.int (i + j)) H2) σ H
def tSub (ta tb : TE) : TE := fun σ H Q => t2I ta tb (fun i j H2 => Q (.int (i - j)) H2) σ H
/-- the left factor below 2^64 -/
def tMul (ta tb : TE) : TE := fun σ H Q => t2I ta tb (fun i j H2 => (-(2 ^ 64) < i ∧ i < 2 ^ 64) ∧ Q (.int (i * j)) H2) σ H
variable {a b : Expr} {ta tb : TE} {pos : Pos}
/-! ### comparisons -/
def PC (X : Cx) (op : CmpOp) (a b : Expr) (t : TE) : Prop :=
  ∀ (pins : List (Addr × Obj)) (s : Shared) (σ : St) (H : Hp) (Q : VK), Inv X pins σ H s → t σ H Q →
    wpAny (model X.prog X.w) X.A (eval a X.env) (fun v s₁ => wpAny (model X.prog X.w) X.A (eval b X.env) (fun u s₂ => wpAny (model X.prog X.w) X.A (compareOp op v u) (EP X pins σ Q) X.xe s₂) X.xe s₁) X.xe s
def tCmp (p : Int → Int → Bool) (ta tb : TE) : TE := fun σ H Q => t2I ta tb (fun i j H2 => Q (.bl (p i j)) H2) σ H
abbrev tLt : TE → TE → TE := tCmp fun i j => decide (i < j)
abbrev tLe : TE → TE → TE := tCmp fun i j => decide (i ≤ j)
abbrev tGt : TE → TE → TE := tCmp fun i j => decide (j < i)
abbrev tGe : TE → TE → TE := tCmp fun i j => decide (j ≤ i)
abbrev tEqI : TE → TE → TE := tCmp fun i j => decide (i = j)
abbrev tNeI : TE → TE → TE := tCmp fun i j => !decide (i = j)
/-- is None -/
def tIsN (ta : TE) : TE := fun σ H Q => ta σ H fun x H1 => Q (.bl (decide (x = .non))) H1
def tNotN (ta : TE) : TE := fun σ H Q => ta σ H fun x H1 => Q (.bl (!decide (x = .non))) H1
/-- a comparison as a value, as a test -/
def tB (t : TE) : TT := fun σ H Q => t σ H fun x H1 => ∃ c, x = .bl c ∧ Q c H1
theorem pt_cmp {op : CmpOp} {t : TE} (h : PC X op a b t) (h1 : behindInMarks op b = false := by first | exact nobehind _ (by decide) (by decide) | rfl) : PT X (.Compare a [op] [b] pos) (tB t) := by
  intro pins s σ H Q I hw
  refine wpAny_isTrue_Compare1 (thn (h pins s σ H _ I hw) fun v s1 h1 => thn h1 fun u s2 h2 => thn h2 fun c s3 ⟨x, H1, I1, r1, q1⟩ => ?_) h1
  obtain ⟨d, rfl, q⟩ := q1
  cases r1
  exact wpAny_truthy_bool ⟨H1, I1, q⟩
/-- an expression whose value is a bool, as a test -/
theorem pt_val {e : Expr} {t : TE} (h : PE X e t) (he : ∀ whole, isTrue e X.env whole = (do let v ← whole; standAt e.pos; holding [v] (truthy v)) := by intro _; rfl) : PT X e (tB t) := by
  intro pins s σ H Q I hw
  refine isTrue_plain (thn (h pins s σ H _ I hw) fun v s1 ⟨x, H1, I1, r1, q1⟩ => ?_) (he _)
  obtain ⟨d, rfl, q⟩ := q1
  cases r1
  exact wpAny_truthy_bool ⟨H1, I1, q⟩

/-! ### and, or, not -/
variable {tA tB' : TT} {rest : List Expr}
def tAnd (t u : TT) : TT := fun σ H Q => t σ H fun c H1 => if c = true then u σ H1 Q else Q false H1
def tOr (t u : TT) : TT := fun σ H Q => t σ H fun c H1 => if c = true then Q true H1 else u σ H1 Q
def tNot (t : TT) : TT := fun σ H Q => t σ H fun c H1 => Q (!c) H1
theorem pw_and1 (ha : PT X a tA) : PW X (.BoolOp .And [a] pos) tA := by
  intro wh pins s σ H Q I h
  refine isTrue_and (thn (ha pins s σ H Q I h) fun c s1 e => ?_)
  cases c with
  | true => exact isTrue_and_nil e
  | false => exact e
theorem pw_and (ha : PT X a tA) (hb : PW X (.BoolOp .And (b :: rest) pos) tB') : PW X (.BoolOp .And (a :: b :: rest) pos) (tAnd tA tB') := by
  intro wh pins s σ H Q I h
  refine isTrue_and (thn (ha pins s σ H _ I h) fun c s1 ⟨H1, I1, q1⟩ => ?_)
  cases c with
  | true => exact hb wh pins s1 σ H1 Q I1 q1
  | false => exact ⟨H1, I1, q1⟩
theorem pt_not (ha : PT X a tA) : PT X (.UnaryOp .Not a pos) (tNot tA) := by
  intro pins s σ H Q I h
  exact isTrue_not (ha pins s σ H (fun c H1 => Q (!c) H1) I h)
/-- .. as values (bools) -/
def tAndV (ta tb : TE) : TE := fun σ H Q => ta σ H fun x H1 => ∃ c, x = .bl c ∧ if c = true then tb σ H1 Q else Q (.bl false) H1
def tOrV (ta tb : TE) : TE := fun σ H Q => ta σ H fun x H1 => ∃ c, x = .bl c ∧ if c = true then Q (.bl true) H1 else tb σ H1 Q
def tNotV (ta : TE) : TE := fun σ H Q => ta σ H fun x H1 => ∃ c, x = .bl c ∧ Q (.bl (!c)) H1
theorem pe_one {op} {t : TE} (h : PE X a t) : PE X (.BoolOp op [a] pos) t := fun pins s σ H Q I hw => BoolOp_one (h pins s σ H Q I hw)
theorem pe_and (ha : PE X a ta) (hb : PE X (.BoolOp .And (b :: rest) pos) tb) : PE X (.BoolOp .And (a :: b :: rest) pos) (tAndV ta tb) := by
  intro pins s σ H Q I h
  refine BoolOp_and (thn (ha pins s σ H _ I h) fun v s1 ⟨x, H1, I1, r1, q1⟩ => ?_)
  obtain ⟨c, rfl, q1⟩ := q1
  cases r1
  refine wpAny_truthy_bool ?_
  cases c with
  | true => exact hb pins s1 σ H1 Q I1 q1
  | false => exact ⟨.bl false, H1, I1, rfl, q1⟩
/-- a if t else b -/
def tIf (t : TT) (ta tb : TE) : TE := fun σ H Q => t σ H fun c H1 => if c = true then ta σ H1 Q else tb σ H1 Q
theorem pe_ifExp {c : Expr} (hc : PT X c tA) (ha : PE X a ta) (hb : PE X b tb) : PE X (.IfExp c a b pos) (tIf tA ta tb) := by
  intro pins s σ H Q I h
  refine wpAny_IfExp (thn (hc pins s σ H _ I h) fun d s1 ⟨H1, I1, q1⟩ => ?_)
  cases d with
  | true => exact ha pins s1 σ H1 Q I1 q1
  | false => exact hb pins s1 σ H1 Q I1 q1
end
end L2

namespace L2
open PySem PySem.Spec PyProof.Rows

/-! ### a list, a tuple that is read: tracked, frozen, or an object of the module -/
def SqL (K : PySem.W.Frag) (H : Hp) (a : Addr) (xs : List V) : Prop :=
  Rd H a (.lst xs) ∨
    ∃ (o : Obj) (its : Array Value) (n : Nat), K.lookup a = some o ∧ o.cls = .type "list" ∧ o.dict = none ∧ o.data = .seq its n ∧ its.size ≤ sizeLine ∧ Vals xs its.toList
def SqT (K : PySem.W.Frag) (H : Hp) (a : Addr) (xs : List V) : Prop :=
  Rd H a (.tup xs) ∨
    ∃ (o : Obj) (its : Array Value) (n : Nat), K.lookup a = some o ∧ o.cls = .type "tuple" ∧ o.data = .seq its n ∧ its.size ≤ sizeLine ∧ Vals xs its.toList
def absV : Value → Option V
  | .none => some .non
  | .bool b => some (.bl b)
  | .int i _ => some (.int i)
  | .str x _ => some (.str x)
  | .bytes b _ => some (.byt b)
  | .float b _ => some (.flt b)
  | .ref a => some (.ref a)
  | .type n => some (.ty n)
  | _ => none
theorem RelV.abs {x : V} {u : Value} (r : RelV x u) : absV u = some x := by
  cases x with
  | non => cases r; rfl
  | bl _ => cases r; rfl
  | int _ => obtain ⟨t, rfl⟩ := r; rfl
  | str _ => obtain ⟨t, rfl⟩ := r; rfl
  | byt _ => obtain ⟨t, rfl⟩ := r; rfl
  | flt _ => obtain ⟨t, rfl⟩ := r; rfl
  | ref _ => cases r; rfl
  | ty _ => cases r; rfl
theorem RelV.inj {x y : V} {u : Value} (r : RelV x u) (q : RelV y u) : x = y := Option.some.inj (r.abs.symm.trans q.abs)
theorem Vals.inj : ∀ {xs ys : List V} {us : List Value}, Vals xs us → Vals ys us → xs = ys
  | _, _, _, .nil, .nil => rfl
  | _, _, _, .cons r t, .cons r' t' => by rw [r.inj r', Vals.inj t t']
section
variable {X : Cx} {pins : List (Addr × Obj)} {σ : St} {H : Hp} {s : Shared} {a : Addr} {xs ys : List V}
theorem SqL.of {K : PySem.W.Frag} (h : H a = some (.lst xs)) : SqL K H a xs := .inl (.inl h)
theorem Inv.list (I : Inv X pins σ H s) (h : SqL X.K H a xs) : ∃ its : List Value, Vals xs its ∧ PlainL s.heap a its.toArray ∧ xs.length ≤ sizeLine := by
  rcases h with h | ⟨o, its, n, hk, hc, hd, hs, hz, r⟩
  · obtain ⟨z, its, n, r, e⟩ := h.ok I.hok
    exact ⟨its, r, ⟨_, n, e, rfl, rfl, rfl⟩, z⟩
  · refine ⟨its.toList, r, ⟨o, n, I.kIn a o hk, hc, hd, by simpa using hs⟩, ?_⟩
    have e := r.length
    simp only [Array.length_toList] at e
    omega
theorem Inv.tuple (I : Inv X pins σ H s) (h : SqT X.K H a xs) : ∃ its : List Value, Vals xs its ∧ IsTup s.heap a its.toArray ∧ xs.length ≤ sizeLine := by
  rcases h with h | ⟨o, its, n, hk, hc, hs, hz, r⟩
  · obtain ⟨z, its, r, p⟩ := h.ok I.hok
    exact ⟨its, r, p, z⟩
  · refine ⟨its.toList, r, ⟨o, I.kIn a o hk, hc, n, by simpa using hs⟩, ?_⟩
    have e := r.length
    simp only [Array.length_toList] at e
    omega
theorem Inv.list_inj (I : Inv X pins σ H s) (h : SqL X.K H a xs) (h' : SqL X.K H a ys) : xs = ys := by
  obtain ⟨its, r, ⟨o, n, e, _, _, d⟩, _⟩ := I.list h
  obtain ⟨its', r', ⟨o', n', e', _, _, d'⟩, _⟩ := I.list h'
  rw [e] at e'; cases e'
  rw [d] at d'
  injection d' with d1 _
  have : its = its' := by simpa using congrArg Array.toList d1
  subst this
  exact r.inj r'
end

/-! ### another wish about exceptions -/
abbrev Cx.wish (X : Cx) (E : Value → Shared → Prop) : Cx := { X with xe := E }
/-- no exception leaves -/
abbrev Cx.nox (X : Cx) : Cx := X.wish fun _ _ => False
theorem Cx.Ok.wish {X : Cx} (ok : X.Ok) (E : Value → Shared → Prop) : (X.wish E).Ok :=
  ⟨ok.mod, ok.kind, ok.glob, ok.blt, ok.above, ok.inj, ok.has, ok.cab, ok.hd, ok.frames, ok.stk, ok.exf, ok.bs, ok.bsz, ok.noex, ok.exfs, ok.funs, ok.frf⟩
theorem Cx.Ok.unwish {X : Cx} {E : Value → Shared → Prop} (ok : (X.wish E).Ok) : X.Ok :=
  ⟨ok.mod, ok.kind, ok.glob, ok.blt, ok.above, ok.inj, ok.has, ok.cab, ok.hd, ok.frames, ok.stk, ok.exf, ok.bs, ok.bsz, ok.noex, ok.exfs, ok.funs, ok.frf⟩
section
variable {X : Cx} {pins : List (Addr × Obj)} {σ : St} {H : Hp} {s : Shared} {E : Value → Shared → Prop}
theorem Inv.wish (I : Inv X pins σ H s) (E : Value → Shared → Prop) : Inv (X.wish E) pins σ H s := ⟨I.ok.wish E, I.os, I.bare, I.base, I.loc, I.cell, I.free, I.freeC, I.pin, I.hok, I.len⟩
theorem Inv.unwish (I : Inv (X.wish E) pins σ H s) : Inv X pins σ H s := ⟨I.ok.unwish, I.os, I.bare, I.base, I.loc, I.cell, I.free, I.freeC, I.pin, I.hok, I.len⟩
theorem SP.unwish {D : Ends} {f : Flow} {s' : Shared} (h : SP (X.wish E) pins D f s') : SP X pins D f s' := by
  cases f with
  | next => obtain ⟨σ', H', I, q⟩ := h; exact ⟨σ', H', I.unwish, q⟩
  | brk => obtain ⟨σ', H', I, q⟩ := h; exact ⟨σ', H', I.unwish, q⟩
  | cont => obtain ⟨σ', H', I, q⟩ := h; exact ⟨σ', H', I.unwish, q⟩
  | ret u => obtain ⟨v, σ', H', I, r, q⟩ := h; exact ⟨v, σ', H', I.unwish, r, q⟩
theorem PSs.nox {st : List Stmt} {t : TS} (h : PSs X.nox st t) : PSs X st t := fun pins s σ H D I hw =>
  wpAny_mono (h pins s σ H D (I.wish _) hw) (fun _ _ q => q.unwish) fun _ _ z => False.elim z
end

/-! ### blocks and small statements -/
section
variable {X : Cx} {st : Stmt} {rest : List Stmt} {t u : TS} {e : Expr} {te : TE} {pos : Pos}
def tNext : TS := fun D σ H => D.nx σ H
def tSeq (t u : TS) : TS := fun D σ H => t { D with nx := u D } σ H
theorem pss_nil : PSs X [] tNext := fun _ _ σ H _ I h => wpAny_execs_nil ⟨σ, H, I, h⟩
theorem pss_cons (h1 : PS X st t) (h2 : PSs X rest u) : PSs X (st :: rest) (tSeq t u) := by
  intro pins s σ H D I h
  refine wpAny_execs_cons (thn (h1 pins s σ H { D with nx := u D } I h) fun f s1 q => ?_)
  cases f with
  | next =>
    obtain ⟨σ', H', I', q⟩ := q
    exact h2 pins s1 σ' H' D I' q
  | ret v => exact q
  | brk => exact q
  | cont => exact q
theorem pss_one (h1 : PS X st t) : PSs X [st] t := by
  intro pins s σ H D I h
  refine wpAny_execs_cons (thn (h1 pins s σ H D I h) fun f s1 q => ?_)
  cases f with
  | next => exact wpAny_execs_nil q
  | ret v => exact q
  | brk => exact q
  | cont => exact q
def tBreak : TS := fun D σ H => D.bk σ H
def tCont : TS := fun D σ H => D.ct σ H
/-- in a def's body nothing is shown -/
theorem Inv.quiet {pins : List (Addr × Obj)} {σ : St} {H : Hp} {s : Shared} (I : Inv X pins σ H s) : interactive X.env = false := by simp [interactive, I.ok.kind]
/-- an expression whose value is dropped -/
def tDrop (te : TE) : TS := fun D σ H => te σ H fun _ H1 => D.nx σ H1
theorem ps_expr (he : PE X e te) (hs : swapsWith e none pos.line X.env = pure false := by rfl) : PS X (.Expr e pos) (tDrop te) := by
  intro pins s σ H D I h
  exact wpAny_Expr_any (thn (he pins s σ H _ I h) fun v s1 ⟨x, H1, I1, r1, q1⟩ => ⟨σ, H1, I1, q1⟩) I.quiet hs
def tRet (te : TE) : TS := fun D σ H => te σ H D.rt
theorem ps_ret (he : PE X e te) : PS X (.Return (some e) pos) (tRet te) := by
  intro pins s σ H D I h
  exact wpAny_Return_some (thn (he pins s σ H _ I h) fun v s1 ⟨x, H1, I1, r1, q1⟩ => ⟨x, σ, H1, I1, r1, q1⟩)
def tRetN : TS := fun D _ H => D.rt .non H
def tIfS (c : TT) (t u : TS) : TS := fun D σ H => c σ H fun b H1 => if b = true then t D σ H1 else u D σ H1
theorem ps_if {c : Expr} {a b : List Stmt} {tc : TT} (hc : PT X c tc) (ha : PSs X a t) (hb : PSs X b u) : PS X (.If c a b pos) (tIfS tc t u) := by
  intro pins s σ H D I h
  refine wpAny_If (thn (hc pins s σ H _ I h) fun d s1 ⟨H1, I1, q1⟩ => ?_)
  cases d with
  | true => exact ha pins s1 σ H1 D I1 q1
  | false => exact hb pins s1 σ H1 D I1 q1
/-- code that the proof never comes to -/
def tNever : TS := fun _ _ _ => False
end

/-! ### targets -/
abbrev TG := V → St → Hp → (St → Hp → Prop) → Prop
abbrev TGs := List V → St → Hp → (St → Hp → Prop) → Prop
def PG (X : Cx) (target : Expr) (t : TG) : Prop :=
  ∀ (pins : List (Addr × Obj)) (s : Shared) (σ : St) (H : Hp) (v : V) (u : Value) (Q : St → Hp → Prop), Inv X pins σ H s → RelV v u → t v σ H Q →
    wpAny (model X.prog X.w) X.A (assign target X.env u) (fun _ s' => ∃ σ' H', Inv X pins σ' H' s' ∧ Q σ' H') X.xe s
/-- several targets, one after another -/
def PGs (X : Cx) (ts : List Expr) (t : TGs) : Prop :=
  ∀ (pins : List (Addr × Obj)) (s : Shared) (σ : St) (H : Hp) (vs : List V) (us : List Value) (Q : St → Hp → Prop), Inv X pins σ H s → Vals vs us → t vs σ H Q →
    wpAny (model X.prog X.w) X.A (assignInOrder ((assignEach ts X.env).map (·.2)) us) (fun _ s' => ∃ σ' H', Inv X pins σ' H' s' ∧ Q σ' H') X.xe s
/-- o[i] = v, by values -/
abbrev TSet := V → V → V → Hp → (Hp → Prop) → Prop
def PSet (X : Cx) (t : TSet) : Prop :=
  ∀ (pins : List (Addr × Obj)) (s : Shared) (σ : St) (H : Hp) (o i v : V) (ov iv u : Value) (Q : Hp → Prop), Inv X pins σ H s → RelV o ov → RelV i iv → RelV v u → t o i v H Q →
    wpAny (model X.prog X.w) X.A (setItem ov iv u) (fun _ s' => ∃ H', Inv X pins σ H' s' ∧ Q H') X.xe s
/-- a op= b, by values -/
abbrev TIp := V → V → Hp → VK → Prop
def PIp (X : Cx) (op : Operator) (t : TIp) : Prop :=
  ∀ (pins : List (Addr × Obj)) (s : Shared) (σ : St) (H : Hp) (x y : V) (v u : Value) (Q : VK), Inv X pins σ H s → RelV x v → RelV y u → t x y H Q →
    wpAny (model X.prog X.w) X.A (inplaceOp op v u) (EP X pins σ Q) X.xe s
section
variable {X : Cx} {pos : Pos}
def gName (i : Nat) : TG := fun v σ H Q => Q (σ.set i (some v)) H
theorem pg_name {i : Nat} {x : Str} (hN : X.N.Nodup) (hi : X.N[i]? = some x) (hx : Loc X.env.scope x) (hf : X.fn x = true ∨ X.env.scope.names.lookup x = some .local := by first | exact .inl rfl | exact .inr rfl | assumption) : PG X (.Name x pos) (gName i) := by
  intro pins s σ H v u Q I r h
  exact wpAny_assign_Name (store_ok I hN hi hx r (fun s' I' => ⟨_, H, I', h⟩) hf)
def gNil : TGs := fun vs σ H Q => vs = [] ∧ Q σ H
def gCons (t : TG) (u : TGs) : TGs := fun vs σ H Q => ∃ v r, vs = v :: r ∧ t v σ H fun σ' H' => u r σ' H' Q
/-- (a, b, ..) = a tuple of that length -/
def gTup (K : PySem.W.Frag) (n : Nat) (t : TGs) : TG := fun v σ H Q => ∃ a xs, v = .ref a ∧ SqT K H a xs ∧ xs.length = n ∧ t xs σ H Q
/-- o[i] = .. -/
def gSub (to ti : TE) (t : TSet) : TG := fun v σ H Q => to σ H fun o H1 => ti σ H1 fun i H2 => t o i v H2 fun H3 => Q σ H3
theorem pg_sub {o i : Expr} {to ti : TE} {t : TSet} (ho : PE X o to) (hi : PE X i ti) (hs : PSet X t)
    (ha : ∀ v, assign (.Subscript o i pos) X.env v = (do
      let ov ← holding [v] (eval o X.env)
      let iv ← holding [v, ov] (eval i X.env)
      standAt pos
      holding [v, ov, iv] (setItem ov iv v)
      release [v, ov, iv] []) := by intro _; rfl) : PG X (.Subscript o i pos) (gSub to ti t) := by
  intro pins s σ H v u Q I r h
  rw [ha]
  refine wpAny_bind (wpAny_holding (thn (ho pins s σ H _ I h) fun ov s1 ⟨x, H1, I1, r1, q1⟩ => ?_))
  refine wpAny_bind (wpAny_holding (thn (hi pins s1 σ H1 _ I1 q1) fun iv s2 ⟨y, H2, I2, r2, q2⟩ => ?_))
  refine wpAny_bind (wpAny_standAt (wpAny_bind (wpAny_holding (thn (hs pins s2 σ H2 x y v ov iv u _ I2 r1 r2 r q2) fun _ s3 ⟨H3, I3, q3⟩ => ?_))))
  exact wpAny_release ⟨σ, H3, I3, q3⟩
/-- target = value -/
def tAsg (te : TE) (g : TG) : TS := fun D σ H => te σ H fun x H1 => g x σ H1 D.nx
theorem ps_asg {tg e : Expr} {te : TE} {g : TG} (he : PE X e te) (hg : PG X tg g) (hs : swapsWithSole [tg] e pos.line X.env = pure false := by rfl) (hw : swappedStores [tg] e X.env = pure none := by rfl)
    (h1 : (assignEach [tg] X.env).map (·.2) = [assign tg X.env] := by rfl) : PS X (.Assign [tg] e pos) (tAsg te g) := by
  intro pins s σ H D I h
  refine wpAny_Assign_stores (thn (he pins s σ H _ I h) fun v s1 ⟨x, H1, I1, r1, q1⟩ => ?_) hs hw
  rw [h1]
  exact thn (hg pins s1 σ H1 x v _ I1 r1 q1) fun _ s2 q => q
/-- name = value -/
theorem ps_set {i : Nat} {x : Str} {e : Expr} {te : TE} {pos' : Pos} (hN : X.N.Nodup) (hi : X.N[i]? = some x) (hx : Loc X.env.scope x) (he : PE X e te) (hs : swapsWith e (some (.Name x pos')) pos.line X.env = pure false := by rfl) (hf : X.fn x = true ∨ X.env.scope.names.lookup x = some .local := by first | exact .inl rfl | exact .inr rfl | assumption) :
    PS X (.Assign [.Name x pos'] e pos) (tAsg te (gName i)) := by
  intro pins s σ H D I h
  refine wpAny_Assign_Name (thn (he pins s σ H _ I h) fun v s1 ⟨y, H1, I1, r1, q1⟩ => ?_) hs
  exact store_ok I1 hN hi hx r1 (fun s2 I2 => ⟨_, H1, I2, q1⟩) hf
/-- a, b = x, y with plain local names: stored from the right; the pair itself is not tracked (the opening rows as in PyProof/Rows/TupAssign.lean:23) -/
def tPar (i j : Nat) (ta : TA) : TS := fun D σ H => ta σ H fun vs H1 => ∃ v w, vs = [v, w] ∧ D.nx ((σ.set i (some v)).set j (some w)) H1
/-- name op= e -/
def tAug (i : Nat) (te : TE) (ti : TIp) : TS := fun D σ H => ∃ x, σ[i]? = some (some x) ∧ te σ H fun y H1 => ti x y H1 fun z H2 => D.nx (σ.set i (some z)) H2
/-- o[i] op= e -/
def tAugS (to ti te : TE) (tget : V → V → Hp → VK → Prop) (tip : TIp) (tset : TSet) : TS := fun D σ H => to σ H fun o H1 => ti σ H1 fun i H2 => tget o i H2 fun x H3 => te σ H3 fun y H4 => tip x y H4 fun z H5 => tset o i z H5 fun H6 => D.nx σ H6
/-- o[i], by values -/
def PGet (X : Cx) (t : V → V → Hp → VK → Prop) : Prop :=
  ∀ (pins : List (Addr × Obj)) (s : Shared) (σ : St) (H : Hp) (o i : V) (ov iv : Value) (Q : VK), Inv X pins σ H s → RelV o ov → RelV i iv → t o i H Q →
    wpAny (model X.prog X.w) X.A (getItem ov iv) (EP X pins σ Q) X.xe s
/-- ints -/
def ipI (f : Int → Int → Int) : TIp := fun x y H Q => ∃ i j, x = .int i ∧ y = .int j ∧ Q (.int (f i j)) H
end

/-! ### while -/
section
variable {X : Cx} {pos : Pos}
/-- the invariant W with its measure -/
def tWhile (c : TT) (tb : TS) : TS := fun D σ H => ∃ W : Nat → St → Hp → Prop, (∃ m, W m σ H) ∧ ∀ m σ H, W m σ H →
  c σ H fun b H1 => if b = true then ∃ N : St → Hp → Prop, (∀ σ' H', N σ' H' → ∃ m', m' < m ∧ W m' σ' H') ∧ tb { D with nx := N, ct := N, bk := D.nx } σ H1 else D.nx σ H1
theorem ps_while {c : Expr} {body : List Stmt} {tc : TT} {tb : TS} (hp : PassesOwn (model X.prog X.w) X.A X.env X.xe) (hc : PT X c tc) (hb : PSs X body tb) : PS X (.While c body [] pos) (tWhile tc tb) := by
  intro pins s σ H D I h
  obtain ⟨W, ⟨m0, w0⟩, turn⟩ := h
  refine wpAny_While (codeAny_whileLoop (fun n s' => ∃ σ' H', Inv X pins σ' H' s' ∧ W n σ' H') ?_ m0 ⟨σ, H, I, w0⟩)
  rintro n s1 ⟨σ1, H1, I1, w1⟩
  refine wpAny_passesOwn hp (thn (hc pins s1 σ1 H1 _ I1 (turn n σ1 H1 w1)) fun b s2 ⟨H2, I2, q2⟩ => ?_)
  cases b with
  | true =>
    obtain ⟨N, hN, q2⟩ := q2
    rw [if_pos rfl]
    refine wpAny_passesOwn hp (thn (hb pins s2 σ1 H2 _ I2 q2) fun f s3 q3 => ?_)
    cases f with
    | next =>
      obtain ⟨σ3, H3, I3, n3⟩ := q3
      obtain ⟨m', hm, w3⟩ := hN σ3 H3 n3
      exact ⟨m', hm, σ3, H3, I3, w3⟩
    | cont =>
      obtain ⟨σ3, H3, I3, n3⟩ := q3
      obtain ⟨m', hm, w3⟩ := hN σ3 H3 n3
      exact ⟨m', hm, σ3, H3, I3, w3⟩
    | brk => exact q3
    | ret v => exact q3
  | false =>
    rw [if_neg Bool.false_ne_true]
    exact wpAny_execs_nil ⟨σ1, H2, I2, q2⟩
end

/-! ### what a loop or a comprehension walks -/
/-- at turn i: it yields x (the heap may grow), or it stops -/
structure It where
  go : Nat → Hp → Prop
  yld : Nat → Hp → V → Hp → Prop
  stop : Nat → Hp → Prop
/-- the iterator's own objects may turn: they are not the frame's, not pinned, younger than the entry (or a comprehension's own) -/
def FpOk (X : Cx) (pins : List (Addr × Obj)) (H : Hp) (b : Addr) : Prop :=
  H b = none ∧ b ≠ X.env.locals ∧ b ∉ X.fs ∧ (b ∈ X.ex ∨ X.s_0.heap.objs.size ≤ b) ∧ (∀ x c, X.env.cells.lookup x = some c → c ≠ b) ∧ ∀ p ∈ X.pn ++ pins, p.1 ≠ b
theorem Inv.fpOk {X : Cx} {pins : List (Addr × Obj)} {σ : St} {H H' : Hp} {s : Shared} {b : Addr} (I : Inv X pins σ H s) (hb : s.heap.objs.size ≤ b) (hn : H' b = none) : FpOk X pins H' b := by
  refine ⟨hn, Nat.ne_of_gt (Nat.lt_of_lt_of_le I.lt hb), I.nofs hb, .inr (Nat.le_trans I.sz hb), fun x c e z => ?_, fun p hp z => ?_⟩
  · obtain ⟨v, q⟩ := I.cell x c e
    exact absurd (Nat.lt_of_lt_of_le q.lt (by rw [z]; exact hb)) (Nat.lt_irrefl _)
  · exact absurd (Nat.lt_of_lt_of_le (Heap.lt_size (I.pin p hp).1) (by rw [z]; exact hb)) (Nat.lt_irrefl _)
structure Turn (P : Program) (w : World) (K : PySem.W.Frag) (tg : Expr) (J : It) (fp : List Addr) (it : Addr) (tn : Nat → Heap → Prop) : Prop where
  mem : it ∈ fp
  obj : ∀ i h, tn i h → ∀ b ∈ fp, ∃ o, h.get? b = some o ∧ ∀ v, o.data ≠ .cell v
  keep : ∀ i h h', tn i h → (∀ b ∈ fp, ∀ o, h.get? b = some o → h'.get? b = some o) → tn i h'
  item : ∀ (X : Cx), X.prog = P → X.w = w → X.K = K → X.calm = true → ∀ (i : Nat) (pins : List (Addr × Obj)) (s : Shared) (σ : St) (H : Hp) (E : Value → Shared → Prop), Inv X pins σ H s → (∀ b ∈ fp, FpOk X pins H b) → tn i s.heap → J.go i H →
    wpAny (model P w) X.A (pyNext (.ref it)) (fun r s1 => ∃ u, r = some u ∧
      wpAny (model P w) X.A (letOwnedTupleGo tg (.ref it) u) (fun _ s2 => ∃ x H', Inv X pins σ H' s2 ∧ RelV x u ∧ J.yld i H x H' ∧ tn (i + 1) s2.heap ∧ ∀ b ∈ fp, H' b = none) E s1) E s
  done : ∀ (X : Cx), X.prog = P → X.w = w → X.K = K → X.calm = true → ∀ (i : Nat) (pins : List (Addr × Obj)) (s : Shared) (σ : St) (H : Hp) (E : Value → Shared → Prop), Inv X pins σ H s → (∀ b ∈ fp, FpOk X pins H b) → tn i s.heap → J.stop i H →
    wpAny (model P w) X.A (pyNext (.ref it)) (fun r s1 => r = none ∧ Inv X pins σ H s1) E s
  self : ∀ (A : Around) (i : Nat) (s : Shared) (Q : Value → Shared → Prop) (E : Value → Shared → Prop), tn i s.heap → Q (.ref it) s → wpAny (model P w) A (pyIter (.ref it)) Q E s
abbrev TI := St → Hp → (It → Hp → Prop) → Prop
/-- an iterator has come -/
def PIE (X : Cx) (pins : List (Addr × Obj)) (σ : St) (tg : Expr) (R : It → Hp → Prop) (itv : Value) (s2 : Shared) : Prop :=
  ∃ (it : Addr) (fp : List Addr) (tn : Nat → Heap → Prop) (J : It) (H' : Hp), itv = .ref it ∧ Inv X pins σ H' s2 ∧ Turn X.prog X.w X.K tg J fp it tn ∧ tn 0 s2.heap ∧ (∀ b ∈ fp, FpOk X pins H' b) ∧ R J H'
def PI (X : Cx) (tg iter : Expr) (wi : TI) : Prop :=
  ∀ (pins : List (Addr × Obj)) (s : Shared) (σ : St) (H : Hp) (R : It → Hp → Prop), Inv X pins σ H s → wi σ H R →
    wpAny (model X.prog X.w) X.A (eval iter X.env) (fun v s1 => wpAny (model X.prog X.w) X.A (pyIter v) (PIE X pins σ tg R) X.xe s1) X.xe s

/-- the step ahead of the store is nothing for an iterator that keeps no tuple -/
theorem go_of {M : Model} {A : Around} {E : Value → Shared → Prop} {s : Shared} {tg : Expr} {it : Addr} {u : Value} {o : Obj} {n : String} {vs : Array Value} {Q : Unit → Shared → Prop} (ho : s.heap.get? it = some o) (hc : o.cls = .type n) (hd : o.data = .fields vs)
    (hn : ["enumerate", "zip", "dict_itemiterator", "dict_reverseitemiterator", "odict_iterator", "itertools.zip_longest", "itertools.pairwise"].contains n = false) (hQ : Q () s) : wpAny M A (letOwnedTupleGo tg (.ref it) u) Q E s := by
  unfold letOwnedTupleGo
  cases tg <;> first
    | exact wpAny_pure hQ
    | (cases u <;> first
        | exact wpAny_pure hQ
        | (refine wpAny_bind (wpAny_load ho ?_)
           rw [hc, hd]
           show wpAny M A (if (["enumerate", "zip", "dict_itemiterator", "dict_reverseitemiterator", "odict_iterator", "itertools.zip_longest", "itertools.pairwise"].contains n && vs[0]? == some (rawInt _)) = true then _ else _) Q E s
           rw [if_neg (by intro h; rw [hn, Bool.false_and] at h; cases h)]
           exact wpAny_pure hQ))

/-- the list at a, as it stands at each turn (a loop may append to it) -/
def Itl (K : PySem.W.Frag) (a : Addr) : It :=
  ⟨fun i H => ∃ xs x, SqL K H a xs ∧ xs[i]? = some x, fun i H x H' => H' = H ∧ ∀ xs, SqL K H a xs → xs[i]? = some x, fun i H => ∃ xs, SqL K H a xs ∧ xs.length ≤ i⟩
def Itt (K : PySem.W.Frag) (a : Addr) : It :=
  ⟨fun i H => ∃ xs x, SqT K H a xs ∧ xs[i]? = some x, fun i H x H' => H' = H ∧ ∀ xs, SqT K H a xs → xs[i]? = some x, fun i H => ∃ xs, SqT K H a xs ∧ xs.length ≤ i⟩
/-- lo, lo + 1, .. (n of them) -/
def Itr (lo : Int) (n : Nat) : It := ⟨fun i _ => i < n, fun i H x H' => H' = H ∧ x = .int (lo + i), fun i _ => n ≤ i⟩
theorem turn_list {P : Program} {w : World} {K : PySem.W.Frag} {tg : Expr} (a it : Addr) : Turn P w K tg (Itl K a) [it] it (fun i h => h.IsListIter it a i) where
  mem := by simp
  obj := fun i h st b hb => by
    have e : b = it := by simpa using hb
    subst e
    obtain ⟨o, e, c, d⟩ := st
    exact ⟨o, e, fun v z => by rw [d] at z; cases z⟩
  keep := fun i h h' st k => st.at fun o e => k it (by simp) o e
  item := by
    intro X hP hw hK hc i pins s σ H E I hf st hg
    subst hP hw hK
    obtain ⟨xs, x, hq, hx⟩ := hg
    obtain ⟨its, rv, p, hz⟩ := I.list hq
    obtain ⟨u, hu, ru⟩ := rv.get hx
    obtain ⟨f0, f1, f2, f3, f4, f5⟩ := hf it (by simp)
    refine wpAny_pyNext_list_item st p.isList (x := u) (by simpa using hu) fun h' st' sb => ?_
    have I1 : Inv X pins σ H { s with heap := h' } := I.turned (t' := s.toks) (fun b o hb e => (sb.2 b hb).trans e) f0 f1 f3 f4 f5
    obtain ⟨o, e, c, d⟩ := id st'
    exact ⟨u, rfl, go_of (s := { s with heap := h' }) e c d (by decide) ⟨x, H, I1, ru, ⟨rfl, fun ys hy => by rw [I.list_inj hy hq]; exact hx⟩, st', fun b hb => (hf b hb).1⟩⟩
  done := by
    intro X hP hw hK hc i pins s σ H E I hf st hg
    subst hP hw hK
    obtain ⟨xs, hq, hx⟩ := hg
    obtain ⟨its, rv, p, hz⟩ := I.list hq
    obtain ⟨f0, f1, f2, f3, f4, f5⟩ := hf it (by simp)
    have hl := rv.length
    exact wpAny_pyNext_list_end (I.ok.hd hc) st p.isList (by simp; omega) fun h' eb => ⟨rfl, I.turned (t' := s.toks) (fun b o hb e => eb b o hb e) f0 f1 f3 f4 f5⟩
  self := fun _ _ _ _ _ st h => wpAny_pyIter_listiter st h
theorem turn_range {P : Program} {w : World} {K : PySem.W.Frag} {tg : Expr} (it : Addr) (lo : Int) (n : Nat) : Turn P w K tg (Itr lo n) [it] it (fun i h => IsRangeIter h it (lo + (i : Nat) * 1) ((n : Int) - (i : Nat)) 1) where
  mem := by simp
  obj := fun i h st b hb => by
    have e : b = it := by simpa using hb
    subst e
    exact ⟨_, st, fun v z => by
      have z' : Data.fields _ = Data.cell v := z
      cases z'⟩
  keep := fun i h h' st k => k it (by simp) _ st
  item := by
    intro X hP hw hK hc i pins s σ H E I hf st hg
    subst hP hw hK
    obtain ⟨f0, f1, f2, f3, f4, f5⟩ := hf it (by simp)
    have W := Walks.range (prog := X.prog) (w := X.w) (I.ok.hd hc) it lo 1 n
    refine W.item i s _ _ hg st fun v h' tk hv st' kk => ?_
    obtain ⟨t, rfl⟩ := hv
    have I1 : Inv X pins σ H { s with heap := h', toks := tk } := I.turned (fun b o hb e => kk b o (by simpa using hb) e) f0 f1 f3 f4 f5
    refine ⟨_, rfl, go_of (s := { s with heap := h', toks := tk }) (n := "range_iterator") st' rfl rfl (by decide) ⟨.int (lo + i), H, I1, ⟨t, ?_⟩, ⟨rfl, rfl⟩, st', fun b hb => (hf b hb).1⟩⟩
    rw [Int.mul_one]
  done := by
    intro X hP hw hK hc i pins s σ H E I hf st hg
    subst hP hw hK
    obtain ⟨f0, f1, f2, f3, f4, f5⟩ := hf it (by simp)
    exact wpAny_pyNext_range_end (I.ok.hd hc) st (by have : n ≤ i := hg; omega) fun h' eb => ⟨rfl, I.turned (t' := s.toks) (fun b o hb e => eb b o hb e) f0 f1 f3 f4 f5⟩
  self := fun _ _ _ _ _ st h => wpAny_pyIter_rangeiter st h
end L2

namespace L2
open PySem PySem.Spec PyProof.Rows
section
variable {X : Cx} {tg : Expr}
def iList (K : PySem.W.Frag) (tl : TE) : TI := fun σ H R => tl σ H fun x H1 => ∃ a, x = .ref a ∧ (∃ xs, SqL K H1 a xs) ∧ R (Itl K a) H1
def iTup (K : PySem.W.Frag) (tl : TE) : TI := fun σ H R => tl σ H fun x H1 => ∃ a, x = .ref a ∧ (∃ xs, SqT K H1 a xs) ∧ R (Itt K a) H1
theorem pi_list {l : Expr} {tl : TE} (hl : PE X l tl) : PI X tg l (iList X.K tl) := by
  intro pins s σ H R I h
  refine thn (hl pins s σ H _ I h) fun v s1 ⟨x, H1, I1, r1, q1⟩ => ?_
  obtain ⟨a, e, ⟨xs, hq⟩, q⟩ := q1
  subst e
  cases r1
  obtain ⟨its, rv, p, hz⟩ := I1.list hq
  refine wpAny_pyIter_list p.isList ?_
  refine ⟨s1.heap.objs.size, [s1.heap.objs.size], _, _, H1, rfl, I1.kept (t' := s1.toks) fun b o e => Heap.get?_push_of_some _ e, turn_list a _, ⟨_, Heap.get?_push_size _ rfl, rfl, rfl⟩, fun b hb => ?_, q⟩
  have e : b = s1.heap.objs.size := by simpa using hb
  subst e
  exact I1.fpOk (Nat.le_refl _) (I1.hok.fresh (Nat.le_refl _))
/-- a range object just made, walked -/
theorem range_it {pins : List (Addr × Obj)} {σ : St} {H : Hp} {s : Shared} {R : It → Hp → Prop} {E : Value → Shared → Prop} {lo hi : Int} {t u v : Tok} {tk : Nat} (I : Inv X pins σ H s) (h1 : -(2 ^ 62) ≤ lo) (h2 : lo < 2 ^ 62) (h3 : -(2 ^ 62) ≤ hi) (h4 : hi < 2 ^ 62)
    (q : R (Itr lo (hi - lo).toNat) H) : wpAny (model X.prog X.w) X.A (pyIter (.ref s.heap.objs.size)) (PIE X pins σ tg R) E { s with heap := s.heap.push { cls := .type "range", data := .fields #[.int lo t, .int hi u, .int 1 v] }, toks := tk } := by
  refine wpAny_pyIter_range (IsRange.new ..) (small_one h1 h2 h3 h4) ?_
  have I1 : Inv X pins σ H { s with heap := s.heap.push { cls := .type "range", data := .fields #[.int lo t, .int hi u, .int 1 v] }, toks := tk } := I.kept fun b o e => Heap.get?_push_of_some _ e
  refine ⟨(s.heap.push { cls := .type "range", data := .fields #[.int lo t, .int hi u, .int 1 v] }).objs.size, [(s.heap.push { cls := .type "range", data := .fields #[.int lo t, .int hi u, .int 1 v] }).objs.size], _, _, H, rfl,
    I1.kept (t' := tk) fun b o e => Heap.get?_push_of_some _ e, turn_range _ lo (hi - lo).toNat, ?_, fun b hb => ?_, q⟩
  · have e1 : lo + ((0 : Nat) : Int) * 1 = lo := by simp
    have e2 : (((hi - lo).toNat : Nat) : Int) - ((0 : Nat) : Int) = Builtin.Range.rangeSize lo hi 1 := by rw [rangeSize_one]; split <;> omega
    show IsRangeIter _ _ (lo + ((0 : Nat) : Int) * 1) ((((hi - lo).toNat : Nat) : Int) - ((0 : Nat) : Int)) 1
    rw [e1, e2]
    exact Heap.get?_push_size _ rfl
  · have e : b = (s.heap.push { cls := .type "range", data := .fields #[.int lo t, .int hi u, .int 1 v] }).objs.size := by simpa using hb
    subst e
    exact I1.fpOk (Nat.le_refl _) (I1.hok.fresh (Nat.le_refl _))
def iRng1 (ta : TA) : TI := fun σ H R => ta σ H fun vs H1 => ∃ j : Int, vs = [.int j] ∧ -(2 ^ 62) ≤ j ∧ j < 2 ^ 62 ∧ R (Itr 0 j.toNat) H1
def iRng2 (ta : TA) : TI := fun σ H R => ta σ H fun vs H1 => ∃ i j : Int, vs = [.int i, .int j] ∧ (-(2 ^ 62) ≤ i ∧ i < 2 ^ 62 ∧ -(2 ^ 62) ≤ j ∧ j < 2 ^ 62) ∧ R (Itr i (j - i).toNat) H1
theorem pi_range1 {a : Expr} {ta : TA} {p pos : Pos} (hg : Gl X "range") (hm : X.mg "range" = none) (ha : PA X [a] ta) (hs : starEach [a] X.env = [(false, eval a X.env)] := by rfl) : PI X tg (.Call (.Name "range" p) [a] [] pos) (iRng1 ta) := by
  intro pins s σ H R I h
  refine Call_ (ld_blt I hg hm boot_range (PyProof.Rows.callWith_type1 (thn (ha pos pins s σ H _ I h) fun us s1 ⟨vs, H1, I1, r1, q1⟩ => ?_) hs rfl))
  obtain ⟨j, e, q1, q2, q⟩ := q1
  subst e
  cases r1 with
  | cons r rr =>
    cases rr
    obtain ⟨t, rfl⟩ := r
    exact call_range_1 (range_it I1 (by omega) (by omega) q1 q2 (by simpa using q))
/-! ### for -/
/-- W: the invariant by the turn and a measure; N: what the body is to reach -/
def tFor (wi : TI) (g : TG) (tb : TS) : TS := fun D σ H => wi σ H fun J H1 => ∃ W : Nat → Nat → St → Hp → Prop, (∃ m, W 0 m σ H1) ∧ ∀ i m σ H, W i m σ H →
  (J.stop i H ∧ D.nx σ H) ∨ (J.go i H ∧ ∃ N : St → Hp → Prop, (∀ σ' H', N σ' H' → ∃ m', m' < m ∧ W (i + 1) m' σ' H') ∧ ∀ x H', J.yld i H x H' → g x σ H' fun σ2 H2 => tb { D with nx := N, ct := N, bk := D.nx } σ2 H2)
/-- the records at fp as they stand -/
def pinsAt (fp : List Addr) (h : Heap) : List (Addr × Obj) := fp.filterMap fun b => (h.get? b).map fun o => (b, o)
theorem mem_pinsAt {fp : List Addr} {h : Heap} {b : Addr} {o : Obj} (hb : b ∈ fp) (e : h.get? b = some o) : (b, o) ∈ pinsAt fp h := List.mem_filterMap.mpr ⟨b, hb, by rw [e]; rfl⟩
theorem of_pinsAt {fp : List Addr} {h : Heap} {p : Addr × Obj} (hp : p ∈ pinsAt fp h) : p.1 ∈ fp ∧ h.get? p.1 = some p.2 := by
  obtain ⟨b, hb, e⟩ := List.mem_filterMap.mp hp
  cases q : h.get? b with
  | none => rw [q] at e; cases e
  | some o =>
    rw [q] at e
    have e' : (b, o) = p := Option.some.inj e
    subst e'
    exact ⟨hb, q⟩
theorem Inv.pinned {pins : List (Addr × Obj)} {σ : St} {H : Hp} {s : Shared} {fp : List Addr} (I : Inv X pins σ H s) (hf : ∀ b ∈ fp, FpOk X pins H b) (ho : ∀ b ∈ fp, ∃ o, s.heap.get? b = some o ∧ ∀ v, o.data ≠ .cell v) : Inv X (pins ++ pinsAt fp s.heap) σ H s :=
  I.pins_of fun p hp => (List.mem_append.mp hp).elim (fun z => I.pin p (List.mem_append_right _ z)) fun z => by
    obtain ⟨hb, e⟩ := of_pinsAt z
    obtain ⟨f0, f1, f2, _⟩ := hf p.1 hb
    obtain ⟨o, e', d⟩ := ho p.1 hb
    rw [e] at e'; cases e'
    exact ⟨e, f0, f1, f2, d⟩
theorem Inv.unpinned {pins pl : List (Addr × Obj)} {σ : St} {H : Hp} {s : Shared} (I : Inv X (pins ++ pl) σ H s) : Inv X pins σ H s := I.pins_of fun p hp => I.pin p (List.mem_append_right _ (List.mem_append_left _ hp))
theorem ps_for {iter : Expr} {body : List Stmt} {wi : TI} {g : TG} {tb : TS} {pos : Pos} (hp : PassesOwn (model X.prog X.w) X.A X.env X.xe) (hc : X.calm = true) (hi : PI X tg iter wi) (hg : PG X tg g) (hb : PSs X body tb)
    (hs : ∀ x, foldedSetIterable iter X.env x = pure x := by intro _; rfl) : PS X (.For tg iter body [] pos) (tFor wi g tb) := by
  intro pins s σ H D I h
  refine wpAny_For (thn (hi pins s σ H _ I h) fun v s1 h1 => thn h1 fun itv s2 h2 => ?_) hs
  obtain ⟨it, fp, tn, J, H2, e, I2, T, st2, f2, W, ⟨m0, w0⟩, turn⟩ := h2
  subst e
  -- what stays true of the iterator's objects through the loop
  have stat : ∀ {H' : Hp}, (∀ b ∈ fp, H' b = none) → ∀ b ∈ fp, FpOk X pins H' b := fun hn b hb => ⟨hn b hb, (f2 b hb).2⟩
  refine codeAny_forLoop_any (fun n s' => ∃ i σ' H', Inv X pins σ' H' s' ∧ tn i s'.heap ∧ (∀ b ∈ fp, H' b = none) ∧ W i n σ' H') ?_ m0 ⟨0, σ, H2, I2, st2, fun b hb => (f2 b hb).1, w0⟩
  rintro n s3 ⟨i, σ3, H3, I3, st3, fr3, w3⟩
  rcases turn i n σ3 H3 w3 with ⟨stop, qn⟩ | ⟨go, N, hN, step⟩
  · refine wpAny_passesOwn hp (thn (T.done X rfl rfl rfl hc i pins s3 σ3 H3 X.xe I3 (stat fr3) st3 stop) fun r s4 ⟨hr, I4⟩ => ?_)
    subst hr
    exact wpAny_execs_nil ⟨σ3, H3, I4, qn⟩
  · refine wpAny_passesOwn hp (thn (T.item X rfl rfl rfl hc i pins s3 σ3 H3 X.xe I3 (stat fr3) st3 go) fun r s4 ⟨u, hr, h4⟩ => ?_)
    subst hr
    refine wpAny_passesOwn hp (thn h4 fun _ s5 ⟨x, H5, I5, r5, y5, st5, fr5⟩ => ?_)
    have I5' := I5.pinned (stat fr5) (T.obj _ _ st5)
    refine wpAny_passesOwn hp (thn (hg _ s5 σ3 H5 x u _ I5' r5 (step x H5 y5)) fun _ s6 ⟨σ6, H6, I6, q6⟩ => ?_)
    refine wpAny_passesOwn hp (thn (hb _ s6 σ6 H6 _ I6 q6) fun f s7 q7 => ?_)
    have again : ∀ {σ7 : St} {H7 : Hp}, Inv X (pins ++ pinsAt fp s5.heap) σ7 H7 s7 → N σ7 H7 → ∃ m, m < n ∧ ∃ i σ' H', Inv X pins σ' H' s7 ∧ tn i s7.heap ∧ (∀ b ∈ fp, H' b = none) ∧ W i m σ' H' := fun {σ7 H7} I7 n7 => by
      obtain ⟨m', hm, w7⟩ := hN σ7 H7 n7
      refine ⟨m', hm, i + 1, σ7, H7, I7.unpinned, T.keep _ _ _ st5 fun b hb o e => (I7.pin (b, o) (List.mem_append_right _ (List.mem_append_right _ (mem_pinsAt hb e)))).1, fun b hb => ?_, w7⟩
      obtain ⟨o, e, d⟩ := T.obj _ _ st5 b hb
      exact (I7.pin (b, o) (List.mem_append_right _ (List.mem_append_right _ (mem_pinsAt hb e)))).2.1
    cases f with
    | next => obtain ⟨σ7, H7, I7, n7⟩ := q7; exact again I7 n7
    | cont => obtain ⟨σ7, H7, I7, n7⟩ := q7; exact again I7 n7
    | brk => obtain ⟨σ7, H7, I7, q7⟩ := q7; exact ⟨σ7, H7, I7.unpinned, q7⟩
    | ret v => obtain ⟨x7, σ7, H7, I7, r7, q7⟩ := q7; exact ⟨x7, σ7, H7, I7.unpinned, r7, q7⟩
end

/-! ### the forms one uses -/
/-- over a list that the body leaves as it is -/
theorem for_list {K : PySem.W.Frag} {a : Addr} {xs : List V} {g : TG} {tb : TS} {D : Ends} {σ : St} {H : Hp} (Pv : Nat → St → Hp → Prop) (h0 : Pv 0 σ H) (hl : ∀ i σ H, i ≤ xs.length → Pv i σ H → SqL K H a xs)
    (hs : ∀ i x σ H, xs[i]? = some x → Pv i σ H → g x σ H fun σ2 H2 => tb { D with nx := Pv (i + 1), ct := Pv (i + 1), bk := D.nx } σ2 H2) (hd : ∀ σ H, Pv xs.length σ H → D.nx σ H) :
    ∃ W : Nat → Nat → St → Hp → Prop, (∃ m, W 0 m σ H) ∧ ∀ i m σ H, W i m σ H →
      ((Itl K a).stop i H ∧ D.nx σ H) ∨ ((Itl K a).go i H ∧ ∃ N : St → Hp → Prop, (∀ σ' H', N σ' H' → ∃ m', m' < m ∧ W (i + 1) m' σ' H') ∧ ∀ x H', (Itl K a).yld i H x H' → g x σ H' fun σ2 H2 => tb { D with nx := N, ct := N, bk := D.nx } σ2 H2) := by
  refine ⟨fun i m σ H => m = xs.length - i ∧ i ≤ xs.length ∧ Pv i σ H, ⟨xs.length, by simp, Nat.zero_le _, h0⟩, ?_⟩
  rintro i m σ H ⟨rfl, hi, p⟩
  have q := hl i σ H hi p
  by_cases hlt : i < xs.length
  · refine .inr ⟨⟨xs, xs[i], q, by simp [hlt]⟩, Pv (i + 1), fun σ' H' p' => ⟨xs.length - (i + 1), by omega, rfl, hlt, p'⟩, fun x H' y => ?_⟩
    obtain ⟨e, y⟩ := y
    subst e
    exact hs i x σ _ (y xs q) p
  · have e : i = xs.length := by omega
    subst e
    exact .inl ⟨⟨xs, q, Nat.le_refl _⟩, hd σ H p⟩
theorem for_range {lo : Int} {n : Nat} {g : TG} {tb : TS} {D : Ends} {σ : St} {H : Hp} (Pv : Nat → St → Hp → Prop) (h0 : Pv 0 σ H)
    (hs : ∀ i σ H, i < n → Pv i σ H → g (.int (lo + i)) σ H fun σ2 H2 => tb { D with nx := Pv (i + 1), ct := Pv (i + 1), bk := D.nx } σ2 H2) (hd : ∀ σ H, Pv n σ H → D.nx σ H) :
    ∃ W : Nat → Nat → St → Hp → Prop, (∃ m, W 0 m σ H) ∧ ∀ i m σ H, W i m σ H →
      ((Itr lo n).stop i H ∧ D.nx σ H) ∨ ((Itr lo n).go i H ∧ ∃ N : St → Hp → Prop, (∀ σ' H', N σ' H' → ∃ m', m' < m ∧ W (i + 1) m' σ' H') ∧ ∀ x H', (Itr lo n).yld i H x H' → g x σ H' fun σ2 H2 => tb { D with nx := N, ct := N, bk := D.nx } σ2 H2) := by
  refine ⟨fun i m σ H => m = n - i ∧ i ≤ n ∧ Pv i σ H, ⟨n, by simp, Nat.zero_le _, h0⟩, ?_⟩
  rintro i m σ H ⟨rfl, hi, p⟩
  by_cases hlt : i < n
  · refine .inr ⟨hlt, Pv (i + 1), fun σ' H' p' => ⟨n - (i + 1), by omega, rfl, hlt, p'⟩, fun x H' y => ?_⟩
    obtain ⟨e, y⟩ := y
    subst e y
    exact hs i σ _ hlt p
  · have e : i = n := by omega
    subst e
    exact .inl ⟨Nat.le_refl _, hd σ H p⟩
/-- while, by a word and a measure of the state -/
theorem while_by {c : TT} {tb : TS} {D : Ends} {σ : St} {H : Hp} (Pv : St → Hp → Prop) (μ : St → Hp → Nat) (h0 : Pv σ H)
    (hs : ∀ σ H, Pv σ H → c σ H fun b H1 => if b = true then tb { D with nx := fun σ' H' => Pv σ' H' ∧ μ σ' H' < μ σ H, ct := fun σ' H' => Pv σ' H' ∧ μ σ' H' < μ σ H, bk := D.nx } σ H1 else D.nx σ H1)
    (mono : ∀ σ H Q Q', (∀ b H1, Q b H1 → Q' b H1) → c σ H Q → c σ H Q') : tWhile c tb D σ H := by
  refine ⟨fun m σ H => m = μ σ H ∧ Pv σ H, ⟨_, rfl, h0⟩, ?_⟩
  rintro m σ H ⟨rfl, p⟩
  refine mono σ H _ _ (fun b H1 q => ?_) (hs σ H p)
  cases b with
  | true => exact ⟨_, fun σ' H' ⟨p', l⟩ => ⟨_, l, rfl, p'⟩, q⟩
  | false => exact q
end L2

namespace L2
open PySem PySem.Spec PyProof.Rows

abbrev R2 := V → V → Hp → VK → Prop
/-- a two-place operation on values: f is binaryOp op, inplaceOp op or compareOp op -/
def OpR (X : Cx) (f : Value → Value → Sem Value) (r : R2) : Prop :=
  ∀ (pins : List (Addr × Obj)) (s : Shared) (σ : St) (H : Hp) (x y : V) (v u : Value) (Q : VK), Inv X pins σ H s → RelV x v → RelV y u → r x y H Q →
    wpAny (model X.prog X.w) X.A (f v u) (EP X pins σ Q) X.xe s
/-- a one-place operation -/
def UnR (X : Cx) (f : Value → Sem Value) (r : V → Hp → VK → Prop) : Prop :=
  ∀ (pins : List (Addr × Obj)) (s : Shared) (σ : St) (H : Hp) (x : V) (v : Value) (Q : VK), Inv X pins σ H s → RelV x v → r x H Q →
    wpAny (model X.prog X.w) X.A (f v) (EP X pins σ Q) X.xe s
/-- a call of a value that is known (a builtin, a type) with values -/
def CallR (X : Cx) (f : Value) (r : List V → Hp → VK → Prop) : Prop :=
  ∀ (pins : List (Addr × Obj)) (s : Shared) (σ : St) (H : Hp) (xs : List V) (us : List Value) (Q : VK), Inv X pins σ H s → Vals xs us → r xs H Q →
    wpAny (model X.prog X.w) X.A (call f us) (EP X pins σ Q) X.xe s
/-- a value's truth -/
def TruR (X : Cx) (r : V → Hp → (Bool → Hp → Prop) → Prop) : Prop :=
  ∀ (pins : List (Addr × Obj)) (s : Shared) (σ : St) (H : Hp) (x : V) (v : Value) (Q : Bool → Hp → Prop), Inv X pins σ H s → RelV x v → r x H Q →
    wpAny (model X.prog X.w) X.A (truthy v) (TP X pins σ Q) X.xe s

def tOp (r : R2) (ta tb : TE) : TE := fun σ H Q => ta σ H fun x H1 => tb σ H1 fun y H2 => r x y H2 Q
def tUn (r : V → Hp → VK → Prop) (ta : TE) : TE := fun σ H Q => ta σ H fun x H1 => r x H1 Q
/-- ints in, under C, and a value out -/
def rI (C : Int → Int → Prop) (g : Int → Int → V) : R2 := fun x y H Q => ∃ i j, x = .int i ∧ y = .int j ∧ C i j ∧ Q (g i j) H
def rI0 (g : Int → Int → V) : R2 := fun x y H Q => ∃ i j, x = .int i ∧ y = .int j ∧ Q (g i j) H
def rU (g : Int → V) : V → Hp → VK → Prop := fun x H Q => ∃ i, x = .int i ∧ Q (g i) H

section
variable {X : Cx} {a b c : Expr} {ta tb tc : TE} {pos : Pos}

theorem binT (ha : PE X a ta) (hb : PE X b tb) {pins : List (Addr × Obj)} {s : Shared} {σ : St} {H : Hp} {R : V → V → Hp → Prop} (I : Inv X pins σ H s)
    (h : ta σ H fun x H1 => tb σ H1 fun y H2 => R x y H2) {Q : Value → Shared → Prop} {f : Value → Value → Sem Value}
    (hf : ∀ v u s2 x y H2, Inv X pins σ H2 s2 → RelV x v → RelV y u → R x y H2 → wpAny (model X.prog X.w) X.A (f v u) Q X.xe s2) :
    wpAny (model X.prog X.w) X.A (eval a X.env) (fun v s₁ => wpAny (model X.prog X.w) X.A (eval b X.env) (fun u s₂ => wpAny (model X.prog X.w) X.A (f v u) Q X.xe s₂) X.xe s₁) X.xe s := by
  refine thn (ha pins s σ H _ I h) fun v s1 ⟨x, H1, I1, r1, q1⟩ => ?_
  refine thn (hb pins s1 σ H1 _ I1 q1) fun u s2 ⟨y, H2, I2, r2, q2⟩ => ?_
  exact hf v u s2 x y H2 I2 r1 r2 q2

theorem pe_op {op : Operator} {r : R2} (ho : OpR X (binaryOp op) r) (ha : PE X a ta) (hb : PE X b tb) : PE X (.BinOp a op b pos) (tOp r ta tb) := by
  intro pins s σ H Q I h
  exact wpAny_BinOp (binT ha hb I h fun v u s2 x y H2 I2 rx ry q => ho pins s2 σ H2 x y v u Q I2 rx ry q)
/-! ### ints -/
theorem opI {f : Value → Value → Sem Value} {C : Int → Int → Prop} {g : Int → Int → Int}
    (rule : ∀ (i j : Int) (t u : Tok) (s : Shared) (Q : Value → Shared → Prop) (E : Value → Shared → Prop), C i j → Q (.int (g i j) s.toks) { s with toks := s.toks + 1 } → wpAny (model X.prog X.w) X.A (f (.int i t) (.int j u)) Q E s) :
    OpR X f (rI C fun i j => .int (g i j)) := by
  intro pins s σ H x y v u Q I rx ry h
  obtain ⟨i, j, rfl, rfl, hc, q⟩ := h
  obtain ⟨t, rfl⟩ := rx
  obtain ⟨t', rfl⟩ := ry
  exact rule i j t t' s _ _ hc ⟨.int (g i j), H, I.tok _, ⟨_, rfl⟩, q⟩
theorem opI0 {f : Value → Value → Sem Value} {g : Int → Int → Int}
    (rule : ∀ (i j : Int) (t u : Tok) (s : Shared) (Q : Value → Shared → Prop) (E : Value → Shared → Prop), Q (.int (g i j) s.toks) { s with toks := s.toks + 1 } → wpAny (model X.prog X.w) X.A (f (.int i t) (.int j u)) Q E s) :
    OpR X f (rI0 fun i j => .int (g i j)) := by
  intro pins s σ H x y v u Q I rx ry h
  obtain ⟨i, j, rfl, rfl, q⟩ := h
  obtain ⟨t, rfl⟩ := rx
  obtain ⟨t', rfl⟩ := ry
  exact rule i j t t' s _ _ ⟨.int (g i j), H, I.tok _, ⟨_, rfl⟩, q⟩
theorem opB0 {f : Value → Value → Sem Value} {g : Int → Int → Bool}
    (rule : ∀ (i j : Int) (t u : Tok) (s : Shared) (Q : Value → Shared → Prop) (E : Value → Shared → Prop), Q (.bool (g i j)) s → wpAny (model X.prog X.w) X.A (f (.int i t) (.int j u)) Q E s) :
    OpR X f (rI0 fun i j => .bl (g i j)) := by
  intro pins s σ H x y v u Q I rx ry h
  obtain ⟨i, j, rfl, rfl, q⟩ := h
  obtain ⟨t, rfl⟩ := rx
  obtain ⟨t', rfl⟩ := ry
  exact rule i j t t' s _ _ ⟨.bl (g i j), H, I, rfl, q⟩

def CDiv (i j : Int) : Prop := 0 < j ∧ j < 1073741824
def CDivN (i j : Int) : Prop := j ≠ 0 ∧ j.natAbs < 1073741824
def CPow (i j : Int) : Prop := 0 ≤ j ∧ j ≤ 1000000 ∧ i.natAbs < 2 ^ 64
def CMul (i j : Int) : Prop := (-(2 ^ 64) < i ∧ i < 2 ^ 64) ∨ (-(2 ^ 64) < j ∧ j < 2 ^ 64)
theorem CMul.ok {i j : Int} (h : CMul i j) : IntMulOk i j := by
  rcases h with ⟨h1, h2⟩ | ⟨h1, h2⟩
  · exact .of_left (intBits_le_64 h1 h2)
  · exact .of_right (intBits_le_64 h1 h2)
theorem op_add : OpR X (binaryOp .Add) (rI0 fun i j => .int (i + j)) := opI0 fun _ _ _ _ _ _ _ q => add_int q
theorem op_sub : OpR X (binaryOp .Sub) (rI0 fun i j => .int (i - j)) := opI0 fun _ _ _ _ _ _ _ q => sub_int q
theorem op_mul : OpR X (binaryOp .Mult) (rI CMul fun i j => .int (i * j)) := opI fun _ _ _ _ _ _ _ hc q => mul_int q hc.ok
/-- // by a positive divisor -/
theorem op_fdiv : OpR X (binaryOp .FloorDiv) (rI CDiv fun i j => .int (i / j)) := opI fun i j _ _ _ _ _ hc q => by
  have h1 : (0 : Int) < j := hc.1
  have h2 : j < 1073741824 := hc.2
  exact floordiv_int (by omega) (by rw [Int.fdiv_eq_ediv_of_nonneg i (by omega)]; exact q) (.inl (PyProof.noPylong_small (by omega)))
/-- % by a positive divisor of any size -/
theorem op_mod : OpR X (binaryOp .Mod) (rI (fun _ j => 0 < j) fun i j => .int (i % j)) := opI fun i j _ _ _ _ _ hc q => by
  have h1 : (0 : Int) < j := hc
  exact mod_int' (by omega) (by rw [Int.fmod_eq_emod_of_nonneg i (by omega)]; exact q)
/-! ### bools among ints: n += (a < b) -/
end

/-! ### comparisons -/
/-- the scalars that == tells apart as data does -/
def scal : V → V → Bool
  | .non, .non => true | .non, .int _ => true | .int _, .non => true | .non, .bl _ => true | .bl _, .non => true | .non, .str _ => true | .str _, .non => true
  | .int _, .int _ => true | .bl _, .bl _ => true | .str _, .str _ => true | .byt _, .byt _ => true
  | .int _, .str _ => true | .str _, .int _ => true | .bl _, .str _ => true | .str _, .bl _ => true
  | _, _ => false
def rEq : R2 := fun x y H Q => scal x y = true ∧ Q (.bl (decide (x = y))) H
def rNe : R2 := fun x y H Q => scal x y = true ∧ Q (.bl (!decide (x = y))) H

theorem dec_int {i j : Int} : decide (V.int i = V.int j) = (i == j) := by
  rw [Bool.eq_iff_iff]
  simp
theorem dec_bl {i j : Bool} : decide (V.bl i = V.bl j) = (i == j) := by
  rw [Bool.eq_iff_iff]
  simp
theorem dec_str {i j : Str} : decide (V.str i = V.str j) = (i == j) := by
  rw [Bool.eq_iff_iff]
  simp
theorem dec_byt {i j : Array UInt8} : decide (V.byt i = V.byt j) = (i.toList == j.toList) := by
  rw [Bool.eq_iff_iff]
  cases i
  cases j
  simp

section
variable {X : Cx} {a b c : Expr} {ta tb tc : TE} {pos : Pos}
theorem fin_bl {pins : List (Addr × Obj)} {σ : St} {H : Hp} {s : Shared} {Q : VK} {k k' : Bool} (I : Inv X pins σ H s) (q : Q (.bl k) H) (e : k = k') : EP X pins σ Q (.bool k') s := by
  subst e
  exact ⟨.bl k, H, I, rfl, q⟩
theorem op_eq : OpR X (compareOp .Eq) rEq := by
  intro pins s σ H x y v u Q I rx ry h
  obtain ⟨hs, q⟩ := h
  cases x with
  | non =>
    cases rx
    cases y with
    | non => cases ry; exact PySem.EqNone.eq_none_none (fin_bl I q (by simp))
    | bl j => cases ry; exact PySem.EqNone.eq_none_bool (fin_bl I q (by simp))
    | int j => obtain ⟨t', rfl⟩ := ry; exact PySem.EqNone.eq_none_int (fin_bl I q (by simp))
    | str j => obtain ⟨t', rfl⟩ := ry; exact PySem.EqNone.eq_none_str (fin_bl I q (by simp))
    | _ => exact absurd (show false = true from hs) Bool.false_ne_true
  | bl i =>
    cases rx
    cases y with
    | non => cases ry; exact PySem.EqNone.eq_bool_none (fin_bl I q (by simp))
    | bl j => cases ry; exact eq_bool (fin_bl I q dec_bl)
    | str j => obtain ⟨t', rfl⟩ := ry; exact PySem.EqMixed.eq_bool_str (fin_bl I q (by simp))
    | _ => exact absurd (show false = true from hs) Bool.false_ne_true
  | int i =>
    obtain ⟨t, rfl⟩ := rx
    cases y with
    | non => cases ry; exact PySem.EqNone.eq_int_none (fin_bl I q (by simp))
    | int j => obtain ⟨t', rfl⟩ := ry; exact eq_int (fin_bl I q dec_int)
    | str j => obtain ⟨t', rfl⟩ := ry; exact PySem.EqMixed.eq_int_str (fin_bl I q (by simp))
    | _ => exact absurd (show false = true from hs) Bool.false_ne_true
  | str i =>
    obtain ⟨t, rfl⟩ := rx
    cases y with
    | non => cases ry; exact PySem.EqNone.eq_str_none (fin_bl I q (by simp))
    | bl j => cases ry; exact PySem.EqMixed.eq_str_bool (fin_bl I q (by simp))
    | int j => obtain ⟨t', rfl⟩ := ry; exact PySem.EqMixed.eq_str_int (fin_bl I q (by simp))
    | str j => obtain ⟨t', rfl⟩ := ry; exact eq_str (fin_bl I q dec_str)
    | _ => exact absurd (show false = true from hs) Bool.false_ne_true
  | byt i =>
    obtain ⟨t, rfl⟩ := rx
    cases y with
    | byt j => obtain ⟨t', rfl⟩ := ry; exact PySem.W.eq_bytes (fin_bl I q dec_byt)
    | _ => exact absurd (show false = true from hs) Bool.false_ne_true
  | _ => cases y <;> exact absurd (show false = true from hs) Bool.false_ne_true
theorem op_lt : OpR X (compareOp .Lt) (rI0 fun i j => .bl (decide (i < j))) := opB0 fun _ _ _ _ _ _ _ q => lt_int q
theorem op_le : OpR X (compareOp .LtE) (rI0 fun i j => .bl (decide (i ≤ j))) := opB0 fun _ _ _ _ _ _ _ q => le_int q
theorem op_gt : OpR X (compareOp .Gt) (rI0 fun i j => .bl (decide (j < i))) := opB0 fun _ _ _ _ _ _ _ q => gt_int q
/-- is None, is not None: the right side a value none -/
theorem op_isN : OpR X (compareOp .Is) (fun x y H Q => y = .non ∧ Q (.bl (decide (x = .non))) H) := by
  intro pins s σ H x y v u Q I rx ry h
  obtain ⟨rfl, q⟩ := h
  cases ry
  refine is_none_gen (fin_bl I q ?_)
  cases x <;> first
    | (cases rx; rfl)
    | (obtain ⟨t, rfl⟩ := rx; rfl)
/-- is, is not of two objects that are tracked lists or instances -/
def isObj : HO → Bool
  | .lst _ => true
  | .ins _ _ _ => true
  | _ => false
theorem nomark (b : Expr) {op : CmpOp} (h : op ≠ .In := by decide) (h2 : op ≠ .NotIn := by decide) : behindInMarks op b = false := by
  have e1 : (op == CmpOp.In) = false := by cases op <;> first | rfl | exact absurd rfl h
  have e2 : (op == CmpOp.NotIn) = false := by cases op <;> first | rfl | exact absurd rfl h2
  cases b <;> simp [behindInMarks, e1, e2]
/-- a reading of a value as a test -/
def tTest (t : TE) : TT := fun σ H Q => t σ H fun x H' => ∃ k, x = .bl k ∧ Q k H'
theorem pt_cmpR {op : CmpOp} {r : R2} (ho : OpR X (compareOp op) r) (ha : PE X a ta) (hb : PE X b tb) (hm : behindInMarks op b = false) : PT X (.Compare a [op] [b] pos) (tTest (tOp r ta tb)) := by
  intro pins s σ H Q I h
  refine wpAny_isTrue_Compare1 (thn (ha pins s σ H _ I h) fun v s1 ⟨x, H1, I1, r1, q1⟩ => thn (hb pins s1 σ H1 _ I1 q1) fun u s2 ⟨y, H2, I2, r2, q2⟩ =>
    thn (ho pins s2 σ H2 x y v u _ I2 r1 r2 q2) fun c s3 ⟨z, H3, I3, r3, k, e, q3⟩ => ?_) hm
  subst e
  cases r3
  exact wpAny_truthy_bool ⟨H3, I3, q3⟩
/-- a op1 b op2 c -/
def tChain (r r' : R2) (ta tb tc : TE) : TE := fun σ H Q => ta σ H fun x H1 => tb σ H1 fun y H2 => r x y H2 fun z H3 => ∃ k, z = .bl k ∧
  (if k = true then tc σ H3 fun w' H4 => r' y w' H4 Q else Q (.bl false) H3)
theorem pe_chain {op op' : CmpOp} {r r' : R2} (ho : OpR X (compareOp op) r) (ho' : OpR X (compareOp op') r') (ha : PE X a ta) (hb : PE X b tb) (hc : PE X c tc)
    (hm : lastMarks [op, op'] [b, c] = false := by with_unfolding_all rfl) : PE X (.Compare a [op, op'] [b, c] pos) (tChain r r' ta tb tc) := by
  intro pins s σ H Q I h
  refine Compare_chain (thn (ha pins s σ H _ I h) fun v s1 ⟨x, H1, I1, r1, q1⟩ => chain_link (thn (hb pins s1 σ H1 _ I1 q1) fun u s2 ⟨y, H2, I2, r2, q2⟩ =>
    thn (ho pins s2 σ H2 x y v u _ I2 r1 r2 q2) fun d s3 ⟨z, H3, I3, r3, k, e, q3⟩ => ?_)) hm
  subst e
  cases r3
  refine wpAny_truthy_bool ?_
  cases k with
  | false => exact ite_ff ⟨.bl false, H3, I3, rfl, q3⟩
  | true => exact ite_tt (chain_last (thn (hc pins s3 σ H3 _ I3 q3) fun w' s4 ⟨z', H4, I4, r4, q4⟩ => ho' pins s4 σ H4 y z' u w' Q I4 r2 r4 q4))
theorem pt_chain {op op' : CmpOp} {r r' : R2} (ho : OpR X (compareOp op) r) (ho' : OpR X (compareOp op') r') (ha : PE X a ta) (hb : PE X b tb) (hc : PE X c tc)
    (hm : lastMarks [op, op'] [b, c] = false := by with_unfolding_all rfl) : PT X (.Compare a [op, op'] [b, c] pos) (tTest (tChain r r' ta tb tc)) := by
  intro pins s σ H Q I h
  refine isTrue_chain (thn (ha pins s σ H _ I h) fun v s1 ⟨x, H1, I1, r1, q1⟩ => test_link (thn (hb pins s1 σ H1 _ I1 q1) fun u s2 ⟨y, H2, I2, r2, q2⟩ =>
    thn (ho pins s2 σ H2 x y v u _ I2 r1 r2 q2) fun d s3 ⟨z, H3, I3, r3, k, e, q3⟩ => ?_)) hm
  subst e
  cases r3
  refine wpAny_truthy_bool ?_
  cases k with
  | false =>
    obtain ⟨k', e', q'⟩ := q3
    cases e'
    exact ite_ff ⟨H3, I3, q'⟩
  | true =>
    refine ite_tt (test_last (thn (hc pins s3 σ H3 _ I3 q3) fun w' s4 ⟨z', H4, I4, r4, q4⟩ => thn (ho' pins s4 σ H4 y z' u w' _ I4 r2 r4 q4) fun d' s5 ⟨z2, H5, I5, r5, k2, e2, q5⟩ => ?_))
    subst e2
    cases r5
    exact wpAny_truthy_bool ⟨H5, I5, q5⟩

/-! ### truth -/
/-- a value's truth by the abstract heap -/
def TruV (K : PySem.W.Frag) (x : V) (H : Hp) (k : Bool) : Prop :=
  match x with
  | .non => k = false
  | .bl b => k = b
  | .int i => k = (i != 0)
  | .str y => y.length ≤ sizeLine ∧ k = ((y.length : Int) != 0)
  | .byt y => y.size ≤ sizeLine ∧ k = ((y.size : Int) != 0)
  | .ref p => (∃ xs, SqL K H p xs ∧ k = !xs.isEmpty) ∨ (∃ xs, SqT K H p xs ∧ k = !xs.isEmpty) ∨ ∃ kvs, H p = some (.dK kvs) ∧ k = !kvs.isEmpty
  | _ => False
theorem line63 : (sizeLine : Nat) < 2 ^ 63 := by rw [sizeLine_eq]; decide
/-! ### strs and bytes -/
def PlainIxT (b : Expr) : Prop := ∀ o i, subscripted b false o i = operate [o, i] (getItem o i)
/-! ### scalar builtins, by CallR -/
theorem vals1 {x : V} {us : List Value} (r : Vals [x] us) : ∃ u, us = [u] ∧ RelV x u := by
  cases r with
  | cons r1 r2 => cases r2; exact ⟨_, rfl, r1⟩
/-- len of a str, a bytes, a list, a tuple -/
def LenV (K : PySem.W.Frag) (x : V) (H : Hp) (n : Nat) : Prop :=
  match x with
  | .str y => y.length ≤ sizeLine ∧ n = y.length
  | .byt y => y.size ≤ sizeLine ∧ n = y.size
  | .ref p => (∃ xs, SqL K H p xs ∧ n = xs.length) ∨ ∃ xs, SqT K H p xs ∧ n = xs.length
  | _ => False
end
end L2

namespace L2
open PySem PySem.Spec PyProof.Rows

/-! ### an instance, its attributes a map -/
structure ObjM (h : Heap) (x dx C : Addr) (mA : Str → Option Value) : Prop where
  obj : h.get? x = some (PySem.W.instObj C dx)
  ns : h.Ns1 dx mA
  ne : dx ≠ x

theorem lookIn_ns {h : Heap} {dx : Addr} {mA : Str → Option Value} (n : h.Ns1 dx mA) : ∃ od, h.get? dx = some od ∧ ∀ name, PySem.W.lookIn name od = some (mA name) := by
  obtain ⟨o, es, ep, ho, hd, hk, _, hm⟩ := n
  refine ⟨o, ho, fun name => ?_⟩
  have e := hm name
  unfold nsFind findBy at e
  rw [← Array.find?_toList] at e
  unfold PySem.W.lookIn
  rw [hd]
  dsimp only
  split
  · rename_i y q
    rw [q] at e
    exact congrArg some e
  · rename_i q
    rw [q] at e
    have a : es.toList.any (·.refKey) = false := by
      rw [List.any_eq_false]
      intro y hy
      obtain ⟨z, t, hkey⟩ := hk y (Array.mem_toList_iff.mp hy)
      simp [DictEntry.refKey, hkey]
    have a' : ¬ es.toList.any (·.refKey) = true := by rw [a]; exact Bool.false_ne_true
    rw [if_neg a']
    exact congrArg some e

theorem ObjM.look {h : Heap} {x dx C : Addr} {mA : Str → Option Value} (I : ObjM h x dx C mA) : ∃ od, PySem.W.InstAt h x (PySem.W.instObj C dx) C (some od) ∧ ∀ name, PySem.W.lookIn name od = some (mA name) :=
  let ⟨od, ho, hl⟩ := lookIn_ns I.ns
  ⟨od, ⟨I.obj, rfl, rfl, ho⟩, hl⟩

section
variable {prog : Program} {w : World} {A : Around} {E : Value → Shared → Prop} {s : Shared} {K : PySem.W.Frag} {x dx C f : Addr} {mA : Str → Option Value} {name : Str} {v : Value}

theorem get_map {expr : Bool} {Q : Value → Shared → Prop} (X : K.In s.heap) (I : ObjM s.heap x dx C mA) (hg : PySem.W.plainGet K C name = true) (hh : PySem.W.hasDictIn K C = true)
    (ha : PySem.W.findIn K (.ref C) name = some none) (hv : mA name = some v) (hv' : PySem.W.handedIn v = true) (h : Q v { s with toks := s.toks + 1 }) :
    wpAny (model prog w) A (getAttr (.ref x) name expr) Q E s := by
  obtain ⟨od, J, hl⟩ := I.look
  exact PySem.W.get_value X J (PySem.W.plainGet_of hg).1 (PySem.W.findObj_own hh ha rfl (by rw [hl, hv])) hv' h

theorem get_meth {pl : Sem Bool} {Q : Value × List Value → Shared → Prop} (X : K.In s.heap) (I : ObjM s.heap x dx C mA) (hg : PySem.W.plainGet K C name = true)
    (hf : PySem.W.findIn K (.ref C) name = some (some (.ref f))) (ht : PySem.W.isFn K (.ref f) = true) (hv : mA name = none) (h : Q (.ref f, [.ref x]) s) :
    wpAny (model prog w) A (getMethod (.ref x) name pl) Q E s := by
  obtain ⟨od, J, hl⟩ := I.look
  exact PySem.W.method_fn X J (PySem.W.plainGet_of hg).1 (PySem.W.plainGet_of hg).2 hf (beq_iff_eq.mp ht) (by show (PySem.W.lookIn name od).map (·.isSome) = some false; rw [hl, hv]; rfl) h

theorem set_map {ns : List Str} {Q : Unit → Shared → Prop} (X : K.In s.heap) (I : ObjM s.heap x dx C mA)
    (hs : PySem.W.findIn K (.ref C) "__setattr__" = some (some (.builtin "object.__setattr__"))) (hp : PySem.W.plainOver K C = true) (ht : PySem.W.takerIn K C name = some none) (hh : PySem.W.hasDictIn K C = true)
    (hw : PySem.Within mA ns) (hsz : ns.length ≤ sizeLine)
    (h : ∀ h', ObjM h' x dx C (fun y => if y = name then some v else mA y) → Heap.SameBut dx s.heap h' → Q () { s with heap := h', toks := s.toks + 2 }) :
    wpAny (model prog w) A (setAttr (.ref x) name v) Q E s := by
  obtain ⟨od, J, hl⟩ := I.look
  refine PySem.W.set_plain X J hs (PySem.W.osa_open (s := { s with toks := s.toks + 1 }) (r := none) X J hp ht fun b => ?_)
  obtain ⟨cd, hc, hd'⟩ := PySem.W.any_some hh
  have hx : s.heap.get? x = some ⟨.ref C, some dx, .plain, #[]⟩ := I.obj
  refine wpAny_bind (wpAny_pure (wpAny_bind (wpAny_bind (wpAny_loadPart hx (wpAny_bind (PySem.W.Looks.here (s := { s with toks := s.toks + 1 }) (PySem.W.looks_clsIn X hc) ?_))))))
  rw [hd']
  refine wpAny_pure (a := some dx) (wpAny_bind (wpAny_pure (wpAny_bind ?_)))
  refine wpAny_nsSet1 (s := { s with toks := s.toks + 1 }) I.ns fun h' hn2 hs2 => ?_
  obtain ⟨oD, esD, epD, hoD, hdD, hcD⟩ := hn2.count (PySem.Within.cons name v hw)
  refine wpAny_bind (wpAny_lookBehind hoD (by rw [hdD]; exact pastItsLine_dict (Nat.le_trans hcD (by rw [List.length_cons]; omega))) ?_)
  exact wpAny_pure (h _ ⟨(hs2.2 _ (Ne.symm I.ne)).trans I.obj, hn2, I.ne⟩ hs2)

/-- C(..): the dict at the heap's end, the instance behind it; then its __init__ -/
theorem make_map {R : Result → Shared → Prop} {vs : List Value} {kw : List (Str × Value)} (X : K.In s.heap) (hm : PySem.W.makesIn K C = true)
    (hi : PySem.W.findIn K (.ref C) "__init__" = some (some (.ref f))) (hf : PySem.W.typeIn K (.ref f) = some (.type "function"))
    (h : codeAny (model prog w) (A.under (.builtin "type.__call__" ⟨.ref C :: vs, kw⟩)) (.call (.ref f) ⟨.ref (s.heap.objs.size + 1) :: vs, kw⟩) (PySem.W.InitBack (s.heap.objs.size + 1) R)
      { s with heap := (s.heap.push PySem.W.emptyDict).push (PySem.W.instObj C s.heap.objs.size) }) :
    codeAny (model prog w) A (.call (.ref C) ⟨vs, kw⟩) R s := by
  obtain ⟨hh, g, d, t, os⟩ := s
  exact PySem.W.make_core (PySem.W.makes_of X hm) (PySem.W.looks_findIn X hi) (fun self => PySem.W.bind_fn X self hf) (.inl rfl) h
end

/-! ### the attributes as a list of pairs -/
def putF (f : Str) (v : V) : List (Str × V) → List (Str × V)
  | [] => [(f, v)]
  | (g, x) :: r => if g = f then (g, v) :: r else (g, x) :: putF f v r
theorem lookup_putF (f g : Str) (v : V) : ∀ fs : List (Str × V), (putF f v fs).lookup g = if g = f then some v else fs.lookup g
  | [] => by
    show List.lookup g [(f, v)] = _
    by_cases h : g = f
    · have hb : (g == f) = true := beq_iff_eq.mpr h
      simp only [List.lookup, hb, if_pos h]
    · have hb : (g == f) = false := beq_eq_false_iff_ne.mpr h
      simp only [List.lookup, hb, if_neg h]
  | (k, x) :: r => by
    have ih := lookup_putF f g v r
    rw [show putF f v ((k, x) :: r) = (if k = f then (k, v) :: r else (k, x) :: putF f v r) from rfl]
    by_cases hk : k = f
    · rw [if_pos hk]
      by_cases h : g = k
      · have hb : (g == k) = true := beq_iff_eq.mpr h
        simp only [List.lookup, hb, if_pos (h.trans hk)]
      · have hb : (g == k) = false := beq_eq_false_iff_ne.mpr h
        simp only [List.lookup, hb, if_neg (fun e : g = f => h (e.trans hk.symm))]
    · rw [if_neg hk]
      by_cases h : g = k
      · have hb : (g == k) = true := beq_iff_eq.mpr h
        simp only [List.lookup, hb, if_neg (fun e : g = f => hk (h.symm.trans e))]
      · have hb : (g == k) = false := beq_eq_false_iff_ne.mpr h
        simp only [List.lookup, hb]
        exact ih
theorem keys_putF (f : Str) (v : V) : ∀ fs : List (Str × V), f ∈ (putF f v fs).map (·.1) ∧ ∀ g, g ∈ fs.map (·.1) → g ∈ (putF f v fs).map (·.1)
  | [] => ⟨by simp [putF], fun g h => by simp at h⟩
  | (k, x) :: r => by
    obtain ⟨i1, i2⟩ := keys_putF f v r
    rw [show putF f v ((k, x) :: r) = (if k = f then (k, v) :: r else (k, x) :: putF f v r) from rfl]
    by_cases hk : k = f
    · rw [if_pos hk]
      subst hk
      exact ⟨by simp, fun g h => by simpa using h⟩
    · rw [if_neg hk]
      refine ⟨?_, fun g h => ?_⟩
      · rw [List.map_cons]
        exact List.mem_cons_of_mem _ i1
      · rw [List.map_cons] at h ⊢
        rcases List.mem_cons.mp h with e | e
        · exact List.mem_cons.mpr (.inl e)
        · exact List.mem_cons_of_mem _ (i2 g e)
theorem length_putF (f : Str) (v : V) : ∀ fs : List (Str × V), (putF f v fs).length ≤ fs.length + 1
  | [] => by simp [putF]
  | (k, x) :: r => by
    have ih := length_putF f v r
    rw [show putF f v ((k, x) :: r) = (if k = f then (k, v) :: r else (k, x) :: putF f v r) from rfl]
    by_cases hk : k = f
    · rw [if_pos hk, List.length_cons, List.length_cons]; omega
    · rw [if_neg hk, List.length_cons, List.length_cons]; omega

theorem RelO.some_of {v : V} {o : Option Value} (r : RelO (some v) o) : ∃ u, o = some u ∧ RelV v u := by
  cases o with
  | none => exact (show False from r).elim
  | some u => exact ⟨u, rfl, r⟩
theorem RelO.none_of {o : Option Value} (r : RelO none o) : o = none := by
  cases o with
  | none => rfl
  | some u => exact (show False from r).elim
theorem handed_of {v : V} {u : Value} (r : RelV v u) : PySem.W.handedIn u = true := by
  cases v with
  | non => cases (show u = Value.none from r); rfl
  | bl b => cases (show u = Value.bool b from r); rfl
  | int i => obtain ⟨t, e⟩ := (show ∃ t, u = Value.int i t from r); cases e; rfl
  | str x => obtain ⟨t, e⟩ := (show ∃ t, u = Value.str x t from r); cases e; rfl
  | byt b => obtain ⟨t, e⟩ := (show ∃ t, u = Value.bytes b t from r); cases e; rfl
  | flt b => obtain ⟨t, e⟩ := (show ∃ t, u = Value.float b t from r); cases e; rfl
  | ref a => cases (show u = Value.ref a from r); rfl
  | ty n => cases (show u = Value.type n from r); rfl

section
variable {P : Program} {w : World} {H H' : Hp} {h h' : Heap} {a C dx : Addr} {fs fs' : List (Str × V)}
theorem ins_get (hok : HOk P w H h) (e : H a = some (.ins C dx fs)) : ∃ mA, ObjM h a dx C mA ∧ (∀ f, RelO (fs.lookup f) (mA f)) ∧ PySem.Within mA (fs.map (·.1)) ∧ fs.length ≤ 1000 ∧ H dx = some (.own a) := by
  obtain ⟨d, z, ne, ob, mA, n, r, q⟩ := (show ObjOk P w H h a (.ins C dx fs) from hok a _ e)
  exact ⟨mA, ⟨ob, n, ne⟩, r, q, z, d⟩
end

/-! ### what of the text a class must have -/
structure Cls (K : PySem.W.Frag) (C : Addr) : Prop where
  pg : PySem.W.plainGet K C Str.empty = true
  hd : PySem.W.hasDictIn K C = true
  po : PySem.W.plainOver K C = true
  sa : PySem.W.findIn K (.ref C) "__setattr__" = some (some (.builtin "object.__setattr__"))
theorem Cls.get {K : PySem.W.Frag} {C : Addr} (c : Cls K C) (f : Str) : PySem.W.plainGet K C f = true := c.pg
/-- no class of it has the name -/
def NoAttr (K : PySem.W.Frag) (C : Addr) (f : Str) : Prop := PySem.W.findIn K (.ref C) f = some none
theorem NoAttr.taker {K : PySem.W.Frag} {C : Addr} {f : Str} (n : NoAttr K C f) : PySem.W.takerIn K C f = some none := by
  unfold PySem.W.takerIn
  rw [show PySem.W.findIn K (.ref C) f = some none from n]
  rfl
/-- a constant of the class -/
structure Con (K : PySem.W.Frag) (C : Addr) (f : Str) (v : V) (u : Value) : Prop where
  at_ : PySem.W.findIn K (.ref C) f = some (some u)
  rel : RelV v u
  get : PySem.W.specialIn K u "__get__" = some none
  cp : PySem.W.copiedNames.contains f = false
/-- a method: a plain def of the class or of one above it -/
structure Meth (K : PySem.W.Frag) (C : Addr) (m : Str) (f : Addr) : Prop where
  at_ : PySem.W.findIn K (.ref C) m = some (some (.ref f))
  fn : PySem.W.isFn K (.ref f) = true
  kp : PySem.W.keepIn K (.ref f) = true

section
variable {X : Cx} {pins : List (Addr × Obj)} {σ : St} {H : Hp} {s : Shared} {a C dx : Addr} {fs : List (Str × V)} {f : Str} {v : V} {A : Around} {E : Value → Shared → Prop}

theorem getattr_ok {b : Bool} {Q : Value → Shared → Prop} (I : Inv X pins σ H s) (e : H a = some (.ins C dx fs)) (c : Cls X.K C) (n : NoAttr X.K C f) (l : fs.lookup f = some v)
    (h : ∀ u s', Inv X pins σ H s' → RelV v u → Q u s') : wpAny (model X.prog X.w) A (getAttr (.ref a) f b) Q E s := by
  obtain ⟨mA, O, r, _, _, _⟩ := ins_get I.hok e
  obtain ⟨u, hu, ru⟩ := RelO.some_of (v := v) (o := mA f) (by rw [← l]; exact r f)
  exact get_map I.kIn O (c.get f) c.hd n hu (handed_of ru) (h u _ (I.tok _) ru)

theorem getmeth_ok {m : Str} {g : Addr} {pl : Sem Bool} {Q : Value × List Value → Shared → Prop} (I : Inv X pins σ H s) (e : H a = some (.ins C dx fs)) (c : Cls X.K C) (k : Meth X.K C m g) (l : fs.lookup m = none)
    (h : Q (.ref g, [.ref a]) s) : wpAny (model X.prog X.w) A (getMethod (.ref a) m pl) Q E s := by
  obtain ⟨mA, O, r, _, _, _⟩ := ins_get I.hok e
  have hn : mA m = none := RelO.none_of (by rw [← l]; exact r m)
  exact get_meth I.kIn O (c.get m) k.at_ k.fn hn h

theorem setattr_ok {y : V} {u : Value} {Q : Unit → Shared → Prop} (I : Inv X pins σ H s) (e : H a = some (.ins C dx fs)) (c : Cls X.K C) (n : NoAttr X.K C f) (hl : fs.length < 1000) (ry : RelV y u)
    (h : ∀ s', Inv X pins σ (upd H a (.ins C dx (putF f y fs))) s' → Q () s') : wpAny (model X.prog X.w) A (setAttr (.ref a) f u) Q E s := by
  obtain ⟨mA, O, r, wi, _, ho⟩ := ins_get I.hok e
  have hz : (fs.map (·.1)).length ≤ sizeLine := by rw [List.length_map, sizeLine_eq]; omega
  refine set_map I.kIn O c.sa c.po n.taker c.hd wi hz fun h' O' sb => h _ ?_
  have hd : ∃ o, h'.get? dx = some o := let ⟨o, _, _, e', _⟩ := O'.ns; ⟨o, e'⟩
  refine I.write (x := a) (e := dx) (by rw [e]; exact True.intro) (.inr ho) (fun b q hb z => (sb.2 b hb).trans z) hd ?_
  refine ⟨by rw [upd_ne O.ne]; exact ho, ?_, O.ne, O'.obj, _, O'.ns, fun g => ?_, fun g hg => ?_⟩
  · have := length_putF f y fs; omega
  · show RelO ((putF f y fs).lookup g) (if g = f then some u else mA g)
    rw [lookup_putF]
    by_cases q : g = f
    · rw [if_pos q, if_pos q]; exact ry
    · rw [if_neg q, if_neg q]; exact r g
  · by_cases q : g = f
    · rw [q]; exact (keys_putF f y fs).1
    · refine (keys_putF f y fs).2 g (wi g fun z => hg ?_)
      show (if g = f then some u else mA g) = none
      rw [if_neg q]; exact z

/-- a new instance, tracked, without attributes -/
theorem Inv.made (I : Inv X pins σ H s) : Inv X pins σ (upd (upd H s.heap.objs.size (.own (s.heap.objs.size + 1))) (s.heap.objs.size + 1) (.ins C s.heap.objs.size []))
    { s with heap := (s.heap.push PySem.W.emptyDict).push (PySem.W.instObj C s.heap.objs.size) } := by
  have e1 : (s.heap.push PySem.W.emptyDict).get? s.heap.objs.size = some PySem.W.emptyDict := Heap.get?_push_size s.heap rfl
  have e2 : ((s.heap.push PySem.W.emptyDict).push (PySem.W.instObj C s.heap.objs.size)).get? (s.heap.objs.size + 1) = some (PySem.W.instObj C s.heap.objs.size) := by
    have := Heap.get?_push_size (s.heap.push PySem.W.emptyDict) (o := PySem.W.instObj C s.heap.objs.size) rfl
    rwa [Heap.size_push] at this
  have e3 : (s.heap.push PySem.W.emptyDict).Ns s.heap.objs.size (fun _ => none) := ⟨PySem.W.emptyDict, #[], _, e1, rfl, (fun e he => absurd he (by simp)), fun _ => rfl⟩
  have I1 := I.laid (a := s.heap.objs.size) (o := .own (s.heap.objs.size + 1)) (h' := s.heap.push PySem.W.emptyDict) (t' := s.toks) (fun b u q => Heap.get?_push_of_some _ q) (Nat.le_refl _) ⟨_, e1⟩
  refine I1.laid (a := s.heap.objs.size + 1) (o := .ins C s.heap.objs.size []) (t' := s.toks) (fun b u q => Heap.get?_push_of_some _ q) (Nat.le_of_eq (Heap.size_push _ _)) ?_
  have ne : s.heap.objs.size ≠ s.heap.objs.size + 1 := Nat.ne_of_lt (Nat.lt_succ_self _)
  refine ⟨by rw [upd_ne ne, upd_same], Nat.zero_le _, ne, e2, fun _ => none, (Heap.Ns1.of_empty e3).at fun o q => Heap.get?_push_of_some _ q, fun _ => True.intro, fun y hy => absurd rfl hy⟩

/-- e.f where nothing but the object is asked: through attributeBase (super) and the last hold -/
theorem attr_of {prog : Program} {w : World} {env : Env} {e : Expr} {f : Str} {pos : Pos} {s : Shared} {Q : Value → Shared → Prop} (hb : attributeBase e f env (eval e env) = eval e env)
    (h : wpAny (model prog w) A (eval e env) (fun o s₁ => wpAny (model prog w) A (getAttr o f true) Q E s₁) E s) : wpAny (model prog w) A (eval (.Attribute e f pos) env) Q E s :=
  Attribute_any_ h (by rw [arm_eval_Attribute, hb])
end

/-! ### readings and rules -/
/-- e.f, an attribute of the instance -/
def tFld (K : PySem.W.Frag) (ta : TE) (f : Str) : TE := fun σ H Q => ta σ H fun x H1 => ∃ a C dx fs v, x = .ref a ∧ H1 a = some (.ins C dx fs) ∧ Cls K C ∧ NoAttr K C f ∧ fs.lookup f = some v ∧ Q v H1
/-- e.f, a constant of the class -/
def tCon (K : PySem.W.Frag) (ta : TE) (f : Str) : TE := fun σ H Q => ta σ H fun x H1 => ∃ a C dx fs v u, x = .ref a ∧ H1 a = some (.ins C dx fs) ∧ Cls K C ∧ Con K C f v u ∧ fs.lookup f = none ∧ Q v H1
/-- e.f = value -/
def sFld (K : PySem.W.Frag) (ta tv : TE) (f : Str) : TS := fun D σ H => tv σ H fun y H1 => ta σ H1 fun x H2 => ∃ a C dx fs, x = .ref a ∧ H2 a = some (.ins C dx fs) ∧ Cls K C ∧ NoAttr K C f ∧ fs.length < 1000 ∧
  D.nx σ (upd H2 a (.ins C dx (putF f y fs)))
/-- an augmented operator on two values -/
def InOp (X : Cx) (op : Operator) (rd : V → V → Hp → VK → Prop) : Prop :=
  ∀ (pins : List (Addr × Obj)) (s : Shared) (σ : St) (H : Hp) (x y : V) (u v : Value) (Q : VK), Inv X pins σ H s → RelV x u → RelV y v → rd x y H Q → wpAny (model X.prog X.w) X.A (inplaceOp op u v) (EP X pins σ Q) X.xe s
/-- e.f op= value -/
def sFldAug (K : PySem.W.Frag) (ta tv : TE) (rd : V → V → Hp → VK → Prop) (f : Str) : TS := fun D σ H => ta σ H fun x H1 => ∃ a C dx fs v, x = .ref a ∧ H1 a = some (.ins C dx fs) ∧ Cls K C ∧ NoAttr K C f ∧ fs.lookup f = some v ∧
  tv σ H1 fun y H2 => rd v y H2 fun z H3 => ∃ dx' fs', H3 a = some (.ins C dx' fs') ∧ fs'.length < 1000 ∧ D.nx σ (upd H3 a (.ins C dx' (putF f z fs')))

section
variable {X : Cx} {o e value : Expr} {f : Str} {pos pos' tpos : Pos} {ta tv : TE}
theorem pe_fld (he : PE X e ta) (hb : attributeBase e f X.env (eval e X.env) = eval e X.env) : PE X (.Attribute e f pos) (tFld X.K ta f) := by
  intro pins s σ H Q I h
  refine attr_of hb (thn (he pins s σ H _ I h) fun u s1 ⟨x, H1, I1, rx, a, C, dx, fs, v, ex, ea, c, n, l, q⟩ => ?_)
  subst ex
  obtain rfl : u = Value.ref a := rx
  exact getattr_ok I1 ea c n l fun u' s2 I2 ru => ⟨v, H1, I2, ru, q⟩
theorem ps_fld (ha : PE X o ta) (hv : PE X value tv) (hs : swapsWith value (some (.Attribute o f pos')) pos.line X.env = pure false) : PS X (.Assign [.Attribute o f pos'] value pos) (sFld X.K ta tv f) := by
  intro pins s σ H D I h
  refine plainObj_wpAny_Assign_Attribute (thn (hv pins s σ H _ I h) fun u s1 ⟨y, H1, I1, ry, q⟩ => thn (ha pins s1 σ H1 _ I1 q) fun ov s2 ⟨x, H2, I2, rx, a, C, dx, fs, ex, ea, c, n, l, q2⟩ => ?_) hs
  subst ex
  obtain rfl : ov = Value.ref a := rx
  exact setattr_ok I2 ea c n l ry fun s3 I3 => ⟨σ, _, I3, q2⟩
def rAdd : V → V → Hp → VK → Prop := fun x y H Q => ∃ i j, x = .int i ∧ y = .int j ∧ Q (.int (i + j)) H
def rSub : V → V → Hp → VK → Prop := fun x y H Q => ∃ i j, x = .int i ∧ y = .int j ∧ Q (.int (i - j)) H
/-- what is between an instance and its method: the tree of a method call -/
theorem methcall_of {pl : Sem Bool} {m : Str} {apos : Pos} {args : List Expr} {pins : List (Addr × Obj)} {s : Shared} {σ : St} {H : Hp} {Q : Value → Shared → Prop} {te : TE} (he : PE X e te) (I : Inv X pins σ H s)
    (h : te σ H fun x H1 => ∃ a C dx fs g, x = .ref a ∧ H1 a = some (.ins C dx fs) ∧ Cls X.K C ∧ Meth X.K C m g ∧ fs.lookup m = none ∧
      ∀ s1, Inv X pins σ H1 s1 → wpAny (model X.prog X.w) X.A (callWith pos (.ref g) [.ref a] (backTo pos (starEach args X.env)) (backToKw pos (keywordEach [] X.env))) Q X.xe s1)
    (ht : eval (.Call (.Attribute e m apos) args [] pos) X.env = (do
      let ov ← eval e X.env
      standAt apos.atName
      let (f, first) ← holding [ov] (getMethod ov m pl)
      callWith pos f first (backTo pos (starEach args X.env)) (backToKw pos (keywordEach [] X.env)))) :
    wpAny (model X.prog X.w) X.A (eval (.Call (.Attribute e m apos) args [] pos) X.env) Q X.xe s := by
  refine PySem.W.methodCall_KW (pl := pl) (thn (he pins s σ H _ I h) fun u s1 ⟨x, H1, I1, rx, a, C, dx, fs, g, ex, ea, c, k, l, q⟩ => ?_) ht
  subst ex
  obtain rfl : u = Value.ref a := rx
  exact getmeth_ok I1 ea c k l (q s1 I1)
end

/-! ### isinstance -/
section
variable {X : Cx} {pins : List (Addr × Obj)} {σ : St} {H : Hp} {s : Shared} {A : Around} {E : Value → Shared → Prop} {Q : Value → Shared → Prop} {c : Value} {b : Bool}
/-- the type of a value, as the fragment's deciders take it; for an instance its class -/
inductive TyOf (K : PySem.W.Frag) (H : Hp) : V → Value → Prop where
  | non : TyOf K H .non (.type "NoneType")
  | bl (x : Bool) : TyOf K H (.bl x) (.type "bool")
  | int (i : Int) : TyOf K H (.int i) (.type "int")
  | str (x : Str) : TyOf K H (.str x) (.type "str")
  | flt (x : UInt64) : TyOf K H (.flt x) (.type "float")
  | lst {a : Addr} {xs : List V} (e : H a = some (.lst xs)) : TyOf K H (.ref a) (.type "list")
  | frz {a : Addr} {o : Obj} {xs : List V} (e : H a = some (.frz o (.lst xs))) : TyOf K H (.ref a) (.type "list")
  | tup {a : Addr} {xs : List V} (e : H a = some (.tup xs)) : TyOf K H (.ref a) (.type "tuple")
  | dK {a : Addr} {kvs : List (Key × V)} (e : H a = some (.dK kvs)) : TyOf K H (.ref a) (.type "dict")
  | dT {a : Addr} {kvs : List (List Key × V)} (e : H a = some (.dT kvs)) : TyOf K H (.ref a) (.type "dict")
  | ins {a C dx : Addr} {fs : List (Str × V)} (e : H a = some (.ins C dx fs)) (cl : Cls K C) (ha : PySem.W.findIn K (.ref C) "__class__" = some (some (.builtin "object.__class__")))
      (hn : PySem.W.specialIn K (.builtin "object.__class__") "__get__" = some (some (.builtin "getset_descriptor.__get__"))) (htk : PySem.W.takesIn K (.builtin "object.__class__") = some true)
      (hm : PySem.W.mroIn K C (.type "object") = some true) : TyOf K H (.ref a) (.ref C)
end
end L2

namespace L2
open PySem PySem.Spec PyProof.Rows

/-! ### room -/
structure Room (k : Nat) (A : Around) : Prop where
  hd : A.handled = none
  dp : A.depth + 3 * k + 5 < recursionLimit
  un : A.units + 16 * k + 200 < cLine
theorem Room.mono {j k : Nat} {A : Around} (r : Room k A) (h : j ≤ k) : Room j A := ⟨r.hd, by have := r.dp; omega, by have := r.un; omega⟩
theorem Room.deeper {k : Nat} {A : Around} (r : Room (k + 1) A) (env : Env) : Room k (A.deeper env) :=
  ⟨r.hd, by have := r.dp; show A.depth + 1 + 3 * k + 5 < _; omega, by have := r.un; show A.units + 3 + 16 * k + 200 < _; omega⟩
theorem make_depth {A : Around} {C : Addr} {us : List Value} {kw : List (Str × Value)} : (A.under (.builtin "type.__call__" ⟨.ref C :: us, kw⟩)).depth = A.depth + 1 := by
  first | rfl | simp [Around.under, Code.weight, Code.isCreation, Code.isGuard, Code.isCaller, Code.frames, Code.isFrame, guardIds]
theorem make_units {A : Around} {C : Addr} {us : List Value} {kw : List (Str × Value)} : (A.under (.builtin "type.__call__" ⟨.ref C :: us, kw⟩)).units = A.units + 1 := by
  first | rfl | simp [Around.under, Code.cUnits, Code.frames, Code.isFrame]
theorem Room.make {k : Nat} {A : Around} (r : Room (k + 1) A) (C : Addr) (us : List Value) (kw : List (Str × Value)) : Room k (A.under (.builtin "type.__call__" ⟨.ref C :: us, kw⟩)) :=
  ⟨r.hd, by have := r.dp; rw [make_depth]; omega, by have := r.un; rw [make_units]; omega⟩
theorem Room.depth {k : Nat} {A : Around} (r : Room k A) : A.depth < recursionLimit := by have := r.dp; omega
/-! ### argument lists and displays -/
def tNil : TA := fun _ H Q => Q [] H
def tCons (ta : TE) (tr : TA) : TA := fun σ H Q => ta σ H fun x H1 => tr σ H1 fun xs H2 => Q (x :: xs) H2
section
variable {X : Cx} {e : Expr} {es : List Expr} {te : TE} {t : TA} {pos : Pos}
theorem pa_nil : PA X [] tNil := fun _ _ _ _ H Q I h => Calls.spliced_nil ⟨[], H, I, .nil, h⟩
theorem pa_cons (ha : PE X e te) (hr : PA X es t) (hs : starEach (e :: es) X.env = (false, eval e X.env) :: starEach es X.env := by rfl) : PA X (e :: es) (tCons te t) := by
  intro pos pins s σ H Q I h
  rw [hs]
  show wpAny _ _ (spliced ((false, eval e X.env) :: backTo pos (starEach es X.env))) _ _ s
  refine Calls.spliced_cons (thn (ha pins s σ H _ I h) fun u s1 ⟨x, H1, I1, r1, q1⟩ => ?_)
  exact thn (hr pos pins s1 σ H1 _ I1 q1) fun us s2 ⟨xs, H2, I2, r2, q2⟩ => ⟨x :: xs, H2, I2, .cons r1 r2, q2⟩

/-- a tuple, a list of written items -/
def tTup (t : TA) : TE := fun σ H Q => t σ H fun xs H1 => xs.length ≤ sizeLine ∧ ∀ p, H1 p = none → Q (.ref p) (upd H1 p (.tup xs))
def tLst (t : TA) : TE := fun σ H Q => t σ H fun xs H1 => xs.length ≤ sizeLine ∧ ∀ p, H1 p = none → Q (.ref p) (upd H1 p (.lst xs))
theorem pe_lst (h : PA X es t) : PE X (.List es pos) (tLst t) := by
  intro pins s σ H Q I hq
  refine wpAny_List_spliced (thn (h pos pins s σ H _ I hq) fun us s1 ⟨xs, H1, I1, r, z, q⟩ => ⟨by rw [← r.length]; exact z, ?_⟩)
  have hf : H1 s1.heap.objs.size = none := I1.hok.fresh (Nat.le_refl _)
  refine ⟨.ref s1.heap.objs.size, upd H1 s1.heap.objs.size (.lst xs), I1.laid (t' := s1.toks) (fun b u e => Heap.get?_push_of_some _ e) (Nat.le_refl _) ?_, rfl, q _ hf⟩
  exact ⟨z, us, 0, r, Heap.get?_push_size _ rfl⟩
end

/-! ### what a def promises -/
/-- a def's promise: the bound arguments in the parameters' order, the heap, the wanted end, the wanted exception -/
abbrev Sp := List V → Hp → VK → XK → Prop
/-- how an exception lies behind a call (file 08 gives it): the callers' frames, abstract heap and state ahead of the call, the wish, the exception, the state -/
abbrev CXT := List Env → Hp → Shared → XK → Value → Shared → Prop

/-- the state at a call -/
structure Env0 (P : Program) (w : World) (K : PySem.W.Frag) (mg : Str → Option Value) (base : Heap) (A : Around) (outer : List Env) (s : Shared) (H : Hp) : Prop where
  frames : A.frames = some outer
  mod : Mod K mg base
  bs : ∀ b o, base.get? b = some o → s.heap.get? b = some o ∧ H b = none
  bsz : base.objs.size ≤ s.heap.objs.size
  funs : s.heap.FunFrames base outer
  frf : ∀ b ∈ frs outer, H b = none
  hok : HOk P w H s.heap
  bare : AllBare s.gens
/-- a call's end -/
def CE (outer : List Env) (P : Program) (w : World) (H : Hp) (s : Shared) (Q : VK) (u : Value) (s' : Shared) : Prop :=
  ∃ v H', s'.os = s.os ∧ AllBare s'.gens ∧ Un (frs outer) [] H H' s.heap s'.heap ∧ HOk P w H' s'.heap ∧ RelV v u ∧ Q v H'
def CR (CX : CXT) (outer : List Env) (P : Program) (w : World) (H : Hp) (s : Shared) (Q : VK) (E : XK) (r : Result) (s' : Shared) : Prop :=
  match r with
  | .ok (.ret u) => CE outer P w H s Q u s'
  | .ok _ => False
  | .error e => CX outer H s E e s'
structure FnOk (P : Program) (w : World) (K : PySem.W.Frag) (mg : Str → Option Value) (base : Heap) (CX : CXT) (k : Nat) (f : Addr) (fd : FuncData) (ps : List Str) (sp : Sp) : Prop where
  len : ∀ vs H Q E, sp vs H Q E → vs.length = ps.length
  run : ∀ (A : Around) (outer : List Env) (s : Shared) (H : Hp) (args : Args) (us : List Value) (vs : List V) (Q : VK) (E : XK), Room k A → Env0 P w K mg base A outer s H → BindsTo s fd args (ps.zip us) → Vals vs us → sp vs H Q E →
    codeAny (model P w) A (.call (.ref f) args) (CR CX outer P w H s Q E) s
theorem Env0.make {P : Program} {w : World} {K : PySem.W.Frag} {mg : Str → Option Value} {base : Heap} {A : Around} {outer : List Env} {s : Shared} {H : Hp} (e : Env0 P w K mg base A outer s H) (C : Addr) (us : List Value) (kw : List (Str × Value)) :
    Env0 P w K mg base (A.under (.builtin "type.__call__" ⟨.ref C :: us, kw⟩)) outer s H := ⟨by first | exact e.frames | (simpa [Around.under, Code.envs, Code.isFrame, pushEnvs] using e.frames), e.mod, e.bs, e.bsz, e.funs, e.frf, e.hok, e.bare⟩
section
variable {X : Cx} {pins : List (Addr × Obj)} {σ : St} {H : Hp} {s s' : Shared}
/-- from a body: what a callee wants -/
theorem Inv.env0 (I : Inv X pins σ H s) : Env0 X.prog X.w X.K X.mg X.base X.A X.stack s H :=
  ⟨I.ok.frames, I.ok.mod, I.bs, Nat.le_trans I.ok.bsz I.sz, I.stack, I.stkFree, I.hok, I.bare⟩
/-- behind a call -/
theorem Inv.after {Q : VK} {u : Value} (I : Inv X pins σ H s) (h : CE X.stack X.prog X.w H s Q u s') : EP X pins σ Q u s' := by
  obtain ⟨v, H', os, bare, un, hok, r, q⟩ := h
  obtain ⟨hh, g, d, t, os'⟩ := s'
  obtain rfl : os' = s.os := os
  exact ⟨v, H', I.call (h' := hh) (g' := g) (d' := d) (t' := t) (ch := []) un hok bare (fun b z => absurd z (by simp)), r, q⟩
end

/-! ### calls -/
/-- f(..): the written arguments, then the defaults dvs; E: what is wanted of an exception -/
def tCall (sp : Sp) (dvs : List V) (E : XK) (t : TA) : TE := fun σ H Q => t σ H fun vs H1 => sp (vs ++ dvs) H1 Q E
/-- o.m(..) of an instance of the class at C -/
def tMeth (C : Addr) (m : Str) (sp : Sp) (dvs : List V) (E : XK) (ta : TE) (t : TA) : TE := fun σ H Q => ta σ H fun x H1 => ∃ a dx fs, x = .ref a ∧ H1 a = some (.ins C dx fs) ∧ fs.lookup m = none ∧
  t σ H1 fun vs H2 => sp (x :: (vs ++ dvs)) H2 Q E
/-- C(..): a new instance and its dict, then __init__ -/
def tMake (C : Addr) (sp : Sp) (dvs : List V) (E : XK) (t : TA) : TE := fun σ H Q => t σ H fun vs H1 => ∀ x dx, H1 x = none → H1 dx = none → dx ≠ x →
  sp (.ref x :: (vs ++ dvs)) (upd (upd H1 dx (.own x)) x (.ins C dx [])) (fun v H2 => v = .non ∧ Q (.ref x) H2) E

/-- how the parameters are bound: us the positional arguments, kw the keywords' values by name, ds the defaults that fill up -/
def Binds (K : PySem.W.Frag) (fd : FuncData) (ps : List Str) (ds : List Value) : Prop :=
  ∀ (s : Shared) (us : List Value), K.In s.heap → (us ++ ds).length = ps.length → BindsTo s fd ⟨us, []⟩ (ps.zip (us ++ ds))
/-- every parameter is given -/
theorem Binds.all {K : PySem.W.Frag} {fd : FuncData} {ps : List Str} (h : ∀ us : List Value, us.length = ps.length → bindArgs fd ⟨us, []⟩ = pure (ps.zip us)) : Binds K fd ps [] := fun s us _ hl => by
  rw [List.append_nil] at hl ⊢
  exact .of_eq (h us hl)

/-- an exception of a callee reaches what this body wants of exceptions -/
def Passes (CX : CXT) (X : Cx) (E : XK) : Prop := ∀ (pins : List (Addr × Obj)) (σ : St) (H : Hp) (s : Shared) (e : Value) (s' : Shared), Inv X pins σ H s → CX X.stack H s E e s' → X.xe e s'

section
variable {X : Cx} {CX : CXT} {k : Nat} {f C : Addr} {fd : FuncData} {ps : List Str} {sp : Sp} {dvs : List V} {ds : List Value} {E : XK} {x m : Str} {p pos apos : Pos} {e o : Expr} {es : List Expr} {ta : TE} {t : TA}

/-- the callee runs -/
theorem run_fn {pins : List (Addr × Obj)} {σ : St} {H : Hp} {s : Shared} {Q : VK} {us : List Value} {vs : List V} (F : FnOk X.prog X.w X.K X.mg X.base CX k f fd ps sp) (hr : Room k X.A) (hb : Binds X.K fd ps ds) (hd : Vals dvs ds) (hx : Passes CX X E)
    (I : Inv X pins σ H s) (r : Vals vs us) (h : sp (vs ++ dvs) H Q E) : wpAny (model X.prog X.w) X.A (call (.ref f) us) (EP X pins σ Q) X.xe s := by
  have r2 : Vals (vs ++ dvs) (us ++ ds) := r.append hd
  have hl : (us ++ ds).length = ps.length := by rw [← r2.length]; exact F.len _ _ _ _ h
  refine wpAny_call (codeAny_mono (F.run X.A X.stack s H ⟨us, []⟩ (us ++ ds) (vs ++ dvs) Q E hr I.env0 (hb s us I.kIn hl) r2 h) fun r s' hq => ?_)
  cases r with
  | error e => exact hx pins σ H s e s' I hq
  | ok fl =>
    cases fl with
    | ret u => exact I.after hq
    | next => exact False.elim hq
    | brk => exact False.elim hq
    | cont => exact False.elim hq

theorem pe_call (F : FnOk X.prog X.w X.K X.mg X.base CX k f fd ps sp) (hr : Room k X.A) (hg : Gl X x) (hm : X.mg x = some (.ref f)) (hk : PySem.W.keepIn X.K (.ref f) = true) (hb : Binds X.K fd ps ds) (hd : Vals dvs ds) (hx : Passes CX X E)
    (ha : PA X (e :: es) t) (hdb : (x == ("__debug__" : Str)) = false := by decide) (he : starEach (e :: es) X.env = (false, eval e X.env) :: starEach es X.env := by rfl) (hpl : (backTo pos (starEach es X.env)).any (·.1) = false := by rfl) :
    PE X (.Call (.Name x p) (e :: es) [] pos) (tCall sp dvs E t) := by
  intro pins s σ H Q I h
  refine wpAny_Call_Name_kw (ld_glob I hg hm ?_ hdb)
  refine PySem.W.callWith_K (h₀ := X.base) I.ok.mod.kin hk (thn (ha pos pins s σ H _ I h) fun us s1 ⟨vs, H1, I1, r, q⟩ => ⟨I1.kIn, ?_⟩) he hpl
  exact run_fn F hr hb hd hx I1 r q
/-- o.m(e, ..) -/
theorem pe_meth {pl : Sem Bool} (he : PE X o ta) (c : Cls X.K C) (hm : Meth X.K C m f) (F : FnOk X.prog X.w X.K X.mg X.base CX k f fd ps sp) (hr : Room k X.A) (hb : Binds X.K fd ps ds) (hd : Vals dvs ds) (hx : Passes CX X E) (ha : PA X (e :: es) t)
    (hst : starEach (e :: es) X.env = (false, eval e X.env) :: starEach es X.env := by rfl) (hpl : (backTo pos (starEach es X.env)).any (·.1) = false := by rfl)
    (ht : eval (.Call (.Attribute o m apos) (e :: es) [] pos) X.env = (do
      let ov ← eval o X.env
      standAt apos.atName
      let (f, first) ← holding [ov] (getMethod ov m pl)
      callWith pos f first (backTo pos (starEach (e :: es) X.env)) (backToKw pos (keywordEach [] X.env))) := by rfl) :
    PE X (.Call (.Attribute o m apos) (e :: es) [] pos) (tMeth C m sp dvs E ta t) := by
  intro pins s σ H Q I h
  refine PySem.W.methodCall_KW (pl := pl) (thn (he pins s σ H _ I h) fun u s1 ⟨x, H1, I1, rx, a, dx, fs, ex, ea, l, q⟩ => ?_) ht
  subst ex
  obtain rfl : u = Value.ref a := rx
  refine getmeth_ok I1 ea c hm l ?_
  refine PySem.W.callWith_K (first := [.ref a]) (h₀ := X.base) I.ok.mod.kin hm.kp (thn (ha pos pins s1 σ H1 _ I1 q) fun us s2 ⟨vs, H2, I2, r, q2⟩ => ⟨I2.kIn, ?_⟩) hst hpl
  exact run_fn (us := .ref a :: us) (vs := .ref a :: vs) F hr hb hd hx I2 (.cons rfl r) q2
/-- what a class must have to be made -/
structure Mk (K : PySem.W.Frag) (C f : Addr) : Prop where
  makes : PySem.W.makesIn K C = true
  init : PySem.W.findIn K (.ref C) "__init__" = some (some (.ref f))
  fn : PySem.W.isFn K (.ref f) = true
  kp : PySem.W.keepIn K (.ref C) = true

theorem run_make {pins : List (Addr × Obj)} {σ : St} {H : Hp} {s : Shared} {Q : VK} {us : List Value} {vs : List V} (M : Mk X.K C f) (F : FnOk X.prog X.w X.K X.mg X.base CX k f fd ps sp) (hr : Room (k + 1) X.A) (hb : Binds X.K fd ps ds) (hd : Vals dvs ds)
    (hx : Passes CX X E) (I : Inv X pins σ H s) (r : Vals vs us)
    (h : ∀ x dx, H x = none → H dx = none → dx ≠ x → sp (.ref x :: (vs ++ dvs)) (upd (upd H dx (.own x)) x (.ins C dx [])) (fun v H2 => v = .non ∧ Q (.ref x) H2) E) :
    wpAny (model X.prog X.w) X.A (call (.ref C) us) (EP X pins σ Q) X.xe s := by
  have hq := h (s.heap.objs.size + 1) s.heap.objs.size (I.hok.fresh (Nat.le_succ _)) (I.hok.fresh (Nat.le_refl _)) (Nat.ne_of_lt (Nat.lt_succ_self _))
  have I2 := Inv.made (C := C) I
  have r2 : Vals (V.ref (s.heap.objs.size + 1) :: (vs ++ dvs)) (Value.ref (s.heap.objs.size + 1) :: (us ++ ds)) := .cons rfl (r.append hd)
  have hl : (Value.ref (s.heap.objs.size + 1) :: us ++ ds).length = ps.length := by
    have e := r2.length
    rw [F.len _ _ _ _ hq] at e
    exact e.symm
  refine wpAny_call (make_map (f := f) I.kIn M.makes M.init (beq_iff_eq.mp M.fn) (codeAny_mono (F.run _ X.stack _ _ ⟨Value.ref (s.heap.objs.size + 1) :: us, []⟩ (Value.ref (s.heap.objs.size + 1) :: (us ++ ds)) _ _ E (hr.make C us [])
    (I2.env0.make C us []) (hb _ (Value.ref (s.heap.objs.size + 1) :: us) I2.kIn hl) r2 hq) fun r s' hq' => ?_))
  cases r with
  | error e => exact hx pins σ _ _ e s' I2 hq'
  | ok fl =>
    cases fl with
    | ret u =>
      obtain ⟨v, H', I3, rv, ev, q3⟩ := I2.after hq'
      subst ev
      exact ⟨rv, ⟨V.ref (s.heap.objs.size + 1), H', I3, rfl, q3⟩⟩
    | next => exact False.elim hq'
    | brk => exact False.elim hq'
    | cont => exact False.elim hq'
theorem pe_make (M : Mk X.K C f) (F : FnOk X.prog X.w X.K X.mg X.base CX k f fd ps sp) (hr : Room (k + 1) X.A) (hg : Gl X x) (hm : X.mg x = some (.ref C)) (hb : Binds X.K fd ps ds) (hd : Vals dvs ds) (hx : Passes CX X E)
    (ha : PA X (e :: es) t) (hdb : (x == ("__debug__" : Str)) = false := by decide) (he : starEach (e :: es) X.env = (false, eval e X.env) :: starEach es X.env := by rfl) (hpl : (backTo pos (starEach es X.env)).any (·.1) = false := by rfl) :
    PE X (.Call (.Name x p) (e :: es) [] pos) (tMake C sp dvs E t) := by
  intro pins s σ H Q I h
  refine wpAny_Call_Name_kw (ld_glob I hg hm ?_ hdb)
  refine PySem.W.callWith_K (h₀ := X.base) I.ok.mod.kin M.kp (thn (ha pos pins s σ H _ I h) fun us s1 ⟨vs, H1, I1, r, q⟩ => ⟨I1.kIn, ?_⟩) he hpl
  exact run_make M F hr hb hd hx I1 r q
theorem pe_make0 (M : Mk X.K C f) (F : FnOk X.prog X.w X.K X.mg X.base CX k f fd ps sp) (hr : Room (k + 1) X.A) (hg : Gl X x) (hm : X.mg x = some (.ref C)) (hb : Binds X.K fd ps ds) (hd : Vals dvs ds) (hx : Passes CX X E)
    (hdb : (x == ("__debug__" : Str)) = false := by decide) : PE X (.Call (.Name x p) [] [] pos) (tMake C sp dvs E tNil) := by
  intro pins s σ H Q I h
  refine wpAny_Call_Name_kw (ld_glob I hg hm ?_ hdb)
  exact PySem.W.callWith_K0 I.kIn M.kp (run_make (us := []) M F hr hb hd hx I .nil h)
end

/-! ### keywords -/
/-- the values of the keywords, from the left -/
def PK (X : Cx) (kws : List Keyword) (t : TA) : Prop :=
  ∀ (pos : Pos) (pins : List (Addr × Obj)) (s : Shared) (σ : St) (H : Hp) (Q : List V → Hp → Prop), Inv X pins σ H s → t σ H Q → wpAny (model X.prog X.w) X.A (evalAll ((backToKw pos (keywordEach kws X.env)).map (·.2))) (AP X pins σ Q) X.xe s
section
variable {X : Cx} {CX : CXT} {k : Nat} {f C : Addr} {fd : FuncData} {ps ks : List Str} {sp : Sp} {E : XK} {x m : Str} {p pos apos kpos : Pos} {e o : Expr} {es : List Expr} {kws : List Keyword} {te ta : TE} {t tk : TA} {nm : Option Str}
/-- how a call with keywords binds: g puts the positional values us and the keywords' values ws (names ks) in the parameters' order, defaults among them -/
structure KBinds (K : PySem.W.Frag) (fd : FuncData) (ps ks : List Str) (g : List Value → List Value → List Value) (gV : List V → List V → List V) : Prop where
  to : ∀ (s : Shared) (us ws : List Value), K.In s.heap → (g us ws).length = ps.length → BindsTo s fd ⟨us, ks.zip ws⟩ (ps.zip (g us ws))
  rel : ∀ {vs : List V} {us : List Value} {zs : List V} {ws : List Value}, Vals vs us → Vals zs ws → Vals (gV vs zs) (g us ws)
def tCallK (sp : Sp) (gV : List V → List V → List V) (E : XK) (t tk : TA) : TE := fun σ H Q => t σ H fun vs H1 => tk σ H1 fun zs H2 => sp (gV vs zs) H2 Q E
variable {g : List Value → List Value → List Value} {gV : List V → List V → List V}
end

/-! ### a def's body keeps its promise -/
/-- names: the parameters first -/
structure FnScope (N P : List Str) (sc : Scope) : Prop where
  kind : sc.kind = .function
  co : sc.isCoroutine = false
  gen : sc.isGenerator = false
  nd : N.Nodup
  pre : N.take P.length = P
  par : ∀ x ∈ P, sc.names.lookup x = some .local ∨ sc.names.lookup x = some .cell
  nofree : ∀ y ∈ sc.names, y.2 ≠ .free

theorem bindL_out {kindOf : Str → Option NameKind} {x : Str} : ∀ {binds : List (Str × Value)} {m : Str → Option Value}, (∀ v, (x, v) ∉ binds) → bindL kindOf binds m x = m x
  | [], _, _ => rfl
  | (n, v) :: r, m, h => by
    unfold bindL
    rw [bindL_out fun w hw => h w (List.mem_cons_of_mem _ hw)]
    split
    · have : x ≠ n := by rintro rfl; exact h v List.mem_cons_self
      simp [this]
    · rfl
theorem bindC_out {kindOf : Str → Option NameKind} {x : Str} : ∀ {binds : List (Str × Value)} {m : Str → Option Value}, (∀ v, (x, v) ∉ binds) → bindC kindOf binds m x = m x
  | [], _, _ => rfl
  | (n, v) :: r, m, h => by
    unfold bindC
    rw [bindC_out fun w hw => h w (List.mem_cons_of_mem _ hw)]
    split
    · rfl
    · have : x ≠ n := by rintro rfl; exact h v List.mem_cons_self
      simp [this]
theorem bindL_get {kindOf : Str → Option NameKind} {x : Str} {v : Value} : ∀ {P : List Str} {vs : List Value} {i : Nat} {m : Str → Option Value}, P.Nodup → P[i]? = some x → vs[i]? = some v → kindOf x = some .local →
    bindL kindOf (P.zip vs) m x = some v
  | [], _, _, _, _, h, _, _ => by simp at h
  | _ :: _, [], _, _, _, _, h, _ => by simp at h
  | p :: P, w :: vs, 0, m, nd, h1, h2, hk => by
    simp at h1 h2; subst h1; subst h2
    show bindL kindOf ((p, w) :: P.zip vs) m p = _
    unfold bindL
    rw [bindL_out fun v hv => (List.nodup_cons.mp nd).1 (List.of_mem_zip hv).1, if_pos hk]
    simp
  | p :: P, w :: vs, i + 1, m, nd, h1, h2, hk => by
    show bindL kindOf ((p, w) :: P.zip vs) m x = _
    unfold bindL
    exact bindL_get (i := i) (List.nodup_cons.mp nd).2 (by simpa using h1) (by simpa using h2) hk
theorem bindC_get {kindOf : Str → Option NameKind} {x : Str} {v : Value} : ∀ {P : List Str} {vs : List Value} {i : Nat} {m : Str → Option Value}, P.Nodup → P[i]? = some x → vs[i]? = some v → kindOf x ≠ some .local →
    bindC kindOf (P.zip vs) m x = some v
  | [], _, _, _, _, h, _, _ => by simp at h
  | _ :: _, [], _, _, _, _, h, _ => by simp at h
  | p :: P, w :: vs, 0, m, nd, h1, h2, hk => by
    simp at h1 h2; subst h1; subst h2
    show bindC kindOf ((p, w) :: P.zip vs) m p = _
    unfold bindC
    rw [bindC_out fun v hv => (List.nodup_cons.mp nd).1 (List.of_mem_zip hv).1, if_neg hk]
    simp
  | p :: P, w :: vs, i + 1, m, nd, h1, h2, hk => by
    show bindC kindOf ((p, w) :: P.zip vs) m x = _
    unfold bindC
    exact bindC_get (i := i) (List.nodup_cons.mp nd).2 (by simpa using h1) (by simpa using h2) hk

/-- the names' values at the entry -/
def start (N : List Str) (vs : List V) : St := vs.map some ++ List.replicate (N.length - vs.length) none

/-- the context of a def's body, at its entry; an exception leaves the frame, then lies as CX says -/
def cxOf (CX : CXT) (P : Program) (w : World) (K : PySem.W.Frag) (mg : Str → Option Value) (base : Heap) (N : List Str) (qual : Str) (scope : Scope) (f : Addr) (cd : Value) (A : Around) (outer : List Env) (s : Shared) (H : Hp) (E : XK) : Cx where
  prog := P
  w := w
  K := K
  mg := mg
  base := base
  A := A.deeper (envOfC qual scope s.heap.objs.size f cd)
  N := N
  s_0 := s
  H_0 := H
  env := envOfC qual scope s.heap.objs.size f cd
  outer := outer
  stack := envOfC qual scope s.heap.objs.size f cd :: outer
  ex := []
  calm := true
  fn := fun _ => true
  pn := []
  xe := fun e s' => wpAny (model P w) (A.deeper (envOfC qual scope s.heap.objs.size f cd)) (leaving (envOfC qual scope s.heap.objs.size f cd) e) (fun _ s'' => CX outer H s E e s'') (fun e' s'' => CX outer H s E e' s'') s'

theorem cell_has {sc : Scope} {n : Nat} {x : Str} (h : sc.names.lookup x = some .cell) : ∃ c, (cellsFrom n sc.names []).lookup x = some c := by
  have q := PySem.W.cellsFrom_some sc.names n [] (.inl h)
  exact Option.isSome_iff_exists.mp q

theorem inv_start {CX : CXT} {P : Program} {w : World} {K : PySem.W.Frag} {mg : Str → Option Value} {base : Heap} {N ps : List Str} {qual : Str} {scope : Scope} {f : Addr} {cd : Value} {A : Around} {outer : List Env} {s s1 : Shared} {H : Hp} {E : XK} {us : List Value} {vs : List V}
    (S : FnScope N ps scope) (hd : A.handled = none) (e0 : Env0 P w K mg base A outer s H) (hl : vs.length = ps.length) (r : Vals vs us)
    (x : InCallC s s.heap.objs.size (bindL (envOfC qual scope s.heap.objs.size f cd).kindOf (ps.zip us) fun _ => none) (cellsFrom (s.heap.objs.size + 1) scope.names []) (bindC (envOfC qual scope s.heap.objs.size f cd).kindOf (ps.zip us) fun _ => none) s1) :
    Inv (cxOf CX P w K mg base N qual scope f cd A outer s H E) [] (start N vs) H s1 := by
  have hpl : ps.length ≤ N.length := by have := congrArg List.length S.pre; rw [List.length_take] at this; omega
  obtain ⟨h1, tk, rfl, hk⟩ := x.done
  have noA : ∀ b : Addr, b ∉ (cxOf CX P w K mg base N qual scope f cd A outer s H E).ex := fun b z => absurd (show b ∈ ([] : List Addr) from z) (by simp)
  refine ⟨⟨e0.mod, S.kind, rfl, rfl, Nat.le_refl _, fun y z c h1 h2 => ?_, fun y hy => ?_, fun y c _ h => ?_, fun _ => hd, Around.frames_deeper e0.frames, .inr ⟨rfl, rfl⟩, fun b z => absurd z (noA b), e0.bs, e0.bsz, fun b _ _ => noA b, fun b z => absurd z (noA b), e0.funs, e0.frf⟩,
    rfl, e0.bare, Un.kept hk, ⟨_, x.toInCall.ns, fun i y v h1 h2 h3 => ?_⟩, fun y c h => ⟨_, x.cell y c h⟩, e0.hok.fresh (Nat.le_refl _), fun y c h => ?_, fun p hp => absurd (show p ∈ ([] : List (Addr × Obj)) from hp) (by simp), e0.hok.kept hk, ?_⟩
  · exact name_of_addr x.apart (PySem.mem_of_lookup h1) (PySem.mem_of_lookup h2)
  · have hy : scope.names.lookup y = some .cell ∨ scope.names.lookup y = some .free := hy
    rcases hy with hy | hy
    · exact cell_has hy
    · exact absurd rfl (S.nofree _ (PySem.mem_of_lookup hy))
  · exact Nat.le_of_lt (x.above y c (PySem.mem_of_lookup h))
  · have hi : i < vs.length := by
      unfold start at h2
      by_cases hi : i < vs.length
      · exact hi
      · rw [List.getElem?_append_right (by simpa using hi)] at h2
        rw [List.getElem?_replicate] at h2
        split at h2 <;> cases h2
    have ha : vs[i]? = some v := by
      unfold start at h2
      rw [List.getElem?_append_left (by simpa using hi), List.getElem?_map] at h2
      cases e : vs[i]? with
      | none => rw [e] at h2; cases h2
      | some a => rw [e] at h2; cases h2; rfl
    obtain ⟨u, hu, rv⟩ := r.get ha
    have hp : ps[i]? = some y := by
      rw [← S.pre, List.getElem?_take_of_lt (by omega)]; exact h1
    have ndP : ps.Nodup := by rw [← S.pre]; exact S.nd.sublist (List.take_sublist _ _)
    refine ⟨u, rv, ?_⟩
    rcases S.par y (List.mem_of_getElem? hp) with k | k
    · exact .inl ⟨k, bindL_get ndP hp hu k⟩
    · obtain ⟨c, e⟩ := cell_has (n := s.heap.objs.size + 1) k
      refine .inr ⟨.inl k, c, e, ?_⟩
      have q := x.cell y c e
      rw [bindC_get ndP hp hu (by show scope.names.lookup y ≠ _; rw [k]; decide)] at q
      exact q
  · exact e0.hok.fresh (Nat.le_of_lt (x.above y c (PySem.mem_of_lookup h)))
  · unfold start
    show _ = N.length
    rw [List.length_append, List.length_map, List.length_replicate]
    omega

/-- THE RULE: a def (or a method) of the text, by its body. The body's reading t is chosen for each entry; it is run at the parameters' values -/
theorem fn_of {CX : CXT} {P : Program} {w : World} {K : PySem.W.Frag} {mg : Str → Option Value} {base : Heap} {k : Nat} {f : Addr} {name qual : Str} {params : Arguments} {body : List Stmt} {scope : Scope} {dV kV doc pm cdv ct oc : Value} {an od : Option Addr}
    {osl : Array (Option Value)} {N ps : List Str} {sp : Sp} (lk : K.lookup f = some ⟨oc, od, .func (PySem.W.fnOf name qual params body scope dV kV doc pm an cdv ct), osl⟩) (hcd : PySem.W.codeIn K cdv qual = true) (S : FnScope N ps scope)
    (len : ∀ vs H Q E, sp vs H Q E → vs.length = ps.length)
    (hbody : ∀ (A : Around) (outer : List Env) (s : Shared) (H : Hp) (vs : List V) (Q : VK) (E : XK), Room k (A.deeper (envOfC qual scope s.heap.objs.size f cdv)) → sp vs H Q E →
      ∃ t, PSs (cxOf CX P w K mg base N qual scope f cdv A outer s H E) body t ∧ t { nx := fun _ H' => Q .non H', rt := Q } (start N vs) H) :
    FnOk P w K mg base CX (k + 1) f (PySem.W.fnOf name qual params body scope dV kV doc pm an cdv ct) ps sp := by
  refine ⟨len, fun A outer s H args us vs Q E hr e0 hb r hsp => ?_⟩
  have hl := len _ _ _ _ hsp
  have KX : K.In s.heap := e0.mod.kin.keeps fun b o e => (e0.bs b o e).1
  have lim : s.heap.NoLimit := e0.mod.nolimit.keeps fun b o e => (e0.bs b o e).1
  have hkind : ∀ y ∈ ps.zip us, scope.names.lookup y.1 = some .local ∨ (scope.names.lookup y.1 = some .cell ∧ ((cellsFrom (s.heap.objs.size + 1) scope.names []).lookup y.1).isSome = true) := fun ⟨n, v⟩ hy => by
    rcases S.par n (List.of_mem_zip hy).1 with q | q
    · exact .inl q
    · exact .inr ⟨q, PySem.W.cellsFrom_some _ _ _ (.inl q)⟩
  refine codeAny_call_function hr.depth (KX _ _ lk) rfl S.co S.gen rfl (PySem.W.codeRec_of KX hcd) (hb _ _ _ _ ?_)
  refine wpAny_newFunctionEnv_cells S.kind hkind fun env he s1 x => ?_
  subst he
  refine ⟨lim.keeps x.toInCall.keep, codeAny_func ?_⟩
  obtain ⟨t, ht, hq⟩ := hbody A outer s H vs Q E (hr.deeper _) hsp
  have I : Inv (cxOf CX P w K mg base N qual scope f cdv A outer s H E) [] (start N vs) H s1 := inv_start S hr.hd e0 hl r x
  refine wpAny_mono (ht [] s1 (start N vs) H _ I hq) (fun fl s' hs => ?_) fun e s' hs => hs
  have fin : ∀ {σ' : St} {H' : Hp} {v : V} {u : Value}, Inv (cxOf CX P w K mg base N qual scope f cdv A outer s H E) [] σ' H' s' → RelV v u → Q v H' → CE outer P w H s Q u s' :=
    fun {σ' H' v u} J rv q => ⟨v, H', J.os, J.bare, J.base, J.hok, rv, q⟩
  cases fl with
  | ret u =>
    obtain ⟨v, σ', H', J, rv, q⟩ := hs
    exact fin J rv q
  | next =>
    obtain ⟨σ', H', J, q⟩ := hs
    exact fin (v := V.non) (u := Value.none) J rfl q
  | brk =>
    obtain ⟨_, _, _, q⟩ := hs
    exact False.elim q
  | cont =>
    obtain ⟨_, _, _, q⟩ := hs
    exact False.elim q
end L2

namespace L2
open PySem PySem.Spec PyProof.Rows
section
variable {X : Cx} {x : Str} {p pos : Pos} {e : Expr} {es : List Expr} {t : TA} {id T : String} {r : List V → Hp → VK → Prop}

def tCB (r : List V → Hp → VK → Prop) (t : TA) : TE := fun σ H Q => t σ H fun vs H1 => r vs H1 Q
/-- f(e, ..), f a built-in function -/
theorem pe_callB (hc : CallR X (.builtin id) r) (hg : Gl X x) (hm : X.mg x = none) (hv : bootBuiltins x = some (.builtin id)) (ha : PA X (e :: es) t) (hn : x ≠ "__name__" := by decide) (hdb : (x == ("__debug__" : Str)) = false := by decide)
    (he : starEach (e :: es) X.env = (false, eval e X.env) :: starEach es X.env := by rfl) (hpl : (backTo pos (starEach es X.env)).any (·.1) = false := by rfl) : PE X (.Call (.Name x p) (e :: es) [] pos) (tCB r t) := by
  intro pins s σ H Q I h
  refine wpAny_Call_Name_kw (ld_blt I hg hm hv ?_ hn hdb)
  exact PyProof.Rows.callWith_builtin1 (thn (ha pos pins s σ H _ I h) fun us s1 ⟨vs, H1, I1, r1, q1⟩ => hc pins s1 σ H1 vs us Q I1 r1 q1) he hpl
end
end L2

namespace HT
open PySem PyProof.Rows

/-- t < u of tuples of ints -/
def lexLt : List Int → List Int → Bool
  | [], [] => false
  | [], _ :: _ => true
  | _ :: _, [] => false
  | x :: xs, y :: ys => if x = y then lexLt xs ys else decide (x < y)
section
open PySem.SeqAt
open PySem.AutoSeq1 (wpAny_loadPart')
open PySem.MeetsSeq PySem.MeetsSeq2 PySem.MeetsSeq3

end

section
variable {prog : Program} {w : World} {A : Around} {E : Value → Shared → Prop} {s : Shared}

/-! ### t[a:b], not the whole -/
/-- a slice's bound as a place among n (d where it is left out) -/
def sIx (n d : Nat) : Option Int → Nat
  | none => d
  | some v => if v < 0 then (v + (n : Int)).toNat else min v.toNat n
theorem sIx_none (n d : Nat) : sIx n d none = d := rfl
theorem sIx_nat (n d k : Nat) : sIx n d (some (k : Int)) = min k n := by
  show (if (k : Int) < 0 then ((k : Int) + (n : Int)).toNat else min (k : Int).toNat n) = min k n
  rw [if_neg (by omega), Int.toNat_natCast]
end
end HT

namespace L2
open PySem PySem.Spec PyProof.Rows

/-! ### the parts of a slice -/
abbrev TO := St → Hp → (Option Int → Hp → Prop) → Prop
/-- a slice's part (left out, or an int) -/
def PO (X : Cx) (e : Option Expr) (t : TO) : Prop :=
  ∀ (pins : List (Addr × Obj)) (s : Shared) (σ : St) (H : Hp) (Q : Option Int → Hp → Prop), Inv X pins σ H s → t σ H Q →
    wpAny (model X.prog X.w) X.A (evalPart e X.env) (fun u s' => ∃ o H', Inv X pins σ H' s' ∧ IsPart u o ∧ Q o H') X.xe s
def tNoPart : TO := fun _ H Q => Q none H
def tPart (t : TE) : TO := fun σ H Q => t σ H fun x H1 => ∃ i, x = .int i ∧ Q (some i) H1

section
variable {X : Cx} {e : Expr} {te : TE} {lo hi : Option Expr} {tl th : TO} {pos p2 : Pos}

theorem po_none : PO X none tNoPart := by
  intro pins s σ H Q I h
  rw [evalPart_none]
  exact wpAny_pure ⟨none, H, I, .none, h⟩
theorem po_some (h : PE X e te) : PO X (some e) (tPart te) := by
  intro pins s σ H Q I hw
  rw [evalPart_some]
  refine thn (h pins s σ H _ I hw) fun u s1 ⟨x, H1, I1, r1, q1⟩ => ?_
  obtain ⟨i, rfl, q⟩ := q1
  obtain ⟨t, rfl⟩ := r1
  exact ⟨some i, H1, I1, .int i t, q⟩

/-- what a slice of a value is, by values: the slice object stands at sl -/
def SlR (X : Cx) (r : V → Option Int → Option Int → Hp → VK → Prop) : Prop :=
  ∀ (pins : List (Addr × Obj)) (s : Shared) (σ : St) (H : Hp) (x : V) (v vl vu : Value) (lo hi : Option Int) (sl : Addr) (Q : VK), Inv X pins σ H s → RelV x v → s.heap.IsSliceOf sl vl vu .none → IsPart vl lo → IsPart vu hi → r x lo hi H Q →
    ∃ T id, typeLookup (.type T) "__getitem__" = pure (some (.builtin id)) ∧ s.TypeIs v T ∧ wpAny (model X.prog X.w) X.A (getItem v (.ref sl)) (EP X pins σ Q) X.xe s
def tSl (r : V → Option Int → Option Int → Hp → VK → Prop) (te : TE) (tl th : TO) : TE := fun σ H Q => te σ H fun x H1 => tl σ H1 fun l H2 => th σ H2 fun u H3 => r x l u H3 Q
/-- a[lo:hi], any a -/
theorem pe_slice {r : V → Option Int → Option Int → Hp → VK → Prop} (hr : SlR X r) (he : PE X e te) (hl : PO X lo tl) (hu : PO X hi th) : PE X (.Subscript e (.Slice lo hi none p2) pos) (tSl r te tl th) := by
  intro pins s σ H Q I h
  refine Subscript_ (thn (he pins s σ H _ I h) fun v s1 ⟨x, H1, I1, r1, q1⟩ => ?_)
  refine wpAny_Slice (thn (hl pins s1 σ H1 _ I1 q1) fun vl s2 ⟨l, H2, I2, pl, q2⟩ => thn (hu pins s2 σ H2 _ I2 q2) fun vu s3 ⟨u, H3, I3, pu, q3⟩ => ?_)
  rw [evalPart_none]
  refine wpAny_pure ?_
  have I4 : Inv X pins σ H3 { s3 with heap := s3.heap.push { cls := .type "slice", data := .fields #[vl, vu, .none] } } := I3.kept (t' := s3.toks) fun b ob q => Heap.get?_push_of_some _ q
  obtain ⟨T, id, hT, ht, hg⟩ := hr pins { s3 with heap := s3.heap.push { cls := .type "slice", data := .fields #[vl, vu, .none] } } σ H3 x v vl vu l u s3.heap.objs.size Q I4 r1 (Heap.IsSliceOf.new ..) pl pu q3
  show wpAny (model X.prog X.w) X.A (subscriptTail e (.Slice lo hi none p2) v (.ref s3.heap.objs.size)) (EP X pins σ Q) X.xe { s3 with heap := s3.heap.push { cls := .type "slice", data := .fields #[vl, vu, .none] } }
  exact tail_any (ops := [.ref s3.heap.objs.size, v]) ht hT hg (by with_unfolding_all rfl)

/-- the items of xs[lo:hi] -/
def cutV (xs : List V) (lo hi : Option Int) : List V := (xs.drop (HT.sIx xs.length 0 lo)).take (HT.sIx xs.length xs.length hi - HT.sIx xs.length 0 lo)
theorem cutV_length (xs : List V) (lo hi : Option Int) : (cutV xs lo hi).length ≤ xs.length := by
  unfold cutV
  rw [List.length_take, List.length_drop]
  omega
/-- t[lo:hi], not the whole of it (the whole would be t itself) -/
def rSlT (K : PySem.W.Frag) : V → Option Int → Option Int → Hp → VK → Prop := fun x lo hi H Q => ∃ a xs, x = .ref a ∧ SqT K H a xs ∧
  ¬ (HT.sIx xs.length 0 lo = 0 ∧ HT.sIx xs.length xs.length hi = xs.length) ∧ ∀ p, H p = none → Q (.ref p) (upd H p (.tup (cutV xs lo hi)))
/-! ### t < u, t + u -/
def rLtT (K : PySem.W.Frag) : R2 := fun x y H Q => ∃ a b ns ms, x = .ref a ∧ y = .ref b ∧ SqT K H a (ns.map V.int) ∧ SqT K H b (ms.map V.int) ∧ Q (.bl (HT.lexLt ns ms)) H
/-- t + u, t not empty: u empty gives t itself -/
def rCatT (K : PySem.W.Frag) : R2 := fun x y H Q => ∃ a b xs ys, x = .ref a ∧ y = .ref b ∧ SqT K H a xs ∧ SqT K H b ys ∧ xs ≠ [] ∧ xs.length + ys.length ≤ sizeLine ∧
  (ys = [] → Q (.ref a) H) ∧ (ys ≠ [] → ∀ p, H p = none → Q (.ref p) (upd H p (.tup (xs ++ ys))))
end
end L2

namespace L2
open PySem PySem.Spec PyProof.Rows

/-! ### places -/
/-- the place that an index of any sign means -/
def ixN (n : Nat) (i : Int) : Option Nat := if 0 ≤ i then (if i < n then some i.toNat else none) else if -(n : Int) ≤ i then some (i + n).toNat else none
def atI {α : Type} (xs : List α) (i : Int) : Option α := (ixN xs.length i).bind fun j => xs[j]?
theorem ixN_seq {n : Nat} {i : Int} {j : Nat} (h : ixN n i = some j) : seqIndex? i n = some j ∧ j < n ∧ -(n : Int) ≤ i ∧ i < n := by
  unfold ixN at h
  by_cases h0 : 0 ≤ i
  · rw [if_pos h0] at h
    by_cases h1 : i < n
    · rw [if_pos h1] at h
      have e : i.toNat = j := Option.some.inj h
      exact ⟨by rw [seqIndex_of h0 h1, e], by omega, by omega, h1⟩
    · rw [if_neg h1] at h; cases h
  · rw [if_neg h0] at h
    by_cases h1 : -(n : Int) ≤ i
    · rw [if_pos h1] at h
      have e : (i + n).toNat = j := Option.some.inj h
      exact ⟨by rw [seqIndex_neg (by omega) h1, e], by omega, h1, by omega⟩
    · rw [if_neg h1] at h; cases h
theorem atI_get {α : Type} {xs : List α} {i : Int} {v : α} (h : atI xs i = some v) : ∃ j, seqIndex? i xs.length = some j ∧ xs[j]? = some v ∧ j < xs.length ∧ -(xs.length : Int) ≤ i ∧ i < xs.length := by
  unfold atI at h
  cases e : ixN xs.length i with
  | none => rw [e] at h; cases h
  | some j =>
    rw [e] at h
    obtain ⟨h1, h2, h3, h4⟩ := ixN_seq e
    exact ⟨j, h1, h, h2, h3, h4⟩
theorem atI_nat {α : Type} {xs : List α} {j : Nat} {v : α} (h : xs[j]? = some v) : atI xs (j : Int) = some v := by
  have hj : j < xs.length := (List.getElem?_eq_some_iff.mp h).1
  have e : ixN xs.length (j : Int) = some j := by
    unfold ixN
    rw [if_pos (by omega), if_pos (by omega)]; simp
  unfold atI; rw [e]; exact h
/-! ### what may be subscripted -/
/-- what stands as an index of a plain subscript -/
def PlainIx (b : Expr) : Prop := ∀ o i, subscripted b false o i = operate [o, i] (getItem o i)
/-- a subscript by values -/
def IxR (X : Cx) (r : R2) : Prop :=
  ∀ (value slice : Expr) (pins : List (Addr × Obj)) (s : Shared) (σ : St) (H : Hp) (x y : V) (v u : Value) (Q : VK), Inv X pins σ H s → RelV x v → RelV y u → r x y H Q →
    subscripted slice false v u = operate [v, u] (getItem v u) → wpAny (model X.prog X.w) X.A (subscriptTail value slice v u) (EP X pins σ Q) X.xe s
/-- a call of a builtin's method by values: the receiver, the arguments -/
def MtR (X : Cx) (id : String) (r : V → List V → Hp → VK → Prop) : Prop :=
  ∀ (pins : List (Addr × Obj)) (s : Shared) (σ : St) (H : Hp) (x : V) (xs : List V) (v : Value) (us : List Value) (Q : VK), Inv X pins σ H s → RelV x v → Vals xs us → r x xs H Q →
    wpAny (model X.prog X.w) X.A (call (.builtin id) (v :: us)) (EP X pins σ Q) X.xe s
section
variable {X : Cx} {a b : Expr} {ta tb : TE} {pos : Pos}
/-- a[b] -/
theorem pe_ix {r : R2} (hr : IxR X r) (ha : PE X a ta) (hb : PE X b tb) (hs : PlainIx b) : PE X (.Subscript a b pos) (tOp r ta tb) := by
  intro pins s σ H Q I h
  exact Subscript_ (binT ha hb I h fun v u s2 x y H2 I2 rx ry q => hr a b pins s2 σ H2 x y v u Q I2 rx ry q (hs _ _))

def rIxL (K : PySem.W.Frag) : R2 := fun x y H Q => ∃ p xs i v, x = .ref p ∧ y = .int i ∧ SqL K H p xs ∧ atI xs i = some v ∧ Q v H
def rIxT (K : PySem.W.Frag) : R2 := fun x y H Q => ∃ p xs i v, x = .ref p ∧ y = .int i ∧ SqT K H p xs ∧ atI xs i = some v ∧ Q v H
def rIxS : R2 := fun x y H Q => ∃ z i c, x = .str z ∧ y = .int i ∧ z.length ≤ sizeLine ∧ atI z.cps.toList i = some c ∧ Q (.str ⟨#[c]⟩) H
theorem ix_list : IxR X (rIxL X.K) := by
  intro value slice pins s σ H x y v u Q I rx ry h hs
  obtain ⟨p, xs, i, z, rfl, rfl, hq, he, q⟩ := h
  cases rx
  obtain ⟨t, rfl⟩ := ry
  obtain ⟨its, r, pl, hz⟩ := I.list hq
  obtain ⟨j, h1, h2, h3, h4, h5⟩ := atI_get he
  obtain ⟨w, ew, rw'⟩ := r.get h2
  have hl := r.length
  have hn := line63
  have fin : EP X pins σ Q w s := ⟨z, H, I, rw', q⟩
  by_cases h0 : 0 ≤ i
  · have hj : i.toNat = j := by
      rw [seqIndex_of h0 h5] at h1
      exact Option.some.inj h1
    exact item_listR pl.isList h0 (by omega) (by rw [hj]; simpa using ew) fin hs
  · have hj : (i + (its.toArray.size : Int)).toNat = j := by
      rw [seqIndex_neg (by omega) h4] at h1
      rw [List.size_toArray, ← hl]
      exact Option.some.inj h1
    exact subscriptTail_builtinR (x := w) pl.isList.typeIs slot_list_getitem.lookup
      (wpAny_getItem_list_neg (Q := fun r s' => r = w ∧ EP X pins σ Q r s') pl.isList (by omega) (by rw [List.size_toArray] <;> omega) (by omega) (by rw [hj]; simpa using ew) ⟨rfl, fin⟩) hs
theorem ix_tup : IxR X (rIxT X.K) := by
  intro value slice pins s σ H x y v u Q I rx ry h hs
  obtain ⟨p, xs, i, z, rfl, rfl, hq, he, q⟩ := h
  cases rx
  obtain ⟨t, rfl⟩ := ry
  obtain ⟨its, r, pl, hz⟩ := I.tuple hq
  obtain ⟨j, h1, h2, h3, h4, h5⟩ := atI_get he
  obtain ⟨w, ew, rw'⟩ := r.get h2
  have hl := r.length
  have hn := line63
  have fin : EP X pins σ Q w s := ⟨z, H, I, rw', q⟩
  exact subscriptTail_builtinR (x := w) pl.typeIs slot_tuple_getitem.lookup
    (getItem_tuple (j := j) (Q := fun r s' => r = w ∧ EP X pins σ Q r s') pl (by omega) (by omega) (by rw [List.size_toArray, ← hl]; exact h1) (by simpa using ew) ⟨rfl, fin⟩) hs
/-- list, tuple or str -/
def rIx (K : PySem.W.Frag) : R2 := fun x y H Q => rIxL K x y H Q ∨ rIxT K x y H Q ∨ rIxS x y H Q
/-! ### xs[i] = v, any sign -/
/-- the list's object behind a store -/
theorem mapSeq_set (its : List Value) (n j : Nat) (u : Value) : Obj.mapSeq (·.setIfInBounds j u) { cls := .type "list", data := .seq its.toArray n } = { cls := .type "list", data := .seq (its.set j u).toArray n } := by
  simp [Obj.mapSeq]
theorem Inv.lst {pins : List (Addr × Obj)} {σ : St} {H : Hp} {s : Shared} {p : Addr} {xs : List V} (I : Inv X pins σ H s) (h : H p = some (.lst xs)) :
    ∃ (its : List Value) (n : Nat), Vals xs its ∧ s.heap.get? p = some { cls := .type "list", data := .seq its.toArray n } ∧ xs.length ≤ sizeLine := by
  obtain ⟨z, its, n, r, e⟩ := I.hok p _ h
  exact ⟨its, n, r, e, z⟩
/-- the list at p is written by an update of its object -/
theorem Inv.lstUpd {pins : List (Addr × Obj)} {σ : St} {H : Hp} {s : Shared} {p : Addr} {xs ys : List V} {its its' : List Value} {n n' : Nat} {f : Obj → Obj} (I : Inv X pins σ H s) (h : H p = some (.lst xs))
    (ho : s.heap.get? p = some { cls := .type "list", data := .seq its.toArray n }) (hf : f { cls := .type "list", data := .seq its.toArray n } = { cls := .type "list", data := .seq its'.toArray n' }) (r : Vals ys its') (hz : ys.length ≤ sizeLine) (t : Nat) :
    Inv X pins σ (upd H p (.lst ys)) { s with heap := s.heap.update p f, toks := t } := by
  have e : (s.heap.update p f).get? p = some { cls := .type "list", data := .seq its'.toArray n' } := by
    rw [Heap.get?_update_self f ho (by rw [hf] <;> rfl), hf]
  refine I.write (x := p) (e := p) (by rw [h]; trivial) (.inl rfl) (fun b u hb q => (Heap.get?_update_other _ _ (Ne.symm hb)).trans q) ⟨_, e⟩ ?_
  exact ⟨hz, its', n', r, e⟩
def rSetL : V → V → V → Hp → (Hp → Prop) → Prop := fun o i v H Q => ∃ p xs k j, o = .ref p ∧ i = .int k ∧ H p = some (.lst xs) ∧ ixN xs.length k = some j ∧ Q (upd H p (.lst (xs.set j v)))
theorem set_list : PSet X rSetL := by
  intro pins s σ H o i v ov iv u Q I ro ri rv h
  obtain ⟨p, xs, k, j, rfl, rfl, hp, hj, q⟩ := h
  cases ro
  obtain ⟨t, rfl⟩ := ri
  obtain ⟨its, n, r, ho, hz⟩ := I.lst hp
  obtain ⟨h1, h2, h3, h4⟩ := ixN_seq hj
  have hl := r.length
  have hn := line63
  have I' : Inv X pins σ (upd H p (.lst (xs.set j v))) { s with heap := s.heap.update p (Obj.mapSeq (·.setIfInBounds j u)) } :=
    I.lstUpd hp ho (mapSeq_set its n j u) (r.set rv j) (by rw [List.length_set]; exact hz) s.toks
  by_cases h0 : 0 ≤ k
  · have hk : k.toNat = j := by
      rw [seqIndex_of h0 h4] at h1
      exact Option.some.inj h1
    exact PySem.W.ki_setAt ho h0 (by omega) (by rw [List.size_toArray, ← hl]; exact h4) (by rw [hk]; exact ⟨_, I', q⟩)
  · have hk : (k + (its.toArray.size : Int)).toNat = j := by
      rw [seqIndex_neg (by omega) h3] at h1
      rw [List.size_toArray, ← hl]
      exact Option.some.inj h1
    exact PySem.W.ki_setBack ho (by omega) (by rw [List.size_toArray, ← hl]; exact h3) (by omega) (by rw [hk]; exact ⟨_, I', q⟩)

/-! ### slices -/
theorem slice_bounds (lo hi : Option Int) (n : Nat) : (sliceBounds lo hi none n).1 = ((HT.sIx n 0 lo : Nat) : Int) ∧ (sliceBounds lo hi none n).2.1 = ((HT.sIx n n hi : Nat) : Int) ∧ (sliceBounds lo hi none n).2.2 = 1 := by
  refine ⟨?_, ?_, rfl⟩
  · cases lo with
    | none => simp [sliceBounds, HT.sIx]
    | some i =>
      simp only [sliceBounds, HT.sIx, Option.getD_none, show (1 : Int) > 0 by decide, if_true]
      by_cases h : i < 0
      · simp only [h, if_true] <;> omega
      · simp only [h, if_false] <;> omega
  · cases hi with
    | none => simp [sliceBounds, HT.sIx]
    | some i =>
      simp only [sliceBounds, HT.sIx, Option.getD_none, show (1 : Int) > 0 by decide, if_true]
      by_cases h : i < 0
      · simp only [h, if_true] <;> omega
      · simp only [h, if_false] <;> omega
theorem slicePick_cut (its : List Value) (lo hi : Option Int) : slicePick its.toArray lo hi none = ((its.drop (HT.sIx its.length 0 lo)).take (HT.sIx its.length its.length hi - HT.sIx its.length 0 lo)).toArray := by
  obtain ⟨h1, h2, h3⟩ := slice_bounds lo hi its.toArray.size
  unfold slicePick
  rw [h1, h2, h3]
  simp only [sliceRange_one, pick_run, List.size_toArray] <;> rfl
/-- xs[lo:hi] of a list: a new list -/
def rSlL (K : PySem.W.Frag) : V → Option Int → Option Int → Hp → VK → Prop := fun x lo hi H Q => ∃ a xs, x = .ref a ∧ SqL K H a xs ∧ ∀ p, H p = none → Q (.ref p) (upd H p (.lst (cutV xs lo hi)))
theorem sl_list : SlR X (rSlL X.K) := by
  intro pins s σ H x v vl vu lo hi sl Q I rx hs pl pu h
  obtain ⟨a, xs, rfl, hx, q⟩ := h
  cases rx
  obtain ⟨its, r, ht, hz⟩ := I.list hx
  have hlen := r.length
  refine ⟨"list", _, slot_list_getitem.lookup, ht.isList.typeIs, ?_⟩
  refine wpAny_getItem_list_slice ht.isList hs pl pu .none (by simp) ?_ (by rw [List.size_toArray] <;> omega)
  rw [slicePick_cut, ← hlen]
  refine ⟨.ref s.heap.objs.size, _, I.laid (t' := s.toks) (o := .lst (cutV xs lo hi)) (fun b ob q => Heap.get?_push_of_some _ q) (Nat.le_refl _) ?_, rfl, q _ (I.hok.fresh (Nat.le_refl _))⟩
  exact ⟨Nat.le_trans (cutV_length xs lo hi) hz, _, 0, (r.drop (HT.sIx xs.length 0 lo)).take (HT.sIx xs.length xs.length hi - HT.sIx xs.length 0 lo), Heap.get?_push_size _ rfl⟩

/-! ### in, not in: flat items -/
def flatV : V → Bool
  | .non => true
  | .bl _ => true
  | .int _ => true
  | .str _ => true
  | _ => false
/-- == of flat values -/
def eqV : V → V → Bool
  | .non, .non => true
  | .bl a, .bl b => a == b
  | .bl a, .int b => (if a then 1 else 0) == b
  | .int a, .bl b => a == (if b then 1 else 0)
  | .int a, .int b => a == b
  | .str a, .str b => a == b
  | _, _ => false
theorem eqAt_V {A : Around} {s : Shared} {y x : V} {u v : Value} (ry : RelV y u) (rx : RelV x v) (fy : flatV y = true) (fx : flatV x = true) : SeqAt.EqAt A s u v (eqV y x) := by
  cases y with
  | non =>
    cases ry
    cases x with
    | non => cases rx; exact SeqAt.EqAt.same _
    | bl b => cases rx; exact SeqAt.EqAt.none_bool b
    | int b => obtain ⟨t, rfl⟩ := rx; exact SeqAt.EqAt.none_int b t
    | str b => obtain ⟨t, rfl⟩ := rx; exact SeqAt.EqAt.none_str b t
    | _ => exact absurd (show false = true from fx) Bool.false_ne_true
  | bl a =>
    cases ry
    cases x with
    | non => cases rx; exact SeqAt.EqAt.bool_none a
    | bl b => cases rx; exact SeqAt.EqAt.bool_bool a b
    | int b => obtain ⟨t, rfl⟩ := rx; exact SeqAt.EqAt.bool_int a b t
    | str b => obtain ⟨t, rfl⟩ := rx; exact SeqAt.EqAt.bool_str a b t
    | _ => exact absurd (show false = true from fx) Bool.false_ne_true
  | int a =>
    obtain ⟨t', rfl⟩ := ry
    cases x with
    | non => cases rx; exact SeqAt.EqAt.int_none a t'
    | bl b => cases rx; exact SeqAt.EqAt.int_bool a t' b
    | int b => obtain ⟨t, rfl⟩ := rx; exact SeqAt.EqAt.int_int a t' b t
    | str b => obtain ⟨t, rfl⟩ := rx; exact SeqAt.EqAt.int_str a t' b t
    | _ => exact absurd (show false = true from fx) Bool.false_ne_true
  | str a =>
    obtain ⟨t', rfl⟩ := ry
    cases x with
    | non => cases rx; exact SeqAt.EqAt.str_none a t'
    | bl b => cases rx; exact SeqAt.EqAt.str_bool a t' b
    | int b => obtain ⟨t, rfl⟩ := rx; exact SeqAt.EqAt.str_int a t' b t
    | str b => obtain ⟨t, rfl⟩ := rx; exact SeqAt.EqAt.str_str a t' b t
    | _ => exact absurd (show false = true from fx) Bool.false_ne_true
  | _ => exact absurd (show false = true from fy) Bool.false_ne_true
/-- the items' answers, read off the values (a value's own answer does not lean on its token) -/
def eqU (x : V) (u : Value) : Bool := match u with
  | .none => eqV .non x
  | .bool b => eqV (.bl b) x
  | .int i _ => eqV (.int i) x
  | .str z _ => eqV (.str z) x
  | _ => false
theorem eqU_of {x y : V} {u : Value} (r : RelV y u) (f : flatV y = true) : eqU x u = eqV y x := by
  cases y with
  | non => cases r; rfl
  | bl b => cases r; rfl
  | int i => obtain ⟨t, rfl⟩ := r; rfl
  | str z => obtain ⟨t, rfl⟩ := r; rfl
  | _ => exact absurd (show false = true from f) Bool.false_ne_true
theorem mem_eqAt {A : Around} {s : Shared} {x : V} {v : Value} (rx : RelV x v) (fx : flatV x = true) : ∀ {xs : List V} {us : List Value}, Vals xs us → xs.all flatV = true → ∀ u ∈ us, SeqAt.EqAt A s u v (eqU x u)
  | _, _, .nil, _ => fun u hu => by cases hu
  | y :: xs, u :: us, .cons r t, f => fun u' hu => by
    rw [List.all_cons, Bool.and_eq_true] at f
    rcases List.mem_cons.mp hu with rfl | hu
    · rw [eqU_of r f.1]; exact eqAt_V r rx f.1 fx
    · exact mem_eqAt rx fx t f.2 u' hu
def inV (x : V) (xs : List V) : Bool := xs.any fun y => eqV y x
/-- x in a list or tuple of flat items -/
def rIn (K : PySem.W.Frag) (neg : Bool) : R2 := fun x y H Q => ∃ p xs, y = .ref p ∧ (SqL K H p xs ∨ SqT K H p xs) ∧ flatV x = true ∧ xs.all flatV = true ∧ Q (.bl (if neg then !inV x xs else inV x xs)) H
/-! ### len, list(x), tuple(x) of any list or tuple that is read -/
theorem call_len_seq : CallR X (.builtin "len") (fun xs H Q => ∃ p ys, xs = [.ref p] ∧ (SqL X.K H p ys ∨ SqT X.K H p ys) ∧ Q (.int ys.length) H) := by
  intro pins s σ H xs us Q I r h
  obtain ⟨p, ys, rfl, hq, q⟩ := h
  obtain ⟨u, rfl, rx⟩ := vals1 r
  cases rx
  have hn := line63
  rcases hq with hq | hq
  · obtain ⟨its, r', pl, hz⟩ := I.list hq
    have hlen := r'.length
    exact Calls.call_len_list pl.isList (by simp only [List.size_toArray] <;> omega) ⟨.int ys.length, H, I.tok _, ⟨s.toks + 1, by rw [List.size_toArray, hlen]⟩, q⟩
  · obtain ⟨its, r', pl, hz⟩ := I.tuple hq
    have hlen := r'.length
    exact len_tuple pl (by simp only [List.size_toArray] <;> omega) ⟨.int ys.length, H, I.tok _, ⟨s.toks + 1, by rw [List.size_toArray, hlen]⟩, q⟩
/-! ### the call of a builtin's method: o.m(..) -/
/-- the value is of that builtin type -/
def tyV (K : PySem.W.Frag) (T : String) (x : V) (H : Hp) : Prop := match x with
  | .str _ => T = "str"
  | .int _ => T = "int"
  | .ref p => (T = "list" ∧ ∃ xs, SqL K H p xs) ∨ (T = "tuple" ∧ ∃ o, K.lookup p = some o ∧ o.cls = .type "tuple" ∧ o.dict = none) ∨
      (T = "dict" ∧ ((∃ kvs, H p = some (.dK kvs)) ∨ ∃ kvs, H p = some (.dT kvs))) ∨ (T = "set" ∧ ∃ S n, H p = some (.set S n))
  | _ => False
theorem tyV_is {pins : List (Addr × Obj)} {σ : St} {H : Hp} {s : Shared} {T : String} {x : V} {v : Value} (I : Inv X pins σ H s) (r : RelV x v) (ty : tyV X.K T x H) :
    s.TypeIs v T ∧ ∀ a, v = .ref a → ∃ ob, s.heap.get? a = some ob ∧ ob.dict = none := by
  cases x with
  | str z =>
    obtain ⟨t, rfl⟩ := r
    cases (show T = "str" from ty)
    exact ⟨typeIs_str s z t, fun _ e => nomatch e⟩
  | int i =>
    obtain ⟨t, rfl⟩ := r
    cases (show T = "int" from ty)
    exact ⟨typeIs_int s i t, fun _ e => nomatch e⟩
  | ref p =>
    cases r
    rcases ty with ⟨rfl, xs, hq⟩ | ⟨rfl, o, hk, hc, hd⟩ | ⟨rfl, hk⟩ | ⟨rfl, S, n, hk⟩
    · obtain ⟨its, _, pl, _⟩ := I.list hq
      refine ⟨pl.isList.typeIs, fun a e => ?_⟩
      cases e
      obtain ⟨o, n, e, c, hd, _⟩ := pl
      exact ⟨o, e, hd⟩
    · refine ⟨⟨o, I.kIn p o hk, hc⟩, fun a e => ?_⟩
      cases e
      exact ⟨o, I.kIn _ o hk, hd⟩
    · have z : ∃ o, s.heap.get? p = some o ∧ o.ExactDict := by
        rcases hk with ⟨kvs, hk⟩ | ⟨kvs, hk⟩
        · obtain ⟨_, _, _, _, o, _, _, e, ex, _⟩ := I.hok p _ hk
          exact ⟨o, e, ex⟩
        · obtain ⟨_, _, _, _, o, _, _, e, ex, _⟩ := I.hok p _ hk
          exact ⟨o, e, ex⟩
      obtain ⟨o, e, ex⟩ := z
      refine ⟨⟨o, e, ex.1⟩, fun a e2 => ?_⟩
      cases e2
      exact ⟨o, e, ex.2.1⟩
    · obtain ⟨o, _, _, _, e, ex, _⟩ := I.hok p _ hk
      refine ⟨⟨o, e, ex.1⟩, fun a e2 => ?_⟩
      cases e2
      exact ⟨o, e, ex.2.1⟩
  | _ => exact False.elim ty
def tBM0 (K : PySem.W.Frag) (T : String) (r : V → List V → Hp → VK → Prop) (to : TE) : TE := fun σ H Q => to σ H fun x H1 => tyV K T x H1 ∧ r x [] H1 Q
def tBM (K : PySem.W.Frag) (T : String) (r : V → List V → Hp → VK → Prop) (to : TE) (t : TA) : TE := fun σ H Q => to σ H fun x H1 => tyV K T x H1 ∧ t σ H1 fun xs H2 => r x xs H2 Q
variable {o e : Expr} {es : List Expr} {to : TE} {t : TA} {name : Str} {apos cpos : Pos} {T id : String} {r : V → List V → Hp → VK → Prop}
theorem pe_bm (pa : PlainAttrs T) (slot : Slot T name id) (hty : typeOf (.builtin id) = pure (.type "method_descriptor")) (hm : MtR X id r) (ho : PE X o to) (ha : PA X (e :: es) t)
    (hbase : attributeBase o name X.env (eval o X.env) = eval o X.env := by rfl)
    (hfew : ((backTo cpos (starEach (e :: es) X.env)).all (fun x => !x.1) && (backToKw cpos (keywordEach [] X.env)).all (fun x => x.1.isSome)
      && decide ((e :: es).length + ([] : List Keyword).length + (if ([] : List Keyword).isEmpty then 0 else 1) < 30)) = true := by rfl)
    (hline : (apos.endLine == cpos.line) = true := by rfl) (hs : starEach (e :: es) X.env = (false, eval e X.env) :: starEach es X.env := by rfl) (hplain : (backTo cpos (starEach es X.env)).any (·.1) = false := by rfl) :
    PE X (.Call (.Attribute o name apos) (e :: es) [] cpos) (tBM X.K T r to t) := by
  intro pins s σ H Q I h
  refine wpAny_Call_method_late hbase hfew hline rfl (thn (ho pins s σ H _ I h) fun v s1 ⟨x, H1, I1, r1, ty, q1⟩ => ?_)
  obtain ⟨h1, h2⟩ := tyV_is I1 r1 ty
  refine ⟨T, id, pa, slot, hty, h1, h2, ?_⟩
  have hA := ha cpos pins s1 σ H1 _ I1 q1
  rw [hs] at hA ⊢
  refine Calls.callWith_builtin (by show (false || (backTo cpos (starEach es X.env)).any (·.1)) = false; rw [hplain] <;> rfl) (Calls.evalArgs_plain ?_)
  exact thn hA fun us s2 ⟨vs, H2, I2, r2, q2⟩ => hm pins s2 σ H2 x vs v us Q I2 r1 r2 q2
/- xs.append(e), list.index on a module's tuple .. are MtR facts of 06m -/
end
end L2

namespace L2
open PySem PySem.Spec PyProof.Rows

def MtM (X : Cx) (id : String) (r : V → List V → Hp → VK → Prop) : Prop :=
  ∀ (pins : List (Addr × Obj)) (s : Shared) (σ : St) (H : Hp) (x : V) (xs : List V) (v : Value) (us : List Value) (Q : VK), Inv X pins σ H s → RelV x v → Vals xs us → r x xs H Q →
    wpAny (model X.prog X.w) X.A (call (.builtin id) (v :: us)) (EP X pins σ Q) X.xe s

/-! ### lists of values -/
theorem Vals.one : ∀ {x : V} {us : List Value}, Vals [x] us → ∃ u, us = [u] ∧ RelV x u
  | _, _, .cons r .nil => ⟨_, rfl, r⟩
theorem Vals.reverse {xs : List V} {us : List Value} (h : Vals xs us) : Vals xs.reverse us.reverse := by
  induction h with
  | nil => exact .nil
  | cons r t ih => rw [List.reverse_cons, List.reverse_cons]; exact Vals.append ih (.cons r .nil)
theorem Vals.rep {xs : List V} {us : List Value} (h : Vals xs us) : ∀ k : Nat, Vals (List.replicate k xs).flatten (List.replicate k us).flatten
  | 0 => .nil
  | k + 1 => by
    rw [List.replicate_succ, List.replicate_succ, List.flatten_cons, List.flatten_cons]
    exact Vals.append h (Vals.rep h k)
theorem foldl_rep (its : List Value) : ∀ (k : Nat) (acc : List Value),
    List.foldl (fun x1 x2 => x1 ++ x2) acc.toArray (List.replicate k its.toArray) = (acc ++ (List.replicate k its).flatten).toArray
  | 0, acc => by simp
  | k + 1, acc => by
    have e : acc.toArray ++ its.toArray = (acc ++ its).toArray := by simp
    have e2 : (acc ++ its) ++ (List.replicate k its).flatten = acc ++ (List.replicate (k + 1) its).flatten := by
      rw [List.replicate_succ, List.flatten_cons, List.append_assoc]
    rw [← e2, ← foldl_rep its k (acc ++ its), ← e, List.replicate_succ, List.foldl_cons]

section
variable {X : Cx} {pins : List (Addr × Obj)} {σ : St} {H : Hp} {s : Shared} {l b : Addr} {xs ys zs : List V}

/-! ### the two steps: a tracked list is rewritten, a new list is laid -/
theorem Inv.lset {its its' : List Value} {n : Nat} {f : Array Value → Array Value} {t' : Nat} (I : Inv X pins σ H s) (hH : H l = some (.lst xs))
    (e : s.heap.get? l = some { cls := .type "list", data := .seq its.toArray n }) (hf : f its.toArray = its'.toArray) (hv : Vals ys its') (hz : ys.length ≤ sizeLine) :
    Inv X pins σ (upd H l (.lst ys)) { s with heap := s.heap.update l (Obj.mapSeq f), toks := t' } := by
  have q := PySem.IsL.update e f
  rw [hf] at q
  refine I.write (x := l) (e := l) (by rw [hH]; exact trivial) (.inl rfl) (fun b' u hb hu => (Heap.get?_update_other s.heap (Obj.mapSeq f) (Ne.symm hb)).trans hu) ⟨_, q⟩ ?_
  exact ⟨hz, its', _, hv, q⟩
theorem Inv.lnew {its : List Value} {t' : Nat} (I : Inv X pins σ H s) (hv : Vals ys its) (hz : ys.length ≤ sizeLine) :
    Inv X pins σ (upd H s.heap.objs.size (.lst ys)) { s with heap := s.heap.push { cls := .type "list", data := .seq its.toArray }, toks := t' } :=
  I.laid (fun _ _ q => Heap.get?_push_of_some _ q) (Nat.le_refl _) ⟨hz, its, 0, hv, Heap.get?_push_size _ rfl⟩
theorem Inv.fresh (I : Inv X pins σ H s) : H s.heap.objs.size = none := I.hok.fresh (Nat.le_refl _)
theorem Inv.lstM (I : Inv X pins σ H s) (hH : H l = some (.lst xs)) : xs.length ≤ sizeLine ∧ ∃ (its : List Value) (n : Nat), Vals xs its ∧ xs.length = its.length ∧ s.heap.get? l = some { cls := .type "list", data := .seq its.toArray n } := by
  obtain ⟨z, its, n, r, e⟩ := I.hok l _ hH
  exact ⟨z, its, n, r, r.length, e⟩

theorem notLongL {n : Nat} (h : n ≤ sizeLine) : Builtin.List.listTooLong n = false := by
  unfold Builtin.List.listTooLong
  exact decide_eq_false (by omega)
end

section
variable {X : Cx}

/-! ### methods -/
def rAppend : V → List V → Hp → VK → Prop := fun x vs H Q => ∃ l xs y, x = .ref l ∧ vs = [y] ∧ H l = some (.lst xs) ∧ xs.length < sizeLine ∧ Q .non (upd H l (.lst (xs ++ [y])))
theorem mt_append : MtM X "list.append" rAppend := by
  intro pins s σ H x vs v us Q I rx rv h
  obtain ⟨l, xs, y, rfl, rfl, hH, hz, q⟩ := h
  cases rx
  obtain ⟨u, rfl, ru⟩ := rv.one
  obtain ⟨z, its, n, r, hl, e⟩ := I.lstM hH
  refine call_meets F.slot_list_append ⟨_, e, rfl⟩ F.entry_list_append (F.args_list_append_2 _ _) (PySem.list_append l its.toArray n u (by rw [List.size_toArray]; omega)) ⟨e, ?_⟩
  refine ⟨.non, _, I.lset (its' := its ++ [u]) hH e (by simp) (r.append (.cons ru .nil)) ?_, rfl, q⟩
  rw [List.length_append, List.length_singleton]
  omega

def rExtend : V → List V → Hp → VK → Prop := fun x vs H Q => ∃ l b xs zs, x = .ref l ∧ vs = [.ref b] ∧ H l = some (.lst xs) ∧ H b = some (.lst zs) ∧ xs.length + zs.length ≤ sizeLine ∧ Q .non (upd H l (.lst (xs ++ zs)))
theorem mt_extend : MtM X "list.extend" rExtend := by
  intro pins s σ H x vs v us Q I rx rv h
  obtain ⟨l, b, xs, zs, rfl, rfl, hH, hB, hz, q⟩ := h
  cases rx
  obtain ⟨u, rfl, ru⟩ := rv.one
  cases ru
  obtain ⟨z, its, n, r, hl, e⟩ := I.lstM hH
  obtain ⟨z2, its2, n2, r2, hl2, e2⟩ := I.lstM hB
  have hsz : its.toArray.size + its2.toArray.size ≤ sizeLine := by rw [List.size_toArray, List.size_toArray]; omega
  have hlong : ¬ (!its.toArray.isEmpty && Builtin.List.listTooLong (its.toArray.size + its2.toArray.size)) = true := by
    rw [notLongL hsz, Bool.and_false]
    exact Bool.false_ne_true
  refine call_meets F.slot_list_extend ⟨_, e, rfl⟩ F.entry_list_extend (F.args_list_extend_2 _ _)
    (AutoSeq1.list_extend_list_list_0 l its.toArray n b its2.toArray n2 hlong (by rw [List.size_toArray]; omega) (by omega)) ⟨e, e2, ?_⟩
  refine ⟨.non, _, I.lset (its' := its ++ its2) hH e (by simp) (r.append r2) ?_, rfl, q⟩
  rw [List.length_append]
  omega

def rPop : V → List V → Hp → VK → Prop := fun x vs H Q => ∃ l xs y, x = .ref l ∧ vs = [] ∧ H l = some (.lst xs) ∧ xs[xs.length - 1]? = some y ∧ Q y (upd H l (.lst xs.dropLast))
def rPopAt : V → List V → Hp → VK → Prop := fun x vs H Q => ∃ l xs i k y, x = .ref l ∧ vs = [.int i] ∧ H l = some (.lst xs) ∧ -(2 ^ 63) ≤ i ∧ i < 2 ^ 63 ∧ seqIndex? i xs.length = some k ∧ xs[k]? = some y ∧ Q y (upd H l (.lst (xs.eraseIdx k)))
def rReverse : V → List V → Hp → VK → Prop := fun x vs H Q => ∃ l xs, x = .ref l ∧ vs = [] ∧ H l = some (.lst xs) ∧ Q .non (upd H l (.lst xs.reverse))
def rClear : V → List V → Hp → VK → Prop := fun x vs H Q => ∃ l xs, x = .ref l ∧ vs = [] ∧ H l = some (.lst xs) ∧ Q .non (upd H l (.lst []))
/-! ### list + list, list += list, list * int -/
def rCat : R2 := fun x y H Q => ∃ l b xs zs, x = .ref l ∧ y = .ref b ∧ H l = some (.lst xs) ∧ H b = some (.lst zs) ∧ xs.length + zs.length ≤ sizeLine ∧ ∀ p, H p = none → Q (.ref p) (upd H p (.lst (xs ++ zs)))
theorem op_cat : OpR X (binaryOp .Add) rCat := by
  intro pins s σ H x y v u Q I rx ry h
  obtain ⟨l, b, xs, zs, rfl, rfl, hH, hB, hz, q⟩ := h
  cases rx
  cases ry
  obtain ⟨z, its, n, r, hl, e⟩ := I.lstM hH
  obtain ⟨z2, its2, n2, r2, hl2, e2⟩ := I.lstM hB
  refine PySem.P.add_list e e2 ?_ (by rw [List.size_toArray, List.size_toArray]; omega)
  have ea : its.toArray ++ its2.toArray = (its ++ its2).toArray := by simp
  rw [ea]
  exact ⟨.ref _, _, I.lnew (t' := s.toks) (r.append r2) (by rw [List.length_append]; omega), rfl, q _ I.fresh⟩
/-- a list times an int (a negative one is nothing) -/
def rRep : R2 := fun x y H Q => ∃ l k xs, x = .ref l ∧ y = .int k ∧ H l = some (.lst xs) ∧ -(2 ^ 63) ≤ k ∧ k < 2 ^ 63 ∧ xs.length * k.toNat ≤ sizeLine ∧
  ∀ p, H p = none → Q (.ref p) (upd H p (.lst (List.replicate k.toNat xs).flatten))
theorem len_rep {α : Type} (xs : List α) (k : Nat) : (List.replicate k xs).flatten.length = k * xs.length := by
  induction k with
  | zero => simp
  | succ k ih => rw [List.replicate_succ, List.flatten_cons, List.length_append, ih, Nat.succ_mul, Nat.add_comm]
theorem op_rep : OpR X (binaryOp .Mult) rRep := by
  intro pins s σ H x y v u Q I rx ry h
  obtain ⟨l, k, xs, rfl, rfl, hH, h1, h2, hz, q⟩ := h
  cases rx
  obtain ⟨t, rfl⟩ := ry
  obtain ⟨z, its, n, r, hl, e⟩ := I.lstM hH
  have hlen : its.toArray.size * k.toNat ≤ sizeLine := by rw [List.size_toArray, ← hl]; exact hz
  have hcap : ¬ its.toArray.size * k.toNat > (2 ^ 63 - 1) / 8 := by
    have : (sizeLine : Nat) ≤ (2 ^ 63 - 1) / 8 := by decide
    omega
  have hfit : ¬ (!Builtin.List.listFitsIndex k) = true := by
    rw [fitsIndex_both h1 h2]
    exact Bool.false_ne_true
  have hlong : ¬ Builtin.List.listTooLong (its.toArray.size * k.toNat) = true := by
    rw [notLongL hlen]
    exact Bool.false_ne_true
  have hnew : List.foldl (fun x1 x2 => x1 ++ x2) #[] (List.replicate (if its.toArray.isEmpty = true then 0 else k.toNat) its.toArray) = (List.replicate k.toNat its).flatten.toArray := by
    have f0 : ∀ m : Nat, List.foldl (fun x1 x2 => x1 ++ x2) #[] (List.replicate m its.toArray) = (List.replicate m its).flatten.toArray := fun m => by
      have := foldl_rep its m []
      rw [List.nil_append] at this
      exact this
    rw [f0]
    cases its with
    | nil => simp
    | cons a r' => rw [if_neg (by simp)]
  refine wpAny_binaryOp_repeat_ref (T := "list") (U := "int") (by decide) ⟨_, e, rfl⟩ (fun s' => typeIs_int s' k t) noFill_list_mul F.fills_int_mul F.slot_int_rmul repeat_list F.slot_int_index.lookup
    (call_meets F.slot_int_rmul (typeIs_int s k t) F.entry_int_rmul (F.args_int_rmul_2 _ _) (int___rmul___int_list k t l its.toArray n)
      ⟨e, rfl, ⟨_, e, rfl⟩, call_meets F.slot_list_mul ⟨_, e, rfl⟩ F.entry_list_mul (F.args_list_mul_2 _ _) (AutoListH.list___mul___list_int_3 l its.toArray n k t hfit hcap hlong) ⟨e, ?_⟩⟩)
  rw [hnew]
  exact ⟨.ref _, _, I.lnew (t' := s.toks) (r.rep k.toNat) (by rw [len_rep, Nat.mul_comm]; exact hz), rfl, q _ I.fresh⟩

/-! ### del xs[i] -/
end

/-! ### xs[a:b] = ys -/
section
variable {prog : Program} {w : World} {A : Around} {E : Value → Shared → Prop} {s : Shared}
set_option maxRecDepth 100000 in
end

section
variable {X : Cx}
end
end L2

namespace L2
open PySem PySem.Spec PyProof.Rows

theorem Vals.ints : ∀ {ns : List Int} {us : List Value}, Vals (ns.map V.int) us → IntsAre us ns
  | [], us, h => by
    rw [List.map_nil] at h
    cases h
    exact IntsAre.nil
  | n :: ns, us, h => by
    rw [List.map_cons] at h
    cases h with
    | cons r t =>
      obtain ⟨k, rfl⟩ := r
      exact IntsAre.cons n k (Vals.ints t)
theorem Vals.bls : ∀ {bs : List Bool} {us : List Value}, Vals (bs.map V.bl) us → us = bs.map Value.bool
  | [], us, h => by
    rw [List.map_nil] at h
    cases h
    rfl
  | b :: bs, us, h => by
    rw [List.map_cons] at h
    cases h with
    | cons r t =>
      cases r
      rw [Vals.bls t, List.map_cons]
theorem Vals.ref1 {a : Addr} {us : List Value} (r : Vals [V.ref a] us) : us = [Value.ref a] := by
  cases r with
  | cons r t =>
    cases t
    cases r
    rfl
/-! ### the library's walks over a list of ints, kept objects alone -/
section
variable {prog : Program} {w : World} {A : Around} {E : Value → Shared → Prop} {s : Shared} {l : Addr} {its : List Value} {ns : List Int} {Q : Value → Shared → Prop}
theorem sum_raw (hh : A.handled = none) (hl : s.heap.IsList l its.toArray) (hi : IntsAre its ns)
    (h : ∀ h' tk t', (∀ b o, s.heap.get? b = some o → h'.get? b = some o) → Q (.int ns.sum t') { s with heap := h', toks := tk }) : wpAny (model prog w) A (call (.builtin "sum") [.ref l]) Q E s := by
  obtain ⟨xs, e⟩ := hi.allInts.items
  have hn : numsOf (intItems xs).toList = ns := by rw [← e]; exact hi.numsOf
  rw [nums_intItems] at hn
  rw [e] at hl
  refine PySem.sum_intListG hh hl fun h' tk t' hk => ?_
  have := h h' tk t' hk
  rw [preSum_eq, List.take_of_length_le (by simp), hn]; exact this
theorem max_raw (hh : A.handled = none) (hl : s.heap.IsList l its.toArray) (hi : IntsAre its ns) (hne : 0 < ns.length)
    (h : ∀ h' tk M t', (∀ b o, s.heap.get? b = some o → h'.get? b = some o) → M ∈ ns → (∀ a, a ∈ ns → a ≤ M) → Q (.int M t') { s with heap := h', toks := tk }) : wpAny (model prog w) A (call (.builtin "max") [.ref l]) Q E s := by
  obtain ⟨xs, e⟩ := hi.allInts.items
  have hn : numsOf (intItems xs).toList = ns := by rw [← e]; exact hi.numsOf
  rw [nums_intItems] at hn
  subst hn
  rw [e] at hl
  have hsz : 0 < xs.size := by simpa using hne
  refine PySem.max_intList hh hl hsz fun v h' tk hv hk => ?_
  obtain ⟨t, rfl⟩ := intItems_at hv
  obtain ⟨h1, h2⟩ := argBest_gt (numAt xs) (xs.size - 1)
  refine h h' tk _ t hk ?_ fun a ha => ?_
  · rw [numAt_eq]; exact PySem.getD_mem (by rw [List.length_map, Array.length_toList]; omega)
  · obtain ⟨j, hj, rfl⟩ := mem_getD ha
    rw [List.length_map, Array.length_toList] at hj
    rw [← numAt_eq]; exact h2 j (by omega)
end

/-! ### the calls, by values (CallR of 03t; MtR of 06l) -/
section
variable {X : Cx}
/-- sum(xs) of a list of ints -/
def rSum (K : PySem.W.Frag) : List V → Hp → VK → Prop := fun vs H Q => ∃ (a : Addr) (ns : List Int), vs = [V.ref a] ∧ SqL K H a (ns.map V.int) ∧ Q (.int ns.sum) H
/-- max(xs), min(xs) of a list of ints -/
def rMax (K : PySem.W.Frag) : List V → Hp → VK → Prop := fun vs H Q => ∃ (a : Addr) (ns : List Int), vs = [V.ref a] ∧ SqL K H a (ns.map V.int) ∧ 0 < ns.length ∧ ∀ m, m ∈ ns → (∀ y, y ∈ ns → y ≤ m) → Q (.int m) H
def rMin (K : PySem.W.Frag) : List V → Hp → VK → Prop := fun vs H Q => ∃ (a : Addr) (ns : List Int), vs = [V.ref a] ∧ SqL K H a (ns.map V.int) ∧ 0 < ns.length ∧ ∀ m, m ∈ ns → (∀ y, y ∈ ns → m ≤ y) → Q (.int m) H
theorem cr_sum (hc : X.calm = true) : CallR X (.builtin "sum") (rSum X.K) := by
  intro pins s σ H vs us Q I r h
  obtain ⟨a, ns, rfl, hs, q⟩ := h
  obtain ⟨its, rv, hl, _⟩ := I.list hs
  rw [Vals.ref1 r]
  exact sum_raw (I.ok.hd hc) hl.isList rv.ints fun h' tk t' hk => ⟨.int _, H, I.kept hk, ⟨_, rfl⟩, q⟩
theorem cr_max (hc : X.calm = true) : CallR X (.builtin "max") (rMax X.K) := by
  intro pins s σ H vs us Q I r h
  obtain ⟨a, ns, rfl, hs, hne, q⟩ := h
  obtain ⟨its, rv, hl, _⟩ := I.list hs
  rw [Vals.ref1 r]
  exact max_raw (I.ok.hd hc) hl.isList rv.ints hne fun h' tk m t' hk h1 h2 => ⟨.int _, H, I.kept hk, ⟨_, rfl⟩, q m h1 h2⟩
/-! sorted, sort (fewer than 64 items: the library's own bound) -/
def rSorted (K : PySem.W.Frag) : List V → Hp → VK → Prop := fun vs H Q => ∃ (a : Addr) (ns : List Int), vs = [V.ref a] ∧ SqL K H a (ns.map V.int) ∧ ns.length < 64 ∧
  ∀ (ns' : List Int) (p : Addr), ns'.Perm ns → ns'.Pairwise (· ≤ ·) → H p = none → Q (.ref p) (upd H p (.lst (ns'.map V.int)))
def rSortedS (K : PySem.W.Frag) : List V → Hp → VK → Prop := fun vs H Q => ∃ (a : Addr) (xs : List Str), vs = [V.ref a] ∧ SqL K H a (xs.map V.str) ∧ xs.length < 64 ∧
  ∀ (ys : List Str) (p : Addr), ys.Perm xs → sortedS ys = true → H p = none → Q (.ref p) (upd H p (.lst (ys.map V.str)))
/-- xs.sort(), ints -/
def rSort : V → List V → Hp → VK → Prop := fun x xs H Q => ∃ (a : Addr) (ns : List Int), x = V.ref a ∧ xs = [] ∧ H a = some (.lst (ns.map V.int)) ∧ ns.length < 64 ∧
  ∀ ns' : List Int, ns'.Perm ns → ns'.Pairwise (· ≤ ·) → Q .non (upd H a (.lst (ns'.map V.int)))
end

/-! ### list.index, flat items -/
section
variable {X : Cx}
def rIndex (K : PySem.W.Frag) : V → List V → Hp → VK → Prop := fun x xs H Q => ∃ (a : Addr) (ys : List V) (y : V) (j : Nat) (z : V), x = V.ref a ∧ xs = [y] ∧ SqL K H a ys ∧ flatV y = true ∧ ys.all flatV = true ∧ ys[j]? = some z ∧ eqV z y = true ∧
  (∀ (m : Nat) (z' : V), m < j → ys[m]? = some z' → eqV z' y = false) ∧ Q (.int (j : Nat)) H
theorem flat_at {ys : List V} (f : ys.all flatV = true) {j : Nat} {z : V} (h : ys[j]? = some z) : flatV z = true := List.all_eq_true.mp f z (List.mem_of_getElem? h)
theorem mt_index : MtR X "list.index" (rIndex X.K) := by
  intro pins s σ H x xs v us Q I rx rxs h
  obtain ⟨a, ys, y, j, z, rfl, rfl, hs, fy, fys, hz, hzj, hno, q⟩ := h
  cases rx
  cases rxs with
  | cons ry rt =>
    rename_i uy ut
    cases rt
    obtain ⟨its, rv, ⟨⟨cls, dd, data, sl⟩, n, ho, hc, hdn, hd⟩, hlen⟩ := I.list hs
    simp only at hc hd
    subst hc hd
    obtain ⟨u, hu, ru⟩ := rv.get hz
    obtain ⟨hjl, hje⟩ := List.getElem?_eq_some_iff.mp hu
    have hvl := rv.length
    have hj : j < its.toArray.size := by simpa using hjl
    have hsl := sizeLine_eq
    refine call_meets PySem.F.slot_list_index ⟨_, ho, rfl⟩ PySem.F.entry_list_index (PySem.F.args_list_index_2 _ _)
      (SeqAt.list_indexAt a its.toArray n dd sl uy (eqU y) j hj (by omega) ?_ ?_) ⟨ho, fun u' hu' => mem_eqAt ry fy rv fys u' (by simpa using hu'), ?_⟩
    · have e1 : its.toArray[j] = u := by simpa using hje
      rw [e1, eqU_of ru (flat_at fys hz)]
      exact hzj
    · intro m hm hmj
      have hml : m < its.length := by simpa using hm
      have hmy : m < ys.length := by omega
      have hy' : ys[m]? = some ys[m] := List.getElem?_eq_getElem hmy
      obtain ⟨u2, hu2, ru2⟩ := rv.get hy'
      obtain ⟨_, hme⟩ := List.getElem?_eq_some_iff.mp hu2
      have e1 : its.toArray[m] = u2 := by simpa using hme
      rw [e1, eqU_of ru2 (flat_at fys hy')]
      exact hno m _ hmj hy'
    · exact ⟨.int (j : Nat), H, I.tok _, ⟨_, rfl⟩, q⟩
end

/-! ### type(x) of an own instance; is, is not of a module's class -/
section
variable {X : Cx}
end

/-! ### any(xs), all(xs) of a list of bools -/
theorem iter_any {prog : Program} {w : World} {A : Around} {E : Value → Shared → Prop} {s : Shared} {l : Addr} {items : Array Value} {Q : Value → Shared → Prop} (hl : s.heap.IsList l items)
    (h : ∀ s₂ : Shared, s₂ = { s with heap := s.heap.push { cls := .type "list_iterator", data := .fields #[.ref l, .int 0 0] } } →
      (s₂.heap.IsListIter s.heap.objs.size l 0 ∧ s₂.heap.IsList l items) → l ≠ s.heap.objs.size → Q (.ref s.heap.objs.size) s₂) : wpAny (model prog w) A (pyIter (.ref l)) Q E s := by
  have hlt : l < s.heap.objs.size := by obtain ⟨_, e, _⟩ := hl; exact Heap.lt_size e
  exact wpAny_pyIter_list hl (h _ rfl ⟨⟨_, Heap.get?_push_size _ rfl, rfl, rfl⟩, hl.push _⟩ (Nat.ne_of_lt hlt))
theorem truth_bools {prog : Program} {w : World} {A : Around} {bs : List Bool} {its : List Value} (e : its = bs.map Value.bool) :
    TruthOf prog w A (fun i v => its.toArray[i]? = some v) (fun i => bs.getD i false) := fun i v s Q E hv hq => by
  have hv' : its[i]? = some v := by simpa using hv
  rw [e, List.getElem?_map] at hv'
  obtain ⟨b, hb, rfl⟩ := Option.map_eq_some_iff.mp hv'
  have hg : bs.getD i false = b := by rw [List.getD_eq_getElem?_getD, hb] <;> rfl
  have hq' : Q (bs.getD i false) s := hq
  rw [hg] at hq'
  exact wpAny_truthy_bool hq'
theorem any_range : ∀ bs : List Bool, (List.range bs.length).any (fun i => bs.getD i false) = bs.any id
  | [] => rfl
  | b :: bs => by
    rw [List.length_cons, List.range_succ_eq_map, List.any_cons, List.any_map, List.any_cons, ← any_range bs]
    all_goals rfl
theorem all_range : ∀ bs : List Bool, (List.range bs.length).all (fun i => bs.getD i false) = bs.all id
  | [] => rfl
  | b :: bs => by
    rw [List.length_cons, List.range_succ_eq_map, List.all_cons, List.all_map, List.all_cons, ← all_range bs]
    all_goals rfl
section
variable {X : Cx}
def rAny (K : PySem.W.Frag) : List V → Hp → VK → Prop := fun vs H Q => ∃ (a : Addr) (bs : List Bool), vs = [V.ref a] ∧ SqL K H a (bs.map V.bl) ∧ Q (.bl (bs.any id)) H
def rAll (K : PySem.W.Frag) : List V → Hp → VK → Prop := fun vs H Q => ∃ (a : Addr) (bs : List Bool), vs = [V.ref a] ∧ SqL K H a (bs.map V.bl) ∧ Q (.bl (bs.all id)) H
theorem cr_all (hc : X.calm = true) : CallR X (.builtin "all") (rAll X.K) := by
  intro pins s σ H vs us Q I r h
  obtain ⟨a, bs, rfl, hs, q⟩ := h
  obtain ⟨its, rv, hl, _⟩ := I.list hs
  rw [Vals.ref1 r]
  have hb := rv.bls
  refine call_all_walk (iter_any hl.isList fun s₂ e2 st hne => ?_)
  subst e2
  refine ⟨_, _, _, _, _, _, _, rfl, Walks.list (A := X.A.in1) (I.ok.hd hc) _ a hne its.toArray, st, truth_bools hb, fun h' tk hk => ?_⟩
  refine ⟨.bl _, H, I.kept fun b o eo => hk b o (fun hmem => ?_) (Heap.get?_push_of_some _ eo), ?_, q⟩
  · rcases List.mem_cons.mp hmem with e1 | hmem
    · exact absurd (e1 ▸ Heap.lt_size eo) (Nat.lt_irrefl _)
    · cases hmem
  · show Value.bool _ = Value.bool _
    rw [← all_range, hb, List.size_toArray, List.length_map]
end

/-! ### == and != of data at any depth: none, bools, ints, texts, lists, tuples -/
mutual
inductive Dp (K : PySem.W.Frag) (H : Hp) : V → PyData → Prop
  | non : Dp K H .non .none
  | bl (b : Bool) : Dp K H (.bl b) (.bool b)
  | int (i : Int) : Dp K H (.int i) (.int i)
  | str (x : Str) : Dp K H (.str x) (.str x)
  | lst {a : Addr} {xs : List V} {ds : List PyData} : SqL K H a xs → DpAll K H xs ds → Dp K H (.ref a) (.list ds)
  | tup {a : Addr} {xs : List V} {ds : List PyData} : SqT K H a xs → DpAll K H xs ds → Dp K H (.ref a) (.tuple ds)
inductive DpAll (K : PySem.W.Frag) (H : Hp) : List V → List PyData → Prop
  | nil : DpAll K H [] []
  | cons {v : V} {vs : List V} {d : PyData} {ds : List PyData} : Dp K H v d → DpAll K H vs ds → DpAll K H (v :: vs) (d :: ds)
end
section
variable {X : Cx} {pins : List (Addr × Obj)} {σ : St} {H : Hp} {s : Shared}
mutual
theorem Dp.reads (I : Inv X pins σ H s) : ∀ (d : PyData) (v : V) (u : Value), Dp X.K H v d → RelV v u → ∃ as, Reads s.heap u d as
  | .none, _, _, h, r => by
    cases h
    cases r
    exact ⟨_, Reads.none⟩
  | .bool b, _, _, h, r => by
    cases h
    cases r
    exact ⟨_, Reads.bool b⟩
  | .int i, _, _, h, r => by
    cases h
    obtain ⟨t, rfl⟩ := r
    exact ⟨_, Reads.int i t⟩
  | .str x, _, _, h, r => by
    cases h
    obtain ⟨t, rfl⟩ := r
    exact ⟨_, Reads.str x t⟩
  | .list ds, _, _, h, r => by
    cases h with
    | lst hs ha =>
      cases r
      obtain ⟨its, rv, ⟨o, n, ho, hc, _, hd⟩, _⟩ := I.list hs
      obtain ⟨as, hr⟩ := Dp.readsAll I ds _ its ha rv
      exact ⟨_, Reads.list ho hc hd hr⟩
  | .tuple ds, _, _, h, r => by
    cases h with
    | tup hs ha =>
      cases r
      obtain ⟨its, rv, ⟨o, ho, hc, n, hd⟩, _⟩ := I.tuple hs
      obtain ⟨as, hr⟩ := Dp.readsAll I ds _ its ha rv
      exact ⟨_, Reads.tuple ho hc hd hr⟩
  | .dict _, _, _, h, _ => by cases h
theorem Dp.readsAll (I : Inv X pins σ H s) : ∀ (ds : List PyData) (vs : List V) (us : List Value), DpAll X.K H vs ds → Vals vs us → ∃ as, ReadsAll s.heap us ds as
  | [], _, _, h, r => by
    cases h
    cases r
    exact ⟨_, ReadsAll.nil⟩
  | d :: ds, _, _, h, r => by
    cases h with
    | cons h1 h2 =>
      cases r with
      | cons r1 r2 =>
        obtain ⟨as, q1⟩ := Dp.reads I d _ _ h1 r1
        obtain ⟨bs, q2⟩ := Dp.readsAll I ds _ _ h2 r2
        exact ⟨_, ReadsAll.cons q1 q2⟩
end
end
section
variable {X : Cx}
def rEqD (K : PySem.W.Frag) : R2 := fun x y H Q => ∃ d e, Dp K H x d ∧ Dp K H y e ∧ SeqAt.shaped d = true ∧ SeqAt.shaped e = true ∧ Q (.bl (PyData.eqv d e)) H
def rNeD (K : PySem.W.Frag) : R2 := fun x y H Q => ∃ d e, Dp K H x d ∧ Dp K H y e ∧ SeqAt.shaped d = true ∧ SeqAt.shaped e = true ∧ Q (.bl (!PyData.eqv d e)) H
end
end L2

namespace L2
open PySem PySem.Spec PyProof.Rows
abbrev CellAt (h : Heap) (c : Addr) (v : Option Value) : Prop := h.IsCell c v
def relS (scope sc : Scope) : Scope :=
  { scope with names := scope.names.map fun (n, k) => if (k == .free && sc.kind == .function && sc.names.lookup n == some .cell) then (n, .cell) else (n, k) }

def cloFrom (cells : List (Str × Addr)) : List (Str × NameKind) → List (Str × Addr) → List (Str × Addr)
  | [], acc => acc
  | (n, k) :: r, acc => if k == .free then cloFrom cells r ((n, (cells.lookup n).getD 0) :: acc) else cloFrom cells r acc

theorem closure_loop (env : Env) (f : Str × NameKind → List (Str × Addr) → Sem (ForInStep (List (Str × Addr))))
    (hf : ∀ n k c, f (n, k) c = if k == .free then (do let a ← cellOf env n; pure (.yield ((n, a) :: c))) else pure (.yield c)) :
    ∀ (names : List (Str × NameKind)) (acc : List (Str × Addr)), (∀ y ∈ names, y.2 = .free → ∃ c, env.cells.lookup y.1 = some c) → forIn names acc f = pure (cloFrom env.cells names acc)
  | [], acc, _ => by rw [List.forIn_nil]; rfl
  | (n, k) :: r, acc, h => by
    rw [List.forIn_cons, hf]
    have ih := fun acc => closure_loop env f hf r acc fun y hy => h y (List.mem_cons_of_mem _ hy)
    unfold cloFrom
    by_cases hk : (k == NameKind.free) = true
    · rw [if_pos hk, if_pos hk]
      obtain ⟨c, hc⟩ := h (n, k) List.mem_cons_self (by simpa using hk)
      have e : cellOf env n = pure c := by unfold cellOf; rw [hc]
      rw [e]
      have e2 : (env.cells.lookup n).getD 0 = c := by rw [hc]; rfl
      rw [e2]
      exact ih _
    · rw [if_neg hk, if_neg hk]
      exact ih _
theorem closure_ok {scope : Scope} {env : Env} (h : ∀ y ∈ scope.names, y.2 = .free → ∃ c, env.cells.lookup y.1 = some c) : closureFor scope env = pure (cloFrom env.cells scope.names []) := by
  simp only [closureFor]
  rw [closure_loop env _ (fun n k c => rfl) scope.names [] h]
  rfl

theorem mem_lookup {α : Type} : ∀ {l : List (Str × α)} {n : Str} {c : α}, (n, c) ∈ l → ∃ c', l.lookup n = some c'
  | (k, v) :: r, n, c, h => by
    rw [List.lookup_cons]
    cases hb : n == k with
    | true => exact ⟨_, rfl⟩
    | false =>
      rcases List.mem_cons.mp h with e | h
      · cases e; simp at hb
      · exact mem_lookup h

theorem cloFrom_mem {cells : List (Str × Addr)} : ∀ {names : List (Str × NameKind)} {acc : List (Str × Addr)} {n : Str} {c : Addr}, (n, c) ∈ cloFrom cells names acc → (n, c) ∈ acc ∨ ((n, .free) ∈ names ∧ c = (cells.lookup n).getD 0)
  | [], _, _, _, h => .inl h
  | (m, k) :: r, acc, n, c, h => by
    unfold cloFrom at h
    split at h
    · rename_i hk
      have hk : k = .free := by simpa using hk
      rcases cloFrom_mem h with h | ⟨h1, h2⟩
      · rcases List.mem_cons.mp h with e | h
        · cases e; exact .inr ⟨hk ▸ List.mem_cons_self, rfl⟩
        · exact .inl h
      · exact .inr ⟨List.mem_cons_of_mem _ h1, h2⟩
    · rcases cloFrom_mem h with h | ⟨h1, h2⟩
      · exact .inl h
      · exact .inr ⟨List.mem_cons_of_mem _ h1, h2⟩
theorem cloFrom_acc {cells : List (Str × Addr)} : ∀ {names : List (Str × NameKind)} {acc : List (Str × Addr)} {p : Str × Addr}, p ∈ acc → p ∈ cloFrom cells names acc
  | [], _, _, h => h
  | (m, k) :: r, acc, p, h => by
    unfold cloFrom
    split
    · exact cloFrom_acc (List.mem_cons_of_mem _ h)
    · exact cloFrom_acc h
theorem cloFrom_has {cells : List (Str × Addr)} : ∀ {names : List (Str × NameKind)} {acc : List (Str × Addr)} {n : Str}, (n, .free) ∈ names → (n, (cells.lookup n).getD 0) ∈ cloFrom cells names acc
  | (m, k) :: r, acc, n, h => by
    unfold cloFrom
    rcases List.mem_cons.mp h with e | h
    · cases e
      exact cloFrom_acc List.mem_cons_self
    · split
      · exact cloFrom_has h
      · exact cloFrom_has h

theorem cells_mem : ∀ {names : List (Str × NameKind)} {h : Heap} {acc : List (Str × Addr)} {x : Str} {c : Addr}, (x, c) ∈ cellsFrom h.objs.size names acc →
    (x, c) ∈ acc ∨ ((x, .cell) ∈ names ∧ h.objs.size ≤ c ∧ CellAt (pushCells h names) c none)
  | [], _, _, _, _, h => .inl h
  | (n, k) :: r, h, acc, x, c, hm => by
    unfold cellsFrom at hm
    unfold pushCells
    split at hm
    · rename_i hk
      rw [if_pos hk]
      have hk : k = .cell := by simpa using hk
      rw [← Heap.size_push h { cls := .type "cell", data := .cell none }] at hm
      rcases cells_mem hm with hm | ⟨h1, h2, h3⟩
      · rcases List.mem_cons.mp hm with e | hm
        · cases e
          exact .inr ⟨hk ▸ List.mem_cons_self, Nat.le_refl _, _, pushCells_keeps r _ _ _ (Heap.get?_push_size _ rfl), rfl⟩
        · exact .inl hm
      · rw [Heap.size_push] at h2
        exact .inr ⟨List.mem_cons_of_mem _ h1, Nat.le_of_succ_le h2, h3⟩
    · rename_i hk
      rw [if_neg hk]
      rcases cells_mem hm with hm | ⟨h1, h2, h3⟩
      · exact .inl hm
      · exact .inr ⟨List.mem_cons_of_mem _ h1, h2, h3⟩
theorem cells_acc : ∀ {names : List (Str × NameKind)} {n : Nat} {acc : List (Str × Addr)} {p : Str × Addr}, p ∈ acc → p ∈ cellsFrom n names acc
  | [], _, _, _, h => h
  | (m, k) :: r, n, acc, p, h => by
    unfold cellsFrom
    split
    · exact cells_acc (List.mem_cons_of_mem _ h)
    · exact cells_acc h
theorem cells_has : ∀ {names : List (Str × NameKind)} {n : Nat} {acc : List (Str × Addr)} {x : Str}, (x, .cell) ∈ names → ∃ c, (x, c) ∈ cellsFrom n names acc
  | (m, k) :: r, n, acc, x, h => by
    unfold cellsFrom
    rcases List.mem_cons.mp h with e | h
    · cases e
      exact ⟨n, cells_acc List.mem_cons_self⟩
    · split
      · exact cells_has h
      · exact cells_has h
theorem cells_inj : ∀ {names : List (Str × NameKind)} {h : Heap} {acc : List (Str × Addr)} {x y : Str} {c : Addr}, (∀ p ∈ acc, p.2 < h.objs.size) → (∀ x y c, (x, c) ∈ acc → (y, c) ∈ acc → x = y) →
    (x, c) ∈ cellsFrom h.objs.size names acc → (y, c) ∈ cellsFrom h.objs.size names acc → x = y
  | [], _, _, _, _, _, _, hi, h1, h2 => hi _ _ _ h1 h2
  | (n, k) :: r, h, acc, x, y, c, hl, hi, h1, h2 => by
    unfold cellsFrom at h1 h2
    split at h1
    · rename_i hk
      rw [if_pos hk] at h2
      rw [← Heap.size_push h { cls := .type "cell", data := .cell none }] at h1 h2
      refine cells_inj (h := h.push _) (fun p hp => ?_) (fun x y c a b => ?_) h1 h2
      · rw [Heap.size_push]
        rcases List.mem_cons.mp hp with rfl | hp
        · exact Nat.lt_succ_self _
        · exact Nat.lt_succ_of_lt (hl p hp)
      · rcases List.mem_cons.mp a with e | a <;> rcases List.mem_cons.mp b with e' | b
        · cases e; cases e'; rfl
        · cases e; exact absurd (hl _ b) (Nat.lt_irrefl _)
        · cases e'; exact absurd (hl _ a) (Nat.lt_irrefl _)
        · exact hi _ _ _ a b
    · rename_i hk
      rw [if_neg hk] at h2
      exact cells_inj hl hi h1 h2

theorem newEnv_comp {M : Model} {A : Around} {E : Value → Shared → Prop} {s : Shared} {scope : Scope} {globals : Addr} {closure : List (Str × Addr)} {qual : Str} {func : Option Addr} {code : Value} {around : Env} {builtins : Addr} {Q : Env → Shared → Prop}
    (h : Q (newEnv scope s.heap.objs.size globals (cellsFrom (s.heap.objs.size + 1) scope.names closure) qual func code (some around) builtins)
      { s with heap := pushCells (s.heap.push { cls := .type "dict", data := .dict #[] }) scope.names }) :
    wpAny M A (newFunctionEnv scope globals closure [] qual func code (some around) builtins) Q E s := by
  simp only [newFunctionEnv, Option.isSome_some, if_true]
  refine wpAny_bind (wpAny_alloc ?_)
  refine wpAny_bind (wpAny_layCells _ (fun n k c => rfl) scope.names closure _ _ ?_)
  rw [show ({ s with heap := s.heap.push { cls := .type "dict", data := .dict #[] } } : Shared).heap.objs.size = s.heap.objs.size + 1 from Heap.size_push ..]
  rw [List.forIn_nil]
  exact wpAny_bind (wpAny_pure (wpAny_pure h))

/-- every name of the written scope, in the scope that runs -/
theorem lookup_relS {sc : Scope} : ∀ {names : List (Str × NameKind)} {x : Str} {k : NameKind},
    (names.map fun (n, k) => if (k == NameKind.free && sc.kind == .function && sc.names.lookup n == some .cell) then (n, NameKind.cell) else (n, k)).lookup x = some k →
    ∃ k', names.lookup x = some k' ∧ (k = k' ∨ (k' = .free ∧ k = .cell))
  | [], _, _, h => by simp at h
  | (n, k₀) :: r, x, k, h => by
    have ih := @lookup_relS sc r x k
    have h' : List.lookup x ((if (k₀ == NameKind.free && sc.kind == .function && sc.names.lookup n == some .cell) = true then (n, NameKind.cell) else (n, k₀)) :: (r.map _)) = some k := h
    cases hx : x == n with
    | true =>
      simp only [List.lookup_cons, hx]
      by_cases hc : (k₀ == NameKind.free && sc.kind == .function && sc.names.lookup n == some .cell) = true
      · rw [if_pos hc] at h'
        simp only [List.lookup_cons, hx] at h'
        cases h'
        simp only [Bool.and_eq_true, beq_iff_eq] at hc
        exact ⟨k₀, rfl, .inr ⟨hc.1.1, rfl⟩⟩
      · rw [if_neg hc] at h'
        simp only [List.lookup_cons, hx] at h'
        cases h'
        exact ⟨_, rfl, .inl rfl⟩
    | false =>
      simp only [List.lookup_cons, hx]
      by_cases hc : (k₀ == NameKind.free && sc.kind == .function && sc.names.lookup n == some .cell) = true
      · rw [if_pos hc] at h'
        simp only [List.lookup_cons, hx] at h'
        exact ih h'
      · rw [if_neg hc] at h'
        simp only [List.lookup_cons, hx] at h'
        exact ih h'
/-- the names of a comprehension's block: its own (with their places in N), or captured -/
structure BlkOk (N : List Str) (sc scope : Scope) (own : List (Str × Nat)) : Prop where
  kind : scope.kind = .function
  uniq : ∀ y ∈ scope.names, scope.names.lookup y.1 = some y.2
  ix : ∀ p ∈ own, N[p.2]? = some p.1
  free : ∀ y ∈ scope.names, y.2 = .free → sc.names.lookup y.1 = some .cell ∨ sc.names.lookup y.1 = some .free
  own : ∀ y ∈ scope.names, y.2 = .local ∨ y.2 = .cell → y.1 ∈ own.map (·.1) ∨ y.1 ∉ N
/-- the slots of the block's own names forgotten -/
def wipe (σ : St) : List Nat → St
  | [] => σ
  | v :: vs => (wipe σ vs).set v none
theorem wipe_length (σ : St) : ∀ vs : List Nat, (wipe σ vs).length = σ.length
  | [] => rfl
  | v :: vs => by unfold wipe; rw [List.length_set, wipe_length σ vs]
theorem wipe_some {σ : St} {i : Nat} {x : V} : ∀ {vs : List Nat}, (wipe σ vs)[i]? = some (some x) → σ[i]? = some (some x) ∧ i ∉ vs
  | [], h => ⟨h, by simp⟩
  | v :: vs, h => by
    unfold wipe at h
    by_cases hi : v = i
    · subst hi
      by_cases hv : v < (wipe σ vs).length
      · rw [List.getElem?_set_self hv] at h; cases h
      · rw [List.getElem?_eq_none (by simpa using hv)] at h; cases h
    · rw [List.getElem?_set_ne hi] at h
      obtain ⟨h1, h2⟩ := wipe_some h
      exact ⟨h1, by simp only [List.mem_cons, not_or]; exact ⟨fun e => hi e.symm, h2⟩⟩

/-- the context of a block that starts at s, its iterator's objects at fp -/
abbrev Cx.blk (X : Cx) (s : Shared) (H : Hp) (scope : Scope) (cenv : Env) (fp : List Addr) : Cx := { X with s_0 := s, H_0 := H, env := cenv, outer := X.stack, ex := fp, fn := fun x => scope.names.lookup x == some .cell, pn := [], xe := fun _ _ => False }
section
variable {X : Cx} {pins : List (Addr × Obj)} {σ : St} {H : Hp} {s : Shared}
theorem block_start {scope : Scope} {own : List (Str × Nat)} {fp : List Addr} (I : Inv X pins σ H s) (ok : BlkOk X.N X.env.scope scope own) (hN : X.N.Nodup) (hfp : ∀ b ∈ fp, FpOk X pins H b ∧ b < s.heap.objs.size) :
    Inv (X.blk s H scope (compEnvC scope (cellsFrom (s.heap.objs.size + 1) scope.names (cloFrom X.env.cells scope.names [])) s.heap.objs.size X.env) fp) [] (wipe σ (own.map (·.2))) H { s with heap := pushCells (s.heap.push { cls := .type "dict", data := .dict #[] }) scope.names } := by
  have hfree : ∀ y ∈ scope.names, y.2 = .free → ∃ c, X.env.cells.lookup y.1 = some c := fun y hy e => by
    rcases ok.free y hy e with k | k
    · exact I.ok.has _ (.inl k)
    · exact I.ok.has _ (.inr k)
  generalize hcenv : compEnvC scope (cellsFrom (s.heap.objs.size + 1) scope.names (cloFrom X.env.cells scope.names [])) s.heap.objs.size X.env = cenv
  have kp : ∀ b o, s.heap.get? b = some o → (pushCells (s.heap.push { cls := .type "dict", data := .dict #[] }) scope.names).get? b = some o := fun b o e => pushCells_keeps _ _ _ _ (Heap.get?_push_of_some _ e)
  have hL : cenv.locals = s.heap.objs.size := by rw [← hcenv]; rfl
  have hcl : cenv.cells = cellsFrom (s.heap.objs.size + 1) scope.names (cloFrom X.env.cells scope.names []) := by rw [← hcenv]; rfl
  have hsc : cenv.scope = relS scope X.env.scope := by rw [← hcenv]; rfl
  rw [← Heap.size_push s.heap { cls := .type "dict", data := .dict #[] }] at hcl
  have cm : ∀ {y c}, (y, c) ∈ cloFrom X.env.cells scope.names [] → X.env.cells.lookup y = some c ∧ c < s.heap.objs.size := fun {y c} hm => by
    rcases cloFrom_mem hm with hm | ⟨h1, rfl⟩
    · cases hm
    · obtain ⟨c, hc⟩ := hfree _ h1 rfl
      rw [hc]
      obtain ⟨w, z⟩ := I.cell _ _ hc
      exact ⟨rfl, z.lt⟩
  have mem : ∀ {y c}, cenv.cells.lookup y = some c → (X.env.cells.lookup y = some c ∧ c < s.heap.objs.size) ∨ (s.heap.objs.size + 1 ≤ c ∧ CellAt (pushCells (s.heap.push { cls := .type "dict", data := .dict #[] }) scope.names) c none) := fun {y c} e => by
    rw [hcl] at e
    rcases cells_mem (PySem.mem_of_lookup e) with hm | ⟨_, h2, h3⟩
    · exact .inl (cm hm)
    · rw [Heap.size_push] at h2; exact .inr ⟨h2, h3⟩
  have look : ∀ {y}, scope.names.lookup y = some .free → ∃ c, cenv.cells.lookup y = some c ∧ X.env.cells.lookup y = some c := fun {y} hl => by
    have hy : (y, NameKind.free) ∈ scope.names := PySem.mem_of_lookup hl
    obtain ⟨c', e'⟩ := mem_lookup (cells_acc (names := scope.names) (n := (s.heap.push { cls := .type "dict", data := .dict #[] }).objs.size) (cloFrom_has (cells := X.env.cells) (acc := []) hy))
    rw [← hcl] at e'
    refine ⟨c', e', ?_⟩
    rw [hcl] at e'
    rcases cells_mem (PySem.mem_of_lookup e') with hm | ⟨h1, _, _⟩
    · exact (cm hm).1
    · have := ok.uniq _ h1
      rw [hl] at this; cases this
  have okB : (X.blk s H scope cenv fp).Ok := by
    refine ⟨I.ok.mod, by show cenv.scope.kind = _; rw [hsc]; exact ok.kind, by show cenv.globals = _; rw [← hcenv]; exact I.ok.glob, by show cenv.builtins = _; rw [← hcenv]; exact I.ok.blt, by show s.heap.objs.size ≤ cenv.locals; rw [hL]; exact Nat.le_refl _,
      fun y z c e1 e2 => ?_, fun y hy => ?_, fun y c z e => ?_, I.ok.hd, I.ok.frames, .inl rfl, fun b hb => ⟨?_, fun y c e z => ?_⟩, I.bs, Nat.le_trans I.ok.bsz I.sz, fun b o e hb => ?_, fun b hb z => ?_, I.stack, I.stkFree⟩
    · have e1 : cenv.cells.lookup y = some c := e1
      have e2 : cenv.cells.lookup z = some c := e2
      rw [hcl] at e1 e2
      refine cells_inj (fun p hp => ?_) (fun y z c a b => I.ok.inj y z c (cm a).1 (cm b).1) (PySem.mem_of_lookup e1) (PySem.mem_of_lookup e2)
      rw [Heap.size_push]
      exact Nat.lt_succ_of_lt (cm (y := p.1) (c := p.2) hp).2
    · show ∃ c, cenv.cells.lookup y = some c
      have key : ∀ k, cenv.kindOf y = some k → (k = .cell ∨ k = .free) → ∃ c, cenv.cells.lookup y = some c := fun k hk hk' => by
        unfold Env.kindOf at hk
        rw [hsc] at hk
        obtain ⟨k', e, r⟩ := lookup_relS hk
        have : k' = .cell ∨ k' = .free := by
          rcases r with rfl | ⟨rfl, _⟩
          · exact hk'
          · exact .inr rfl
        rcases this with rfl | rfl
        · obtain ⟨c, hm⟩ := cells_has (n := (s.heap.push { cls := .type "dict", data := .dict #[] }).objs.size) (acc := cloFrom X.env.cells scope.names []) (PySem.mem_of_lookup e)
          obtain ⟨c', e'⟩ := mem_lookup hm
          exact ⟨c', by rw [hcl]; exact e'⟩
        · obtain ⟨c, h1, _⟩ := look e
          exact ⟨c, h1⟩
      rcases hy with hy | hy
      · exact key _ hy (.inl rfl)
      · exact key _ hy (.inr rfl)
    · have z : (scope.names.lookup y == some NameKind.cell) = true := z
      have z : scope.names.lookup y = some .cell := by simpa using z
      have e : cenv.cells.lookup y = some c := e
      rw [hcl] at e
      rcases cells_mem (PySem.mem_of_lookup e) with hm | ⟨_, h2, _⟩
      · rcases cloFrom_mem hm with hm | ⟨h1, _⟩
        · cases hm
        · have q := ok.uniq _ h1
          rw [z] at q; cases q
      · rw [Heap.size_push] at h2
        exact Nat.le_of_succ_le h2
    · show b ≠ cenv.locals
      rw [hL]; exact Nat.ne_of_lt (hfp b hb).2
    · have e : cenv.cells.lookup y = some c := e
      rcases mem e with ⟨h1, _⟩ | ⟨h1, _⟩
      · exact (hfp b hb).1.2.2.2.2.1 y c h1 z
      · have h2 : s.heap.objs.size + 1 ≤ b := by rw [← z]; exact h1
        exact absurd (Nat.lt_of_lt_of_le (hfp b hb).2 (Nat.le_of_succ_le h2)) (Nat.lt_irrefl _)
    · rcases (hfp b hb).1.2.2.2.1 with z | z
      · exact I.ok.noex b o e z
      · exact absurd (Nat.lt_of_lt_of_le (Heap.lt_size e) (Nat.le_trans I.ok.bsz z)) (Nat.lt_irrefl _)
    · rcases List.mem_cons.mp (I.stkSub b z) with z | z
      · exact (hfp b hb).1.2.1 z
      · exact (hfp b hb).1.2.2.1 z
  refine ⟨okB, rfl, I.bare, Un.kept kp, ⟨fun _ => none, ?_, fun i y av e1 e2 e3 => ?_⟩, fun y c e => ?_, ?_, fun y c e => ?_, fun p hp => ?_, I.hok.kept kp, by rw [wipe_length]; exact I.len⟩
  · show Heap.Ns _ cenv.locals _
    rw [hL]
    exact Heap.Ns.keeps (Heap.Ns.new ..) fun b o e => pushCells_keeps _ _ _ _ e
  · obtain ⟨e2, hne⟩ := wipe_some e2
    have hfr : scope.names.lookup y = some .free ∧ (cenv.kindOf y = some .cell ∨ cenv.kindOf y = some .free) := by
      have key : ∀ k, cenv.scope.names.lookup y = some k → k = .local ∨ k = .cell ∨ k = .free → scope.names.lookup y = some .free ∧ (cenv.kindOf y = some .cell ∨ cenv.kindOf y = some .free) := fun k hk hk' => by
        have hk0 := hk
        rw [hsc] at hk
        obtain ⟨k', e, r⟩ := lookup_relS hk
        have no : ¬ (k' = .local ∨ k' = .cell) := fun hh => by
          rcases ok.own _ (PySem.mem_of_lookup e) hh with e' | e'
          · obtain ⟨p, hp, hpy⟩ := List.mem_map.mp e'
            have e3 := ok.ix p hp
            have : p.1 = y := hpy
            rw [this] at e3
            exact hne (List.mem_map.mpr ⟨p, hp, nodup_ix hN e3 e1⟩)
          · exact e' (List.mem_of_getElem? e1)
        rcases r with rfl | ⟨rfl, rfl⟩
        · rcases hk' with rfl | rfl | rfl
          · exact absurd (.inl rfl) no
          · exact absurd (.inr rfl) no
          · exact ⟨e, .inr hk0⟩
        · exact ⟨e, .inl hk0⟩
      have e3 : Vis cenv.scope y := e3
      rcases e3 with e3 | e3 | e3
      · exact key _ e3 (.inl rfl)
      · exact key _ e3 (.inr (.inl rfl))
      · exact key _ e3 (.inr (.inr rfl))
    obtain ⟨m, hn, hl⟩ := I.loc
    have hvis : Vis X.env.scope y := (ok.free _ (PySem.mem_of_lookup hfr.1) rfl).elim (fun k => .inr (.inl k)) (fun k => .inr (.inr k))
    obtain ⟨w, r, q⟩ := hl i y av e1 e2 hvis
    refine ⟨w, r, .inr ⟨hfr.2, ?_⟩⟩
    obtain ⟨c, h1, h2⟩ := look hfr.1
    rcases q with ⟨k, _⟩ | ⟨_, c', e', z⟩
    · have k : X.env.scope.names.lookup y = some .local := k
      rcases ok.free _ (PySem.mem_of_lookup hfr.1) rfl with k' | k' <;> rw [show X.env.scope.names.lookup y = _ from k'] at k <;> cases k
    · rw [h2] at e'; cases e'
      exact ⟨c, h1, z.keeps kp⟩
  · have e : cenv.cells.lookup y = some c := e
    rcases mem e with ⟨h1, _⟩ | ⟨_, z⟩
    · obtain ⟨w, z⟩ := I.cell y c h1
      exact ⟨w, z.keeps kp⟩
    · exact ⟨_, z⟩
  · show H cenv.locals = none
    rw [hL]; exact I.hok.fresh (Nat.le_refl _)
  · have e : cenv.cells.lookup y = some c := e
    rcases mem e with ⟨h1, _⟩ | ⟨h1, _⟩
    · exact I.freeC y c h1
    · exact I.hok.fresh (Nat.le_of_succ_le h1)
  · exact absurd (show p ∈ ([] : List (Addr × Obj)) ++ [] from hp) (by simp)

/-- an item appended to a tracked list -/
theorem app_ok {E : Value → Shared → Prop} {D : Addr} {xs : List V} {y : V} {v : Value} {Q : Value → Shared → Prop} (I : Inv X pins σ H s) (hD : H D = some (.lst xs)) (hz : xs.length < sizeLine) (r : RelV y v)
    (h : ∀ s', Inv X pins σ (upd H D (.lst (xs ++ [y]))) s' → Q .none s') : wpAny (model X.prog X.w) X.A (call (.builtin "list.append") [.ref D, v]) Q E s := by
  obtain ⟨hz', its, n, ri, e⟩ := I.hok D _ hD
  have hl := ri.length
  refine append_at (hsz := by rw [List.size_toArray]; omega) e fun h' sb ho' => ?_
  refine h { s with heap := h' } (I.write (t' := s.toks) (by rw [hD]; trivial) (.inl rfl) (fun b u hb q => (sb.2 b hb).trans q) ⟨_, ho'⟩ ⟨by rw [List.length_append]; exact hz, its ++ [v], n + 1, ri.append (.cons r .nil), ?_⟩)
  rw [ho']
  simp

/-- a clause's tests -/
def PTs (X : Cx) (ifs : List Expr) (t : TT) : Prop :=
  ∀ (pins : List (Addr × Obj)) (s : Shared) (σ : St) (H : Hp) (Q : Bool → Hp → Prop), Inv X pins σ H s → t σ H Q →
    wpAny (model X.prog X.w) X.A (forIn ifs true fun c r => if r = true then do let ok ← isTrue c X.env (eval c X.env); pure (ForInStep.yield ok) else pure (ForInStep.yield r)) (TP X pins σ Q) X.xe s
def tYes : TT := fun _ H Q => Q true H
theorem pts_nil : PTs X [] tYes := fun _ _ _ H _ I h => wpAny_tests_nil ⟨H, I, h⟩
end

theorem thnF {α : Type} {t : Sem α} {Q Q' : α → Shared → Prop} {M : Model} {A : Around} {E : Value → Shared → Prop} {s : Shared} (h : wpAny M A t Q (fun _ _ => False) s) (hQ : ∀ a s, Q a s → Q' a s) : wpAny M A t Q' E s := wpAny_mono h hQ fun _ _ z => False.elim z

/-- the loop of a list comprehension's block, the target of any form (codeAny_compLoop_tests asks a target that no tuple goes to; statement and proof follow it, PyProof/CompMap.lean:41-61, with the step letOwnedTupleGo kept) -/
theorem compLoop_any {prog : Program} {w : World} {A : Around} {R : Result → Shared → Prop} {s : Shared} {elt target iter : Expr} {ifs : List Expr} {scope : Scope} {pos : Pos} {it acc : Value} {env : Env} (I : Nat → Shared → Prop)
    (turn : ∀ n s, I n s → wpAny (model prog w) A (pyNext it) (fun r s₁ => match r with
      | none => R (.ok .next) s₁
      | some v => wpAny (model prog w) A (letOwnedTupleGo target it v) (fun _ s₁' => wpAny (model prog w) A (assign target env v) (fun _ s₂ =>
          wpAny (model prog w) A (forIn ifs true fun c r => if r = true then do let ok ← isTrue c env (eval c env); pure (ForInStep.yield ok) else pure (ForInStep.yield r)) (fun ok s₃ =>
            if ok = true then wpAny (model prog w) A (eval elt env) (fun x s₄ =>
              wpAny (model prog w) A (call (.builtin "list.append") [acc, x]) (fun _ s₅ => ∃ m, m < n ∧ I m s₅) (notedBy (model prog w) A env fun e s' => R (.error e) s') s₄) (notedBy (model prog w) A env fun e s' => R (.error e) s') s₃
            else ∃ m, m < n ∧ I m s₃) (notedBy (model prog w) A env fun e s' => R (.error e) s') s₂) (notedBy (model prog w) A env fun e s' => R (.error e) s') s₁') (notedBy (model prog w) A env fun e s' => R (.error e) s') s₁) (notedBy (model prog w) A env fun e s' => R (.error e) s') s)
    (n : Nat) (h : I n s) :
    codeAny (model prog w) A (.compLoop (.ListComp elt [⟨target, iter, ifs, 0⟩] scope pos) 0 it acc env) R s := by
  refine codeAny_loop rfl I (fun n s hI => ?_) n h
  show wpAny _ A ((compTurn (.ListComp elt [⟨target, iter, ifs, 0⟩] scope pos) 0 it acc env).onRaise (fun x => do noteFrame x env; theTreesLotGoes x)) _ _ s
  refine wpAny_noted ?_
  rw [compTurn_list]
  refine wpAny_bind (wpAny_standAt (wpAny_bind (wpAny_mono (turn n s hI) (fun r s₁ h₁ => ?_) fun _ _ h' => h')))
  cases r with
  | none => exact wpAny_pure h₁
  | some v =>
    refine wpAny_bind (wpAny_mono h₁ (fun _ s₁' h₁' => ?_) fun _ _ h' => h')
    refine wpAny_bind (wpAny_mono h₁' (fun _ s₂ h₂ => wpAny_bind (wpAny_mono h₂ (fun ok s₃ h₃ => ?_) fun _ _ h' => h')) fun _ _ h' => h')
    cases ok with
    | false => exact wpAny_pure ⟨rfl, h₃⟩
    | true =>
      exact wpAny_bind (wpAny_bind (wpAny_mono h₃ (fun x s₄ h₄ => wpAny_bind (wpAny_mono h₄ (fun _ s₅ h₅ => wpAny_pure (wpAny_pure ⟨rfl, h₅⟩)) fun _ _ h' => h')) fun _ _ h' => h'))

section
variable {X : Cx}
/-- [elt for target in iter if ..]: D the new list; W by the turn and a measure, Nx what a turn is to reach -/
def tLc (wi : TI) (g : TG) (tt : TT) (te : TE) (vs : List Nat) : TE := fun σ H Q => wi σ H fun J H1 => ∀ D, H1 D = none → ∃ W : Nat → Nat → Hp → Prop, (∃ m, W 0 m (upd H1 D (.lst []))) ∧ ∀ i m H, W i m H →
  (J.stop i H ∧ Q (.ref D) H) ∨ (J.go i H ∧ ∃ Nx : Hp → Prop, (∀ H', Nx H' → ∃ m', m' < m ∧ W (i + 1) m' H') ∧ ∀ x H', J.yld i H x H' → g x (wipe σ vs) H' fun σ2 H2 => wipe σ2 vs = wipe σ vs ∧ tt σ2 H2 fun b H3 =>
    if b = true then te σ2 H3 fun y H4 => ∃ acc, H4 D = some (.lst acc) ∧ acc.length < sizeLine ∧ Nx (upd H4 D (.lst (acc ++ [y]))) else Nx H3)
theorem lc_core {pins : List (Addr × Obj)} {s : Shared} {σ : St} {H : Hp} {Q : VK} {elt tg iter : Expr} {ifs : List Expr} {scope : Scope} {own : List (Str × Nat)} {pos pos' : Pos} {wi : TI} {g : TG} {tt : TT} {te : TE} {use : Option (Value → Sem Unit)} {Qf : Value → Shared → Prop}
    (hc : X.calm = true) (hN : X.N.Nodup) (I : Inv X pins σ H s) (hi : PI X tg iter wi) (ok : BlkOk X.N X.env.scope scope own)
    (hg : ∀ (s : Shared) (H : Hp) (C : Addr) (cl : List (Str × Addr)) (fp : List Addr), PG (X.blk s H scope (compEnvC scope cl C X.env) fp) tg g) (ht : ∀ (s : Shared) (H : Hp) (C : Addr) (cl : List (Str × Addr)) (fp : List Addr), PTs (X.blk s H scope (compEnvC scope cl C X.env) fp) ifs tt)
    (he : ∀ (s : Shared) (H : Hp) (C : Addr) (cl : List (Str × Addr)) (fp : List Addr), PE (X.blk s H scope (compEnvC scope cl C X.env) fp) elt te) (hs : ∀ x, foldedSetIterable iter X.env x = pure x)
    (h : tLc wi g tt te (own.map (·.2)) σ H Q)
    (hRR : ∀ D C s' m H', Inv X pins σ H' s' → Q (.ref D) H' → s'.heap.Ns C m → FpOk X pins H' C → compPost (model X.prog X.w) X.A X.xe use Qf (.ref D) C (.ok .next) s') :
    wpAny (model X.prog X.w) X.A (comprehension (.ListComp elt [⟨tg, iter, ifs, 0⟩] scope pos) scope X.env pos' (newList []) false (eval iter X.env) use) Qf X.xe s := by
  have hfree : ∀ y ∈ scope.names, y.2 = .free → ∃ c, X.env.cells.lookup y.1 = some c := fun y hy e => by
    rcases ok.free y hy e with k | k
    · exact I.ok.has _ (.inl k)
    · exact I.ok.has _ (.inr k)
  refine wpAny_comprehension_free (use := use) rfl hs (closure_ok hfree) ok.kind (fun y hy e => by rw [ok.uniq y hy, e])
    (thn (hi pins s σ H _ I h) fun xv s1 hx => thn hx fun itv s2 h2 => ?_)
  obtain ⟨it, fp, tn, J, H2, e, I2, T, st2, f2, q⟩ := h2
  subst e
  refine wpAny_newObj_type (newEnv_comp ?_) (by show 0 ≤ sizeLine; decide)
  generalize hD : s2.heap.objs.size = D
  have hDn : H2 D = none := I2.hok.fresh (Nat.le_of_eq hD)
  obtain ⟨W, ⟨m0, w0⟩, turn⟩ := q D hDn
  -- the new list
  generalize hs3 : ({ s2 with heap := s2.heap.push { cls := .type "list", data := .seq ([] : List Value).toArray } } : Shared) = s3
  have I3 : Inv X pins σ (upd H2 D (.lst [])) s3 := by
    rw [← hs3]
    refine I2.laid (t' := s2.toks) (fun b o e => Heap.get?_push_of_some _ e) (Nat.le_of_eq hD) ⟨Nat.zero_le _, [], 0, .nil, ?_⟩
    rw [← hD]
    exact Heap.get?_push_size _ rfl
  have h3 : s3.heap = s2.heap.push { cls := .type "list", data := .seq ([] : List Value).toArray } := by rw [← hs3]
  have sz : ∀ b ∈ fp, b < s2.heap.objs.size := fun b hb => by
    obtain ⟨o, e, _⟩ := T.obj _ _ st2 b hb
    exact Heap.lt_size e
  have f3 : ∀ b ∈ fp, FpOk X pins (upd H2 D (.lst [])) b ∧ b < s3.heap.objs.size := fun b hb => by
    have hlt := sz b hb
    refine ⟨⟨?_, (f2 b hb).2⟩, by rw [h3, Heap.size_push]; exact Nat.lt_succ_of_lt hlt⟩
    rw [upd_ne (by rw [← hD]; exact Nat.ne_of_lt hlt)]
    exact (f2 b hb).1
  have st3 : tn 0 s3.heap := T.keep _ _ _ st2 fun b _ o e => by rw [h3]; exact Heap.get?_push_of_some _ e
  have I4 := block_start I3 ok hN f3
  have pg := hg s3 (upd H2 D (.lst [])) s3.heap.objs.size (cellsFrom (s3.heap.objs.size + 1) scope.names (cloFrom X.env.cells scope.names [])) fp
  have pt := ht s3 (upd H2 D (.lst [])) s3.heap.objs.size (cellsFrom (s3.heap.objs.size + 1) scope.names (cloFrom X.env.cells scope.names [])) fp
  have pe := he s3 (upd H2 D (.lst [])) s3.heap.objs.size (cellsFrom (s3.heap.objs.size + 1) scope.names (cloFrom X.env.cells scope.names [])) fp
  show codeAny _ _ (.compStart (.ListComp elt [⟨tg, iter, ifs, 0⟩] scope pos) 0 (.ref it) (.ref D) (compEnvC scope (cellsFrom (s3.heap.objs.size + 1) scope.names (cloFrom X.env.cells scope.names [])) s3.heap.objs.size X.env)) (compPost (model X.prog X.w) X.A X.xe use Qf (.ref D) s3.heap.objs.size) { s3 with heap := pushCells (s3.heap.push { cls := .type "dict", data := .dict #[] }) scope.names }
  have nfp : ∀ b ∈ fp, (upd H2 D (.lst [])) b = none := fun b hb => (f3 b hb).1.1
  generalize hce : compEnvC scope (cellsFrom (s3.heap.objs.size + 1) scope.names (cloFrom X.env.cells scope.names [])) s3.heap.objs.size X.env = ce at I4 pg pt pe ⊢
  have cL : ce.locals = s3.heap.objs.size := by subst hce; rfl
  generalize hH3 : upd H2 D (.lst []) = H3 at I3 I4 pg pt pe w0 nfp f3
  generalize hs4 : ({ s3 with heap := pushCells (s3.heap.push { cls := .type "dict", data := .dict #[] }) scope.names } : Shared) = s4 at I4 ⊢
  have st4 : tn 0 s4.heap := T.keep _ _ _ st3 fun b _ o e => by rw [← hs4]; exact pushCells_keeps _ _ _ _ (Heap.get?_push_of_some _ e)
  have stat : ∀ {σ' : St} {H' : Hp} {s' : Shared}, Inv (X.blk s3 H3 scope ce fp) [] σ' H' s' → (∀ b ∈ fp, H' b = none) → ∀ b ∈ fp, FpOk (X.blk s3 H3 scope ce fp) [] H' b := fun {σ' H' s'} I' hn b hb =>
    ⟨hn b hb, (I'.ok.exf b hb).1, I'.ok.exfs b hb, .inl hb, fun x c e => (I'.ok.exf b hb).2 x c e, fun p hp => absurd (show p ∈ ([] : List (Addr × Obj)) ++ [] from hp) (by simp)⟩
  have loop : codeAny (model X.prog X.w) X.A (.compLoop (.ListComp elt [⟨tg, iter, ifs, 0⟩] scope pos) 0 (.ref it) (.ref D) ce) (compPost (model X.prog X.w) X.A X.xe use Qf (.ref D) s3.heap.objs.size) s4 := by
    refine compLoop_any (fun n s' => ∃ i H', Inv (X.blk s3 H3 scope ce fp) [] (wipe σ (own.map (·.2))) H' s' ∧ tn i s'.heap ∧ (∀ b ∈ fp, H' b = none) ∧ W i n H') ?_ m0 ⟨0, H3, I4, st4, nfp, w0⟩
    rintro n s5 ⟨i, H5, I5, st5, n5, w5⟩
    rcases turn i n H5 w5 with ⟨stop, qq⟩ | ⟨go, Nx, hNx, step⟩
    · have td := T.done (X.blk s3 H3 scope ce fp) rfl rfl rfl hc i [] s5 _ H5 (fun _ _ => False) I5 (stat I5 n5) st5 stop
      refine thnF td fun r s6 ⟨hr, I6⟩ => ?_
      subst hr
      -- back in the def's context
      have I7 : Inv X pins σ H5 s6 := I3.call' (ch := fp) I6.os I6.base I6.hok I6.bare fun b hb => ⟨(f3 b hb).1.2.2.2.1, (f3 b hb).1.2.1, (f3 b hb).1.2.2.2.2.1, (f3 b hb).1.2.2.2.2.2⟩
      have nC : H5 s3.heap.objs.size = none := by
        have z : H5 ce.locals = none := I6.free
        rw [cL] at z
        exact z
      obtain ⟨m, hn, _⟩ := I6.loc
      have hn : s6.heap.Ns ce.locals m := hn
      rw [cL] at hn
      exact hRR D s3.heap.objs.size s6 m H5 I7 qq hn (I3.fpOk (Nat.le_refl _) nC)
    · have ti := T.item (X.blk s3 H3 scope ce fp) rfl rfl rfl hc i [] s5 _ H5 (fun _ _ => False) I5 (stat I5 n5) st5 go
      refine thnF ti fun r s6 ⟨u, hr, h6⟩ => ?_
      subst hr
      refine thnF h6 fun _ s7 ⟨x, H7, I7, r7, y7, st7, n7⟩ => ?_
      have I7' := I7.pinned (stat I7 n7) (T.obj _ _ st7)
      refine thnF (pg _ s7 _ H7 x u _ I7' r7 (step x H7 y7)) fun _ s8 ⟨σ8, H8, I8, hw8, q8⟩ => ?_
      refine thnF (pt _ s8 σ8 H8 _ I8 q8) fun b s9 ⟨H9, I9, q9⟩ => ?_
      -- the turn's end
      have fin : ∀ {s' : Shared} {H' : Hp}, Inv (X.blk s3 H3 scope ce fp) ([] ++ pinsAt fp s7.heap) σ8 H' s' → Nx H' → ∃ m, m < n ∧ ∃ i H', Inv (X.blk s3 H3 scope ce fp) [] (wipe σ (own.map (·.2))) H' s' ∧ tn i s'.heap ∧ (∀ b ∈ fp, H' b = none) ∧ W i m H' := fun {s' H'} I' nx => by
        obtain ⟨m', hm, w'⟩ := hNx H' nx
        have pin' : ∀ b ∈ fp, ∀ o, s7.heap.get? b = some o → s'.heap.get? b = some o ∧ H' b = none := fun b hb o e =>
          let z := I'.pin (b, o) (List.mem_append_right _ (List.mem_append_right _ (mem_pinsAt hb e)))
          ⟨z.1, z.2.1⟩
        have hl : (wipe σ (own.map (·.2))).length = σ8.length := by rw [← hw8, wipe_length]
        refine ⟨m', hm, i + 1, H', (I'.unpinned (pins := [])).weak hl (fun j v e => ?_), T.keep _ _ _ st7 fun b hb o e => (pin' b hb o e).1, fun b hb => ?_, w'⟩
        · rw [← hw8] at e
          exact (wipe_some e).1
        · obtain ⟨o, e, _⟩ := T.obj _ _ st7 b hb
          exact (pin' b hb o e).2
      cases b with
      | false =>
        simp only [Bool.false_eq_true, if_false] at q9 ⊢
        exact fin I9 q9
      | true =>
        simp only [if_true] at q9 ⊢
        refine thnF (pe _ s9 σ8 H9 _ I9 q9) fun z s10 ⟨yv, H10, I10, r10, acc, hD10, hz10, nx⟩ => ?_
        exact app_ok (X := X.blk s3 H3 scope ce fp) I10 hD10 hz10 r10 fun s11 I11 => fin I11 nx
  exact codeAny_compStart_list loop (T.self X.A 0 _ _ _ st4 loop)
/-- as a value -/
theorem pe_lc {elt tg iter : Expr} {ifs : List Expr} {scope : Scope} {own : List (Str × Nat)} {pos : Pos} {wi : TI} {g : TG} {tt : TT} {te : TE} (hc : X.calm = true) (hN : X.N.Nodup) (hi : PI X tg iter wi) (ok : BlkOk X.N X.env.scope scope own)
    (hg : ∀ (s : Shared) (H : Hp) (C : Addr) (cl : List (Str × Addr)) (fp : List Addr), PG (X.blk s H scope (compEnvC scope cl C X.env) fp) tg g) (ht : ∀ (s : Shared) (H : Hp) (C : Addr) (cl : List (Str × Addr)) (fp : List Addr), PTs (X.blk s H scope (compEnvC scope cl C X.env) fp) ifs tt)
    (he : ∀ (s : Shared) (H : Hp) (C : Addr) (cl : List (Str × Addr)) (fp : List Addr), PE (X.blk s H scope (compEnvC scope cl C X.env) fp) elt te) (hs : ∀ x, foldedSetIterable iter X.env x = pure x := by intro _; rfl) :
    PE X (.ListComp elt [⟨tg, iter, ifs, 0⟩] scope pos) (tLc wi g tt te (own.map (·.2))) := by
  intro pins s σ H Q I h
  rw [eval_ListComp]
  refine lc_core hc hN I hi ok hg ht he hs h fun D C s' m H' I' q hn f => ⟨m, hn, fun h'' sb => ?_⟩
  obtain ⟨f0, f1, f2, f3, f4, f5⟩ := f
  exact ⟨.ref D, H', I'.turned (t' := s'.toks) (fun b o hb e => (sb.2 b hb).trans e) f0 f1 f3 f4 f5, rfl, q⟩
/-- name = [..] on one line, the name a local -/
theorem ps_setLc {i : Nat} {y : Str} {py : Pos} {elt tg iter : Expr} {ifs : List Expr} {scope : Scope} {own : List (Str × Nat)} {pos spos : Pos} {wi : TI} {g : TG} {tt : TT} {te : TE} (hc : X.calm = true) (hN : X.N.Nodup) (hy : X.N[i]? = some y) (hyl : X.env.scope.names.lookup y = some .local)
    (hsw : swapsWith (.ListComp elt [⟨tg, iter, ifs, 0⟩] scope pos) (some (.Name y py)) spos.line X.env = pure true) (hi : PI X tg iter wi) (ok : BlkOk X.N X.env.scope scope own)
    (hg : ∀ (s : Shared) (H : Hp) (C : Addr) (cl : List (Str × Addr)) (fp : List Addr), PG (X.blk s H scope (compEnvC scope cl C X.env) fp) tg g) (ht : ∀ (s : Shared) (H : Hp) (C : Addr) (cl : List (Str × Addr)) (fp : List Addr), PTs (X.blk s H scope (compEnvC scope cl C X.env) fp) ifs tt)
    (he : ∀ (s : Shared) (H : Hp) (C : Addr) (cl : List (Str × Addr)) (fp : List Addr), PE (X.blk s H scope (compEnvC scope cl C X.env) fp) elt te) (hs : ∀ x, foldedSetIterable iter X.env x = pure x := by intro _; rfl) :
    PS X (.Assign [.Name y py] (.ListComp elt [⟨tg, iter, ifs, 0⟩] scope pos) spos) (tAsg (tLc wi g tt te (own.map (·.2))) (gName i)) := by
  intro pins s σ H D I h
  rw [exec_Assign_Name_used _ _ _ _ hsw]
  refine wpAny_bind (wpAny_standAt (wpAny_bind ?_))
  show wpAny _ X.A (do let _ ← comprehension (.ListComp elt [⟨tg, iter, ifs, 0⟩] scope pos) scope X.env (firstIterPos [⟨tg, iter, ifs, 0⟩] pos) (newList []) false (eval iter X.env) (some (assign (.Name y py) X.env))) _ _ s
  have h : tLc wi g tt te (own.map (·.2)) σ H (fun x H1 => gName i x σ H1 D.nx) := h
  refine wpAny_bind (thn (lc_core (Qf := fun _ s' => SP X pins D .next s') hc hN I hi ok hg ht he hs h fun L C s' m H' I' q hn f => ?_) fun _ s' hq => wpAny_pure (wpAny_pure hq))
  show wpAny _ _ (assign (.Name y py) X.env (.ref L)) _ _ _
  refine wpAny_assign_Name (store_ok2 (v := V.ref L) I' hN hy (.inl hyl) rfl (fun s2 I2 ⟨a, sb, ha⟩ => ?_) (.inr hyl))
  obtain ⟨f0, f1, f2, f3, f4, f5⟩ := f
  have haC : C ≠ a := by
    rcases ha with z | z
    · rw [z]; exact f1
    · exact fun e => f4 y a z e.symm
  refine ⟨m, hn.sameBut sb haC, fun h3 sb3 => ?_⟩
  exact ⟨_, H', I2.turned (t' := s2.toks) (fun b o hb e => (sb3.2 b hb).trans e) f0 f1 f3 f4 f5, q⟩
theorem sw_true {elt : Expr} {gs : List Comprehension} {scope : Scope} {pos py : Pos} {y : Str} {l : Nat} {env : Env} (hk : env.scope.kind = .function) (hy : env.scope.names.lookup y = some .local) (hl : (py.line == pos.line) = true)
    (ha : (scope.names.any fun (n, k) => n == y && (k == .local || k == .cell)) = false) : swapsWith (.ListComp elt gs scope pos) (some (.Name y py)) l env = pure true := by
  have ky : env.kindOf y = some .local := hy
  have hb : env.blockKind = .function := by unfold Env.blockKind; rw [hk]; rfl
  unfold swapsWith
  simp only [hb, ky, ha, Expr.pos, hl]
  rfl
end

/-! ### the forms one uses -/
/-- over a range: Pv by the turn and the heap (the new list at D within) -/
theorem lc_range {lo : Int} {n : Nat} {g : TG} {tt : TT} {te : TE} {vs : List Nat} {σ : St} {H1 : Hp} {D : Addr} {Qd : Hp → Prop} (Pv : Nat → Hp → Prop) (h0 : Pv 0 (upd H1 D (.lst [])))
    (hs : ∀ i H, i < n → Pv i H → g (.int (lo + i)) (wipe σ vs) H fun σ2 H2 => wipe σ2 vs = wipe σ vs ∧ tt σ2 H2 fun b H3 =>
      if b = true then te σ2 H3 fun y H4 => ∃ acc, H4 D = some (.lst acc) ∧ acc.length < sizeLine ∧ Pv (i + 1) (upd H4 D (.lst (acc ++ [y]))) else Pv (i + 1) H3) (hd : ∀ H, Pv n H → Qd H) :
    ∃ W : Nat → Nat → Hp → Prop, (∃ m, W 0 m (upd H1 D (.lst []))) ∧ ∀ i m H, W i m H →
      ((Itr lo n).stop i H ∧ Qd H) ∨ ((Itr lo n).go i H ∧ ∃ Nx : Hp → Prop, (∀ H', Nx H' → ∃ m', m' < m ∧ W (i + 1) m' H') ∧ ∀ x H', (Itr lo n).yld i H x H' → g x (wipe σ vs) H' fun σ2 H2 => wipe σ2 vs = wipe σ vs ∧ tt σ2 H2 fun b H3 =>
        if b = true then te σ2 H3 fun y H4 => ∃ acc, H4 D = some (.lst acc) ∧ acc.length < sizeLine ∧ Nx (upd H4 D (.lst (acc ++ [y]))) else Nx H3) := by
  refine ⟨fun i m H => m = n - i ∧ i ≤ n ∧ Pv i H, ⟨n, by simp, Nat.zero_le _, h0⟩, ?_⟩
  rintro i m H ⟨rfl, hi, p⟩
  by_cases hlt : i < n
  · refine .inr ⟨hlt, Pv (i + 1), fun H' p' => ⟨n - (i + 1), by omega, rfl, hlt, p'⟩, fun x H' y => ?_⟩
    obtain ⟨e, y⟩ := y
    subst e y
    exact hs i _ hlt p
  · have e : i = n := by omega
    subst e
    exact .inl ⟨Nat.le_refl _, hd H p⟩
/-- over a list that the block leaves as it is -/
theorem lc_list {K : PySem.W.Frag} {a : Addr} {xs : List V} {g : TG} {tt : TT} {te : TE} {vs : List Nat} {σ : St} {H1 : Hp} {D : Addr} {Qd : Hp → Prop} (Pv : Nat → Hp → Prop) (h0 : Pv 0 (upd H1 D (.lst []))) (hl : ∀ i H, i ≤ xs.length → Pv i H → SqL K H a xs)
    (hs : ∀ i x H, xs[i]? = some x → Pv i H → g x (wipe σ vs) H fun σ2 H2 => wipe σ2 vs = wipe σ vs ∧ tt σ2 H2 fun b H3 =>
      if b = true then te σ2 H3 fun y H4 => ∃ acc, H4 D = some (.lst acc) ∧ acc.length < sizeLine ∧ Pv (i + 1) (upd H4 D (.lst (acc ++ [y]))) else Pv (i + 1) H3) (hd : ∀ H, Pv xs.length H → Qd H) :
    ∃ W : Nat → Nat → Hp → Prop, (∃ m, W 0 m (upd H1 D (.lst []))) ∧ ∀ i m H, W i m H →
      ((Itl K a).stop i H ∧ Qd H) ∨ ((Itl K a).go i H ∧ ∃ Nx : Hp → Prop, (∀ H', Nx H' → ∃ m', m' < m ∧ W (i + 1) m' H') ∧ ∀ x H', (Itl K a).yld i H x H' → g x (wipe σ vs) H' fun σ2 H2 => wipe σ2 vs = wipe σ vs ∧ tt σ2 H2 fun b H3 =>
        if b = true then te σ2 H3 fun y H4 => ∃ acc, H4 D = some (.lst acc) ∧ acc.length < sizeLine ∧ Nx (upd H4 D (.lst (acc ++ [y]))) else Nx H3) := by
  refine ⟨fun i m H => m = xs.length - i ∧ i ≤ xs.length ∧ Pv i H, ⟨xs.length, by simp, Nat.zero_le _, h0⟩, ?_⟩
  rintro i m H ⟨rfl, hi, p⟩
  have q := hl i H hi p
  by_cases hlt : i < xs.length
  · refine .inr ⟨⟨xs, xs[i], q, by simp [hlt]⟩, Pv (i + 1), fun H' p' => ⟨xs.length - (i + 1), by omega, rfl, hlt, p'⟩, fun x H' y => ?_⟩
    obtain ⟨e, y⟩ := y
    subst e
    exact hs i x _ (y xs q) p
  · have e : i = xs.length := by omega
    subst e
    exact .inl ⟨⟨xs, q, Nat.le_refl _⟩, hd H p⟩
def blkC (N : List Str) (sc scope : Scope) (own : List (Str × Nat)) : Bool :=
  (match scope.kind with | .function => true | _ => false) && (scope.names.all fun y => decide (scope.names.lookup y.1 = some y.2)) && (own.all fun p => decide (N[p.2]? = some p.1)) &&
    (scope.names.all fun y => match y.2 with
      | .free => (match sc.names.lookup y.1 with | some .cell => true | some .free => true | _ => false)
      | .local => decide (y.1 ∈ own.map (·.1)) || decide (y.1 ∉ N)
      | .cell => decide (y.1 ∈ own.map (·.1)) || decide (y.1 ∉ N)
      | _ => true)
theorem blkOk_by {N : List Str} {sc scope : Scope} {own : List (Str × Nat)} (h : blkC N sc scope own = true) : BlkOk N sc scope own := by
  unfold blkC at h
  simp only [Bool.and_eq_true, List.all_eq_true, decide_eq_true_eq] at h
  obtain ⟨⟨⟨h1, h2⟩, h3⟩, h4⟩ := h
  refine ⟨?_, h2, h3, fun y hy e => ?_, fun y hy e => ?_⟩
  · split at h1
    · assumption
    · cases h1
  · have q := h4 y hy
    simp only [e] at q
    split at q <;> first | exact .inl (by assumption) | exact .inr (by assumption) | cases q
  · have q := h4 y hy
    rcases e with e | e <;> (simp only [e, Bool.or_eq_true, decide_eq_true_eq] at q; exact q)
end L2

namespace L2
open PySem PySem.Spec PyProof.Rows

section
variable {prog : Program} {w : World} {A : Around} {R : Result → Shared → Prop} {s : Shared} {elt t0 i0 t1 i1 : Expr} {ifs0 ifs1 : List Expr} {scope : Scope} {pos : Pos} {it acc : Value} {env : Env}
end

section
variable {X : Cx}
/-- [elt for tg in iter if .. for tg1 in iter1 if ..]: behind the first clause's store and tests the second source's own loop, from which Nx is reached. vs: the block's names; vs1: those of the second target -/
def tLc2 (wi : TI) (g : TG) (tt : TT) (wi1 : TI) (g1 : TG) (tt1 : TT) (te : TE) (vs vs1 : List Nat) : TE := fun σ H Q => wi σ H fun J H1 => ∀ D, H1 D = none → ∃ W : Nat → Nat → Hp → Prop, (∃ m, W 0 m (upd H1 D (.lst []))) ∧ ∀ i m H, W i m H →
  (J.stop i H ∧ Q (.ref D) H) ∨ (J.go i H ∧ ∃ Nx : Hp → Prop, (∀ H', Nx H' → ∃ m', m' < m ∧ W (i + 1) m' H') ∧ ∀ x H', J.yld i H x H' → g x (wipe σ vs) H' fun σ2 H2 => wipe σ2 vs = wipe σ vs ∧ tt σ2 H2 fun b H3 =>
    if b = true then wi1 σ2 H3 fun J1 H4 => ∃ W1 : Nat → Nat → Hp → Prop, (∃ m, W1 0 m H4) ∧ ∀ j k H, W1 j k H →
      (J1.stop j H ∧ Nx H) ∨ (J1.go j H ∧ ∃ Nx1 : Hp → Prop, (∀ H', Nx1 H' → ∃ k', k' < k ∧ W1 (j + 1) k' H') ∧ ∀ x H', J1.yld j H x H' → g1 x (wipe σ2 vs1) H' fun σ3 H5 => wipe σ3 vs1 = wipe σ2 vs1 ∧ tt1 σ3 H5 fun b H6 =>
        if b = true then te σ3 H6 fun y H7 => ∃ acc, H7 D = some (.lst acc) ∧ acc.length < sizeLine ∧ Nx1 (upd H7 D (.lst (acc ++ [y]))) else Nx1 H6)
    else Nx H3)
end
end L2

namespace L2
open PySem PySem.Spec PyProof.Rows

/-! ### lists of pairs as tables -/
section
variable {κ : Type} [DecidableEq κ]
def valV (kvs : List (κ × V)) (k : κ) : Option V := (kvs.find? fun kv => decide (kv.1 = k)).map (·.2)
/-- in its place, or at the end -/
def putK (kvs : List (κ × V)) (k : κ) (v : V) : List (κ × V) :=
  if (kvs.any fun kv => decide (kv.1 = k)) = true then kvs.map (fun kv => if kv.1 = k then (kv.1, v) else kv) else kvs ++ [(k, v)]
def dropK (kvs : List (κ × V)) (k : κ) : List (κ × V) := kvs.filter fun kv => decide (kv.1 ≠ k)

end


/-! ### a tracked dict, its keys ints and texts or tuples of these -/
/-- raw entries of a dict with tuple keys -/
abbrev KT (H : Hp) : List (List Key × V) → List (List Key × Addr × Value) → Prop := Paired fun p q => p.1 = q.1 ∧ H q.2.1 = some (.tup (p.1.map kV)) ∧ RelV p.2 q.2.2
section
variable {P : Program} {w : World} {H : Hp} {h : Heap} {a : Addr}
end

/-- what the dict at a holds at the key y -/
def DGet (H : Hp) (a : Addr) (y : V) (r : Option V) : Prop :=
  (∃ kvs k, Rd H a (.dK kvs) ∧ y = kV k ∧ r = valV kvs k) ∨ ∃ kvs k b, Rd H a (.dT kvs) ∧ y = .ref b ∧ H b = some (.tup (k.map kV)) ∧ r = valV kvs k
/-- the heap behind a[y] = v -/
def DPut (H : Hp) (a : Addr) (y v : V) (H' : Hp) : Prop :=
  (∃ kvs k, H a = some (.dK kvs) ∧ y = kV k ∧ kvs.length < sizeLine ∧ H' = upd H a (.dK (putK kvs k v))) ∨
  ∃ kvs k b, H a = some (.dT kvs) ∧ y = .ref b ∧ H b = some (.tup (k.map kV)) ∧ kvs.length < sizeLine ∧ H' = upd H a (.dT (putK kvs k v))
section
variable {X : Cx} {pins : List (Addr × Obj)} {σ : St} {H : Hp} {s : Shared} {a : Addr} {y v : V} {u r : Value} {o : Option V} {A : Around} {E : Value → Shared → Prop}

end

section
variable {X : Cx} {pins : List (Addr × Obj)} {σ : St} {H : Hp} {s : Shared} {a : Addr} {kvs : List (Key × V)} {k : Key} {u : Value} {A : Around} {E : Value → Shared → Prop}
end


/-! ### readings and rules -/
/-- the element of a subscription, not a slice -/
def NoSl (i : Expr) : Prop := ∀ ov iv, subscripted i false ov iv = operate [ov, iv] (getItem ov iv)
/-- d[y] -/
def tDGet (td ty : TE) : TE := fun σ H Q => td σ H fun x H1 => ty σ H1 fun y H2 => ∃ a v, x = .ref a ∧ DGet H2 a y (some v) ∧ Q v H2
/-- y in d, y not in d -/
def tDIn (ty td : TE) : TE := fun σ H Q => ty σ H fun y H1 => td σ H1 fun x H2 => ∃ a o, x = .ref a ∧ DGet H2 a y o ∧ Q (.bl o.isSome) H2
def tDNotIn (ty td : TE) : TE := fun σ H Q => ty σ H fun y H1 => td σ H1 fun x H2 => ∃ a o, x = .ref a ∧ DGet H2 a y o ∧ Q (.bl (!o.isSome)) H2
/-- d[y] = v -/
def sDPut (td ty tv : TE) : TS := fun D σ H => tv σ H fun v H1 => td σ H1 fun x H2 => ty σ H2 fun y H3 => ∃ a H4, x = .ref a ∧ DPut H3 a y v H4 ∧ D.nx σ H4
/-- d[y] op= v -/
def sDAug (td ty tv : TE) (rd : V → V → Hp → VK → Prop) : TS := fun D σ H => td σ H fun x H1 => ty σ H1 fun y H2 => ∃ a v, x = .ref a ∧ DGet H2 a y (some v) ∧
  tv σ H2 fun y2 H3 => rd v y2 H3 fun z H4 => ∃ H5, DPut H4 a y z H5 ∧ D.nx σ H5
/-- del d[y] -/
def sDDel (td ty : TE) : TS := fun D σ H => td σ H fun x H1 => ty σ H1 fun y H2 => ∃ a kvs k, x = .ref a ∧ H2 a = some (.dK kvs) ∧ y = kV k ∧ (valV kvs k).isSome = true ∧ D.nx σ (upd H2 a (.dK (dropK kvs k)))

section
variable {X : Cx} {o i e value : Expr} {pos pos' tpos : Pos} {td ty tv : TE}
end


/-! ### displays -/
/-- {}, to be a dict of the kind that is wanted -/
def tDNewK : TE := fun _ H Q => ∀ p, H p = none → Q (.ref p) (upd H p (.dK []))
def tDNewT : TE := fun _ H Q => ∀ p, H p = none → Q (.ref p) (upd H p (.dT []))
section
variable {X : Cx} {pos : Pos}
end

/-- the pairs of a display, from the left -/
def tPairs : List (TE × TE) → St → Hp → (List (V × V) → Hp → Prop) → Prop
  | [], _, H, Q => Q [] H
  | (tk, tv) :: r, σ, H, Q => tk σ H fun x H1 => tv σ H1 fun y H2 => tPairs r σ H2 fun ps H3 => Q ((x, y) :: ps) H3
abbrev VV : List (V × V) → List (Value × Value) → Prop := Paired fun p q => RelV p.1 q.1 ∧ RelV p.2 q.2
def PPs (X : Cx) (pos : Pos) (keys : List (Option Expr)) (values : List Expr) (trs : List (TE × TE)) : Prop :=
  ∀ (pins : List (Addr × Obj)) (s : Shared) (σ : St) (H : Hp) (Q : List (V × V) → Hp → Prop), Inv X pins σ H s → tPairs trs σ H Q →
    wpAny (model X.prog X.w) X.A (evalPairs (pairTrees keys values X.env pos)) (fun vs s' => ∃ ps H', Inv X pins σ H' s' ∧ VV ps vs ∧ Q ps H') X.xe s
def mergeK (kvs more : List (Key × V)) : List (Key × V) := more.foldl (fun acc kv => putK acc kv.1 kv.2) kvs
/-- {k: v, ..} with keys ints and texts; the new dict stands empty while the pairs are made -/
def tDisp (trs : List (TE × TE)) : TE := fun σ H Q => ∀ p, H p = none → tPairs trs σ (upd H p (.dK [])) fun ps H2 => H2 p = some (.dK []) ∧ ∃ kvs : List (Key × V), ps = kvs.map (fun kv => (kV kv.1, kv.2)) ∧ kvs.length ≤ 15 ∧ Q (.ref p) (upd H2 p (.dK (mergeK [] kvs)))
/-! ### methods -/
/-- a method call o.m(e) of a built-in, with one argument: what must be seen of the text -/
structure M1 (X : Cx) (o : Expr) (m : Str) (apos : Pos) (e : Expr) (cpos : Pos) : Prop where
  base : attributeBase o m X.env (eval o X.env) = eval o X.env
  few : ((backTo cpos (starEach [e] X.env)).all (fun x => !x.1) && (backToKw cpos (keywordEach [] X.env)).all (fun x => x.1.isSome)
    && decide (([e] : List Expr).length + ([] : List Keyword).length + (if ([] : List Keyword).isEmpty then 0 else 1) < 30)) = true
  line : (apos.endLine == cpos.line) = true
  trees : backTo cpos (starEach [e] X.env) = [(false, eval e X.env)]
structure M2 (X : Cx) (o : Expr) (m : Str) (apos : Pos) (e f : Expr) (cpos : Pos) : Prop where
  base : attributeBase o m X.env (eval o X.env) = eval o X.env
  few : ((backTo cpos (starEach [e, f] X.env)).all (fun x => !x.1) && (backToKw cpos (keywordEach [] X.env)).all (fun x => x.1.isSome)
    && decide (([e, f] : List Expr).length + ([] : List Keyword).length + (if ([] : List Keyword).isEmpty then 0 else 1) < 30)) = true
  line : (apos.endLine == cpos.line) = true
  trees : backTo cpos (starEach [e, f] X.env) = [(false, eval e X.env), (false, eval f X.env)]

/-- a is a dict, whatever its keys -/
def IsD (H : Hp) (a : Addr) : Prop := (∃ kvs, Rd H a (.dK kvs)) ∨ ∃ kvs, Rd H a (.dT kvs)
section
variable {X : Cx} {pins : List (Addr × Obj)} {σ : St} {H : Hp} {s : Shared} {a : Addr} {y d : V} {u r : Value} {o : Option V} {A : Around} {E : Value → Shared → Prop}
end

def tDGet1 (td ty : TE) : TE := fun σ H Q => td σ H fun x H1 => ∃ a, x = .ref a ∧ IsD H1 a ∧ ty σ H1 fun y H2 => ∃ o, DGet H2 a y o ∧ Q (o.getD .non) H2
def tDGet2 (td ty tx : TE) : TE := fun σ H Q => td σ H fun x H1 => ∃ a, x = .ref a ∧ IsD H1 a ∧ ty σ H1 fun y H2 => tx σ H2 fun z H3 => ∃ o, DGet H3 a y o ∧ Q (o.getD z) H3
/-- d.pop(k): there; d.pop(k, x): there or not -/
def tDPop1 (td ty : TE) : TE := fun σ H Q => td σ H fun x H1 => ∃ a, x = .ref a ∧ IsD H1 a ∧ ty σ H1 fun y H2 => ∃ kvs k v, H2 a = some (.dK kvs) ∧ y = kV k ∧ valV kvs k = some v ∧ Q v (upd H2 a (.dK (dropK kvs k)))
def tDPop2 (td ty tx : TE) : TE := fun σ H Q => td σ H fun x H1 => ∃ a, x = .ref a ∧ IsD H1 a ∧ ty σ H1 fun y H2 => tx σ H2 fun z H3 => ∃ kvs k, H3 a = some (.dK kvs) ∧ y = kV k ∧
  (∀ v, valV kvs k = some v → Q v (upd H3 a (.dK (dropK kvs k)))) ∧ (valV kvs k = none → Q z H3)
section
variable {X : Cx} {o e f : Expr} {apos cpos : Pos} {td ty tx : TE}
end

/-! ### dict(d): a copy -/
section
variable {X : Cx} {pins : List (Addr × Obj)} {σ : St} {H : Hp} {s : Shared} {a : Addr} {kvs : List (Key × V)} {A : Around} {E : Value → Shared → Prop}
end


section
variable {X : Cx} {pins : List (Addr × Obj)} {σ : St} {H : Hp} {s : Shared} {a : Addr} {y : V} {u : Value} {A : Around} {E : Value → Shared → Prop}
end
end L2

namespace L2
open PySem PySem.Spec PyProof.Rows

section
variable {prog : Program} {w : World} {A : Around} {E : Value → Shared → Prop}
end

section
variable {X : Cx}
end
end L2

namespace L2
open PySem PySem.Spec PyProof.Rows

theorem boot_reversed5 : bootBuiltins "reversed" = some (.type "reversed") := by decide +kernel

section
variable {X : Cx} {pins : List (Addr × Obj)} {σ : St} {H : Hp} {s : Shared} {h' : Heap}
/-! ### locking a thing while a statement runs -/
end
/-- the statement runs while the thing at d is locked (read, not written); d and what stands there are the reading's choice -/
def tLock (t : TS) : TS := fun D σ H => ∃ d u, H d = some u ∧ Mut (some u) ∧ ∀ od, t ⟨fun σ' H' => H' d = some (.frz od u) ∧ D.nx σ' (upd H' d u), fun v H' => H' d = some (.frz od u) ∧ D.rt v (upd H' d u), fun σ' H' => H' d = some (.frz od u) ∧ D.bk σ' (upd H' d u), fun σ' H' => H' d = some (.frz od u) ∧ D.ct σ' (upd H' d u)⟩ σ (upd H d (.frz od u))
def tLockE (t : TE) : TE := fun σ H Q => ∃ d u, H d = some u ∧ Mut (some u) ∧ ∀ od, t σ (upd H d (.frz od u)) fun v H' => H' d = some (.frz od u) ∧ Q v (upd H' d u)
section
variable {X : Cx}
/-! ### one iterator just laid -/
theorem pi_one {tg : Expr} {pins : List (Addr × Obj)} {σ : St} {H : Hp} {s : Shared} {R : It → Hp → Prop} {J : It} {tn : Nat → Heap → Prop} {tk : Nat} (I : Inv X pins σ H s) (o : Obj)
    (T : Turn X.prog X.w X.K tg J [s.heap.objs.size] s.heap.objs.size tn) (st : tn 0 (s.heap.push o)) (q : R J H) : PIE X pins σ tg R (.ref s.heap.objs.size) { s with heap := s.heap.push o, toks := tk } := by
  refine ⟨s.heap.objs.size, [s.heap.objs.size], tn, J, H, rfl, I.kept fun b ob e => Heap.get?_push_of_some _ e, T, st, fun b hb => ?_, q⟩
  have e : b = s.heap.objs.size := by simpa using hb
  subst e
  exact I.fpOk (Nat.le_refl _) (I.hok.fresh (Nat.le_refl _))
end

/-! ### range with a step -/
/-- lo, lo + c, .. (n of them) -/
def Itc (lo c : Int) (n : Nat) : It := ⟨fun i _ => i < n, fun i H x H' => H' = H ∧ x = .int (lo + (i : Nat) * c), fun i _ => n ≤ i⟩
/-- range(i, j, c): small bounds, n items -/
def RgC (i j c : Int) (n : Nat) : Prop := c ≠ 0 ∧ c.natAbs < 1073741824 ∧ Builtin.Range.small i j c = true ∧ Builtin.Range.rangeSize i j c = n
def iRng3 (ta : TA) : TI := fun σ H R => ta σ H fun vs H1 => ∃ (i j c : Int) (n : Nat), vs = [.int i, .int j, .int c] ∧ RgC i j c n ∧ R (Itc i c n) H1
section
variable {X : Cx} {tg : Expr}
end
/-! ### reversed(list) -/
/-- the list at a (n items at the start, which the loop leaves there), from its end -/
def Itv (K : PySem.W.Frag) (a : Addr) (n : Nat) : It :=
  ⟨fun i H => i < n ∧ ∃ (xs : List V) (x : V), SqL K H a xs ∧ xs[n - 1 - i]? = some x, fun i H x H' => H' = H ∧ ∀ xs, SqL K H a xs → xs[n - 1 - i]? = some x, fun i _ => n ≤ i⟩
theorem turn_rev {P : Program} {w : World} {K : PySem.W.Frag} {tg : Expr} (a it : Addr) (n : Nat) : Turn P w K tg (Itv K a n) [it] it (fun i h => i ≤ n ∧ h.IsRevIter it a ((n : Int) - 1 - (i : Nat))) where
  mem := by simp
  obj := fun i h st b hb => by
    have e : b = it := by simpa using hb
    subst e
    obtain ⟨_, o, e, c, d⟩ := st
    exact ⟨o, e, fun v z => by rw [d] at z; cases z⟩
  keep := fun i h h' st k => ⟨st.1, st.2.at fun o e => k it (by simp) o e⟩
  item := by
    intro X hP hw hK hc i pins s σ H E I hf st hg
    subst hP hw hK
    obtain ⟨hin, xs, x, hq, hx⟩ := hg
    obtain ⟨its, rv, p, hz⟩ := I.list hq
    obtain ⟨u, hu, ru⟩ := rv.get hx
    obtain ⟨f0, f1, f2, f3, f4, f5⟩ := hf it (by simp)
    obtain ⟨_, hit⟩ := st
    have e1 : (n : Int) - 1 - ((i : Nat) : Int) = ((n - 1 - i : Nat) : Int) := by omega
    rw [e1] at hit
    refine wpAny_pyNext_rev_item hit p.isList (x := u) (by simpa using hu) fun h' st' sb => ?_
    have e2 : ((n - 1 - i : Nat) : Int) - 1 = (n : Int) - 1 - ((i + 1 : Nat) : Int) := by omega
    rw [e2] at st'
    have I1 : Inv X pins σ H { s with heap := h' } := I.turned (t' := s.toks) (fun b o hb e => (sb.2 b hb).trans e) f0 f1 f3 f4 f5
    obtain ⟨o, e, c, d⟩ := id st'
    exact ⟨u, rfl, go_of (s := { s with heap := h' }) e c d (by decide) ⟨x, H, I1, ru, ⟨rfl, fun ys hy => by rw [I.list_inj hy hq]; exact hx⟩, ⟨hin, st'⟩, fun b hb => (hf b hb).1⟩⟩
  done := by
    intro X hP hw hK hc i pins s σ H E I hf st hg
    subst hP hw hK
    obtain ⟨f0, f1, f2, f3, f4, f5⟩ := hf it (by simp)
    obtain ⟨hin, hit⟩ := st
    have hge : n ≤ i := hg
    have e1 : (n : Int) - 1 - ((i : Nat) : Int) = -1 := by omega
    rw [e1] at hit
    exact wpAny_pyNext_rev_end (I.ok.hd hc) hit fun h' eb => ⟨rfl, I.turned (t' := s.toks) (fun b o hb e => eb b o hb e) f0 f1 f3 f4 f5⟩
  self := fun A i s Q E st h => wpAny_pyIter_revIter st.2 h
def iRev (K : PySem.W.Frag) (ta : TA) : TI := fun σ H R => ta σ H fun vs H1 => ∃ (a : Addr) (xs : List V), vs = [.ref a] ∧ SqL K H1 a xs ∧ R (Itv K a xs.length) H1
section
variable {X : Cx} {tg : Expr}
theorem pi_reversed {e : Expr} {ta : TA} {p pos : Pos} (hg : Gl X "reversed") (hm : X.mg "reversed" = none) (ha : PA X [e] ta) (hs : starEach [e] X.env = [(false, eval e X.env)] := by rfl) : PI X tg (.Call (.Name "reversed" p) [e] [] pos) (iRev X.K ta) := by
  intro pins s σ H R I h
  refine Call_ (ld_blt I hg hm boot_reversed5 (PyProof.Rows.callWith_type1 (thn (ha pos pins s σ H _ I h) fun us s1 ⟨vs, H1, I1, r1, q1⟩ => ?_) hs rfl))
  obtain ⟨a, xs, e, hq, q⟩ := q1
  subst e
  cases r1 with
  | cons r rr =>
    cases rr
    cases r
    obtain ⟨its, rv, p', hz⟩ := I1.list hq
    have hl := rv.length
    have e1 : ((its.toArray.size : Nat) : Int) - 1 = (xs.length : Int) - 1 - ((0 : Nat) : Int) := by simp only [List.size_toArray]; omega
    refine call_reversed_list p'.isList (wpAny_pyIter_revIter (l := a) (i := ((its.toArray.size : Nat) : Int) - 1) ⟨_, Heap.get?_push_size _ rfl, rfl, rfl⟩ ?_)
    refine pi_one (tk := s1.toks) I1 _ (turn_rev a _ xs.length) ⟨Nat.zero_le _, ?_⟩ q
    rw [← e1]
    exact ⟨_, Heap.get?_push_size _ rfl, rfl, rfl⟩
end

/-! ### a str -/
def Its (x : Str) : It := ⟨fun i _ => i < x.cps.size, fun i H v H' => H' = H ∧ ∃ c, x.cps[i]? = some c ∧ v = .str ⟨#[c]⟩, fun i _ => x.cps.size ≤ i⟩
def iStr (te : TE) : TI := fun σ H R => te σ H fun v H1 => ∃ x, v = .str x ∧ R (Its x) H1
/-! ### a dict's keys: any dict's entries -/
section
variable {prog : Program} {w : World} {A : Around} {E : Value → Shared → Prop} {s : Shared}
end

/-! ### a locked dict -/
section
variable {X : Cx} {pins : List (Addr × Obj)} {σ : St} {H : Hp} {s : Shared} {d : Addr} {o : Obj}
end

/-- the keys of the locked dict at d, in their order -/
def Itk (d : Addr) (o : Obj) (kvs : List (Key × V)) : It :=
  ⟨fun i H => H d = some (.frz o (.dK kvs)) ∧ i < kvs.length, fun i H x H' => H' = H ∧ ∃ k v, kvs[i]? = some (k, v) ∧ x = kV k, fun i H => H d = some (.frz o (.dK kvs)) ∧ kvs.length ≤ i⟩
/-- .. of tuple keys: the key's own tuple -/
def Itkt (d : Addr) (o : Obj) (kvs : List (List Key × V)) : It :=
  ⟨fun i H => H d = some (.frz o (.dT kvs)) ∧ i < kvs.length, fun i H x H' => H' = H ∧ ∃ (k : List Key) (v : V) (q : Addr), kvs[i]? = some (k, v) ∧ x = .ref q ∧ H q = some (.tup (k.map kV)), fun i H => H d = some (.frz o (.dT kvs)) ∧ kvs.length ≤ i⟩
/-- the values -/
def Itd (d : Addr) (o : Obj) (kvs : List (Key × V)) : It :=
  ⟨fun i H => H d = some (.frz o (.dK kvs)) ∧ i < kvs.length, fun i H x H' => H' = H ∧ ∃ k, kvs[i]? = some (k, x), fun i H => H d = some (.frz o (.dK kvs)) ∧ kvs.length ≤ i⟩
/-- the pairs, each a new tuple -/
def Iti (d : Addr) (o : Obj) (kvs : List (Key × V)) : It :=
  ⟨fun i H => H d = some (.frz o (.dK kvs)) ∧ i < kvs.length, fun i H x H' => ∃ T k v, kvs[i]? = some (k, v) ∧ x = .ref T ∧ H T = none ∧ H' = upd H T (.tup [kV k, v]), fun i H => H d = some (.frz o (.dK kvs)) ∧ kvs.length ≤ i⟩
section
variable {P : Program} {w : World} {K : PySem.W.Frag} {tg : Expr} {d : Addr} {o : Obj} {es : Array DictEntry} {ep : Nat}
end

/-! ### for k in d, d.keys(), d.values(), d.items() -/
/-- the dict is locked (tLock, or by the caller) -/
def iKeys (td : TE) : TI := fun σ H R => td σ H fun x H1 => ∃ d o, x = .ref d ∧ ((∃ kvs, H1 d = some (.frz o (.dK kvs)) ∧ R (Itk d o kvs) H1) ∨ ∃ kvs, H1 d = some (.frz o (.dT kvs)) ∧ R (Itkt d o kvs) H1)
def iVals (td : TE) : TI := fun σ H R => td σ H fun x H1 => ∃ d o kvs, x = .ref d ∧ H1 d = some (.frz o (.dK kvs)) ∧ R (Itd d o kvs) H1
def iItems (td : TE) : TI := fun σ H R => td σ H fun x H1 => ∃ d o kvs, x = .ref d ∧ H1 d = some (.frz o (.dK kvs)) ∧ R (Iti d o kvs) H1
def iKeysM (td : TE) : TI := fun σ H R => td σ H fun x H1 => ∃ d o kvs, x = .ref d ∧ H1 d = some (.frz o (.dK kvs)) ∧ R (Itk d o kvs) H1
section
variable {X : Cx} {tg e : Expr} {td : TE} {apos cpos : Pos}
end

/-! ### enumerate(list) -/
/-- the list at a as it stands at each turn, each item in a new pair -/
def Ite (K : PySem.W.Frag) (a : Addr) : It :=
  ⟨fun i H => ∃ (xs : List V) (x : V), SqL K H a xs ∧ xs[i]? = some x, fun i H v H' => ∃ T x, v = .ref T ∧ H T = none ∧ H' = upd H T (.tup [.int (i : Nat), x]) ∧ ∀ xs, SqL K H a xs → xs[i]? = some x, fun i H => ∃ xs : List V, SqL K H a xs ∧ xs.length ≤ i⟩
def iEnum (K : PySem.W.Frag) (ta : TA) : TI := fun σ H R => ta σ H fun vs H1 => ∃ a xs, vs = [.ref a] ∧ SqL K H1 a xs ∧ R (Ite K a) H1
/-! ### zip(list, list) -/
/-- the lists at a and b as they stand at each turn, the items in new pairs -/
def Itz (K : PySem.W.Frag) (a b : Addr) : It :=
  ⟨fun i H => ∃ (xs ys : List V) (x y : V), SqL K H a xs ∧ SqL K H b ys ∧ xs[i]? = some x ∧ ys[i]? = some y,
    fun i H v H' => ∃ T x y, v = .ref T ∧ H T = none ∧ H' = upd H T (.tup [x, y]) ∧ (∀ xs, SqL K H a xs → xs[i]? = some x) ∧ ∀ ys, SqL K H b ys → ys[i]? = some y,
    fun i H => ∃ xs ys : List V, SqL K H a xs ∧ SqL K H b ys ∧ (xs.length ≤ i ∨ ys.length ≤ i)⟩
def iZip (K : PySem.W.Frag) (ta : TA) : TI := fun σ H R => ta σ H fun vs H1 => ∃ a b xs ys, vs = [.ref a, .ref b] ∧ SqL K H1 a xs ∧ SqL K H1 b ys ∧ R (Itz K a b) H1
end L2

section 
namespace Bits
open PySem PyProof.Rows

end Bits
end 

section 
namespace TL
open PySem PySem.Builtin PySem.Builtin.Str PySem.StrLaws

abbrev tl (x : Str) : List Nat := x.cps.toList
/-! ### the list functions -/
/-- S stands at the head of l -/
def pre (S l : List Nat) : Bool := l.take S.length == S
/-- l cut at each S from the left; k signs are still to be passed over -/
def spl (S : List Nat) : Nat → List Nat → List Nat → List (List Nat)
  | _, acc, [] => [acc]
  | 0, acc, c :: r => if pre S (c :: r) = true then acc :: spl S (S.length - 1) [] r else spl S 0 (acc ++ [c]) r
  | k + 1, acc, _ :: r => spl S k acc r
/-- what stands before the first S, and behind it -/
def par (S : List Nat) : List Nat → List Nat → Option (List Nat × List Nat)
  | _, [] => none
  | acc, c :: r => if pre S (c :: r) = true then some (acc, (c :: r).drop S.length) else par S (acc ++ [c]) r

/-! ### the model's split and partition are these -/
/-! ### computing spl and par -/
/-- joined lists -/
def joinL (S : List Nat) : List (List Nat) → List Nat
  | [] => []
  | [p] => p
  | p :: q :: r => p ++ (S ++ joinL S (q :: r))
/-! ### digits -/
/-- the signs of a number -/
def numL (n : Nat) : List Nat := (Nat.toDigits 10 n).map Char.toNat
/-! ### words: x.split() -/
def wstep (st : List (List Nat) × List Nat) (c : Nat) : List (List Nat) × List Nat :=
  if Unicode.isSpace c = true then (if st.2 = [] then st else (st.1 ++ [st.2], [])) else (st.1, st.2 ++ [c])
def wfin (st : List (List Nat) × List Nat) : List (List Nat) := if st.2 = [] then st.1 else st.1 ++ [st.2]
end TL
end 

namespace L2
open PySem PySem.Spec PyProof.Rows

/-- a new list of texts, tracked -/
def rNewStrs (ys : List Str) : Hp → VK → Prop := fun H Q => ∀ p, H p = none → Q (.ref p) (upd H p (.lst (ys.map V.str)))

section
variable {X : Cx} {pins : List (Addr × Obj)} {σ : St} {H : Hp} {s : Shared} {Q : VK}
end

section
variable {X : Cx}

/-! ### of a text alone -/
/-! ### of a text and a text -/
end

section
variable {X : Cx} {o e : Expr} {to te : TE}
def tM0 (r : V → List V → Hp → VK → Prop) (to : TE) : TE := fun σ H Q => to σ H fun x H1 => (∃ a, x = .str a) ∧ r x [] H1 Q
def tM1 (r : V → List V → Hp → VK → Prop) (to te : TE) : TE := fun σ H Q => to σ H fun x H1 => (∃ a, x = .str a) ∧ te σ H1 fun y H2 => r x [y] H2 Q
end
end L2

namespace L2
open PySem PySem.Spec PyProof.Rows

section
variable {X : Cx}
end

/-! ### slices of a text -/
/-- a part, clipped, as the text's slice reckons it -/
def clipS (n d : Nat) : Option Int → Int
  | none => (d : Int)
  | some i => max 0 (min (if i < 0 then i + (n : Int) else i) (n : Int))
/-- z[lo:hi] -/
def cutS (z : Str) (lo hi : Option Int) : Str :=
  ⟨((z.cps.toList.drop (HT.sIx z.length 0 lo)).take (HT.sIx z.length z.length hi - HT.sIx z.length 0 lo)).toArray⟩
def rSlS : V → Option Int → Option Int → Hp → VK → Prop := fun x lo hi H Q => ∃ z, x = .str z ∧ z.length ≤ sizeLine ∧ Q (.str (cutS z lo hi)) H
end L2

namespace Att
open PySem PySem.W PySem.Calls PyProof.Rows

/-! ### the script -/
/-! ### the attachment: holds_open's last premise (the goal 'hc' behind k_head) from a wpAny of the law's body -/
/-! ### rules over ANY heap (no ledger) from facts about the written part K: the library's own take a ledger (News) for what they write -/
section
variable {prog : Program} {w : World} {A : Around} {E : Value → Shared → Prop} {s : Shared} {K : Frag}

/-! the whole heap as the ledger: makes every rule that writes through a ledger a rule over any heap -/
def noObjs (h : Heap) : Heap := { h with objs := #[] }
def ledger (h : Heap) (L d : Addr) : List (Addr × Obj) := (List.range h.objs.size).filterMap fun a => if a = L ∨ a = d then none else (h.get? a).map fun o => (a, o)
end
end Att

namespace L2
open PySem PySem.Spec PyProof.Rows

/-- nothing is tracked but the script, known to the object (or it is an object of the module) -/
def Only (H : Hp) : Prop := ∀ b, H b = none ∨ ∃ o xs, H b = some (.frz o (.lst xs))

end L2

namespace L2
open PySem PySem.Spec PyProof.Rows

abbrev KOf {K : PySem.W.Frag} {h : Heap} (_ : K.In h) : PySem.W.Frag := K

end L2


/-! SHORT WORDS over the layer: a def of the text, its body, what a loop and a test want. -/
namespace L2
open PySem PySem.Spec PyProof.Rows

/-! ### the text by places -/
/-- the j-th statement of a class's body -/
def inClass (s : Stmt) (j : Nat) : Stmt := match s with
  | .ClassDef _ _ _ body _ _ _ _ _ _ _ => body.getD j (.Pass ⟨0, 0, 0, 0⟩)
  | _ => .Pass ⟨0, 0, 0, 0⟩
def defArgs (s : Stmt) : Arguments := match s with
  | .FunctionDef _ a _ _ _ _ _ _ _ _ => a
  | _ => { posonlyargs := [], args := [], vararg := none, kwonlyargs := [], kw_defaults := [], kwarg := none, defaults := [] }
def defBody (s : Stmt) : List Stmt := match s with
  | .FunctionDef _ _ b _ _ _ _ _ _ _ => b
  | _ => []
def defScope (s : Stmt) : Scope := match s with
  | .FunctionDef _ _ _ _ _ _ sc _ _ _ => sc
  | _ => { kind := .function, names := [], isGenerator := false, isCoroutine := false }

/-! ### no exception leaves a def -/
abbrev CX0 : CXT := fun _ _ _ _ _ _ => False
abbrev E0 : XK := fun _ _ _ => False
theorem pass0 {X : Cx} : Passes CX0 X E0 := fun _ _ _ _ _ _ _ h => h.elim

/-! ### a def (or method) of the text as it stands behind the top -/
structure Fun (K : PySem.W.Frag) (x qual : Str) (st : Stmt) (f : Addr) (fd : FuncData) : Prop where
  ex : ∃ (oc : Value) (od : Option Addr) (kV doc pm : Value) (an : Option Addr) (cdv ct : Value) (osl : Array (Option Value)),
    fd = PySem.W.fnOf x qual (defArgs st) (defBody st) (defScope st) .none kV doc pm an cdv ct ∧ K.lookup f = some ⟨oc, od, .func fd, osl⟩ ∧ PySem.W.codeIn K cdv qual = true
  kp : PySem.W.keepIn K (.ref f) = true
section
variable {P : Program} {w : World} {K : PySem.W.Frag} {mg : Str → Option Value} {base : Heap}
/-- THE RULE for a def: its body as a term of rules, and the reading of that term -/
theorem Fun.ok {x qual : Str} {st : Stmt} {f : Addr} {fd : FuncData} {N ps : List Str} {k : Nat} {sp : Sp} (F : Fun K x qual st f fd) (S : FnScope N ps (defScope st)) (len : ∀ vs H Q E, sp vs H Q E → vs.length = ps.length)
    (hbody : ∀ (cdv : Value) (A : Around) (outer : List Env) (s : Shared) (H : Hp) (vs : List V) (Q : VK) (E : XK), Room k (A.deeper (envOfC qual (defScope st) s.heap.objs.size f cdv)) → sp vs H Q E →
      ∃ t, PSs (cxOf CX0 P w K mg base N qual (defScope st) f cdv A outer s H E).nox (defBody st) t ∧ t { nx := fun _ H' => Q .non H', rt := Q } (start N vs) H) : FnOk P w K mg base CX0 (k + 1) f fd ps sp := by
  obtain ⟨oc, od, kV, doc, pm, an, cdv, ct, osl, rfl, lk, hcd⟩ := F.ex
  refine fn_of lk hcd S len fun A outer s H vs Q E hr hsp => ?_
  obtain ⟨t, h, q⟩ := hbody cdv A outer s H vs Q E hr hsp
  exact ⟨t, h.nox, q⟩
/-- how its arguments bind (no defaults): h is «fun _ _ _ _ _ _ us hl => match us, hl with | [_, _], _ => rfl», one _ a parameter -/
theorem Fun.binds {x qual : Str} {st : Stmt} {f : Addr} {fd : FuncData} {ps : List Str} (F : Fun K x qual st f fd)
    (h : ∀ (kV doc pm : Value) (an : Option Addr) (cdv ct : Value) (us : List Value), us.length = ps.length → bindArgs (PySem.W.fnOf x qual (defArgs st) (defBody st) (defScope st) .none kV doc pm an cdv ct) ⟨us, []⟩ = pure (ps.zip us)) : Binds K fd ps [] := by
  obtain ⟨oc, od, kV, doc, pm, an, cdv, ct, osl, rfl, lk, hcd⟩ := F.ex
  exact .all (h kV doc pm an cdv ct)
theorem fun_mk {x qual : Str} {st : Stmt} {f : Addr} {oc : Value} {od an : Option Addr} {osl : Array (Option Value)} {kV doc pm cdv ct : Value} (l : K.lookup f = some ⟨oc, od, .func (PySem.W.fnOf x qual (defArgs st) (defBody st) (defScope st) .none kV doc pm an cdv ct), osl⟩)
    (c : PySem.W.codeIn K cdv qual = true) (k : PySem.W.keepIn K (.ref f) = true) : Fun K x qual st f (PySem.W.fnOf x qual (defArgs st) (defBody st) (defScope st) .none kV doc pm an cdv ct) := ⟨⟨oc, od, kV, doc, pm, an, cdv, ct, osl, rfl, l, c⟩, k⟩
end
theorem small1000 {n : Nat} (h : n ≤ 1000) : n < sizeLine := Nat.lt_of_le_of_lt h (by decide)

/-! ### expressions in short: the name that stands in the i-th slot -/
section
variable {X : Cx}
theorem pv (i : Nat) {x : Str} {pos : Pos} (hN : X.N[i]? = some x := by rfl) (hv : Vis X.env.scope x := by first | exact Or.inl rfl | exact Or.inr (Or.inl rfl) | exact Or.inr (Or.inr rfl)) (hd : (x == ("__debug__" : Str)) = false := by decide)
    (hcd : (x == ("__classdict__" : Str)) = false := by decide) : PE X (.Name x pos) (tVar i) := pe_var hN hv hd hcd
end

/-! ### tests -/
theorem iteF {A B : Prop} (h : B) : if false = true then A else B := by
  rw [if_neg Bool.false_ne_true]
  exact h
theorem iteT {A B : Prop} (h : A) : if true = true then A else B := by
  rw [if_pos rfl]
  exact h
theorem ite2 {c A B : Prop} [Decidable c] (h1 : c → A) (h2 : ¬ c → B) : if c then A else B := by
  by_cases h : c
  · rw [if_pos h]
    exact h1 h
  · rw [if_neg h]
    exact h2 h
/-! ### heaps -/
/-- all that was tracked is as it was -/
def Same (H H' : Hp) : Prop := ∀ b o, H b = some o → H' b = some o
theorem Same.refl (H : Hp) : Same H H := fun _ _ h => h
theorem Same.trans {H H1 H2 : Hp} (a : Same H H1) (b : Same H1 H2) : Same H H2 := fun c o h => b c o (a c o h)
theorem Same.free {H H' : Hp} (e : Same H H') {l : Addr} (h : H' l = Option.none) : H l = Option.none := by
  cases q : H l with
  | none => rfl
  | some o =>
    rw [e l o q] at h
    cases h
theorem Same.seq {K : PySem.W.Frag} {H H' : Hp} {a : Addr} {xs : List V} (e : Same H H') (h : SqL K H a xs) : SqL K H' a xs := by
  rcases h with (h | ⟨o, h⟩) | h
  · exact .inl (.inl (e _ _ h))
  · exact .inl (.inr ⟨o, e _ _ h⟩)
  · exact .inr h

/-! ### a dict's pairs: keys that differ -/
section
variable {κ : Type} [DecidableEq κ]
end
/-! ### lists -/
theorem at_of {xs : List V} {z : Int} {j : Nat} {v : V} (e : z = (j : Int)) (h : xs[j]? = some v) : atI xs z = some v := by
  rw [e]
  exact atI_nat h
/-- a new instance and its __init__ leave all that was tracked as it was -/
theorem Same.made {H H1 : Hp} {x dx C : Addr} (nx : H x = Option.none) (nd : H dx = Option.none) (k : ∀ b o, (upd (upd H dx (.own x)) x (.ins C dx [])) b = some o → b ≠ x → H1 b = some o) : Same H H1 := fun b o e =>
  k b o (by rw [upd_ne (ne_of_none e nx), upd_ne (ne_of_none e nd)]; exact e) (ne_of_none e nx)
end L2
end

section
set_option Elab.async false
set_option linter.all false
set_option maxRecDepth 100000
set_option maxHeartbeats 2000000
namespace L2
open PySem PySem.Spec PyProof.Rows
open PySem.W (WData Codec OpenSpec Well WellAll ReadsW ReadsAllW)
/-! ### an answer as data -/
mutual
/-- x stands for the datum d, lists and tuples all the way -/
inductive Dw (K : PySem.W.Frag) (H : Hp) : V → WData → Prop
  | non : Dw K H .non .none
  | bl (b : Bool) : Dw K H (.bl b) (.bool b)
  | int (i : Int) : Dw K H (.int i) (.int i)
  | str (x : Str) : Dw K H (.str x) (.str x)
  | byt (b : Array UInt8) : Dw K H (.byt b) (.bytes b.toList)
  | lst {a : Addr} {xs : List V} {ds : List WData} : SqL K H a xs → DwAll K H xs ds → Dw K H (.ref a) (.list ds)
  | tup {a : Addr} {xs : List V} {ds : List WData} : SqT K H a xs → DwAll K H xs ds → Dw K H (.ref a) (.tuple ds)
inductive DwAll (K : PySem.W.Frag) (H : Hp) : List V → List WData → Prop
  | nil : DwAll K H [] []
  | cons {v : V} {vs : List V} {d : WData} {ds : List WData} : Dw K H v d → DwAll K H vs ds → DwAll K H (v :: vs) (d :: ds)
end
theorem dw_ints {K : PySem.W.Frag} {H : Hp} : ∀ ns : List Int, DwAll K H (ns.map V.int) (ns.map WData.int)
  | [] => .nil
  | n :: r => .cons (.int n) (dw_ints r)
theorem ints_dw {K : PySem.W.Frag} {H : Hp} : ∀ (ns : List Int) (xs : List V), DwAll K H xs (ns.map WData.int) → xs = ns.map V.int
  | [], xs, h => by
    cases h
    rfl
  | n :: r, xs, h => by
    cases h with
    | cons h1 h2 =>
      cases h1
      rw [ints_dw r _ h2] <;> rfl
section
variable {P : Program} {w : World} {K : PySem.W.Frag} {H : Hp} {h : Heap} {R : PySem.W.WRecords} {cl : Str → Option Addr}
theorem sqL_at {a : Addr} {xs : List V} (hok : HOk P w H h) (KX : K.In h) (q : SqL K H a xs) : ∃ (its : List Value) (o : Obj) (n : Nat), Vals xs its ∧ h.get? a = some o ∧ o.cls = .type "list" ∧ o.data = .seq its.toArray n := by
  rcases q with q | ⟨o, its, n, e, hc, _, hd, _, hv⟩
  · obtain ⟨_, its, n, hv, e⟩ := (show ObjOk P w H h a (.lst xs) from q.ok hok)
    exact ⟨its, _, n, hv, e, rfl, rfl⟩
  · exact ⟨its.toList, o, n, hv, KX _ _ e, hc, by simp [hd]⟩
theorem sqT_at {a : Addr} {xs : List V} (hok : HOk P w H h) (KX : K.In h) (q : SqT K H a xs) : ∃ (its : List Value) (o : Obj) (n : Nat), Vals xs its ∧ h.get? a = some o ∧ o.cls = .type "tuple" ∧ o.data = .seq its.toArray n := by
  rcases q with q | ⟨o, its, n, e, hc, hd, _, hv⟩
  · obtain ⟨_, its, hv, o, e, hc, n, hd⟩ := (show ObjOk P w H h a (.tup xs) from q.ok hok)
    exact ⟨its, o, n, hv, e, hc, hd⟩
  · exact ⟨its.toList, o, n, hv, KX _ _ e, hc, by simp [hd]⟩
mutual
theorem Dw.reads (hok : HOk P w H h) (KX : K.In h) : ∀ (d : WData) (v : V) (u : Value), Dw K H v d → RelV v u → ∃ as, ReadsW R cl h u d as
  | .none, _, _, x, r => by
    cases x
    cases r
    exact ⟨_, ReadsW.none⟩
  | .bool b, _, _, x, r => by
    cases x
    cases r
    exact ⟨_, ReadsW.bool b⟩
  | .int i, _, _, x, r => by
    cases x
    obtain ⟨t, rfl⟩ := r
    exact ⟨_, ReadsW.int i t⟩
  | .str s, _, _, x, r => by
    cases x
    obtain ⟨t, rfl⟩ := r
    exact ⟨_, ReadsW.str s t⟩
  | .bytes b, _, _, x, r => by
    cases x
    obtain ⟨t, rfl⟩ := r
    exact ⟨_, ReadsW.bytes _ t⟩
  | .list ds, _, _, x, r => by
    cases x with
    | lst hs ha =>
      cases r
      obtain ⟨its, o, n, rv, ho, hc, hd⟩ := sqL_at hok KX hs
      obtain ⟨as, hr⟩ := Dw.readsAll hok KX ds _ its ha rv
      exact ⟨_, ReadsW.list ho hc hd hr⟩
  | .tuple ds, _, _, x, r => by
    cases x with
    | tup hs ha =>
      cases r
      obtain ⟨its, o, n, rv, ho, hc, hd⟩ := sqT_at hok KX hs
      obtain ⟨as, hr⟩ := Dw.readsAll hok KX ds _ its ha rv
      exact ⟨_, ReadsW.tuple ho hc hd hr⟩
  | .float _, _, _, x, _ => by cases x
  | .dict _, _, _, x, _ => by cases x
  | .bytearray _, _, _, x, _ => by cases x
  | .set _, _, _, x, _ => by cases x
  | .frozenset _, _, _, x, _ => by cases x
  | .obj _ _, _, _, x, _ => by cases x
theorem Dw.readsAll (hok : HOk P w H h) (KX : K.In h) : ∀ (ds : List WData) (vs : List V) (us : List Value), DwAll K H vs ds → Vals vs us → ∃ as, ReadsAllW R cl h us ds as
  | [], _, _, x, r => by
    cases x
    cases r
    exact ⟨_, ReadsAllW.nil⟩
  | d :: ds, _, _, x, r => by
    cases x with
    | cons h1 h2 =>
      cases r with
      | cons r1 r2 =>
        obtain ⟨as, q1⟩ := Dw.reads hok KX d _ _ h1 r1
        obtain ⟨bs, q2⟩ := Dw.readsAll hok KX ds _ _ h2 r2
        exact ⟨_, ReadsAllW.cons q1 q2⟩
end
end
/-! ### the arguments -/
mutual
/-- data that a codec tells -/
def plW : WData → Bool
  | .none => true
  | .bool _ => true
  | .int _ => true
  | .str _ => true
  | .bytes _ => true
  | .list xs => plWs xs
  | .tuple xs => plWs xs
  | _ => false
def plWs : List WData → Bool
  | [] => true
  | x :: r => plW x && plWs r
end
theorem plWs_map {α : Type} {f : α → WData} (h : ∀ a, plW (f a) = true) : ∀ l : List α, plWs (l.map f) = true
  | [] => rfl
  | x :: r => by
    show (plW (f x) && plWs (r.map f)) = true
    rw [h x, plWs_map h r] <;> rfl
theorem pl_enc : ∀ (c : Codec) (a : c.denote), plW (c.enc a) = true
  | .unit, _ => rfl
  | .bool, _ => rfl
  | .int _ _, _ => rfl
  | .nat _ _, _ => rfl
  | .u8, _ => rfl
  | .bytes _ _, _ => rfl
  | .text _ _ _ _, _ => rfl
  | .list _ _ c, a => plWs_map (fun x => pl_enc c x) a
  | .pair c d, a => by
    show (plW (c.enc a.1) && (plW (d.enc a.2) && true)) = true
    rw [pl_enc c a.1, pl_enc d a.2] <;> rfl
  | .triple c d e, a => by
    show (plW (c.enc a.1) && (plW (d.enc a.2.1) && (plW (e.enc a.2.2) && true))) = true
    rw [pl_enc c a.1, pl_enc d a.2.1, pl_enc e a.2.2] <;> rfl
  | .option c, none => rfl
  | .option c, some x => pl_enc c x
theorem pl_encAll : ∀ (cs : List Codec) (a : Codec.denoteAll cs), plWs (Codec.encAll cs a) = true
  | [], _ => rfl
  | c :: cs, a => by
    show (plW (c.enc a.1) && plWs (Codec.encAll cs a.2)) = true
    rw [pl_enc c a.1, pl_encAll cs a.2] <;> rfl
theorem weight_mem : ∀ {xs : List WData} {d : WData}, d ∈ xs → d.weight ≤ WData.weightAll xs
  | [], d, h => absurd h (by simp)
  | x :: r, d, h => by
    show d.weight ≤ x.weight + 1 + WData.weightAll r
    rcases List.mem_cons.mp h with e | m
    · rw [e]
      omega
    · have z := weight_mem m
      omega
def toV : Value → V
  | .none => .non
  | .bool b => .bl b
  | .int i _ => .int i
  | .str x _ => .str x
  | .bytes b _ => .byt b
  | .ref a => .ref a
  | _ => .non
/-- a value of the arguments, its objects among A -/
def OkU (A : List Addr) : Value → Prop
  | .none => True
  | .bool _ => True
  | .int _ _ => True
  | .str _ _ => True
  | .bytes _ _ => True
  | .ref a => a ∈ A
  | _ => False
theorem OkU.mono {A B : List Addr} (h : ∀ a ∈ A, a ∈ B) : ∀ {u : Value}, OkU A u → OkU B u := fun {u} x => by
  cases u with
  | ref a => exact h a x
  | none => trivial
  | bool b => trivial
  | int i t => trivial
  | str s t => trivial
  | bytes b t => trivial
  | _ => exact False.elim x
theorem relV_toV {A : List Addr} {u : Value} (x : OkU A u) : RelV (toV u) u := by
  cases u with
  | ref a => rfl
  | none => rfl
  | bool b => rfl
  | int i t => exact ⟨t, rfl⟩
  | str s t => exact ⟨t, rfl⟩
  | bytes b t => exact ⟨t, rfl⟩
  | _ => exact False.elim x
theorem vals_toV {A : List Addr} : ∀ {vs : List Value}, (∀ u ∈ vs, OkU A u) → Vals (vs.map toV) vs
  | [], _ => .nil
  | u :: r, h => .cons (relV_toV (h u (List.mem_cons_self ..))) (vals_toV fun x hx => h x (List.mem_cons_of_mem _ hx))
/-- an object of the arguments -/
def ArgOb (h : Heap) (A : List Addr) (a : Addr) : Prop := ∃ vs : List Value, vs.length ≤ sizeLine ∧ (∀ u ∈ vs, OkU A u) ∧
  (h.get? a = some { cls := .type "list", data := .seq vs.toArray } ∨ h.get? a = some { cls := .type "tuple", data := .seq vs.toArray })
theorem ArgOb.mono {h : Heap} {A B : List Addr} {a : Addr} (k : ∀ a ∈ A, a ∈ B) (x : ArgOb h A a) : ArgOb h B a := by
  obtain ⟨vs, h1, h2, h3⟩ := x
  exact ⟨vs, h1, fun u hu => (h2 u hu).mono k, h3⟩
theorem wellAll_len {P : Params} {h : Heap} : ∀ {vs : List Value} {ds : List WData}, WellAll P h vs ds → vs.length = ds.length
  | _, _, .nil => rfl
  | _, _, .cons _ b => by
    show _ + 1 = _ + 1
    rw [wellAll_len b]
theorem well_list {P : Params} {h : Heap} {v : Value} {ds : List WData} (x : Well P h v (.list ds)) : ∃ (a : Addr) (vs : List Value), v = .ref a ∧ h.get? a = some { cls := .type "list", data := .seq vs.toArray } ∧ WellAll P h vs ds := by
  cases x with
  | list ho hall => exact ⟨_, _, rfl, ho, hall⟩
theorem well_tuple {P : Params} {h : Heap} {v : Value} {ds : List WData} (x : Well P h v (.tuple ds)) : ∃ (a : Addr) (vs : List Value), v = .ref a ∧ h.get? a = some { cls := .type "tuple", data := .seq vs.toArray } ∧ WellAll P h vs ds := by
  cases x with
  | tuple ho hall => exact ⟨_, _, rfl, ho, hall⟩
theorem well_cons {P : Params} {h : Heap} {us : List Value} {d : WData} {ds : List WData} (x : WellAll P h us (d :: ds)) : ∃ (v : Value) (vs : List Value), us = v :: vs ∧ Well P h v d ∧ WellAll P h vs ds := by
  cases x with
  | cons a b => exact ⟨_, _, rfl, a, b⟩
theorem line_of {n : Nat} (h : n ≤ 1048576) : n ≤ sizeLine := Nat.le_trans h (by decide)
section
variable {P : Params} {h : Heap}
mutual
theorem area_one : ∀ (d : WData) (v : Value), Well P h v d → plW d = true → d.weight ≤ 1048576 → ∃ A : List Addr, OkU A v ∧ ∀ a ∈ A, ArgOb h A a
  | .none, _, x, _, _ => by
    cases x
    exact ⟨[], trivial, fun a m => absurd m (by simp)⟩
  | .bool b, _, x, _, _ => by
    cases x
    exact ⟨[], trivial, fun a m => absurd m (by simp)⟩
  | .int i, _, x, _, _ => by
    cases x
    exact ⟨[], trivial, fun a m => absurd m (by simp)⟩
  | .str s, _, x, _, _ => by
    cases x
    exact ⟨[], trivial, fun a m => absurd m (by simp)⟩
  | .bytes b, _, x, _, _ => by
    cases x
    exact ⟨[], trivial, fun a m => absurd m (by simp)⟩
  | .list ds, _, x, p, z => by
    obtain ⟨a, vs, rfl, ho, hall⟩ := well_list x
    have z2 : WData.weightAll ds ≤ 1048576 := z
    obtain ⟨A, h1, h2⟩ := area_all ds _ hall p fun d hd => Nat.le_trans (weight_mem hd) z2
    have k : ∀ b ∈ A, b ∈ a :: A := fun b hb => List.mem_cons_of_mem _ hb
    refine ⟨a :: A, List.mem_cons_self .., fun b hb => ?_⟩
    rcases List.mem_cons.mp hb with e | m
    · rw [e]
      exact ⟨vs, line_of (by rw [wellAll_len hall]; exact Nat.le_trans (PySem.W.length_le_weightAllW ds) z2), fun u hu => (h1 u hu).mono k, .inl ho⟩
    · exact (h2 b m).mono k
  | .tuple ds, _, x, p, z => by
    obtain ⟨a, vs, rfl, ho, hall⟩ := well_tuple x
    have z2 : WData.weightAll ds ≤ 1048576 := z
    obtain ⟨A, h1, h2⟩ := area_all ds _ hall p fun d hd => Nat.le_trans (weight_mem hd) z2
    have k : ∀ b ∈ A, b ∈ a :: A := fun b hb => List.mem_cons_of_mem _ hb
    refine ⟨a :: A, List.mem_cons_self .., fun b hb => ?_⟩
    rcases List.mem_cons.mp hb with e | m
    · rw [e]
      exact ⟨vs, line_of (by rw [wellAll_len hall]; exact Nat.le_trans (PySem.W.length_le_weightAllW ds) z2), fun u hu => (h1 u hu).mono k, .inr ho⟩
    · exact (h2 b m).mono k
  | .float _, _, _, p, _ => Bool.noConfusion (show false = true from p)
  | .dict _, _, _, p, _ => Bool.noConfusion (show false = true from p)
  | .bytearray _, _, _, p, _ => Bool.noConfusion (show false = true from p)
  | .set _, _, _, p, _ => Bool.noConfusion (show false = true from p)
  | .frozenset _, _, _, p, _ => Bool.noConfusion (show false = true from p)
  | .obj _ _, _, _, p, _ => Bool.noConfusion (show false = true from p)
theorem area_all : ∀ (ds : List WData) (vs : List Value), WellAll P h vs ds → plWs ds = true → (∀ d ∈ ds, d.weight ≤ 1048576) → ∃ A : List Addr, (∀ u ∈ vs, OkU A u) ∧ ∀ a ∈ A, ArgOb h A a
  | [], _, x, _, _ => by
    cases x
    exact ⟨[], fun u m => absurd m (by simp), fun a m => absurd m (by simp)⟩
  | d :: ds, _, x, p, z => by
    obtain ⟨v, vs, rfl, x1, x2⟩ := well_cons x
    have q : plW d = true ∧ plWs ds = true := Bool.and_eq_true_iff.mp p
    obtain ⟨A, a1, a2⟩ := area_one d v x1 q.1 (z d (List.mem_cons_self ..))
    obtain ⟨B, b1, b2⟩ := area_all ds vs x2 q.2 fun e he => z e (List.mem_cons_of_mem _ he)
    have kA : ∀ b ∈ A, b ∈ A ++ B := fun b hb => List.mem_append.mpr (.inl hb)
    have kB : ∀ b ∈ B, b ∈ A ++ B := fun b hb => List.mem_append.mpr (.inr hb)
    refine ⟨A ++ B, fun u hu => ?_, fun b hb => ?_⟩
    · rcases List.mem_cons.mp hu with e | m
      · rw [e]
        exact a1.mono kA
      · exact (b1 u m).mono kB
    · rcases List.mem_append.mp hb with m | m
      · exact (a2 b m).mono kA
      · exact (b2 b m).mono kB
end
end
/-- what is tracked of an argument's object -/
def hoOf (o : Obj) : Option HO := match o.data with
  | .seq vs _ => if (o.cls == Value.type "list") = true then some (.frz o (.lst (vs.toList.map toV))) else some (.frz o (.tup (vs.toList.map toV)))
  | _ => none
def argH (K : PySem.W.Frag) (h : Heap) (A : List Addr) : Hp := fun b => if b ∈ A then (if (K.lookup b).isNone = true then (h.get? b).bind hoOf else none) else none
/-- nothing is tracked but what is known to the object -/
def OnlyF (H : Hp) : Prop := ∀ b, H b = none ∨ ∃ o u, H b = some (.frz o u)
theorem hoOf_lst (vs : List Value) : hoOf { cls := .type "list", data := .seq vs.toArray } = some (.frz { cls := .type "list", data := .seq vs.toArray } (.lst (vs.map toV))) := by
  show (if (Value.type "list" == Value.type "list") = true then some (HO.frz { cls := .type "list", data := .seq vs.toArray } (.lst (vs.toArray.toList.map toV))) else some (HO.frz { cls := .type "list", data := .seq vs.toArray } (.tup (vs.toArray.toList.map toV)))) = _
  rw [if_pos (beq_self_eq_true _)]
theorem hoOf_tup (vs : List Value) : hoOf { cls := .type "tuple", data := .seq vs.toArray } = some (.frz { cls := .type "tuple", data := .seq vs.toArray } (.tup (vs.map toV))) := by
  show (if (Value.type "tuple" == Value.type "list") = true then some (HO.frz { cls := .type "tuple", data := .seq vs.toArray } (.lst (vs.toArray.toList.map toV))) else some (HO.frz { cls := .type "tuple", data := .seq vs.toArray } (.tup (vs.toArray.toList.map toV)))) = _
  rw [if_neg (by decide)]
section
variable {P : Program} {w : World} {K : PySem.W.Frag} {h : Heap} {A : List Addr}
theorem argH_at {b : Addr} {o : Obj} (hb : b ∈ A) (hk : K.lookup b = none) (e : h.get? b = some o) : argH K h A b = hoOf o := by
  unfold argH
  rw [if_pos hb, hk, if_pos (show (none : Option Obj).isNone = true from rfl), e] <;> rfl
theorem of_argH {b : Addr} {u : HO} (q : argH K h A b = some u) : b ∈ A ∧ K.lookup b = none := by
  unfold argH at q
  by_cases hb : b ∈ A
  · rw [if_pos hb] at q
    cases hk : K.lookup b with
    | none => exact ⟨hb, rfl⟩
    | some o =>
      rw [hk, if_neg (by simp)] at q
      cases q
  · rw [if_neg hb] at q
    cases q
/-- what stands tracked -/
theorem argH_is (ar : ∀ a ∈ A, ArgOb h A a) {b : Addr} {u : HO} (q : argH K h A b = some u) : K.lookup b = none ∧ ∃ vs : List Value, vs.length ≤ sizeLine ∧ (∀ u ∈ vs, OkU A u) ∧
    ((h.get? b = some { cls := .type "list", data := .seq vs.toArray } ∧ u = .frz { cls := .type "list", data := .seq vs.toArray } (.lst (vs.map toV))) ∨
     (h.get? b = some { cls := .type "tuple", data := .seq vs.toArray } ∧ u = .frz { cls := .type "tuple", data := .seq vs.toArray } (.tup (vs.map toV)))) := by
  obtain ⟨hb, hk⟩ := of_argH q
  obtain ⟨vs, h1, h2, h3⟩ := ar b hb
  refine ⟨hk, vs, h1, h2, ?_⟩
  rcases h3 with e | e
  · rw [argH_at hb hk e, hoOf_lst] at q
    exact .inl ⟨e, (Option.some.inj q).symm⟩
  · rw [argH_at hb hk e, hoOf_tup] at q
    exact .inr ⟨e, (Option.some.inj q).symm⟩
theorem argH_only (ar : ∀ a ∈ A, ArgOb h A a) : OnlyF (argH K h A) := fun b => by
  cases q : argH K h A b with
  | none => exact .inl rfl
  | some u =>
    obtain ⟨_, vs, _, _, ⟨_, e⟩ | ⟨_, e⟩⟩ := argH_is ar q
    · exact .inr ⟨_, _, by rw [e]⟩
    · exact .inr ⟨_, _, by rw [e]⟩
theorem argH_ok (ar : ∀ a ∈ A, ArgOb h A a) : HOk P w (argH K h A) h := fun b u q => by
  obtain ⟨_, vs, h1, h2, ⟨e, rfl⟩ | ⟨e, rfl⟩⟩ := argH_is ar q
  · exact ⟨e, by rw [List.length_map]; exact h1, vs, _, vals_toV h2, e⟩
  · exact ⟨e, by rw [List.length_map]; exact h1, vs, vals_toV h2, _, e, rfl, _, rfl⟩
theorem seq_inj {c c' : Value} {vs us : List Value} (e : (some { cls := c, data := .seq vs.toArray } : Option Obj) = some { cls := c', data := .seq us.toArray }) : c = c' ∧ vs = us := by
  have e1 := Option.some.inj e
  have e2 : c = c' := congrArg Obj.cls e1
  have e3 : Data.seq vs.toArray = Data.seq us.toArray := congrArg Obj.data e1
  injection e3 with e4
  refine ⟨e2, ?_⟩
  have e5 := congrArg Array.toList e4
  simpa using e5
/-- a list argument -/
theorem argL (KX : K.In h) (ar : ∀ a ∈ A, ArgOb h A a) {a : Addr} {vs : List Value} (ha : a ∈ A) (e : h.get? a = some { cls := .type "list", data := .seq vs.toArray }) : (∀ u ∈ vs, OkU A u) ∧ SqL K (argH K h A) a (vs.map toV) := by
  obtain ⟨us, h1, h2, h3⟩ := ar a ha
  have hu : us = vs := by
    rcases h3 with q | q
    · rw [e] at q
      exact (seq_inj q).2.symm
    · rw [e] at q
      exact absurd (Value.type.inj (seq_inj q).1) (by decide)
  subst hu
  refine ⟨h2, ?_⟩
  cases hk : K.lookup a with
  | none => exact .inl (.inr ⟨_, by rw [argH_at ha hk e, hoOf_lst]⟩)
  | some o =>
    have e2 := KX a o hk
    rw [e] at e2
    obtain rfl := Option.some.inj e2
    exact .inr ⟨_, us.toArray, _, hk, rfl, rfl, rfl, by rw [List.size_toArray]; exact h1, by simpa using vals_toV h2⟩
theorem argT (KX : K.In h) (ar : ∀ a ∈ A, ArgOb h A a) {a : Addr} {vs : List Value} (ha : a ∈ A) (e : h.get? a = some { cls := .type "tuple", data := .seq vs.toArray }) : (∀ u ∈ vs, OkU A u) ∧ SqT K (argH K h A) a (vs.map toV) := by
  obtain ⟨us, h1, h2, h3⟩ := ar a ha
  have hu : us = vs := by
    rcases h3 with q | q
    · rw [e] at q
      exact absurd (Value.type.inj (seq_inj q).1) (by decide)
    · rw [e] at q
      exact (seq_inj q).2.symm
  subst hu
  refine ⟨h2, ?_⟩
  cases hk : K.lookup a with
  | none => exact .inl (.inr ⟨_, by rw [argH_at ha hk e, hoOf_tup]⟩)
  | some o =>
    have e2 := KX a o hk
    rw [e] at e2
    obtain rfl := Option.some.inj e2
    exact .inr ⟨_, us.toArray, _, hk, rfl, rfl, by rw [List.size_toArray]; exact h1, by simpa using vals_toV h2⟩
mutual
theorem dw_one {Pm : Params} (KX : K.In h) (ar : ∀ a ∈ A, ArgOb h A a) : ∀ (d : WData) (v : Value), Well Pm h v d → plW d = true → OkU A v → Dw K (argH K h A) (toV v) d
  | .none, _, x, _, _ => by
    cases x
    exact .non
  | .bool b, _, x, _, _ => by
    cases x
    exact .bl b
  | .int i, _, x, _, _ => by
    cases x
    exact .int i
  | .str s, _, x, _, _ => by
    cases x
    exact .str s
  | .bytes b, _, x, _, _ => by
    cases x
    have z := Dw.byt (K := K) (H := argH K h A) b.toArray
    exact z
  | .list ds, _, x, p, hu => by
    obtain ⟨a, vs, rfl, ho, hall⟩ := well_list x
    obtain ⟨h2, hs⟩ := argL KX ar hu ho
    exact .lst hs (dw_all KX ar ds _ hall p h2)
  | .tuple ds, _, x, p, hu => by
    obtain ⟨a, vs, rfl, ho, hall⟩ := well_tuple x
    obtain ⟨h2, hs⟩ := argT KX ar hu ho
    exact .tup hs (dw_all KX ar ds _ hall p h2)
  | .float _, _, _, p, _ => Bool.noConfusion (show false = true from p)
  | .dict _, _, _, p, _ => Bool.noConfusion (show false = true from p)
  | .bytearray _, _, _, p, _ => Bool.noConfusion (show false = true from p)
  | .set _, _, _, p, _ => Bool.noConfusion (show false = true from p)
  | .frozenset _, _, _, p, _ => Bool.noConfusion (show false = true from p)
  | .obj _ _, _, _, p, _ => Bool.noConfusion (show false = true from p)
theorem dw_all {Pm : Params} (KX : K.In h) (ar : ∀ a ∈ A, ArgOb h A a) : ∀ (ds : List WData) (vs : List Value), WellAll Pm h vs ds → plWs ds = true → (∀ u ∈ vs, OkU A u) → DwAll K (argH K h A) (vs.map toV) ds
  | [], _, x, _, _ => by
    cases x
    exact .nil
  | d :: ds, _, x, p, hu => by
    obtain ⟨v, vs, rfl, x1, x2⟩ := well_cons x
    have q : plW d = true ∧ plWs ds = true := Bool.and_eq_true_iff.mp p
    exact .cons (dw_one KX ar d v x1 q.1 (hu _ (List.mem_cons_self ..))) (dw_all KX ar ds vs x2 q.2 fun u m => hu u (List.mem_cons_of_mem _ m))
end
end
/-! ### the call -/
theorem spec_call {P : Program} {w : World} {K : PySem.W.Frag} {mg mb : Str → Option Value} {CX : CXT} {k : Nat} {fa : Addr} {fd : FuncData} {ps : List Str} {sp : Sp} {s₁ : Shared} {vals : List Value} {ds : List WData} {R : PySem.W.WRecords} {cl : Str → Option Addr} {d0 : WData}
    (KX : K.In s₁.heap) (hns : s₁.heap.Ns mainGlobals mg) (hb : s₁.heap.Ns builtinsNs mb) (hbb : ∀ x : Str, x ≠ "__name__" → mb x = bootBuiltins x) (hlim : s₁.heap.NoLimit) (hg : s₁.gens = #[])
    (hwl : WellAll w.params s₁.heap vals ds) (hpl : plWs ds = true) (hwt : ∀ d ∈ ds, d.weight ≤ 1048576) (hr : Room k callerA)
    (F : ∀ base : Heap, K.In base → base.Ns mainGlobals mg → FnOk P w K mg base CX k fa fd ps sp) (hbind : ∀ (s : Shared) (us : List Value), us.length = ps.length → BindsTo s fd ⟨us, []⟩ (ps.zip us)) (hlen : ds.length = ps.length)
    (hsp : ∀ (H : Hp) (xs : List V), OnlyF H → DwAll K H xs ds → sp xs H (fun v H' => Dw K H' v d0) fun _ _ _ => False)
    (hCX : ∀ H e s', CX [] H s₁ (fun _ _ _ => False) e s' → False) :
    codeAny (model P w) callerA (.call (.ref fa) ⟨vals, []⟩) (fun r s' => ∃ u as, r = .ok (.ret u) ∧ ReadsW R cl s'.heap u d0 as ∧ OldK s₁.heap s'.heap ∧ s'.os = s₁.os ∧ AllBare s'.gens) s₁ := by
  obtain ⟨A, ho, ar⟩ := area_all ds vals hwl hpl hwt
  have hO : OnlyF (argH K s₁.heap A) := argH_only ar
  have hok : HOk P w (argH K s₁.heap A) s₁.heap := argH_ok ar
  have hS := dw_all KX ar ds vals hwl hpl ho
  have hV := vals_toV ho
  have hK : ∀ b u, argH K s₁.heap A b = some u → K.lookup b = none := fun b u q => (argH_is ar q).1
  have noA : ∀ {b : Addr} {o : Obj} {es : Array DictEntry} {ep : Nat}, s₁.heap.get? b = some o → o.data = .dict es ep → argH K s₁.heap A b = none := fun {b o es ep} e d => by
    cases q : argH K s₁.heap A b with
    | none => rfl
    | some u =>
      obtain ⟨_, vs, _, _, ⟨e2, _⟩ | ⟨e2, _⟩⟩ := argH_is ar q
      · rw [e2] at e
        cases e
        have d' : Data.seq vs.toArray _ = Data.dict es ep := d
        cases d'
      · rw [e2] at e
        cases e
        have d' : Data.seq vs.toArray _ = Data.dict es ep := d
        cases d'
  generalize argH K s₁.heap A = H at hO hok hS hK noA
  have base_of : ∀ {b : Addr} {o : Obj}, s₁.heap.get? b = some o → H b = none → (hidT s₁.heap H).get? b = some o := fun e n => hidT_get e n
  have nsK : ∀ {b : Addr} {m : Str → Option Value}, s₁.heap.Ns b m → (hidT s₁.heap H).Ns b m := fun {b m} ⟨o, es, ep, e, d, r⟩ => ⟨o, es, ep, base_of e (noA e d), d, r⟩
  have nK : ∀ b o, K.lookup b = some o → H b = none := fun b o e => by
    cases q : H b with
    | none => rfl
    | some u =>
      rw [hK b u q] at e
      cases e
  have hKb : K.In (hidT s₁.heap H) := fun b o e => base_of (KX b o e) (nK b o e)
  have hM : Mod K mg (hidT s₁.heap H) := ⟨hKb, nsK hns, ⟨mb, nsK hb, hbb⟩, let ⟨mc, h1, h2⟩ := hlim; ⟨mc, nsK h1, h2⟩⟩
  have e0 : Env0 P w K mg (hidT s₁.heap H) callerA [] s₁ H := ⟨rfl, hM, fun b o e => of_hidT e, Nat.le_of_eq (hidT_size _ _), trivial, fun b hb => absurd (show b ∈ ([] : List Addr) from hb) (by simp), hok, .of_eq hg⟩
  have hl : vals.length = ps.length := by rw [wellAll_len hwl]; exact hlen
  refine codeAny_mono ((F _ hKb (nsK hns)).run callerA [] s₁ H ⟨vals, []⟩ vals (vals.map toV) _ _ hr e0 (hbind s₁ vals hl) hV (hsp H _ hO hS)) fun r s' x => ?_
  cases r with
  | error e => exact (hCX H e s' x).elim
  | ok fl =>
    cases fl with
    | next => exact False.elim x
    | brk => exact False.elim x
    | cont => exact False.elim x
    | ret u =>
      obtain ⟨v, H', os, bare, un, hok', r', q⟩ := x
      have kept : ∀ b o, s₁.heap.get? b = some o → s'.heap.get? b = some o := fun b o e => by
        cases q2 : H b with
        | none => exact un.keep b o e q2 (by intro z; exact absurd (show b ∈ ([] : List Addr) from z) (by simp)) (by simp)
        | some u2 =>
          rcases hO b with z | ⟨ob, u3, z⟩
          · rw [q2] at z
            cases z
          · have z2 := un.frzs b ob _ z
            obtain ⟨e1, _⟩ := hok b _ z
            obtain ⟨e2, _⟩ := hok' b _ z2
            rw [e] at e1
            cases e1
            exact e2
      have KX' : K.In s'.heap := fun b o e => kept b o (KX b o e)
      obtain ⟨as, hrd⟩ := Dw.reads (R := R) (cl := cl) hok' KX' d0 v u q r'
      exact ⟨u, as, rfl, hrd, OldK.of_keep kept, os, bare⟩
/-! ### the row -/
theorem layable_weight {ds : List WData} (h : WData.layableAll ds = true) : ∀ d ∈ ds, d.weight ≤ 1048576 := fun d hd =>
  (PySem.W.layableW_iff.mp (List.all_eq_true.mp h d hd)).2.2
theorem encAll_len : ∀ (cs : List Codec) (a : Codec.denoteAll cs), (Codec.encAll cs a).length = cs.length
  | [], _ => rfl
  | c :: cs, a => by
    show (Codec.encAll cs a.2).length + 1 = cs.length + 1
    rw [encAll_len cs a.2]
/-- the goal that k_headS leaves (case hc), from the promise of the row's def: whatever the arguments that the codecs let and the row asks for, the def gives what stands for enc (f ..) -/
theorem walk_spec {r : OpenSpec} {k : Nat} {q : Program} {loose : List Str} {XP : (Str → Option Value) → Heap → Prop} {YP : World → Heap → Prop} {d : DefRec} {K : Params → PySem.W.Frag} {CX : World → CXT} {ps : List Str} {sp : World → Sp}
    (hwell : r.wellSaid = true) (hdf : d.params.defaults = []) (hlen : r.args.length = ps.length) (hr : Room k callerA)
    (hY : ∀ (w : World) (h : Heap), YP w h → (K w.params).In h)
    (F : ∀ (w : World) (mg : Str → Option Value) (fa : Addr) (h : Heap), YP w h → (K w.params).In h → h.Ns mainGlobals mg → mg d.name = some (.ref fa) →
      ∃ fd : FuncData, (∀ (s : Shared) (us : List Value), us.length = ps.length → BindsTo s fd ⟨us, []⟩ (ps.zip us)) ∧
        ∀ base : Heap, (K w.params).In base → base.Ns mainGlobals mg → FnOk r.prog w (K w.params) mg base (CX w) k fa fd ps (sp w))
    (hsp : ∀ (w : World) (H : Hp) (xs : List V) (a : Codec.denoteAll r.args), OnlyF H → Codec.withinAll r.args a = true → Codec.app r.args r.asked a = true → DwAll (K w.params) H xs (Codec.encAll r.args a) →
      sp w xs H (fun v H' => Dw (K w.params) H' v (r.ret.enc (Codec.app r.args r.f a))) fun _ _ _ => False)
    (hCX : ∀ (w : World) (H : Hp) (s : Shared) (e : Value) (s' : Shared), CX w [] H s (fun _ _ _ => False) e s' → False) :
    PySem.W.WalkOS q loose XP YP r d [] (fun f vs => PySem.call f vs) := by
  intro w s_0 s₁ mg mb G Y fa o pm cd doc dV kV ho hd hcd hD hmg hg args vals as hpre hlay hrd hwl hlo
  obtain ⟨a, e1, e2⟩ := PySem.W.os_pre_some hpre
  obtain ⟨e3, hwi⟩ := Codec.encAll_of_decAll r.args args a e1
  subst e3
  have KX := hY w _ Y
  obtain ⟨fd, hb, hF⟩ := F w mg fa _ Y KX G.T.g hmg
  refine PySem.W.enter_call (codeAny_mono (spec_call (R := []) (cl := classAt s_0.heap) (d0 := r.ret.enc (Codec.app r.args r.f a)) KX G.T.g G.T.b G.T.builtins G.T.nolimit hg hwl (pl_encAll _ _) (layable_weight hlay) hr hF hb (by rw [encAll_len]; exact hlen)
    (fun H xs hO hS => hsp w H xs a hO hwi e2 hS) fun H e s' => hCX w H s₁ e s') fun r' s' hq => ?_)
  obtain ⟨u, as', rfl, h1, h2, h3, h4⟩ := hq
  exact ⟨.inl ⟨u, _, as', rfl, fun _ => rfl, h1, (OpenSpec.post_iff hwell hwi _ _).mpr rfl, fun z => Bool.noConfusion (show false = true from z)⟩, h2, h3, h4⟩
/-- the same where the promise hangs on the written part alone -/
theorem walk_specK {r : OpenSpec} {k : Nat} {q : Program} {loose : List Str} {XP : (Str → Option Value) → Heap → Prop} {YP : World → Heap → Prop} {d : DefRec} {K : Params → PySem.W.Frag} {CX : CXT} {ps : List Str} {sp : PySem.W.Frag → Sp}
    (hwell : r.wellSaid = true) (hdf : d.params.defaults = []) (hlen : r.args.length = ps.length) (hr : Room k callerA)
    (hY : ∀ (w : World) (h : Heap), YP w h → (K w.params).In h)
    (F : ∀ (w : World) (mg : Str → Option Value) (fa : Addr) (h : Heap), YP w h → (K w.params).In h → h.Ns mainGlobals mg → mg d.name = some (.ref fa) →
      ∃ fd : FuncData, (∀ (s : Shared) (us : List Value), us.length = ps.length → BindsTo s fd ⟨us, []⟩ (ps.zip us)) ∧
        ∀ base : Heap, (K w.params).In base → base.Ns mainGlobals mg → FnOk r.prog w (K w.params) mg base CX k fa fd ps (sp (K w.params)))
    (hsp : ∀ (K : PySem.W.Frag) (H : Hp) (xs : List V) (a : Codec.denoteAll r.args), OnlyF H → Codec.withinAll r.args a = true → Codec.app r.args r.asked a = true → DwAll K H xs (Codec.encAll r.args a) →
      sp K xs H (fun v H' => Dw K H' v (r.ret.enc (Codec.app r.args r.f a))) fun _ _ _ => False)
    (hCX : ∀ (H : Hp) (s : Shared) (e : Value) (s' : Shared), CX [] H s (fun _ _ _ => False) e s' → False) :
    PySem.W.WalkOS q loose XP YP r d [] (fun f vs => PySem.call f vs) :=
  walk_spec (K := K) (CX := fun _ => CX) (sp := fun w => sp (K w.params)) hwell hdf hlen hr hY F (fun w H xs a h1 h2 h3 h4 => hsp (K w.params) H xs a h1 h2 h3 h4) fun _ H s e s' => hCX H s e s'
end L2
-- rests on (row put in by the clerk, for the bench that shows a file only what it spells): KE.SpHead KE.OsShapes
end

section
set_option Elab.async false
namespace Hs
open Rc49

/-! ### A. Reading the calls -/
/-- one call at the head of a list: what it is to the specification, and the rest -/
inductive One : List Int → List (List Int) → List Int → Prop
  | c0 (t : List Int) : One (0 :: t) [[0]] t
  | c1 (a b : Int) (t : List Int) : One (1 :: a :: b :: t) [[1, a, b]] t
  | c2 (a b : Int) (t : List Int) : One (2 :: a :: b :: t) [[2, a, b]] t
  | c3 (a b c : Int) (t : List Int) : One (3 :: a :: b :: c :: t) [[3, a, b, c]] t
  | c4 (a b c : Int) (t : List Int) : One (4 :: a :: b :: c :: t) [[4, a, b, c]] t
  | c5 (r t : List Int) : One (5 :: (r.length : Int) :: (r ++ t)) [[5], r] t
  | c6 (r t : List Int) : One (6 :: (r.length : Int) :: (r ++ t)) [[6], r] t
  | c7 (a b : Int) (r t : List Int) : One (7 :: a :: b :: (r.length : Int) :: (r ++ t)) [[7, a, b], r] t
  | c8 (a : Int) (r t : List Int) : One (8 :: a :: (r.length : Int) :: (r ++ t)) [[8, a], r] t

theorem row_of {l x s : List Int} (h : PyFlat.row l = some (x, s)) : l = (x.length : Int) :: (x ++ s) := by
  cases l with
  | nil => cases h
  | cons n r =>
    have h' : (if 0 ≤ n ∧ n.toNat ≤ r.length then some (r.take n.toNat, r.drop n.toNat) else none) = some (x, s) := h
    clear h
    split at h'
    · rename_i q
      cases h'
      have e : (r.take n.toNat).length = n.toNat := by rw [List.length_take]; omega
      rw [e, List.take_append_drop]
      congr 1
      omega
    · cases h'

theorem one_of {l : List Int} {c : List (List Int)} {t : List Int} (h : PyFlat.call PyRc49.shape l = some (c, t)) : One l c t := by
  cases l with
  | nil => cases h
  | cons p r =>
    have h' : (match PyRc49.shape p with
      | none => none
      | some (n, k) => if r.length < n then none else match PyFlat.rows k (r.drop n) with
        | none => none
        | some (xs, t) => some ((p :: r.take n) :: xs, t)) = some (c, t) := h
    clear h
    rename _ => h
    by_cases h0 : p = 0
    · subst h0
      have e : PyRc49.shape 0 = some (0, 0) := rfl
      rw [e] at h
      simp [PyFlat.rows] at h
      obtain ⟨rfl, rfl⟩ := h
      exact .c0 _
    by_cases h1 : p = 1
    · subst h1
      have e : PyRc49.shape 1 = some (2, 0) := rfl
      rw [e] at h
      match r, h with
      | [], h => simp at h
      | [_], h => simp at h
      | a :: b :: t', h =>
        simp [PyFlat.rows] at h
        obtain ⟨rfl, rfl⟩ := h
        exact .c1 _ _ _
    by_cases h2 : p = 2
    · subst h2
      have e : PyRc49.shape 2 = some (2, 0) := rfl
      rw [e] at h
      match r, h with
      | [], h => simp at h
      | [_], h => simp at h
      | a :: b :: t', h =>
        simp [PyFlat.rows] at h
        obtain ⟨rfl, rfl⟩ := h
        exact .c2 _ _ _
    by_cases h3 : p = 3
    · subst h3
      have e : PyRc49.shape 3 = some (3, 0) := rfl
      rw [e] at h
      match r, h with
      | [], h => simp at h
      | [_], h => simp at h
      | [_, _], h => simp at h
      | a :: b :: c' :: t', h =>
        simp [PyFlat.rows] at h
        obtain ⟨rfl, rfl⟩ := h
        exact .c3 _ _ _ _
    by_cases h4 : p = 4
    · subst h4
      have e : PyRc49.shape 4 = some (3, 0) := rfl
      rw [e] at h
      match r, h with
      | [], h => simp at h
      | [_], h => simp at h
      | [_, _], h => simp at h
      | a :: b :: c' :: t', h =>
        simp [PyFlat.rows] at h
        obtain ⟨rfl, rfl⟩ := h
        exact .c4 _ _ _ _
    by_cases h5 : p = 5
    · subst h5
      have e : PyRc49.shape 5 = some (0, 1) := rfl
      rw [e] at h
      simp [PyFlat.rows] at h
      cases q : PyFlat.row r with
      | none => simp [q] at h
      | some y =>
        simp [q] at h
        obtain ⟨rfl, rfl⟩ := h
        rw [row_of q]
        exact .c5 _ _
    by_cases h6 : p = 6
    · subst h6
      have e : PyRc49.shape 6 = some (0, 1) := rfl
      rw [e] at h
      simp [PyFlat.rows] at h
      cases q : PyFlat.row r with
      | none => simp [q] at h
      | some y =>
        simp [q] at h
        obtain ⟨rfl, rfl⟩ := h
        rw [row_of q]
        exact .c6 _ _
    by_cases h7 : p = 7
    · subst h7
      have e : PyRc49.shape 7 = some (2, 1) := rfl
      rw [e] at h
      match r, h with
      | [], h => simp at h
      | [_], h => simp at h
      | a :: b :: r', h =>
        simp [PyFlat.rows] at h
        cases q : PyFlat.row r' with
        | none => simp [q] at h
        | some y =>
          simp [q] at h
          obtain ⟨rfl, rfl⟩ := h
          rw [row_of q]
          exact .c7 _ _ _ _
    by_cases h8 : p = 8
    · subst h8
      have e : PyRc49.shape 8 = some (1, 1) := rfl
      rw [e] at h
      match r, h with
      | [], h => simp at h
      | a :: r', h =>
        simp [PyFlat.rows] at h
        cases q : PyFlat.row r' with
        | none => simp [q] at h
        | some y =>
          simp [q] at h
          obtain ⟨rfl, rfl⟩ := h
          rw [row_of q]
          exact .c8 _ _ _
    · have e : PyRc49.shape p = none := by
        unfold PyRc49.shape
        simp [h0, h1, h2, h3, h4, h5, h6, h7, h8]
      rw [e] at h
      cases h

/-- the calls of a list, one behind another -/
inductive Many : List Int → List (List (List Int)) → Prop
  | nil : Many [] []
  | cons {l : List Int} {c : List (List Int)} {t : List Int} {cs : List (List (List Int))} : One l c t → Many t cs → Many l (c :: cs)

theorem many_of : ∀ (f : Nat) (l : List Int) (cs : List (List (List Int))), PyFlat.calls PyRc49.shape f l = some cs → Many l cs
  | _, [], cs, h => by
    unfold PyFlat.calls at h
    cases h
    exact .nil
  | 0, _ :: _, cs, h => by cases h
  | f + 1, p :: r, cs, h => by
    unfold PyFlat.calls at h
    split at h
    · cases h
    · rename_i c t q
      split at h
      · cases h
      · rename_i cs' q'
        cases h
        exact .cons (one_of q) (many_of f t cs' q')

theorem One.ne {l : List Int} {c : List (List Int)} {t : List Int} (h : One l c t) : l ≠ [] := by cases h <;> simp
theorem One.len {l : List Int} {c : List (List Int)} {t : List Int} (h : One l c t) : t.length < l.length := by
  cases h <;> simp <;> omega
theorem Many.head {l : List Int} {cs : List (List (List Int))} (h : Many l cs) (hl : l ≠ []) : ∃ c t cs', cs = c :: cs' ∧ One l c t ∧ Many t cs' := by
  cases h with
  | nil => exact absurd rfl hl
  | cons a b => exact ⟨_, _, _, rfl, a, b⟩

/-- what is told of a state and the calls that come -/
def due (s : Abs) (cs : List (List (List Int))) : List Int := PyFlat.told (PyFlat.played Rc49Neutral.step s (cs.map PyRc49.whole))
theorem due_nil (s : Abs) : due s [] = [] := rfl
theorem due_cons (s : Abs) (c : List (List Int)) (cs : List (List (List Int))) :
    due s (c :: cs) = (((Rc49Neutral.step s (PyRc49.whole c)).2.length : Int) :: (Rc49Neutral.step s (PyRc49.whole c)).2) ++ due (Rc49Neutral.step s (PyRc49.whole c)).1 cs := rfl

/-- the request: its calls, each as it is asked -/
theorem asked_of {l : List Int} (h : PyRc49.answers_asked l = true) : ∃ cs, Many l cs ∧ cs.length ≤ 400 ∧ (∀ c, c ∈ cs → Rc49Neutral.asked1 (PyRc49.whole c) = true) ∧ PyRc49.answers l = due {} cs := by
  unfold PyRc49.answers_asked at h
  cases q : PyRc49.calls l with
  | none => rw [q] at h; cases h
  | some ds =>
    rw [q] at h
    unfold PyRc49.calls at q
    cases q' : PyFlat.calls PyRc49.shape l.length l with
    | none => rw [q'] at q; cases q
    | some cs =>
      rw [q'] at q
      have q2 : ds = cs.map PyRc49.whole := (Option.some.inj q).symm
      subst q2
      simp only [Bool.and_eq_true] at h
      have h1 : cs.length ≤ 400 := by
        have := of_decide_eq_true h.1
        rw [List.length_map] at this
        exact this
      refine ⟨cs, many_of _ _ _ q', h1, fun c hc => ?_, ?_⟩
      · have h2 := h.2
        unfold Rc49Neutral.asked at h2
        rw [Bool.and_eq_true] at h2
        exact List.all_eq_true.mp h2.1 _ (List.mem_map_of_mem hc)
      · unfold PyRc49.answers PyRc49.calls
        rw [q']
        rfl
end Hs
end

section
set_option Elab.async false
namespace Hs
open Rc49

/-! ### B. A model by its rows -/
def goRow (m : Model) (i : Nat) : List Nat := (List.range m.states).map fun j => m.go i j
def showRow (m : Model) (i : Nat) : List Nat := (List.range m.signs).map fun j => m.show_ i j
theorem flat_eq {n a b i j : Nat} (hb : b < n) (hj : j < n) : a * n + b = i * n + j ↔ a = i ∧ b = j := by
  constructor
  · intro h
    have h1 : (a * n + b) / n = (i * n + j) / n := by rw [h]
    have h2 : (a * n + b) % n = (i * n + j) % n := by rw [h]
    rw [Nat.mul_comm a, Nat.mul_comm i, Nat.mul_add_div (by omega), Nat.mul_add_div (by omega), Nat.div_eq_of_lt hb, Nat.div_eq_of_lt hj] at h1
    rw [Nat.mul_comm a, Nat.mul_comm i, Nat.mul_add_mod, Nat.mul_add_mod, Nat.mod_eq_of_lt hb, Nat.mod_eq_of_lt hj] at h2
    omega
  · rintro ⟨rfl, rfl⟩
    rfl
theorem flat_lt {n k a b : Nat} (ha : a < k) (hb : b < n) : a * n + b < k * n := by
  have : (a + 1) * n ≤ k * n := Nat.mul_le_mul_right n ha
  rw [Nat.add_mul, Nat.one_mul] at this
  omega
theorem getD_set {l : List Nat} {i j w : Nat} (h : i < l.length) : (l.set i w).getD j 0 = if j = i then w else l.getD j 0 := by
  rw [List.getD_eq_getElem?_getD, List.getD_eq_getElem?_getD, List.getElem?_set]
  by_cases e : i = j
  · subst e
    simp [h]
  · rw [if_neg e, if_neg (fun q => e q.symm)]
theorem go_set {m : Model} {a b w i j : Nat} (hl : m.goes.length = m.states * m.states) (ha : a < m.states) (hb : b < m.states) (hj : j < m.states) :
    ({ m with goes := m.goes.set (a * m.states + b) w } : Model).go i j = if i = a ∧ j = b then w else m.go i j := by
  show (m.goes.set (a * m.states + b) w).getD (i * m.states + j) 0 = _
  rw [getD_set (by rw [hl]; exact flat_lt ha hb)]
  by_cases e : i = a ∧ j = b
  · rw [if_pos e, if_pos ((flat_eq hj hb).mpr e)]
  · rw [if_neg e, if_neg (fun q => e ((flat_eq hj hb).mp q))]
    rfl
theorem show_set {m : Model} {a b w i j : Nat} (hl : m.shows.length = m.states * m.signs) (ha : a < m.states) (hb : b < m.signs) (hj : j < m.signs) :
    ({ m with shows := m.shows.set (a * m.signs + b) w } : Model).show_ i j = if i = a ∧ j = b then w else m.show_ i j := by
  show (m.shows.set (a * m.signs + b) w).getD (i * m.signs + j) 0 = _
  rw [getD_set (by rw [hl]; exact flat_lt ha hb)]
  by_cases e : i = a ∧ j = b
  · rw [if_pos e, if_pos ((flat_eq hj hb).mpr e)]
  · rw [if_neg e, if_neg (fun q => e ((flat_eq hj hb).mp q))]
    rfl
theorem goRow_set {m : Model} {a b w i : Nat} (hl : m.goes.length = m.states * m.states) (ha : a < m.states) (hb : b < m.states) :
    goRow { m with goes := m.goes.set (a * m.states + b) w } i = if i = a then (goRow m a).set b w else goRow m i := by
  unfold goRow
  apply List.ext_getElem?
  intro j
  show (List.map _ (List.range m.states))[j]? = _
  by_cases hj : j < m.states
  · rw [List.getElem?_map, List.getElem?_range hj]
    show some (Model.go _ i j) = _
    rw [go_set hl ha hb hj]
    by_cases e : i = a
    · subst e
      rw [if_pos rfl, List.getElem?_set]
      by_cases e2 : b = j
      · subst e2
        simp [hb]
      · rw [if_neg e2, if_neg (fun q => e2 q.2.symm)]
        simp [hj]
    · rw [if_neg e, if_neg (fun q => e q.1)]
      simp [hj]
  · have hj' : m.states ≤ j := Nat.le_of_not_lt hj
    rw [List.getElem?_eq_none (by rw [List.length_map, List.length_range]; exact hj'), List.getElem?_eq_none (by split <;> simp <;> exact hj')]
theorem showRow_set {m : Model} {a b w i : Nat} (hl : m.shows.length = m.states * m.signs) (ha : a < m.states) (hb : b < m.signs) :
    showRow { m with shows := m.shows.set (a * m.signs + b) w } i = if i = a then (showRow m a).set b w else showRow m i := by
  unfold showRow
  apply List.ext_getElem?
  intro j
  show (List.map _ (List.range m.signs))[j]? = _
  by_cases hj : j < m.signs
  · rw [List.getElem?_map, List.getElem?_range hj]
    show some (Model.show_ _ i j) = _
    rw [show_set hl ha hb hj]
    by_cases e : i = a
    · subst e
      rw [if_pos rfl, List.getElem?_set]
      by_cases e2 : b = j
      · subst e2
        simp [hb]
      · rw [if_neg e2, if_neg (fun q => e2 q.2.symm)]
        simp [hj]
    · rw [if_neg e, if_neg (fun q => e q.1)]
      simp [hj]
  · have hj' : m.signs ≤ j := Nat.le_of_not_lt hj
    rw [List.getElem?_eq_none (by rw [List.length_map, List.length_range]; exact hj'), List.getElem?_eq_none (by split <;> simp <;> exact hj')]
theorem goRow_len (m : Model) (i : Nat) : (goRow m i).length = m.states := by simp [goRow]
theorem showRow_len (m : Model) (i : Nat) : (showRow m i).length = m.signs := by simp [showRow]

/-- Good models stay good -/
theorem getD_le {l : List Nat} {B : Nat} (h : ∀ w ∈ l, w ≤ B) (i : Nat) : l.getD i 0 ≤ B := by
  rw [List.getD_eq_getElem?_getD]
  cases e : l[i]? with
  | none => exact Nat.zero_le _
  | some x => exact h x (List.mem_of_getElem? e)
theorem Good_begin {m : Model} (g : m.Good) (s : Nat) : m.begin_ s ≤ 65535 := getD_le (fun w hw => g.2.2.2.2.2.2.2 w (List.mem_append_left _ hw)) s
theorem Good_go {m : Model} (g : m.Good) (a b : Nat) : m.go a b ≤ 65535 := getD_le (fun w hw => g.2.2.2.2.2.2.2 w (List.mem_append_right _ (List.mem_append_left _ hw))) _
theorem Good_show {m : Model} (g : m.Good) (a b : Nat) : m.show_ a b ≤ 65535 := getD_le (fun w hw => g.2.2.2.2.2.2.2 w (List.mem_append_right _ (List.mem_append_right _ hw))) _
theorem mem_set {l : List Nat} {i v w : Nat} (h : w ∈ l.set i v) : w ∈ l ∨ w = v := List.mem_or_eq_of_mem_set h
theorem Good_new {n k : Nat} (h1 : 1 ≤ n) (h2 : n ≤ 16) (h3 : 1 ≤ k) (h4 : k ≤ 16) : (⟨n, k, List.replicate n 0, List.replicate (n * n) 0, List.replicate (n * k) 0⟩ : Model).Good := by
  refine ⟨h1, h2, h3, h4, by simp, by simp, by simp, fun w hw => ?_⟩
  simp only [List.mem_append] at hw
  rcases hw with hw | hw | hw <;> (rw [(List.mem_replicate.mp hw).2]; exact Nat.zero_le _)
theorem Good_b {m : Model} (g : m.Good) {a w : Nat} (hw : w ≤ 65535) : ({ m with begins := m.begins.set a w } : Model).Good := by
  obtain ⟨a1, a2, a3, a4, a5, a6, a7, a8⟩ := g
  refine ⟨a1, a2, a3, a4, by simpa using a5, a6, a7, fun x hx => ?_⟩
  rcases List.mem_append.mp hx with q | q
  · rcases mem_set q with q | q
    · exact a8 x (List.mem_append_left _ q)
    · omega
  · exact a8 x (List.mem_append_right _ q)
theorem Good_g {m : Model} (g : m.Good) {a w : Nat} (hw : w ≤ 65535) : ({ m with goes := m.goes.set a w } : Model).Good := by
  obtain ⟨a1, a2, a3, a4, a5, a6, a7, a8⟩ := g
  refine ⟨a1, a2, a3, a4, a5, by simpa using a6, a7, fun x hx => ?_⟩
  rcases List.mem_append.mp hx with q | q
  · exact a8 x (List.mem_append_left _ q)
  · rcases List.mem_append.mp q with q | q
    · rcases mem_set q with q | q
      · exact a8 x (List.mem_append_right _ (List.mem_append_left _ q))
      · omega
    · exact a8 x (List.mem_append_right _ (List.mem_append_right _ q))
theorem Good_s {m : Model} (g : m.Good) {a w : Nat} (hw : w ≤ 65535) : ({ m with shows := m.shows.set a w } : Model).Good := by
  obtain ⟨a1, a2, a3, a4, a5, a6, a7, a8⟩ := g
  refine ⟨a1, a2, a3, a4, a5, a6, by simpa using a7, fun x hx => ?_⟩
  rcases List.mem_append.mp hx with q | q
  · exact a8 x (List.mem_append_left _ q)
  · rcases List.mem_append.mp q with q | q
    · exact a8 x (List.mem_append_right _ (List.mem_append_left _ q))
    · rcases mem_set q with q | q
      · exact a8 x (List.mem_append_right _ (List.mem_append_right _ q))
      · omega

/-! ### C. Sums -/
/-- the sums by the last state -/
def fwd (m : Model) : List Nat → List Nat
  | [] => []
  | o :: r => r.foldl (further m) (first m o)
theorem further_len (m : Model) (x : List Nat) (o : Nat) : (further m x o).length = m.states := by simp [further]
theorem first_len (m : Model) (o : Nat) : (first m o).length = m.states := by simp [first]
theorem fold_len (m : Model) : ∀ (l x : List Nat), x.length = m.states → (l.foldl (further m) x).length = m.states
  | [], _, h => h
  | o :: l, x, _ => fold_len m l _ (further_len m x o)
theorem fwd_len (m : Model) (o : Nat) (r : List Nat) : (fwd m (o :: r)).length = m.states := fold_len m r _ (first_len m o)
theorem fwd_snoc (m : Model) (o : Nat) (r : List Nat) (x : Nat) : fwd m ((o :: r) ++ [x]) = further m (fwd m (o :: r)) x := by
  show (r ++ [x]).foldl (further m) (first m o) = _
  rw [List.foldl_append]
  rfl
theorem kept_ne {k a i : Nat} (h : i ≠ k) (l : List Nat) : kept k a i l = l := by unfold kept; rw [if_neg h]
theorem kept_len (k a i : Nat) (l : List Nat) : (kept k a i l).length = l.length := by
  unfold kept
  split <;> simp
theorem fold_free (m : Model) (k a : Nat) : ∀ (l x : List Nat) (i : Nat), i + l.length < k → 
    (l.zipIdx i).foldl (fun (x : List Nat) (y : Nat × Nat) => kept k a (y.2 + 1) (further m x y.1)) x = l.foldl (further m) x
  | [], _, _, _ => rfl
  | o :: l, x, i, h => by
    rw [List.length_cons] at h
    rw [List.zipIdx_cons, List.foldl_cons, List.foldl_cons]
    show List.foldl _ (kept k a (i + 1) (further m x o)) _ = _
    rw [kept_ne (by omega)]
    exact fold_free m k a l _ (i + 1) (by omega)
theorem totalOf_eq (m : Model) (o : Nat) (r : List Nat) : totalOf m (o :: r) = (fwd m (o :: r)).sum := by
  show (List.foldl _ (kept (o :: r).length 0 0 (first m o)) _).sum = _
  rw [kept_ne (by simp), fold_free m _ _ r _ 0 (by simp)]
  rfl
/-- the sums by the last state, of those with the state at the place -/
def fwdK (m : Model) (k a : Nat) : List Nat → List Nat
  | [] => []
  | o :: r => r.zipIdx.foldl (fun (x : List Nat) (y : Nat × Nat) => kept k a (y.2 + 1) (further m x y.1)) (kept k a 0 (first m o))
theorem sumOf_eq (m : Model) (k a o : Nat) (r : List Nat) : sumOf m (o :: r) k a = (fwdK m k a (o :: r)).sum := rfl
theorem fwdK_snoc (m : Model) (k a o : Nat) (r : List Nat) (x : Nat) : fwdK m k a ((o :: r) ++ [x]) = kept k a (o :: r).length (further m (fwdK m k a (o :: r)) x) := by
  show List.foldl _ _ (r ++ [x]).zipIdx = _
  rw [List.zipIdx_append, List.foldl_append]
  show kept k a ((0 + r.length) + 1) _ = _
  rw [Nat.zero_add]
  rfl
theorem sum_le_mul {l : List Nat} {B : Nat} (h : ∀ x ∈ l, x ≤ B) : l.sum ≤ l.length * B := by
  induction l with
  | nil => simp
  | cons a l ih =>
    have h1 := h a (List.mem_cons_self ..)
    have h2 := ih (fun x hx => h x (List.mem_cons_of_mem _ hx))
    rw [List.sum_cons, List.length_cons, Nat.add_mul]
    omega
theorem sum_map_le {α : Type} {l : List α} {f g : α → Nat} (h : ∀ x ∈ l, f x ≤ g x) : (l.map f).sum ≤ (l.map g).sum := by
  induction l with
  | nil => simp
  | cons a l ih =>
    have h1 := h a (List.mem_cons_self ..)
    have h2 := ih (fun x hx => h x (List.mem_cons_of_mem _ hx))
    rw [List.map_cons, List.map_cons, List.sum_cons, List.sum_cons]
    omega
theorem sum_map_mul {α : Type} (l : List α) (f : α → Nat) (c : Nat) : (l.map fun x => f x * c).sum = (l.map f).sum * c := by
  induction l with
  | nil => simp
  | cons a l ih => rw [List.map_cons, List.map_cons, List.sum_cons, List.sum_cons, ih, Nat.add_mul]
theorem sum_range_getD : ∀ (x : List Nat), ((List.range x.length).map fun s => x.getD s 0).sum = x.sum
  | [] => rfl
  | a :: x => by
    rw [List.length_cons, List.range_succ_eq_map, List.map_cons, List.sum_cons, List.sum_cons, List.map_map]
    have ih := sum_range_getD x
    rw [← ih]
    rfl
theorem first_sum {m : Model} (g : m.Good) (o : Nat) : (first m o).sum ≤ 2 ^ 36 := by
  have h : ∀ x ∈ first m o, x ≤ 2 ^ 32 := fun x hx => by
    unfold first at hx
    obtain ⟨s, _, rfl⟩ := List.mem_map.mp hx
    exact Nat.le_trans (Nat.mul_le_mul (Good_begin g s) (Good_show g s o)) (by decide)
  have h1 := sum_le_mul h
  rw [first_len] at h1
  exact Nat.le_trans h1 (Nat.le_trans (Nat.mul_le_mul_right _ g.2.1) (by decide))
theorem further_sum {m : Model} (g : m.Good) (x : List Nat) (hx : x.length = m.states) (o : Nat) : (further m x o).sum ≤ x.sum * 2 ^ 36 := by
  have h : ∀ y ∈ further m x o, y ≤ x.sum * 2 ^ 32 := fun y hy => by
    unfold further at hy
    obtain ⟨b, _, rfl⟩ := List.mem_map.mp hy
    have h1 : ((List.range m.states).map fun (s : Nat) => x.getD s 0 * m.go s b).sum ≤ x.sum * 65535 := by
      refine Nat.le_trans (sum_map_le (g := fun s => x.getD s 0 * 65535) fun s _ => Nat.mul_le_mul_left _ (Good_go g s b)) ?_
      rw [sum_map_mul, ← hx, sum_range_getD]
      exact Nat.le_refl _
    refine Nat.le_trans (Nat.mul_le_mul h1 (Good_show g b o)) ?_
    rw [Nat.mul_assoc]
    exact Nat.mul_le_mul_left _ (by decide)
  have h1 := sum_le_mul h
  rw [further_len] at h1
  refine Nat.le_trans h1 (Nat.le_trans (Nat.mul_le_mul_right _ g.2.1) ?_)
  rw [Nat.mul_comm 16, Nat.mul_assoc]
  exact Nat.mul_le_mul_left _ (by decide)
theorem fold_sum {m : Model} (g : m.Good) : ∀ (l x : List Nat), x.length = m.states → (l.foldl (further m) x).sum ≤ x.sum * 2 ^ (36 * l.length)
  | [], x, _ => by simp
  | o :: l, x, h => by
    refine Nat.le_trans (fold_sum g l _ (further_len m x o)) (Nat.le_trans (Nat.mul_le_mul_right _ (further_sum g x h o)) ?_)
    rw [Nat.mul_assoc, ← Nat.pow_add, List.length_cons]
    rw [show 36 + 36 * l.length = 36 * (l.length + 1) by omega]
    exact Nat.le_refl _
theorem fwd_sum {m : Model} (g : m.Good) : ∀ (l : List Nat), (fwd m l).sum ≤ 2 ^ (36 * l.length)
  | [] => by simp [fwd]
  | o :: r => by
    refine Nat.le_trans (fold_sum g r _ (first_len m o)) (Nat.le_trans (Nat.mul_le_mul_right _ (first_sum g o)) ?_)
    rw [← Nat.pow_add, List.length_cons, show 36 + 36 * r.length = 36 * (r.length + 1) by omega]
    exact Nat.le_refl _
theorem total_le {m : Model} (g : m.Good) {l : List Nat} (hl : l.length ≤ 65) (h0 : l ≠ []) : totalOf m l ≤ 2 ^ 2340 := by
  cases l with
  | nil => exact absurd rfl h0
  | cons o r =>
    rw [totalOf_eq]
    exact Nat.le_trans (fwd_sum g _) (Nat.pow_le_pow_right (by decide) (by omega))
theorem fit : FitLaw := by
  intro m l g hl
  by_cases h0 : l = []
  · subst h0
    show 1 < 256 ^ BIG
    exact Nat.one_lt_pow (by decide) (by decide)
  · refine Nat.lt_of_le_of_lt (total_le g hl h0) ?_
    rw [show (256 : Nat) ^ BIG = 2 ^ 2560 by rw [show (256 : Nat) = 2 ^ 8 by decide, ← Nat.pow_mul]; rfl]
    exact Nat.pow_lt_pow_right (by decide) (by decide)
theorem mem_le_sum {l : List Nat} {x : Nat} (h : x ∈ l) : x ≤ l.sum := by
  induction l with
  | nil => cases h
  | cons a l ih =>
    rw [List.sum_cons]
    rcases List.mem_cons.mp h with q | q
    · omega
    · have := ih q
      omega
theorem getD_le_sum (l : List Nat) (i : Nat) : l.getD i 0 ≤ l.sum := by
  rw [List.getD_eq_getElem?_getD]
  cases e : l[i]? with
  | none => exact Nat.zero_le _
  | some x => exact mem_le_sum (List.mem_of_getElem? e)
/-- kept only lessens -/
theorem kept_le : ∀ (k a i : Nat) (l : List Nat) (j : Nat), (kept k a i l).getD j 0 ≤ l.getD j 0 := by
  intro k a i l j
  unfold kept
  split
  · rw [List.getD_eq_getElem?_getD, List.getD_eq_getElem?_getD, List.getElem?_map, List.getElem?_zipIdx]
    cases l[j]? with
    | none => simp
    | some x =>
      simp
      split <;> omega
  · exact Nat.le_refl _
end Hs
end

section
set_option Elab.async false
namespace Hs
open Rc49

/-! ### D. Sums over numbered things -/
def S (n : Nat) (f : Nat → Nat) : Nat := ((List.range n).map f).sum
theorem S_zero (f : Nat → Nat) : S 0 f = 0 := rfl
theorem S_succ (n : Nat) (f : Nat → Nat) : S (n + 1) f = S n f + f n := by
  unfold S
  rw [List.range_succ, List.map_append, List.sum_append]
  simp
theorem S_congr {n : Nat} {f g : Nat → Nat} (h : ∀ i, i < n → f i = g i) : S n f = S n g := by
  unfold S
  congr 1
  exact List.map_congr_left fun i hi => h i (List.mem_range.mp hi)
theorem S_add (n : Nat) (f g : Nat → Nat) : S n (fun i => f i + g i) = S n f + S n g := by
  induction n with
  | zero => rfl
  | succ n ih => rw [S_succ, S_succ, S_succ, ih]; omega
theorem S_mul_right (n : Nat) (f : Nat → Nat) (c : Nat) : S n (fun i => f i * c) = S n f * c := by
  induction n with
  | zero => simp [S_zero]
  | succ n ih => rw [S_succ, S_succ, ih, Nat.add_mul]
theorem S_mul_left (n : Nat) (f : Nat → Nat) (c : Nat) : S n (fun i => c * f i) = c * S n f := by
  induction n with
  | zero => simp [S_zero]
  | succ n ih => rw [S_succ, S_succ, ih, Nat.mul_add]
theorem S_swap (n k : Nat) (f : Nat → Nat → Nat) : S n (fun i => S k (fun j => f i j)) = S k (fun j => S n (fun i => f i j)) := by
  induction n with
  | zero =>
    rw [S_zero]
    induction k with
    | zero => rfl
    | succ k ih => rw [S_succ, ← ih]; rfl
  | succ n ih =>
    rw [S_succ, ih, ← S_add]
    exact S_congr fun j _ => (S_succ n fun i => f i j).symm
theorem S_one {n a : Nat} (h : a < n) (f : Nat → Nat) : S n (fun i => if i = a then f i else 0) = f a := by
  induction n with
  | zero => omega
  | succ n ih =>
    rw [S_succ]
    by_cases e : a = n
    · subst e
      rw [if_pos rfl, S_congr (g := fun _ => 0) fun i hi => if_neg (by omega)]
      have z : ∀ k, S k (fun _ => 0) = 0 := fun k => by
        induction k with
        | zero => rfl
        | succ k ih => rw [S_succ, ih]
      rw [z]; omega
    · rw [ih (by omega), if_neg (fun q => e q.symm)]; omega
theorem S_le {n : Nat} {f : Nat → Nat} {B : Nat} (h : ∀ i, i < n → f i ≤ B) : S n f ≤ n * B := by
  induction n with
  | zero => simp [S_zero]
  | succ n ih =>
    have h1 := ih fun i hi => h i (by omega)
    have h2 := h n (by omega)
    rw [S_succ, Nat.add_mul]
    omega
theorem S_eq_zero {n : Nat} {f : Nat → Nat} : S n f = 0 ↔ ∀ i, i < n → f i = 0 := by
  induction n with
  | zero => simp [S_zero]
  | succ n ih =>
    rw [S_succ]
    constructor
    · intro h i hi
      have h1 := ih.mp (by omega)
      by_cases e : i = n
      · subst e; omega
      · exact h1 i (by omega)
    · intro h
      have h1 := ih.mpr fun i hi => h i (by omega)
      have h2 := h n (by omega)
      omega
theorem getD_map_range {n i : Nat} (f : Nat → Nat) (h : i < n) : ((List.range n).map f).getD i 0 = f i := by
  rw [List.getD_eq_getElem?_getD, List.getElem?_map, List.getElem?_range h]
  rfl
theorem sum_eq_S {x : List Nat} {n : Nat} (h : x.length = n) : x.sum = S n fun s => x.getD s 0 := by
  subst h
  exact (sum_range_getD x).symm

/-! ### E. The mirror of ways.py -/
def shown (m : Model) (x : List Nat) (o : Nat) : List Nat := (List.range m.states).map fun s => x.getD s 0 * m.show_ s o
def reached (m : Model) (x : List Nat) : List Nat := (List.range m.states).map fun b => S m.states fun s => x.getD s 0 * m.go s b
def stepsFrom (m : Model) (a : Nat) (x : List Nat) : List Nat := (List.range m.states).map fun b => m.go a b * x.getD b 0
def left (m : Model) (x : List Nat) : List Nat := (List.range m.states).map fun a => (stepsFrom m a x).sum
def bwd (m : Model) : List Nat → List Nat
  | [] => List.replicate m.states 1
  | o :: l => left m (shown m (bwd m l) o)
def weightsAt (m : Model) (l : List Nat) (k : Nat) : List Nat := (List.range m.states).map fun s => (fwd m (l.take (k + 1))).getD s 0 * (bwd m (l.drop (k + 1))).getD s 0
def nextW (m : Model) (l : List Nat) : List Nat := (List.range m.signs).map fun x => (shown m (reached m (fwd m l)) x).sum

theorem shown_len (m : Model) (x : List Nat) (o : Nat) : (shown m x o).length = m.states := by simp [shown]
theorem reached_len (m : Model) (x : List Nat) : (reached m x).length = m.states := by simp [reached]
theorem stepsFrom_len (m : Model) (a : Nat) (x : List Nat) : (stepsFrom m a x).length = m.states := by simp [stepsFrom]
theorem left_len (m : Model) (x : List Nat) : (left m x).length = m.states := by simp [left]
theorem bwd_len (m : Model) : ∀ l : List Nat, (bwd m l).length = m.states
  | [] => by simp [bwd]
  | o :: l => left_len m _
theorem further_eq (m : Model) (x : List Nat) (o : Nat) : further m x o = shown m (reached m x) o := by
  unfold further shown
  refine List.map_congr_left fun b hb => ?_
  rw [show (reached m x).getD b 0 = _ from getD_map_range _ (List.mem_range.mp hb)]
  rfl
theorem first_eq (m : Model) (o : Nat) : first m o = shown m m.begins o := rfl
theorem stepsFrom_sum (m : Model) (a : Nat) (x : List Nat) : (stepsFrom m a x).sum = S m.states fun b => m.go a b * x.getD b 0 := rfl
theorem fwd_cons (m : Model) (o : Nat) (r : List Nat) : fwd m (o :: r) = r.foldl (fun x o => shown m (reached m x) o) (shown m m.begins o) := by
  show r.foldl (further m) (first m o) = _
  have e : further m = fun x o => shown m (reached m x) o := by
    funext x o
    exact further_eq m x o
  rw [e]
  rfl
theorem fold_dot (m : Model) : ∀ (l x : List Nat), x.length = m.states → (l.foldl (further m) x).sum = S m.states fun s => x.getD s 0 * (bwd m l).getD s 0
  | [], x, h => by
    show x.sum = _
    rw [sum_eq_S h]
    refine S_congr fun i hi => ?_
    show _ = _ * (List.replicate m.states 1).getD i 0
    rw [List.getD_eq_getElem?_getD (l := List.replicate _ _), List.getElem?_replicate, if_pos hi]
    exact (Nat.mul_one _).symm
  | o :: l, x, h => by
    show (l.foldl (further m) (further m x o)).sum = _
    rw [fold_dot m l _ (further_len m x o), further_eq]
    have e1 : (S m.states fun s => (shown m (reached m x) o).getD s 0 * (bwd m l).getD s 0) = S m.states fun b => S m.states fun s => x.getD s 0 * (m.go s b * (shown m (bwd m l) o).getD b 0) := by
      refine S_congr fun b hb => ?_
      rw [show (shown m (reached m x) o).getD b 0 = _ from getD_map_range _ hb, show (reached m x).getD b 0 = _ from getD_map_range _ hb, show (shown m (bwd m l) o).getD b 0 = _ from getD_map_range _ hb, ← S_mul_right, ← S_mul_right]
      refine S_congr fun s _ => ?_
      rw [Nat.mul_assoc, Nat.mul_assoc, Nat.mul_comm (m.show_ b o)]
    rw [e1, S_swap]
    refine S_congr fun s hs => ?_
    rw [show (bwd m (o :: l)).getD s 0 = _ from getD_map_range _ hs, stepsFrom_sum, ← S_mul_left]

theorem kept_self {k a : Nat} (x : List Nat) (s : Nat) : (kept k a k x).getD s 0 = if s = a then x.getD s 0 else 0 := by
  unfold kept
  rw [if_pos rfl, List.getD_eq_getElem?_getD, List.getD_eq_getElem?_getD, List.getElem?_map, List.getElem?_zipIdx]
  cases x[s]? with
  | none => simp
  | some y =>
    simp
theorem fold_after (m : Model) (k a : Nat) : ∀ (l x : List Nat) (i : Nat), k ≤ i →
    (l.zipIdx i).foldl (fun (x : List Nat) (y : Nat × Nat) => kept k a (y.2 + 1) (further m x y.1)) x = l.foldl (further m) x
  | [], _, _, _ => rfl
  | o :: l, x, i, h => by
    rw [List.zipIdx_cons, List.foldl_cons, List.foldl_cons]
    show List.foldl _ (kept k a (i + 1) (further m x o)) _ = _
    rw [kept_ne (by omega)]
    exact fold_after m k a l _ (i + 1) (by omega)
theorem fold_mid (m : Model) (k a : Nat) : ∀ (l x : List Nat) (i : Nat), i < k → k ≤ i + l.length →
    (l.zipIdx i).foldl (fun (x : List Nat) (y : Nat × Nat) => kept k a (y.2 + 1) (further m x y.1)) x = (l.drop (k - i)).foldl (further m) (kept k a k ((l.take (k - i)).foldl (further m) x))
  | [], _, _, h1, h2 => by simp at h2; omega
  | o :: l, x, i, h1, h2 => by
    rw [List.length_cons] at h2
    rw [List.zipIdx_cons, List.foldl_cons]
    show List.foldl _ (kept k a (i + 1) (further m x o)) _ = _
    obtain ⟨j, hj⟩ : ∃ j, k - i = j + 1 := ⟨k - i - 1, by omega⟩
    rw [hj, List.drop_succ_cons, List.take_succ_cons, List.foldl_cons]
    by_cases e : i + 1 = k
    · have hj0 : j = 0 := by omega
      subst hj0
      rw [fold_after m k a l _ (i + 1) (by omega), e, List.drop_zero, List.take_zero]
      rfl
    · rw [kept_ne e, fold_mid m k a l _ (i + 1) (by omega) (by omega), show k - (i + 1) = j by omega]
theorem fwdK_eq (m : Model) (k a o : Nat) (r : List Nat) (h : k ≤ r.length) : fwdK m k a (o :: r) = (r.drop k).foldl (further m) (kept k a k (fwd m (o :: r.take k))) := by
  show (r.zipIdx 0).foldl _ (kept k a 0 (first m o)) = _
  by_cases e : k = 0
  · subst e
    rw [fold_after m 0 a r _ 0 (by omega)]
    rfl
  · rw [kept_ne (by omega), fold_mid m k a r _ 0 (by omega) (by omega), Nat.sub_zero]
    rfl
theorem weightsAt_len (m : Model) (l : List Nat) (k : Nat) : (weightsAt m l k).length = m.states := by simp [weightsAt]
theorem weightsAt_sum (m : Model) (o : Nat) (r : List Nat) {k : Nat} (_ : k ≤ r.length) : (weightsAt m (o :: r) k).sum = totalOf m (o :: r) := by
  rw [totalOf_eq]
  have e : fwd m (o :: r) = (r.drop k).foldl (further m) (fwd m (o :: r.take k)) := by
    show r.foldl (further m) (first m o) = (r.drop k).foldl (further m) ((r.take k).foldl (further m) (first m o))
    rw [← List.foldl_append, List.take_append_drop]
  rw [e, fold_dot m _ _ (fwd_len m o _)]
  rfl
theorem weightsAt_one (m : Model) (o : Nat) (r : List Nat) {k a : Nat} (h : k ≤ r.length) (ha : a < m.states) : (weightsAt m (o :: r) k).getD a 0 = sumOf m (o :: r) k a := by
  rw [sumOf_eq, fwdK_eq m k a o r h, fold_dot m _ _ (by rw [kept_len]; exact fwd_len m o _)]
  rw [show (weightsAt m (o :: r) k).getD a 0 = _ from getD_map_range _ ha]
  have e : (S m.states fun s => (kept k a k (fwd m (o :: r.take k))).getD s 0 * (bwd m (r.drop k)).getD s 0) = S m.states fun s => if s = a then (fwd m (o :: r.take k)).getD s 0 * (bwd m (r.drop k)).getD s 0 else 0 := by
    refine S_congr fun s _ => ?_
    rw [kept_self]
    split
    · rfl
    · exact Nat.zero_mul _
  rw [e, S_one ha]
  rfl
theorem nextW_len (m : Model) (l : List Nat) : (nextW m l).length = m.signs := by simp [nextW]
theorem nextW_at (m : Model) (o : Nat) (r : List Nat) (x : Nat) : (shown m (reached m (fwd m (o :: r))) x).sum = totalOf m ((o :: r) ++ [x]) := by
  show _ = totalOf m (o :: (r ++ [x]))
  rw [totalOf_eq, ← further_eq, ← fwd_snoc]
  rfl
theorem nextW_eq (m : Model) (o : Nat) (r : List Nat) : nextW m (o :: r) = (List.range m.signs).map fun x => totalOf m ((o :: r) ++ [x]) :=
  List.map_congr_left fun x _ => nextW_at m o r x

/-! ### bounds -/
theorem shown_le {m : Model} (g : m.Good) {x : List Nat} {B : Nat} (h : ∀ s, x.getD s 0 ≤ B) (o s : Nat) : (shown m x o).getD s 0 ≤ B * 65535 := by
  by_cases hs : s < m.states
  · rw [show (shown m x o).getD s 0 = _ from getD_map_range _ hs]
    exact Nat.mul_le_mul (h s) (Good_show g s o)
  · rw [List.getD_eq_getElem?_getD, List.getElem?_eq_none (by rw [shown_len]; omega)]
    exact Nat.zero_le _
theorem left_le {m : Model} (g : m.Good) {x : List Nat} {B : Nat} (h : ∀ s, x.getD s 0 ≤ B) (s : Nat) : (left m x).getD s 0 ≤ 16 * (65535 * B) := by
  by_cases hs : s < m.states
  · rw [show (left m x).getD s 0 = _ from getD_map_range _ hs, stepsFrom_sum]
    exact Nat.le_trans (S_le fun b _ => Nat.mul_le_mul (Good_go g s b) (h b)) (Nat.mul_le_mul_right _ g.2.1)
  · rw [List.getD_eq_getElem?_getD, List.getElem?_eq_none (by rw [left_len]; omega)]
    exact Nat.zero_le _
theorem bwd_le {m : Model} (g : m.Good) : ∀ (l : List Nat) (s : Nat), (bwd m l).getD s 0 ≤ 2 ^ (36 * l.length)
  | [], s => by
    show (List.replicate m.states 1).getD s 0 ≤ 1
    rw [List.getD_eq_getElem?_getD, List.getElem?_replicate]
    split <;> simp
  | o :: l, s => by
    refine Nat.le_trans (left_le g (shown_le g (bwd_le g l) o) s) ?_
    rw [List.length_cons, Nat.mul_add, Nat.pow_add]
    generalize 2 ^ (36 * l.length) = P
    have e : (2 : Nat) ^ (36 * 1) = 68719476736 := by decide
    rw [e]
    omega

/-! ### F. The best way -/
theorem foldl_max_ge : ∀ (l : List Nat) (a : Nat), a ≤ l.foldl max a ∧ ∀ x ∈ l, x ≤ l.foldl max a
  | [], a => ⟨Nat.le_refl _, by simp⟩
  | y :: l, a => by
    obtain ⟨h1, h2⟩ := foldl_max_ge l (max a y)
    rw [List.foldl_cons]
    refine ⟨by omega, fun x hx => ?_⟩
    rcases List.mem_cons.mp hx with e | e
    · omega
    · exact h2 x e
theorem foldl_max_mem : ∀ (l : List Nat) (a : Nat), l.foldl max a = a ∨ l.foldl max a ∈ l
  | [], a => .inl rfl
  | y :: l, a => by
    rw [List.foldl_cons]
    rcases foldl_max_mem l (max a y) with h | h
    · rw [h]
      by_cases e : a ≤ y
      · right
        rw [Nat.max_eq_right e]
        exact List.mem_cons_self ..
      · left
        omega
    · exact .inr (List.mem_cons_of_mem _ h)
theorem max_is {l : List Nat} {x : Nat} (h : x ∈ l) (hb : ∀ y ∈ l, y ≤ x) : l.foldl max 0 = x := by
  obtain ⟨_, h2⟩ := foldl_max_ge l 0
  have h3 := h2 x h
  rcases foldl_max_mem l 0 with e | e
  · omega
  · have := hb _ e
    omega
theorem max_zero {l : List Nat} : l.foldl max 0 = 0 ↔ ∀ x ∈ l, x = 0 := by
  obtain ⟨_, h2⟩ := foldl_max_ge l 0
  constructor
  · intro h x hx
    have := h2 x hx
    omega
  · intro h
    rcases foldl_max_mem l 0 with e | e
    · exact e
    · exact h _ e
/-- the first place of the greatest, by what it is -/
theorem greatest_is {l : List Nat} {j x : Nat} (hj : l[j]? = some x) (hx : l.foldl max 0 = x) (hno : ∀ (i y : Nat), i < j → l[i]? = some y → y ≠ x) : greatest l = j := by
  unfold greatest
  rw [hx]
  obtain ⟨hl, e⟩ := List.getElem?_eq_some_iff.mp hj
  have h : l.findIdx? (fun y => y == x) = some j := by
    rw [List.findIdx?_eq_some_iff_getElem]
    refine ⟨hl, by simp [e], fun i hi => ?_⟩
    have := hno i _ hi (List.getElem?_eq_getElem (by omega))
    simpa using this
  rw [h]
  rfl
theorem exists_first {l : List Nat} {x : Nat} (h : x ∈ l) : ∃ j : Nat, l[j]? = some x ∧ ∀ (i y : Nat), i < j → l[i]? = some y → y ≠ x := by
  induction l with
  | nil => cases h
  | cons a l ih =>
    by_cases e : a = x
    · exact ⟨0, by simp [e], fun i y hi => by omega⟩
    · rcases List.mem_cons.mp h with q | q
      · exact absurd q.symm e
      · obtain ⟨j, h1, h2⟩ := ih q
        refine ⟨j + 1, by simpa using h1, fun i y hi hy => ?_⟩
        cases i with
        | zero =>
          simp at hy
          omega
        | succ i => exact h2 i y (by omega) (by simpa using hy)
/-- what a state at the head of the rest is worth -/
def choices (m : Model) (lead : List Nat) (o : Nat) (r : List Nat) : List Nat := (List.range m.states).map fun s => lead.getD s 0 * (shown m (ahead m r) o).getD s 0
theorem choices_len (m : Model) (lead : List Nat) (o : Nat) (r : List Nat) : (choices m lead o r).length = m.states := by simp [choices]
theorem choices_eq (m : Model) (lead : List Nat) (o : Nat) (r : List Nat) : choices m lead o r = (List.range m.states).map fun s => lead.getD s 0 * m.show_ s o * (ahead m r).getD s 0 := by
  refine List.map_congr_left fun s hs => ?_
  rw [show (shown m (ahead m r) o).getD s 0 = _ from getD_map_range _ (List.mem_range.mp hs), Nat.mul_assoc, Nat.mul_comm (m.show_ s o)]
def bw (m : Model) : List Nat → List Nat → List Nat
  | _, [] => []
  | lead, o :: r => greatest (choices m lead o r) :: bw m (goRow m (greatest (choices m lead o r))) r
theorem goRow_at (m : Model) (a : Nat) {b : Nat} (h : b < m.states) : (goRow m a).getD b 0 = m.go a b := getD_map_range _ h
theorem choices_go (m : Model) (a o : Nat) (r : List Nat) : choices m (goRow m a) o r = (List.range m.states).map fun (b : Nat) => m.go a b * m.show_ b o * (ahead m r).getD b 0 := by
  rw [choices_eq]
  exact List.map_congr_left fun b hb => by rw [goRow_at m a (List.mem_range.mp hb)]
theorem onTo_eq (m : Model) : ∀ (l : List Nat) (s : Nat), onTo m s l = bw m (goRow m s) l
  | [], _ => rfl
  | o :: l, s => by
    unfold onTo bw
    simp only [choices_go]
    rw [onTo_eq m l]
theorem bestOf_eq (m : Model) : ∀ (l : List Nat), bestOf m l = bw m m.begins l
  | [] => rfl
  | o :: r => by
    have e : choices m m.begins o r = (List.range m.states).map fun (s : Nat) => m.begin_ s * m.show_ s o * (ahead m r).getD s 0 := choices_eq m m.begins o r
    unfold bestOf bw
    simp only [e]
    rw [onTo_eq]
theorem bw_len (m : Model) : ∀ (l lead : List Nat), (bw m lead l).length = l.length
  | [], _ => rfl
  | o :: r, lead => by
    show (bw m _ r).length + 1 = r.length + 1
    rw [bw_len m r]
theorem ahead_len (m : Model) : ∀ l : List Nat, (ahead m l).length = m.states
  | [] => by simp [ahead]
  | o :: l => by simp [ahead]
theorem ahead_at (m : Model) (o : Nat) (r : List Nat) {s : Nat} (h : s < m.states) : (ahead m (o :: r)).getD s 0 = (choices m (goRow m s) o r).foldl max 0 := by
  rw [choices_go]
  exact getD_map_range _ h
/-- as the program reckons it -/
theorem choices_steps (m : Model) (a o : Nat) (r : List Nat) : stepsFrom m a (shown m (ahead m r) o) = choices m (goRow m a) o r :=
  List.map_congr_left fun b hb => by rw [goRow_at m a (List.mem_range.mp hb)]
theorem bwd_zero (m : Model) : ∀ (l : List Nat) (s : Nat), s < m.states → ((bwd m l).getD s 0 = 0 ↔ (ahead m l).getD s 0 = 0)
  | [], s, h => Iff.rfl
  | o :: l, s, h => by
    rw [ahead_at m o l h, max_zero, show (bwd m (o :: l)).getD s 0 = _ from getD_map_range _ h, stepsFrom_sum, S_eq_zero, choices_go]
    constructor
    · intro q x hx
      obtain ⟨b, hb, rfl⟩ := List.mem_map.mp hx
      have hb := List.mem_range.mp hb
      have e := q b hb
      rw [show (shown m (bwd m l) o).getD b 0 = _ from getD_map_range _ hb] at e
      have z := bwd_zero m l b hb
      simp only [Nat.mul_eq_zero] at e ⊢
      rcases e with e | e | e
      · exact .inl (.inl e)
      · exact .inr (z.mp e)
      · exact .inl (.inr e)
    · intro q b hb
      have e := q _ (List.mem_map.mpr ⟨b, List.mem_range.mpr hb, rfl⟩)
      rw [show (shown m (bwd m l) o).getD b 0 = _ from getD_map_range _ hb]
      have z := bwd_zero m l b hb
      simp only [Nat.mul_eq_zero] at e ⊢
      rcases e with (e | e) | e
      · exact .inl e
      · exact .inr (.inr e)
      · exact .inr (.inl (z.mpr e))
theorem total_zero (m : Model) (o : Nat) (r : List Nat) : totalOf m (o :: r) = 0 ↔ (choices m m.begins o r).foldl max 0 = 0 := by
  rw [totalOf_eq]
  show (r.foldl (further m) (first m o)).sum = 0 ↔ _
  rw [fold_dot m _ _ (first_len m o), S_eq_zero, max_zero, choices_eq]
  constructor
  · intro q x hx
    obtain ⟨b, hb, rfl⟩ := List.mem_map.mp hx
    have hb := List.mem_range.mp hb
    have e := q b hb
    rw [show (first m o).getD b 0 = _ from getD_map_range _ hb] at e
    have z := bwd_zero m r b hb
    rcases Nat.mul_eq_zero.mp e with e | e
    · show m.begin_ b * m.show_ b o * _ = 0
      rw [e, Nat.zero_mul]
    · rw [z.mp e, Nat.mul_zero]
  · intro q b hb
    have e := q _ (List.mem_map.mpr ⟨b, List.mem_range.mpr hb, rfl⟩)
    rw [show (first m o).getD b 0 = _ from getD_map_range _ hb]
    have z := bwd_zero m r b hb
    rcases Nat.mul_eq_zero.mp e with e | e
    · rw [show m.begin_ b * m.show_ b o = 0 from e, Nat.zero_mul]
    · rw [z.mpr e, Nat.mul_zero]
/-- there is a way on -/
def Open (m : Model) (lead : List Nat) : List Nat → Prop
  | [] => True
  | o :: r => (choices m lead o r).foldl max 0 ≠ 0
theorem Open.next {m : Model} {lead : List Nat} {o : Nat} {r : List Nat} {c : Nat} (hc : c < m.states) (h : (choices m lead o r).getD c 0 ≠ 0) : Open m (goRow m c) r := by
  cases r with
  | nil => trivial
  | cons o' r' =>
    show (choices m (goRow m c) o' r').foldl max 0 ≠ 0
    rw [← ahead_at m o' r' hc]
    intro e
    apply h
    rw [choices_eq, getD_map_range _ hc, e, Nat.mul_zero]
/-- what greatest_onward gives -/
def onwards (m : Model) : List Nat → List (List Nat)
  | [] => []
  | o :: r => shown m (ahead m r) o :: onwards m r
theorem onwards_len (m : Model) : ∀ l : List Nat, (onwards m l).length = l.length
  | [] => rfl
  | o :: r => by
    show (onwards m r).length + 1 = r.length + 1
    rw [onwards_len m r]
theorem onwards_drop (m : Model) : ∀ (l : List Nat) (i : Nat), (onwards m l).drop i = onwards m (l.drop i)
  | [], i => by simp [onwards]
  | o :: r, 0 => rfl
  | o :: r, i + 1 => onwards_drop m r i
/-- ahead as the program makes it: the greatest of the steps -/
theorem ahead_steps (m : Model) (o : Nat) (r : List Nat) : ahead m (o :: r) = (List.range m.states).map fun a => (stepsFrom m a (shown m (ahead m r) o)).foldl max 0 := by
  show (List.range m.states).map _ = _
  refine List.map_congr_left fun a _ => ?_
  rw [choices_steps, choices_go]

/-! ### G. Bytes, fractions -/
theorem bytes_len (k n : Nat) : (bytes k n).length = k := by simp [bytes]
theorem bytes_succ (k n : Nat) : bytes (k + 1) n = bytes k n ++ [n / 256 ^ k % 256] := by
  unfold bytes
  rw [List.range_succ, List.map_append]
  rfl
theorem div_pow_succ (n k : Nat) : n / 256 ^ k / 256 = n / 256 ^ (k + 1) := by rw [Nat.div_div_eq_div_mul, ← Nat.pow_succ]
theorem gcd_turn {a b : Nat} : Nat.gcd b (a % b) = Nat.gcd a b := by
  rw [Nat.gcd_comm b, ← Nat.gcd_rec, Nat.gcd_comm]
theorem frac_len (a b : Nat) : (frac a b).length = 640 := by
  unfold frac
  simp [bytes_len, BIG]
end Hs
end

section
set_option Elab.async false
namespace Hs
open Rc49
def ansOf (y : Rc49.Ans) : List Int := y.value :: y.numbers.map fun (b : Nat) => (b : Int)
inductive CallOf : Nat → List Int → List Nat → Rc49.Call → Prop
  | c0 : CallOf 0 [] [] .init
  | c1 (a b : Int) : CallOf 1 [a, b] [] (.size a b)
  | c2 (a b : Int) : CallOf 2 [a, b] [] (.begin_ a b)
  | c3 (a b c : Int) : CallOf 3 [a, b, c] [] (.go a b c)
  | c4 (a b c : Int) : CallOf 4 [a, b, c] [] (.show_ a b c)
  | c5 (l : List Nat) : CallOf 5 [] l (.total l l.length)
  | c6 (l : List Nat) : CallOf 6 [] l (.best l l.length)
  | c7 (a b : Int) (l : List Nat) : CallOf 7 [a, b] l (.likely l l.length a b)
  | c8 (a : Int) (l : List Nat) : CallOf 8 [a] l (.next l l.length a)
def NUMS : List Nat := [0, 2, 2, 3, 3, 0, 0, 2, 1]
theorem nats_back : ∀ {r : List Int}, (r.all fun z => Rc49Neutral.natural z 8) = true → (Rc49Neutral.natsOf r).map (fun (b : Nat) => (b : Int)) = r
  | [], _ => rfl
  | z :: r, h => by
    rw [List.all_cons, Bool.and_eq_true] at h
    have h1 := h.1
    unfold Rc49Neutral.natural at h1
    rw [Bool.and_eq_true] at h1
    have h2 := of_decide_eq_true h1.1
    have ih := nats_back (r := r) h.2
    show ((z.toNat : Nat) : Int) :: (Rc49Neutral.natsOf r).map _ = _
    rw [ih]
    congr 1
    omega
theorem nats_len (r : List Int) : (Rc49Neutral.natsOf r).length = r.length := by simp [Rc49Neutral.natsOf]
theorem row_ok {r : List Int} (h : (decide ((r.length : Int) = Rc49Neutral.upTo (r.length : Int) 1 64) && r.all fun z => Rc49Neutral.natural z 8) = true) : r.length ≤ 64 ∧ (Rc49Neutral.natsOf r).map (fun (b : Nat) => (b : Int)) = r := by
  rw [Bool.and_eq_true] at h
  refine ⟨?_, nats_back h.2⟩
  have h1 := of_decide_eq_true h.1
  unfold Rc49Neutral.upTo at h1
  split at h1 <;> omega
/-- a call at the head of a list, part by part -/
structure Parts (u t : List Int) (c : List (List Int)) (k : Nat) (ns : List Int) (l : List Nat) (call : Rc49.Call) : Prop where
  num : NUMS[k]? = some ns.length
  head : u[0]? = some (k : Int)
  nums : (u.drop 1).take ns.length = ns
  small : k ≤ 4 → l = [] ∧ u.drop (1 + ns.length) = t ∧ 1 + ns.length ≤ u.length
  large : 5 ≤ k → u[1 + ns.length]? = some (l.length : Int) ∧ (u.drop (1 + ns.length + 1)).take l.length = l.map (fun (b : Nat) => (b : Int)) ∧ u.drop (1 + ns.length + 1 + l.length) = t ∧ 1 + ns.length + 1 + l.length ≤ u.length
  is : CallOf k ns l call
  row : l.length ≤ 64
  step : ∀ s, Rc49Neutral.step s (PyRc49.whole c) = ((does s call).1, ansOf (does s call).2)
theorem parts_of {u t : List Int} {c : List (List Int)} (h : One u c t) (ha : Rc49Neutral.asked1 (PyRc49.whole c) = true) : ∃ k ns l call, Parts u t c k ns l call := by
  cases h with
  | c0 => exact ⟨0, [], [], .init, rfl, rfl, rfl, fun _ => ⟨rfl, rfl, by simp⟩, fun h => absurd h (by decide), .c0, by decide, fun s => rfl⟩
  | c1 a b => exact ⟨1, [a, b], [], .size a b, rfl, rfl, rfl, fun _ => ⟨rfl, rfl, by simp⟩, fun h => absurd h (by decide), .c1 a b, by decide, fun s => rfl⟩
  | c2 a b => exact ⟨2, [a, b], [], .begin_ a b, rfl, rfl, rfl, fun _ => ⟨rfl, rfl, by simp⟩, fun h => absurd h (by decide), .c2 a b, by decide, fun s => rfl⟩
  | c3 a b c => exact ⟨3, [a, b, c], [], .go a b c, rfl, rfl, rfl, fun _ => ⟨rfl, rfl, by simp⟩, fun h => absurd h (by decide), .c3 a b c, by decide, fun s => rfl⟩
  | c4 a b c => exact ⟨4, [a, b, c], [], .show_ a b c, rfl, rfl, rfl, fun _ => ⟨rfl, rfl, by simp⟩, fun h => absurd h (by decide), .c4 a b c, by decide, fun s => rfl⟩
  | c5 r =>
    have ha : ((decide ((r.length : Int) = Rc49Neutral.upTo (r.length : Int) 1 64) && r.all fun z => Rc49Neutral.natural z 8) && Rc49Neutral.whole32 (r.length : Int)) = true := ha
    rw [Bool.and_eq_true] at ha
    obtain ⟨h1, h2⟩ := row_ok ha.1
    refine ⟨5, [], Rc49Neutral.natsOf r, .total (Rc49Neutral.natsOf r) (Rc49Neutral.natsOf r).length, rfl, rfl, rfl, fun h => absurd h (by decide), fun _ => ⟨?_, ?_, ?_, ?_⟩, .c5 _, by rw [nats_len]; exact h1, fun s => ?_⟩
    · rw [nats_len]; rfl
    · rw [nats_len, h2]; exact List.take_left ..
    · rw [nats_len, ← List.drop_drop]; show (r ++ t).drop r.length = t; exact List.drop_left ..
    · rw [nats_len]; simp; omega
    · rw [nats_len]; rfl
  | c6 r =>
    have ha : ((decide ((r.length : Int) = Rc49Neutral.upTo (r.length : Int) 1 64) && r.all fun z => Rc49Neutral.natural z 8) && Rc49Neutral.whole32 (r.length : Int)) = true := ha
    rw [Bool.and_eq_true] at ha
    obtain ⟨h1, h2⟩ := row_ok ha.1
    refine ⟨6, [], Rc49Neutral.natsOf r, .best (Rc49Neutral.natsOf r) (Rc49Neutral.natsOf r).length, rfl, rfl, rfl, fun h => absurd h (by decide), fun _ => ⟨?_, ?_, ?_, ?_⟩, .c6 _, by rw [nats_len]; exact h1, fun s => ?_⟩
    · rw [nats_len]; rfl
    · rw [nats_len, h2]; exact List.take_left ..
    · rw [nats_len, ← List.drop_drop]; show (r ++ t).drop r.length = t; exact List.drop_left ..
    · rw [nats_len]; simp; omega
    · rw [nats_len]; rfl
  | c7 a b r =>
    have ha : ((decide ((r.length : Int) = Rc49Neutral.upTo (r.length : Int) 1 64) && r.all fun z => Rc49Neutral.natural z 8) && (Rc49Neutral.whole32 (r.length : Int) && (Rc49Neutral.whole32 a && Rc49Neutral.whole32 b))) = true := ha
    rw [Bool.and_eq_true] at ha
    obtain ⟨h1, h2⟩ := row_ok ha.1
    refine ⟨7, [a, b], Rc49Neutral.natsOf r, .likely (Rc49Neutral.natsOf r) (Rc49Neutral.natsOf r).length a b, rfl, rfl, rfl, fun h => absurd h (by decide), fun _ => ⟨?_, ?_, ?_, ?_⟩, .c7 _ _ _, by rw [nats_len]; exact h1, fun s => ?_⟩
    · rw [nats_len]; rfl
    · rw [nats_len, h2]; exact List.take_left ..
    · rw [nats_len, ← List.drop_drop]; show (r ++ t).drop r.length = t; exact List.drop_left ..
    · rw [nats_len]; simp; omega
    · rw [nats_len]; rfl
  | c8 a r =>
    have ha : ((decide ((r.length : Int) = Rc49Neutral.upTo (r.length : Int) 1 64) && r.all fun z => Rc49Neutral.natural z 8) && (Rc49Neutral.whole32 (r.length : Int) && Rc49Neutral.whole32 a)) = true := ha
    rw [Bool.and_eq_true] at ha
    obtain ⟨h1, h2⟩ := row_ok ha.1
    refine ⟨8, [a], Rc49Neutral.natsOf r, .next (Rc49Neutral.natsOf r) (Rc49Neutral.natsOf r).length a, rfl, rfl, rfl, fun h => absurd h (by decide), fun _ => ⟨?_, ?_, ?_, ?_⟩, .c8 _ _, by rw [nats_len]; exact h1, fun s => ?_⟩
    · rw [nats_len]; rfl
    · rw [nats_len, h2]; exact List.take_left ..
    · rw [nats_len, ← List.drop_drop]; show (r ++ t).drop r.length = t; exact List.drop_left ..
    · rw [nats_len]; simp; omega
    · rw [nats_len]; rfl
/-- by places of the whole list -/
theorem Parts.at {xs t : List Int} {c : List (List Int)} {p k : Nat} {ns : List Int} {l : List Nat} {call : Rc49.Call} (h : Parts (xs.drop p) t c k ns l call) :
    xs[p]? = some (k : Int) ∧ p + 1 + ns.length ≤ xs.length ∧ (xs.drop (p + 1)).take (p + 1 + ns.length - (p + 1)) = ns ∧
    (k ≤ 4 → l = [] ∧ xs.drop (p + 1 + ns.length) = t) ∧
    (5 ≤ k → xs[p + 1 + ns.length]? = some (l.length : Int) ∧ p + 1 + ns.length + 1 + l.length ≤ xs.length ∧ (xs.drop (p + 1 + ns.length + 1)).take (p + 1 + ns.length + 1 + l.length - (p + 1 + ns.length + 1)) = l.map (fun (b : Nat) => (b : Int)) ∧ xs.drop (p + 1 + ns.length + 1 + l.length) = t) := by
  have hh := h.head
  rw [List.getElem?_drop, Nat.add_zero] at hh
  have hn := h.nums
  rw [List.drop_drop] at hn
  have hs := h.small
  have hl := h.large
  rw [List.drop_drop, List.length_drop] at hs
  rw [List.getElem?_drop, List.drop_drop, List.drop_drop, List.length_drop] at hl
  have hp : p < xs.length := (List.getElem?_eq_some_iff.mp hh).1
  refine ⟨hh, ?_, ?_, fun h4 => ?_, fun h5 => ?_⟩
  · by_cases h4 : k ≤ 4
    · have := (hs h4).2.2
      omega
    · have := (hl (by omega)).2.2.2
      omega
  · rw [Nat.add_sub_cancel_left]
    exact hn
  · obtain ⟨h1, h2, h3⟩ := hs h4
    refine ⟨h1, ?_⟩
    rw [Nat.add_assoc]
    exact h2
  · obtain ⟨h1, h2, h3, h6⟩ := hl h5
    refine ⟨?_, by omega, ?_, ?_⟩
    · rw [Nat.add_assoc]
      exact h1
    · rw [Nat.add_sub_cancel_left, show p + 1 + ns.length + 1 = p + (1 + ns.length + 1) by omega]
      exact h2
    · rw [show p + 1 + ns.length + 1 + l.length = p + (1 + ns.length + 1 + l.length) by omega]
      exact h3
theorem ans_len {s : Abs} {k : Nat} {ns : List Int} {l : List Nat} {c : Rc49.Call} (h : CallOf k ns l c) (hl : l.length ≤ 64) : (ansOf (does s c).2).length ≤ 641 := by
  obtain ⟨mo⟩ := s
  cases h with
  | c0 => exact (by decide : 1 ≤ 641)
  | c1 a b =>
    cases mo <;> (unfold does; dsimp only; split <;> exact (by decide : 1 ≤ 641))
  | c2 a b =>
    cases mo with
    | none => exact (by decide : 1 ≤ 641)
    | some m => unfold does; dsimp only; split <;> exact (by decide : 1 ≤ 641)
  | c3 a b c =>
    cases mo with
    | none => exact (by decide : 1 ≤ 641)
    | some m => unfold does; dsimp only; split <;> exact (by decide : 1 ≤ 641)
  | c4 a b c =>
    cases mo with
    | none => exact (by decide : 1 ≤ 641)
    | some m => unfold does; dsimp only; split <;> exact (by decide : 1 ≤ 641)
  | c5 =>
    cases mo with
    | none => exact (by decide : 1 ≤ 641)
    | some m =>
      unfold does; dsimp only
      split
      · exact (by decide : 1 ≤ 641)
      · simp [ansOf, bytes_len, BIG]
  | c6 =>
    cases mo with
    | none => exact (by decide : 1 ≤ 641)
    | some m =>
      unfold does; dsimp only
      split
      · exact (by decide : 1 ≤ 641)
      · split
        · exact (by decide : 1 ≤ 641)
        · simp [ansOf, bestOf_eq, bw_len]; omega
  | c7 a b =>
    cases mo with
    | none => exact (by decide : 1 ≤ 641)
    | some m =>
      unfold does; dsimp only
      split
      · exact (by decide : 1 ≤ 641)
      · split
        · exact (by decide : 1 ≤ 641)
        · simp [ansOf, frac_len]
  | c8 a =>
    cases mo with
    | none => exact (by decide : 1 ≤ 641)
    | some m =>
      unfold does; dsimp only
      split
      · exact (by decide : 1 ≤ 641)
      · split
        · exact (by decide : 1 ≤ 641)
        · simp [ansOf, frac_len]
end Hs
end

section
set_option Elab.async false
set_option maxRecDepth 100000
set_option maxHeartbeats 2000000
/-! ### list(reversed(xs)) -/
namespace PySem
namespace F
theorem nolen_lri : typeLookup (.type "list_reverseiterator") "__len__" = pure none := by rw [typeLookup_type, builtinLookup_eq_fast]; kernel_rfl
theorem hint_lri : typeLookup (.type "list_reverseiterator") "__length_hint__" = pure (some (.builtin "list_reverseiterator.__length_hint__")) := by rw [typeLookup_type, builtinLookup_eq_fast]; kernel_rfl
end F
section
variable {prog : Program} {w : World} {A : Around} {s : Shared}
/-- what a run of a built-in is to come to, where only its end is told -/
abbrev ToEnd (prog : Program) (w : World) (A : Around) (Z : Result → Shared → Prop) : Fin → Shared → Prop := fun e t => match e with
  | .done f => Z (.ok f) t
  | .again c => c.quiet = true ∧ codeAny (model prog w) A c Z t
/-- a list (its iterator from the end stands at i) whose items are its, turned into the list at n -/
structure RevTo (s : Shared) (i l n : Addr) (its : Array Value) : Prop where
  it : s.heap.IsRevIter i l ((its.size : Int) - 1)
  at_ : s.heap.IsList l its
  nl : l ≠ i
  ni : n ≠ i
  nn : n ≠ l
  few : its.size ≤ sizeLine
/-- what stands behind it -/
def RevEnd (s : Shared) (i n : Addr) (its : Array Value) (Y : Shared → Prop) : Prop := ∀ h' tk acc c, (∀ b o, b ≠ n → b ≠ i → s.heap.get? b = some o → h'.get? b = some o) →
  h'.get? n = some { cls := .type "list", dict := none, data := .seq acc c, slots := #[] } → ItemsOf (fun k v => its[its.size - 1 - k]? = some v) acc its.size → Y { s with heap := h', toks := tk }
theorem rev_hint {E : Value → Shared → Prop} {i : Addr} {Y : Bool → Shared → Prop} (ty : s.TypeIs (.ref i) "list_reverseiterator") (y : Y false s) : wpAny (model prog w) A (Builtin.List.listLengthHint (.ref i)) Y E s := by
  unfold Builtin.List.listLengthHint; refine wpAny_bind (wpAny_specialOf ty F.nolen_lri ?_)
  show wpAny _ A (specialOf (Value.ref i) (Str.ofString "__length_hint__") >>= _) _ _ _
  refine wpAny_bind (wpAny_specialOf ty F.hint_lri ?_)
  generalize en : ("list_reverseiterator.__length_hint__" : String) = nm; wp_delta
  rw [show splitId nm = some ("list_reverseiterator", "__length_hint__") from by subst en; decide +kernel]; subst en
  exact wpAny_bind (wpAny_isInstance (b := true) ty (by rw [isSubtype_type]; kernel_rfl) (wpAny_pure y))
theorem rev_extend {Z : Result → Shared → Prop} {i l n : Addr} {its : Array Value} {res : Value} {c₀ : Nat} (hh : A.handled = none) (q : RevTo s i l n its) (new : s.heap.get? n = some { cls := .type "list", data := .seq #[] c₀ })
    (z : RevEnd s i n its fun t => Z (.ok (.ret res)) t) : wpAny (model prog w) A.in1 (Builtin.List.listExtendWith (.ref n) (.ref i) res) (ToEnd prog w A Z) (fun e t => Z (.error e) t) s := by
  have off : n ∉ [i, l] := by simp only [List.mem_cons, List.not_mem_nil, or_false, not_or]; exact ⟨q.ni, q.nn⟩
  have walk := (Walks.listRev (prog := prog) (w := w) (A := A.in1) hh i l q.nl its).toS
  have st : 0 ≤ its.size ∧ s.heap.IsRevIter i l ((its.size : Int) - 1 - ((0 : Nat) : Int)) ∧ s.heap.IsList l its := ⟨Nat.zero_le _, by simpa using q.it, q.at_⟩
  have d1 : Builtin.List.listSameRef (.ref n) (.ref i) = false := by simp [Builtin.List.listSameRef, q.ni]
  have d2 : (Value.type "list_reverseiterator" == Value.type "list") = false := by decide
  have d3 : (Value.type "list_reverseiterator" == Value.type "tuple") = false := by decide
  unfold Builtin.List.listExtendWith; refine wpAny_bind (wpAny_typeOf (T := "list_reverseiterator") q.it.typeIs ?_)
  simp only [d1, d2, d3, Bool.or_false, Bool.false_eq_true, if_false]
  refine wpAny_bind (wpAny_pyIter_revIter q.it (wpAny_bind (wpAny_holding (rev_hint q.it.typeIs ?_))))
  rw [if_neg (by decide)]
  refine wpAny_pure ⟨plainId_quiet F.plain_extend_loop _, codeAny_extend_loopS walk q.few n off res its.size 0 _ #[] c₀ rfl (Nat.zero_le _) st new (ItemsOf.nil _) fun t acc c mv ht hacc => ?_⟩
  rw [Moved.eq_with mv]
  exact z t.heap t.toks acc c (fun b o b1 b2 e => mv.heap b o (fun m => (List.mem_cons.mp m).elim b1 fun m => b2 (List.mem_singleton.mp m)) e) ht hacc
theorem rev_init {Z : Result → Shared → Prop} {i l n : Addr} {its : Array Value} (hh : A.handled = none) (q : RevTo s i l n its) (new : s.heap.get? n = some { cls := .type "list", data := .seq #[] })
    (z : RevEnd s i n its fun t => Z (.ok (.ret .none)) t) : wpAny (model prog w) A.in1 (Builtin.«list.__init__» ⟨[.ref n, .ref i], []⟩) (ToEnd prog w A Z) (fun e t => Z (.error e) t) s := by
  have old : ∀ b o, b ≠ n → s.heap.get? b = some o → (s.heap.update n (Obj.mapSeq fun _ => (#[] : Array Value))).get? b = some o := fun b o hb e => (Heap.get?_update_other _ _ (Ne.symm hb)).trans e
  have new2 := Heap.get?_update_self (Obj.mapSeq fun _ => (#[] : Array Value)) new rfl
  show wpAny _ _ (Builtin.List.listItems (.ref n) >>= fun was => Builtin.List.listUpdate (.ref n) (fun _ => #[]) >>= fun _ => letGo was.toList.reverse >>= fun _ => Builtin.List.listExtendWith (.ref n) (.ref i) .none) _ _ s
  refine wpAny_bind ?_; unfold Builtin.List.listItems; refine wpAny_bind (wpAny_seqItems new rfl (wpAny_pure ?_))
  show wpAny _ _ (updateSeq n (fun _ => #[]) >>= fun _ => letGo (#[] : Array Value).toList.reverse >>= fun _ => Builtin.List.listExtendWith (.ref n) (.ref i) .none) _ _ s
  refine wpAny_bind (wpAny_updateSeq new rfl (wpAny_bind (wpAny_letGo ?_)))
  refine rev_extend hh ⟨q.it.at fun o e => old i o (Ne.symm q.ni) e, q.at_.at fun o e => old l o (Ne.symm q.nn) e, q.nl, q.ni, q.nn, q.few⟩ new2 fun h' tk acc c kp ht hacc => ?_
  exact z h' tk acc c (fun b o b1 b2 e => kp b o b1 b2 (old b o b1 e)) ht hacc
theorem call_list_rev {E : Value → Shared → Prop} {Y : Value → Shared → Prop} {i l : Addr} {its : Array Value} (hh : A.handled = none) (it : s.heap.IsRevIter i l ((its.size : Int) - 1)) (at_ : s.heap.IsList l its) (nl : l ≠ i) (few : its.size ≤ sizeLine)
    (y : ∀ h' tk acc c, (∀ b o, b ≠ i → s.heap.get? b = some o → h'.get? b = some o) → h'.get? s.heap.objs.size = some { cls := .type "list", dict := none, data := .seq acc c, slots := #[] } → ItemsOf (fun k v => its[its.size - 1 - k]? = some v) acc its.size →
      Y (.ref s.heap.objs.size) { s with heap := h', toks := tk }) : wpAny (model prog w) A (call (.type "list") [.ref i]) Y E s := by
  have ni : s.heap.objs.size ≠ i := let ⟨_, e, _⟩ := it; Nat.ne_of_gt (Heap.lt_size e)
  have nn : s.heap.objs.size ≠ l := let ⟨_, e, _⟩ := at_; Nat.ne_of_gt (Heap.lt_size e)
  refine callType_codes (Q₁ := fun v t => v = .ref s.heap.objs.size ∧ t = { s with heap := s.heap.push { cls := .type "list", data := .seq #[] } }) F.called_list (F.typeCall_list_1 _) F.entry_list_init (code_list_new _ ⟨rfl, rfl⟩) fun v t hv => ?_
  obtain ⟨rfl, rfl⟩ := hv
  have new : (s.heap.push { cls := .type "list", data := .seq #[] }).get? s.heap.objs.size = some { cls := .type "list", data := .seq #[] } := Heap.get?_push_size _ rfl
  refine ⟨⟨_, new, rfl⟩, F.args_list_init_2 _ _, rev_init (A := A.in1) hh ⟨it.at fun o e => Heap.get?_push_of_some _ e, at_.at fun o e => Heap.get?_push_of_some _ e, nl, ni, nn, few⟩ new fun h' tk acc c kp ht hacc => ?_⟩
  exact ⟨rfl, y h' tk acc c (fun b o b2 e => kp b o (Nat.ne_of_lt (Heap.lt_size e)) b2 (Heap.get?_push_of_some _ e)) ht hacc⟩
end
end PySem
namespace Hs
open PySem PySem.Spec PyProof.Rows L2
/-! ### numbers of any size -/
def CDivB (_ j : Int) : Prop := 0 < j ∧ j.natAbs.log2 < 9000
theorem op_fdivB {X : Cx} : OpR X (binaryOp .FloorDiv) (rI CDivB fun i j => .int (i / j)) := opI fun i j _ _ _ _ _ hc q => by
  have h1 : (0 : Int) < j := hc.1
  exact floordiv_int (by omega) (by rw [Int.fdiv_eq_ediv_of_nonneg i (by omega)]; exact q) (.inl (PyProof.noPylong_of_log2 hc.2))
theorem op_mulB {X : Cx} : OpR X (binaryOp .Mult) (rI IntMulOk fun i j => .int (i * j)) := opI fun _ _ _ _ _ _ _ hc q => mul_int q hc
theorem log2_of {n k : Nat} (h : n < 2 ^ k) (hk : 0 < k) : n.log2 < k := by
  rcases Nat.eq_zero_or_pos n with e | e
  · subst e
    have z : Nat.log2 0 = 0 := by decide
    rw [z]
    exact hk
  · exact (Nat.log2_lt (Nat.ne_of_gt e)).mpr h
theorem mulOk_nat {a b m n : Nat} (ha : a < 2 ^ m) (hb : b < 2 ^ n) (h : m + n ≤ 134217728) : IntMulOk (a : Int) (b : Int) :=
  mulOk_of_bits (intBits_le (by simpa using ha)) (intBits_le (by simpa using hb)) h
/-! ### defs by their names -/
structure Def (P : Program) (w : World) (K : PySem.W.Frag) (mg : Str → Option Value) (base : Heap) (x : Str) (ps : List Str) (k : Nat) (sp : Sp) : Prop where
  ex : ∃ (f : Addr) (fd : FuncData), mg x = some (.ref f) ∧ PySem.W.keepIn K (.ref f) = true ∧ Binds K fd ps [] ∧ FnOk P w K mg base CX0 k f fd ps sp
theorem pe_fn {X : Cx} {x : Str} {ps : List Str} {k : Nat} {sp : Sp} {e : Expr} {es : List Expr} {t : TA} {p pos : Pos} (D : Def X.prog X.w X.K X.mg X.base x ps k sp) (hr : Room k X.A) (ha : PA X (e :: es) t) (hg : Gl X x := by rfl)
    (hdb : (x == ("__debug__" : Str)) = false := by decide) (he : starEach (e :: es) X.env = (false, eval e X.env) :: starEach es X.env := by rfl) (hpl : (backTo pos (starEach es X.env)).any (·.1) = false := by rfl) :
    PE X (.Call (.Name x p) (e :: es) [] pos) (tCall sp [] E0 t) := by
  obtain ⟨f, fd, h1, h2, h3, h4⟩ := D.ex
  exact pe_call h4 hr hg h1 h2 h3 .nil pass0 ha hdb he hpl
structure MDef (P : Program) (w : World) (K : PySem.W.Frag) (mg : Str → Option Value) (base : Heap) (C : Addr) (m : Str) (ps : List Str) (k : Nat) (sp : Sp) : Prop where
  ex : ∃ (f : Addr) (fd : FuncData), Meth K C m f ∧ Binds K fd ps [] ∧ FnOk P w K mg base CX0 k f fd ps sp
/-! ### for x in reversed(xs) -/
theorem for_rev {K : PySem.W.Frag} {a : Addr} {xs : List V} {g : TG} {tb : TS} {D : Ends} {σ : L2.St} {H : Hp} (Pv : Nat → L2.St → Hp → Prop) (h0 : Pv 0 σ H) (hl : ∀ i σ H, i ≤ xs.length → Pv i σ H → SqL K H a xs)
    (hs : ∀ (i : Nat) x σ H, xs.reverse[i]? = some x → Pv i σ H → g x σ H fun σ2 H2 => tb { D with nx := Pv (i + 1), ct := Pv (i + 1), bk := D.nx } σ2 H2) (hd : ∀ σ H, Pv xs.length σ H → D.nx σ H) :
    ∃ W : Nat → Nat → L2.St → Hp → Prop, (∃ m, W 0 m σ H) ∧ ∀ i m σ H, W i m σ H →
      ((Itv K a xs.length).stop i H ∧ D.nx σ H) ∨ ((Itv K a xs.length).go i H ∧ ∃ N : L2.St → Hp → Prop, (∀ σ' H', N σ' H' → ∃ m', m' < m ∧ W (i + 1) m' σ' H') ∧ ∀ x H', (Itv K a xs.length).yld i H x H' → g x σ H' fun σ2 H2 => tb { D with nx := N, ct := N, bk := D.nx } σ2 H2) := by
  refine ⟨fun i m σ H => m = xs.length - i ∧ i ≤ xs.length ∧ Pv i σ H, ⟨xs.length, by simp, Nat.zero_le _, h0⟩, ?_⟩
  rintro i m σ H ⟨rfl, hi, p⟩
  have q := hl i σ H hi p
  by_cases hlt : i < xs.length
  · have hx : xs[xs.length - 1 - i]? = some (xs[xs.length - 1 - i]'(by omega)) := List.getElem?_eq_getElem (by omega)
    refine .inr ⟨⟨hlt, xs, _, q, hx⟩, Pv (i + 1), fun σ' H' p' => ⟨xs.length - (i + 1), by omega, rfl, hlt, p'⟩, fun x H' y => ?_⟩
    obtain ⟨e, y⟩ := y
    subst e
    refine hs i x σ _ ?_ p
    rw [List.getElem?_reverse hlt]
    exact y xs q
  · have e : i = xs.length := by omega
    subst e
    exact .inl ⟨Nat.le_refl _, hd σ H p⟩
/-! ### list(reversed(xs)) as an expression -/
def tListRev (K : PySem.W.Frag) (ta : TA) : TE := fun σ H Q => ta σ H fun vs H1 => ∃ (a : Addr) (xs : List V), vs = [.ref a] ∧ SqL K H1 a xs ∧ ∀ l, H1 l = none → Q (.ref l) (upd H1 l (.lst xs.reverse))
theorem vals_rev {xs : List V} {its acc : List Value} (r : Vals xs its) (hl : acc.length = its.length) (h : ∀ (i : Nat) v, acc[i]? = some v → its[its.length - 1 - i]? = some v) : Vals xs.reverse acc := by
  have e : acc = its.reverse := by
    apply List.ext_getElem?
    intro i
    by_cases hi : i < its.length
    · rw [List.getElem?_reverse hi]
      have hx : acc[i]? = some (acc[i]'(by omega)) := List.getElem?_eq_getElem (by omega)
      rw [h i _ hx, hx]
    · rw [List.getElem?_eq_none (by omega), List.getElem?_eq_none (by rw [List.length_reverse]; omega)]
  rw [e]
  exact r.reverse
theorem pe_listRev {X : Cx} {e : Expr} {ta : TA} {p pos p' pos' : Pos} (hc : X.calm = true) (hmL : X.mg "list" = none) (hmR : X.mg "reversed" = none) (ha : PA X [e] ta) (hgL : Gl X "list" := by rfl) (hgR : Gl X "reversed" := by rfl)
    (hs : starEach [e] X.env = [(false, eval e X.env)] := by rfl)
    (he : starEach [.Call (.Name "reversed" p') [e] [] pos'] X.env = (false, eval (.Call (.Name "reversed" p') [e] [] pos') X.env) :: starEach [] X.env := by rfl)
    (hpl : (backTo pos (starEach [] X.env)).any (·.1) = false := by rfl) : PE X (.Call (.Name "list" p) [.Call (.Name "reversed" p') [e] [] pos'] [] pos) (tListRev X.K ta) := by
  intro pins s σ H Q I h
  refine wpAny_Call_Name_kw (ld_blt I hgL hmL boot_list ?_)
  refine PyProof.Rows.callWith_type1 ?_ he hpl
  rw [he]
  show wpAny _ _ (spliced ((false, eval (.Call (.Name "reversed" p') [e] [] pos') X.env) :: backTo pos (starEach [] X.env))) _ _ s
  refine Calls.spliced_cons ?_
  refine Call_ (ld_blt I hgR hmR boot_reversed5 (PyProof.Rows.callWith_type1 (thn (ha pos' pins s σ H _ I h) fun us s1 ⟨vs, H1, I1, r1, q1⟩ => ?_) hs rfl))
  obtain ⟨a, xs, e, hq, q⟩ := q1
  subst e
  cases r1 with
  | cons r rr =>
    cases rr
    cases r
    obtain ⟨its, rv, pl, hz⟩ := I1.list hq
    have hlen := rv.length
    refine call_reversed_list pl.isList ?_
    refine Calls.spliced_nil ?_
    have hal : a < s1.heap.objs.size := by
      obtain ⟨o, e, _⟩ := pl.isList
      exact Heap.lt_size e
    refine call_list_rev (l := a) (its := its.toArray) (I.ok.hd hc) ⟨_, Heap.get?_push_size _ rfl, rfl, rfl⟩ (pl.isList.at fun o e => Heap.get?_push_of_some _ e) (Nat.ne_of_lt hal) (by rw [List.size_toArray]; omega) fun h' tk acc' c' hk hD hacc => ?_
    have hsz : (s1.heap.push (revObj a ((its.toArray.size : Int) - 1))).objs.size = s1.heap.objs.size + 1 := by simp [Heap.push]
    have kp : ∀ b u, s1.heap.get? b = some u → h'.get? b = some u := fun b u e => hk b u (Nat.ne_of_lt (Heap.lt_size e)) (Heap.get?_push_of_some _ e)
    have hV : Vals xs.reverse acc'.toList := vals_rev rv (by rw [Array.length_toList, hacc.1, List.size_toArray]) (fun i v e => by
      have := hacc.2 i v (by rw [← Array.getElem?_toList]; exact e)
      simpa using this)
    have hge : s1.heap.objs.size ≤ (s1.heap.push (revObj a ((its.toArray.size : Int) - 1))).objs.size := by rw [hsz]; omega
    refine ⟨.ref _, upd H1 _ (.lst xs.reverse), I1.laid (t' := tk) kp hge ⟨by rw [List.length_reverse]; exact hz, acc'.toList, c', hV, ?_⟩, rfl, q _ (I1.hok.fresh hge)⟩
    rw [hD]
/-! ### slices -/
theorem cut_from {xs : List V} {z : Int} {i : Nat} (hz : z = (i : Int)) : cutV xs (some z) none = xs.drop i := by
  subst hz
  unfold cutV
  rw [HT.sIx_nat, HT.sIx_none]
  by_cases h : i ≤ xs.length
  · rw [Nat.min_eq_left h]
    exact List.take_of_length_le (by rw [List.length_drop]; omega)
  · rw [Nat.min_eq_right (by omega), List.drop_of_length_le (Nat.le_refl _), List.drop_of_length_le (by omega)]
    simp
theorem cut_to {xs : List V} {z : Int} {i : Nat} (hz : z = (i : Int)) : cutV xs none (some z) = xs.take i := by
  subst hz
  unfold cutV
  rw [HT.sIx_nat, HT.sIx_none, List.drop_zero, Nat.sub_zero]
  by_cases h : i ≤ xs.length
  · rw [Nat.min_eq_left h]
  · rw [Nat.min_eq_right (by omega), List.take_of_length_le (Nat.le_refl _), List.take_of_length_le (by omega)]
theorem cut_mid {xs : List V} {y z : Int} {i j : Nat} (hy : y = (i : Int)) (hz : z = (j : Int)) (hj : j ≤ xs.length) : cutV xs (some y) (some z) = (xs.drop i).take (j - i) := by
  subst hy hz
  unfold cutV
  rw [HT.sIx_nat, HT.sIx_nat, Nat.min_eq_left hj]
  by_cases h : i ≤ xs.length
  · rw [Nat.min_eq_left h]
  · rw [Nat.min_eq_right (by omega), List.drop_of_length_le (Nat.le_refl _), List.drop_of_length_le (by omega)]
    simp
end Hs
end

section
set_option Elab.async false
set_option maxRecDepth 100000
set_option maxHeartbeats 2000000
namespace Hs
open PySem PySem.Spec PyProof.Rows L2

/-! ### the text by places -/
def top (i : Nat) : Stmt := PySem.Challenge.pw_hiddenstates_s01_answers.main.body.getD i (.Pass ⟨0, 0, 0, 0⟩)
abbrev sIsSize : Stmt := top 22
abbrev sIsWeight : Stmt := top 23
abbrev sMInit : Stmt := inClass (top 24) 0
abbrev sHasState : Stmt := inClass (top 24) 1
abbrev sHasSign : Stmt := inClass (top 24) 2
abbrev sHasRow : Stmt := inClass (top 24) 3
abbrev sSetStart : Stmt := inClass (top 24) 4
abbrev sSetStep : Stmt := inClass (top 24) 5
abbrev sSetSign : Stmt := inClass (top 24) 6

/-! ### a model in the heap -/
structure MA where
  dx : Addr
  ls : Addr
  lp : Addr
  lg : Addr
  pr : List Addr
  gr : List Addr
def MA.lists (A : MA) : List Addr := A.ls :: A.lp :: A.lg :: (A.pr ++ A.gr)
def mf (n k : Nat) (A : MA) : List (Str × V) := [("states", .int n), ("signs", .int k), ("start_weights", .ref A.ls), ("step_weights", .ref A.lp), ("sign_weights", .ref A.lg)]
def nv (l : List Nat) : List V := l.map fun (x : Nat) => V.int (x : Int)
structure ModelAt (C : Addr) (H : Hp) (a : Addr) (A : MA) (m : Rc49.Model) : Prop where
  ins : H a = some (.ins C A.dx (mf m.states m.signs A))
  good : m.Good
  start : H A.ls = some (.lst (nv m.begins))
  steps : H A.lp = some (.lst (A.pr.map V.ref))
  signs : H A.lg = some (.lst (A.gr.map V.ref))
  plen : A.pr.length = m.states
  glen : A.gr.length = m.states
  prow : ∀ (i : Nat) (r : Addr), A.pr[i]? = some r → H r = some (.lst (nv (goRow m i)))
  grow : ∀ (i : Nat) (r : Addr), A.gr[i]? = some r → H r = some (.lst (nv (showRow m i)))
  nd : A.lists.Nodup
def Keep (own : List Addr) (H H' : Hp) : Prop := ∀ b o, H b = some o → b ∉ own → H' b = some o
theorem mf_states (n k : Nat) (A : MA) : (mf n k A).lookup ("states" : Str) = some (V.int n) := rfl
theorem mf_signs (n k : Nat) (A : MA) : (mf n k A).lookup ("signs" : Str) = some (V.int k) := rfl
theorem mf_start (n k : Nat) (A : MA) : (mf n k A).lookup ("start_weights" : Str) = some (V.ref A.ls) := rfl
theorem mf_step (n k : Nat) (A : MA) : (mf n k A).lookup ("step_weights" : Str) = some (V.ref A.lp) := rfl
theorem mf_sign (n k : Nat) (A : MA) : (mf n k A).lookup ("sign_weights" : Str) = some (V.ref A.lg) := rfl
theorem mf_hasState (n k : Nat) (A : MA) : (mf n k A).lookup ("has_state" : Str) = none := rfl
theorem mf_hasSign (n k : Nat) (A : MA) : (mf n k A).lookup ("has_sign" : Str) = none := rfl
theorem nv_len (l : List Nat) : (nv l).length = l.length := by simp [nv]
theorem nv_set (l : List Nat) (i w : Nat) : (nv l).set i (V.int (w : Int)) = nv (l.set i w) := by
  unfold nv
  rw [List.map_set]
theorem nv_get {l : List Nat} {i x : Nat} (h : l[i]? = some x) : (nv l)[i]? = some (V.int (x : Int)) := by
  unfold nv
  rw [List.getElem?_map, h]
  rfl

structure TxtM (K : PySem.W.Frag) (mg : Str → Option Value) (C : Addr) : Prop where
  cl : Cls K C
  n1 : NoAttr K C "states"
  n2 : NoAttr K C "signs"
  n3 : NoAttr K C "start_weights"
  n4 : NoAttr K C "step_weights"
  n5 : NoAttr K C "sign_weights"
  mgC : mg "Model" = some (.ref C)
  ms : ∃ t, mg "MOST_STATES" = some (.int 16 t)
  mo : ∃ t, mg "MOST_SIGNS" = some (.int 16 t)
  mw : ∃ t, mg "MOST_WEIGHT" = some (.int 65535 t)
  mp : ∃ t, mg "MOST_PLACES" = some (.int 64 t)
  rng : mg "range" = none
  bsum : mg "sum" = none
  bmax : mg "max" = none
  ball : mg "all" = none
  blen : mg "len" = none
  brev : mg "reversed" = none
  blst : mg "list" = none

/-! ### the promises -/
def spIsWeight : Sp := fun vs H Q _ => ∃ z : Int, vs = [.int z] ∧ Q (.bl (Rc49.isWeight z)) H
def spIsSize : Sp := fun vs H Q _ => ∃ n k : Int, vs = [.int n, .int k] ∧ Q (.bl (decide (1 ≤ n ∧ n ≤ 16 ∧ 1 ≤ k ∧ k ≤ 16))) H
def spHasState (C : Addr) : Sp := fun vs H Q _ => ∃ (a : Addr) (A : MA) (m : Rc49.Model) (z : Int), vs = [.ref a, .int z] ∧ ModelAt C H a A m ∧ Q (.bl (Rc49.isState m z)) H
def spHasSign (C : Addr) : Sp := fun vs H Q _ => ∃ (a : Addr) (A : MA) (m : Rc49.Model) (z : Int), vs = [.ref a, .int z] ∧ ModelAt C H a A m ∧ Q (.bl (Rc49.isSign m z)) H
def spSetStart (C : Addr) : Sp := fun vs H Q _ => ∃ (a : Addr) (A : MA) (m : Rc49.Model) (s z : Int), vs = [.ref a, .int s, .int z] ∧ ModelAt C H a A m ∧
  ((Rc49.isState m s && Rc49.isWeight z) = false → Q (.bl false) H) ∧
  ((Rc49.isState m s && Rc49.isWeight z) = true → ∀ H', ModelAt C H' a A { m with begins := m.begins.set s.toNat z.toNat } → Keep A.lists H H' → Q (.bl true) H')
def spSetStep (C : Addr) : Sp := fun vs H Q _ => ∃ (a : Addr) (A : MA) (m : Rc49.Model) (s b z : Int), vs = [.ref a, .int s, .int b, .int z] ∧ ModelAt C H a A m ∧
  ((Rc49.isState m s && (Rc49.isState m b && Rc49.isWeight z)) = false → Q (.bl false) H) ∧
  ((Rc49.isState m s && (Rc49.isState m b && Rc49.isWeight z)) = true → ∀ H', ModelAt C H' a A { m with goes := m.goes.set (s.toNat * m.states + b.toNat) z.toNat } → Keep A.lists H H' → Q (.bl true) H')
def spSetSign (C : Addr) : Sp := fun vs H Q _ => ∃ (a : Addr) (A : MA) (m : Rc49.Model) (s b z : Int), vs = [.ref a, .int s, .int b, .int z] ∧ ModelAt C H a A m ∧
  ((Rc49.isState m s && (Rc49.isSign m b && Rc49.isWeight z)) = false → Q (.bl false) H) ∧
  ((Rc49.isState m s && (Rc49.isSign m b && Rc49.isWeight z)) = true → ∀ H', ModelAt C H' a A { m with shows := m.shows.set (s.toNat * m.signs + b.toNat) z.toNat } → Keep A.lists H H' → Q (.bl true) H')

/-! ### what a store does to a model -/
theorem ModelAt.ne {C : Addr} {H : Hp} {a : Addr} {A : MA} {m : Rc49.Model} (M : ModelAt C H a A m) {b : Addr} {xs : List V} (h : H b = some (.lst xs)) : a ≠ b := ne_of M.ins h (by intro q; cases q)
theorem MA.nd_split {A : MA} (h : A.lists.Nodup) : (A.ls ≠ A.lp ∧ A.ls ≠ A.lg ∧ A.lp ≠ A.lg) ∧ (∀ r, r ∈ A.pr → r ≠ A.ls ∧ r ≠ A.lp ∧ r ≠ A.lg) ∧ (∀ r, r ∈ A.gr → r ≠ A.ls ∧ r ≠ A.lp ∧ r ≠ A.lg) ∧ A.pr.Nodup ∧ A.gr.Nodup ∧ (∀ r q, r ∈ A.pr → q ∈ A.gr → r ≠ q) := by
  unfold MA.lists at h
  obtain ⟨h1, h⟩ := List.nodup_cons.mp h
  obtain ⟨h2, h⟩ := List.nodup_cons.mp h
  obtain ⟨h3, h⟩ := List.nodup_cons.mp h
  obtain ⟨h4, h5, h6⟩ := List.nodup_append.mp h
  simp only [List.mem_cons, List.mem_append, not_or] at h1 h2 h3
  refine ⟨⟨h1.1, h1.2.1, h2.1⟩, fun r hr => ⟨fun e => h1.2.2.1 (e ▸ hr), fun e => h2.2.1 (e ▸ hr), fun e => h3.1 (e ▸ hr)⟩, fun r hr => ⟨fun e => h1.2.2.2 (e ▸ hr), fun e => h2.2.2 (e ▸ hr), fun e => h3.2 (e ▸ hr)⟩, h4, h5, fun r q hr hq => h6 r hr q hq⟩
theorem nd_inj {l : List Addr} (h : l.Nodup) {i j : Nat} {x : Addr} (a : l[i]? = some x) (b : l[j]? = some x) : i = j := by
  obtain ⟨h1, e1⟩ := List.getElem?_eq_some_iff.mp a
  obtain ⟨h2, e2⟩ := List.getElem?_eq_some_iff.mp b
  exact (List.getElem_inj h).mp (e1.trans e2.symm)
theorem ModelAt.setStart {C : Addr} {H : Hp} {a : Addr} {A : MA} {m : Rc49.Model} (M : ModelAt C H a A m) {s z : Nat} (hz : z ≤ 65535) :
    ModelAt C (upd H A.ls (.lst ((nv m.begins).set s (V.int (z : Int))))) a A { m with begins := m.begins.set s z } := by
  obtain ⟨⟨d1, d2, d3⟩, d4, d5, d6, d7, d8⟩ := MA.nd_split M.nd
  refine ⟨?_, Good_b M.good hz, ?_, ?_, ?_, M.plen, M.glen, fun i r h => ?_, fun i r h => ?_, M.nd⟩
  · rw [upd_ne (M.ne M.start)]; exact M.ins
  · rw [upd_same, nv_set]
  · rw [upd_ne (Ne.symm d1)]; exact M.steps
  · rw [upd_ne (Ne.symm d2)]; exact M.signs
  · rw [upd_ne (d4 r (List.mem_of_getElem? h)).1]; exact M.prow i r h
  · rw [upd_ne (d5 r (List.mem_of_getElem? h)).1]; exact M.grow i r h
theorem ModelAt.setStep {C : Addr} {H : Hp} {a : Addr} {A : MA} {m : Rc49.Model} (M : ModelAt C H a A m) {s b z : Nat} {r0 : Addr} (h0 : A.pr[s]? = some r0) (hs : s < m.states) (hb : b < m.states) (hz : z ≤ 65535) :
    ModelAt C (upd H r0 (.lst ((nv (goRow m s)).set b (V.int (z : Int))))) a A { m with goes := m.goes.set (s * m.states + b) z } := by
  obtain ⟨⟨d1, d2, d3⟩, d4, d5, d6, d7, d8⟩ := MA.nd_split M.nd
  have hl := M.good.2.2.2.2.2.1
  have m0 := List.mem_of_getElem? h0
  refine ⟨?_, Good_g M.good hz, ?_, ?_, ?_, M.plen, M.glen, fun i r h => ?_, fun i r h => ?_, M.nd⟩
  · rw [upd_ne (M.ne (M.prow s r0 h0))]; exact M.ins
  · rw [upd_ne (Ne.symm (d4 r0 m0).1)]; exact M.start
  · rw [upd_ne (Ne.symm (d4 r0 m0).2.1)]; exact M.steps
  · rw [upd_ne (Ne.symm (d4 r0 m0).2.2)]; exact M.signs
  · rw [goRow_set hl hs hb]
    by_cases e : i = s
    · subst e
      have e2 : r = r0 := Option.some.inj (h.symm.trans h0)
      subst e2
      rw [upd_same, if_pos rfl, nv_set]
    · rw [if_neg e, upd_ne (fun q => e (nd_inj d6 h (by rw [q]; exact h0)))]
      exact M.prow i r h
  · rw [upd_ne (Ne.symm (d8 r0 r m0 (List.mem_of_getElem? h)))]; exact M.grow i r h
theorem ModelAt.setSign {C : Addr} {H : Hp} {a : Addr} {A : MA} {m : Rc49.Model} (M : ModelAt C H a A m) {s b z : Nat} {r0 : Addr} (h0 : A.gr[s]? = some r0) (hs : s < m.states) (hb : b < m.signs) (hz : z ≤ 65535) :
    ModelAt C (upd H r0 (.lst ((nv (showRow m s)).set b (V.int (z : Int))))) a A { m with shows := m.shows.set (s * m.signs + b) z } := by
  obtain ⟨⟨d1, d2, d3⟩, d4, d5, d6, d7, d8⟩ := MA.nd_split M.nd
  have hl := M.good.2.2.2.2.2.2.1
  have m0 := List.mem_of_getElem? h0
  refine ⟨?_, Good_s M.good hz, ?_, ?_, ?_, M.plen, M.glen, fun i r h => ?_, fun i r h => ?_, M.nd⟩
  · rw [upd_ne (M.ne (M.grow s r0 h0))]; exact M.ins
  · rw [upd_ne (Ne.symm (d5 r0 m0).1)]; exact M.start
  · rw [upd_ne (Ne.symm (d5 r0 m0).2.1)]; exact M.steps
  · rw [upd_ne (Ne.symm (d5 r0 m0).2.2)]; exact M.signs
  · rw [upd_ne (d8 r r0 (List.mem_of_getElem? h) m0)]; exact M.prow i r h
  · rw [showRow_set hl hs hb]
    by_cases e : i = s
    · subst e
      have e2 : r = r0 := Option.some.inj (h.symm.trans h0)
      subst e2
      rw [upd_same, if_pos rfl, nv_set]
    · rw [if_neg e, upd_ne (fun q => e (nd_inj d7 h (by rw [q]; exact h0)))]
      exact M.grow i r h
theorem keep_upd {own : List Addr} {H : Hp} {r : Addr} {o : HO} (h : r ∈ own) : Keep own H (upd H r o) := fun b u e hb => by
  rw [upd_ne (fun q : b = r => hb (by rw [q]; exact h))]
  exact e
theorem MA.mem_ls (A : MA) : A.ls ∈ A.lists := List.mem_cons_self ..
theorem MA.mem_pr {A : MA} {r : Addr} (h : r ∈ A.pr) : r ∈ A.lists := by simp [MA.lists, h]
theorem MA.mem_gr {A : MA} {r : Addr} (h : r ∈ A.gr) : r ∈ A.lists := by simp [MA.lists, h]

section
variable {P : Program} {w : World} {K : PySem.W.Frag} {mg : Str → Option Value} {base : Heap}
/-- a number of the text's top -/
theorem pe_gint {X : Cx} {x : Str} {i : Int} {pos : Pos} (hm : ∃ t, X.mg x = some (.int i t)) (hg : Gl X x := by rfl) (hd : (x == ("__debug__" : Str)) = false := by decide) : PE X (.Name x pos) (tC (.int i)) := by
  obtain ⟨t, hm⟩ := hm
  exact pe_glob (v := V.int i) hg hm ⟨t, rfl⟩ hd
/-! ### one theorem a def -/
theorem scIsWeight : FnScope ["weight"] ["weight"] (defScope sIsWeight) := ⟨rfl, rfl, rfl, by decide +kernel, rfl, by decide +kernel, by decide +kernel⟩
theorem ok_isWeight {f C : Addr} {fd : FuncData} (F : Fun K "is_weight" "is_weight" sIsWeight f fd) (T : TxtM K mg C) : FnOk P w K mg base CX0 1 f fd ["weight"] spIsWeight := by
  refine F.ok scIsWeight (fun vs H Q E h => ?_) (fun cdv A outer s H vs Q E hr h => ?_)
  · obtain ⟨z, rfl, _⟩ := h
    rfl
  · obtain ⟨z, rfl, k⟩ := h
    refine ⟨_, pss_one (ps_ret (pe_chain op_le op_le pe_int (pv 0) (pe_gint T.mw))), ?_⟩
    refine ⟨_, rfl, _, _, rfl, rfl, _, rfl, ite2 (fun h1 => ?_) (fun h1 => ?_)⟩
    · refine ⟨_, _, rfl, rfl, ?_⟩
      have e : Rc49.isWeight z = decide (z ≤ 65535) := by
        have h1 := of_decide_eq_true h1
        simp [Rc49.isWeight, h1]
      rw [e] at k
      exact k
    · have e : Rc49.isWeight z = false := by
        have h1 : ¬ (0 ≤ z) := fun q => h1 (decide_eq_true q)
        simp [Rc49.isWeight]
        omega
      rw [e] at k
      exact k
theorem scIsSize : FnScope ["states", "signs"] ["states", "signs"] (defScope sIsSize) := ⟨rfl, rfl, rfl, by decide +kernel, rfl, by decide +kernel, by decide +kernel⟩
theorem ok_isSize {f C : Addr} {fd : FuncData} (F : Fun K "is_size" "is_size" sIsSize f fd) (T : TxtM K mg C) : FnOk P w K mg base CX0 1 f fd ["states", "signs"] spIsSize := by
  refine F.ok scIsSize (fun vs H Q E h => ?_) (fun cdv A outer s H vs Q E hr h => ?_)
  · obtain ⟨n, k, rfl, _⟩ := h
    rfl
  · obtain ⟨n, k, rfl, q⟩ := h
    refine ⟨_, pss_one (ps_ret (pe_and (pe_chain op_le op_le pe_int (pv 0) (pe_gint T.ms)) (pe_one (pe_chain op_le op_le pe_int (pv 1) (pe_gint T.mo))))), ?_⟩
    refine ⟨_, rfl, _, _, rfl, rfl, _, rfl, ite2 (fun h1 => ?_) (fun h1 => ?_)⟩
    · have h1 := of_decide_eq_true h1
      refine ⟨_, _, rfl, rfl, _, rfl, ite2 (fun h2 => ?_) (fun h2 => ?_)⟩
      · have h2 := of_decide_eq_true h2
        refine ⟨_, rfl, _, _, rfl, rfl, _, rfl, ite2 (fun h3 => ?_) (fun h3 => ?_)⟩
        · have h3 := of_decide_eq_true h3
          refine ⟨_, _, rfl, rfl, ?_⟩
          have e : decide (1 ≤ n ∧ n ≤ 16 ∧ 1 ≤ k ∧ k ≤ 16) = decide (k ≤ 16) := by simp [h1, h2, h3]
          rw [e] at q
          exact q
        · have h3 : ¬ (1 ≤ k) := fun q => h3 (decide_eq_true q)
          have e : decide (1 ≤ n ∧ n ≤ 16 ∧ 1 ≤ k ∧ k ≤ 16) = false := by simp; omega
          rw [e] at q
          exact q
      · have h2 : ¬ (n ≤ 16) := fun q => h2 (decide_eq_true q)
        have e : decide (1 ≤ n ∧ n ≤ 16 ∧ 1 ≤ k ∧ k ≤ 16) = false := by simp; omega
        rw [e] at q
        exact q
    · have h1 : ¬ (1 ≤ n) := fun q => h1 (decide_eq_true q)
      have e : decide (1 ≤ n ∧ n ≤ 16 ∧ 1 ≤ k ∧ k ≤ 16) = false := by simp; omega
      rw [e] at q
      exact ⟨_, rfl, iteF q⟩
theorem scHasState : FnScope ["self", "state"] ["self", "state"] (defScope sHasState) := ⟨rfl, rfl, rfl, by decide +kernel, rfl, by decide +kernel, by decide +kernel⟩
theorem ok_hasState {f C : Addr} {fd : FuncData} (F : Fun K "has_state" "Model.has_state" sHasState f fd) (T : TxtM K mg C) : FnOk P w K mg base CX0 1 f fd ["self", "state"] (spHasState C) := by
  refine F.ok scHasState (fun vs H Q E h => ?_) (fun cdv A outer s H vs Q E hr h => ?_)
  · obtain ⟨a, A, m, z, rfl, _⟩ := h
    rfl
  · obtain ⟨a, B, m, z, rfl, M, k⟩ := h
    refine ⟨_, pss_one (ps_ret (pe_chain op_le op_lt pe_int (pv 1) (pe_fld (pv 0) rfl))), ?_⟩
    refine ⟨_, rfl, _, _, rfl, rfl, _, rfl, ite2 (fun h1 => ?_) (fun h1 => ?_)⟩
    · refine ⟨_, rfl, a, C, _, _, _, rfl, M.ins, T.cl, T.n1, mf_states _ _ _, _, _, rfl, rfl, ?_⟩
      have e : Rc49.isState m z = decide (z < (m.states : Int)) := by
        have h1 := of_decide_eq_true h1
        simp [Rc49.isState, h1]
      rw [e] at k
      exact k
    · have e : Rc49.isState m z = false := by
        have h1 : ¬ (0 ≤ z) := fun q => h1 (decide_eq_true q)
        simp [Rc49.isState]
        omega
      rw [e] at k
      exact k
theorem scHasSign : FnScope ["self", "sign"] ["self", "sign"] (defScope sHasSign) := ⟨rfl, rfl, rfl, by decide +kernel, rfl, by decide +kernel, by decide +kernel⟩
theorem ok_hasSign {f C : Addr} {fd : FuncData} (F : Fun K "has_sign" "Model.has_sign" sHasSign f fd) (T : TxtM K mg C) : FnOk P w K mg base CX0 1 f fd ["self", "sign"] (spHasSign C) := by
  refine F.ok scHasSign (fun vs H Q E h => ?_) (fun cdv A outer s H vs Q E hr h => ?_)
  · obtain ⟨a, A, m, z, rfl, _⟩ := h
    rfl
  · obtain ⟨a, B, m, z, rfl, M, k⟩ := h
    refine ⟨_, pss_one (ps_ret (pe_chain op_le op_lt pe_int (pv 1) (pe_fld (pv 0) rfl))), ?_⟩
    refine ⟨_, rfl, _, _, rfl, rfl, _, rfl, ite2 (fun h1 => ?_) (fun h1 => ?_)⟩
    · refine ⟨_, rfl, a, C, _, _, _, rfl, M.ins, T.cl, T.n2, mf_signs _ _ _, _, _, rfl, rfl, ?_⟩
      have e : Rc49.isSign m z = decide (z < (m.signs : Int)) := by
        have h1 := of_decide_eq_true h1
        simp [Rc49.isSign, h1]
      rw [e] at k
      exact k
    · have e : Rc49.isSign m z = false := by
        have h1 : ¬ (0 ≤ z) := fun q => h1 (decide_eq_true q)
        simp [Rc49.isSign]
        omega
      rw [e] at k
      exact k
end
end Hs
end

section
set_option Elab.async false
set_option maxRecDepth 100000
set_option maxHeartbeats 2000000
namespace Hs
open PySem PySem.Spec PyProof.Rows L2
/-- a def (or method) that keeps a promise, as its callers want it -/
structure Ok (P : Program) (w : World) (K : PySem.W.Frag) (mg : Str → Option Value) (base : Heap) (k : Nat) (f : Addr) (ps : List Str) (sp : Sp) : Prop where
  ex : ∃ fd, FnOk P w K mg base CX0 k f fd ps sp ∧ Binds K fd ps []
  kp : PySem.W.keepIn K (.ref f) = true
theorem isState_nat {m : Rc49.Model} {z : Int} (h : Rc49.isState m z = true) : ∃ i : Nat, z = (i : Int) ∧ i < m.states := by
  have h := of_decide_eq_true h
  exact ⟨z.toNat, by omega, by omega⟩
theorem isSign_nat {m : Rc49.Model} {z : Int} (h : Rc49.isSign m z = true) : ∃ i : Nat, z = (i : Int) ∧ i < m.signs := by
  have h := of_decide_eq_true h
  exact ⟨z.toNat, by omega, by omega⟩
theorem isWeight_nat {z : Int} (h : Rc49.isWeight z = true) : ∃ i : Nat, z = (i : Int) ∧ i ≤ 65535 := by
  have h := of_decide_eq_true h
  exact ⟨z.toNat, by omega, by omega⟩
theorem ixN_of {n i : Nat} (h : i < n) : ixN n (i : Int) = some i := by
  unfold ixN
  rw [if_pos (by omega), if_pos (by omega)]
  rfl
section
variable {P : Program} {w : World} {K : PySem.W.Frag} {mg : Str → Option Value} {base : Heap}
theorem scSetStart : FnScope ["self", "state", "weight"] ["self", "state", "weight"] (defScope sSetStart) := ⟨rfl, rfl, rfl, by decide +kernel, rfl, by decide +kernel, by decide +kernel⟩
theorem ok_setStart {f C fS fW : Addr} {fd fdS fdW : FuncData} (F : Fun K "set_start" "Model.set_start" sSetStart f fd) (T : TxtM K mg C) 
    (GS : FnOk P w K mg base CX0 1 fS fdS ["self", "state"] (spHasState C)) (bS : Binds K fdS ["self", "state"] []) (mS : Meth K C "has_state" fS)
    (GW : FnOk P w K mg base CX0 1 fW fdW ["weight"] spIsWeight) (bW : Binds K fdW ["weight"] []) (gW : mg "is_weight" = some (.ref fW)) (kW : PySem.W.keepIn K (.ref fW) = true) :
    FnOk P w K mg base CX0 2 f fd ["self", "state", "weight"] (spSetStart C) := by
  refine F.ok scSetStart (fun vs H Q E h => ?_) (fun cdv A outer s H vs Q E hr h => ?_)
  · obtain ⟨a, A, m, s, z, rfl, _⟩ := h
    rfl
  · obtain ⟨a, B, m, s, z, rfl, M, k0, k1⟩ := h
    refine ⟨_, pss_cons (ps_if (pt_not (PW.pt (pw_and (pt_val (pe_meth (pv 0) T.cl mS GS hr bS .nil pass0 (pa_cons (pv 1) pa_nil))) (pw_and1 (pt_val (pe_call GW hr rfl gW kW bW .nil pass0 (pa_cons (pv 2) pa_nil))))))) (pss_one (ps_ret pe_bl)) pss_nil)
      (pss_cons (ps_asg (pv 2) (pg_sub (pe_fld (pv 0) rfl) (pv 1) set_list)) (pss_one (ps_ret pe_bl))), ?_⟩
    refine ⟨_, rfl, a, _, _, rfl, M.ins, mf_hasState _ _ _, _, rfl, a, B, m, s, rfl, M, _, rfl, ?_⟩
    cases e1 : Rc49.isState m s with
    | false =>
      refine iteF (iteT (k0 ?_))
      rw [e1]
      rfl
    | true =>
      refine iteT ⟨_, rfl, z, rfl, _, rfl, ?_⟩
      cases e2 : Rc49.isWeight z with
      | false =>
        refine iteT (k0 ?_)
        rw [e1, e2]
        rfl
      | true =>
        refine iteF ?_
        obtain ⟨i, rfl, hi⟩ := isState_nat e1
        obtain ⟨v, rfl, hv⟩ := isWeight_nat e2
        refine ⟨_, rfl, _, rfl, a, C, _, _, _, rfl, M.ins, T.cl, T.n3, mf_start _ _ _, _, rfl, _, _, _, i, rfl, rfl, M.start, ixN_of (by rw [nv_len, M.good.2.2.2.2.1]; exact hi), ?_⟩
        exact k1 (by rw [e1, e2]; rfl) _ (M.setStart hv) (keep_upd B.mem_ls)
theorem scSetStep : FnScope ["self", "origin", "goal", "weight"] ["self", "origin", "goal", "weight"] (defScope sSetStep) := ⟨rfl, rfl, rfl, by decide +kernel, rfl, by decide +kernel, by decide +kernel⟩
theorem ok_setStep {f C fS fW : Addr} {fd fdS fdW : FuncData} (F : Fun K "set_step" "Model.set_step" sSetStep f fd) (T : TxtM K mg C) 
    (GS : FnOk P w K mg base CX0 1 fS fdS ["self", "state"] (spHasState C)) (bS : Binds K fdS ["self", "state"] []) (mS : Meth K C "has_state" fS)
    (GW : FnOk P w K mg base CX0 1 fW fdW ["weight"] spIsWeight) (bW : Binds K fdW ["weight"] []) (gW : mg "is_weight" = some (.ref fW)) (kW : PySem.W.keepIn K (.ref fW) = true) :
    FnOk P w K mg base CX0 2 f fd ["self", "origin", "goal", "weight"] (spSetStep C) := by
  refine F.ok scSetStep (fun vs H Q E h => ?_) (fun cdv A outer s H vs Q E hr h => ?_)
  · obtain ⟨a, A, m, s, b, z, rfl, _⟩ := h
    rfl
  · obtain ⟨a, B, m, s, b, z, rfl, M, k0, k1⟩ := h
    refine ⟨_, pss_cons (ps_if (pt_not (PW.pt (pw_and (pt_val (pe_meth (pv 0) T.cl mS GS hr bS .nil pass0 (pa_cons (pv 1) pa_nil))) (pw_and (pt_val (pe_meth (pv 0) T.cl mS GS hr bS .nil pass0 (pa_cons (pv 2) pa_nil))) (pw_and1 (pt_val (pe_call GW hr rfl gW kW bW .nil pass0 (pa_cons (pv 3) pa_nil)))))))) (pss_one (ps_ret pe_bl)) pss_nil)
      (pss_cons (ps_asg (pv 3) (pg_sub (pe_ix ix_list (pe_fld (pv 0) rfl) (pv 1) (fun _ _ => rfl)) (pv 2) set_list)) (pss_one (ps_ret pe_bl))), ?_⟩
    refine ⟨_, rfl, a, _, _, rfl, M.ins, mf_hasState _ _ _, _, rfl, a, B, m, s, rfl, M, _, rfl, ?_⟩
    cases e1 : Rc49.isState m s with
    | false =>
      refine iteF (iteT (k0 ?_))
      rw [e1]
      rfl
    | true =>
      refine iteT ⟨_, rfl, a, _, _, rfl, M.ins, mf_hasState _ _ _, _, rfl, a, B, m, b, rfl, M, _, rfl, ?_⟩
      cases e3 : Rc49.isState m b with
      | false =>
        refine iteF (iteT (k0 ?_))
        rw [e1, e3]
        rfl
      | true =>
        refine iteT ⟨_, rfl, z, rfl, _, rfl, ?_⟩
        cases e2 : Rc49.isWeight z with
        | false =>
          refine iteT (k0 ?_)
          rw [e1, e2, e3]
          rfl
        | true =>
          refine iteF ?_
          obtain ⟨i, rfl, hi⟩ := isState_nat e1
          obtain ⟨j, rfl, hj⟩ := isState_nat e3
          obtain ⟨v, rfl, hv⟩ := isWeight_nat e2
          obtain ⟨r0, h0⟩ : ∃ r, B.pr[i]? = some r := ⟨_, List.getElem?_eq_getElem (by rw [M.plen]; exact hi)⟩
          refine ⟨_, rfl, _, rfl, a, C, _, _, _, rfl, M.ins, T.cl, T.n4, mf_step _ _ _, _, rfl, _, _, _, V.ref r0, rfl, rfl, SqL.of M.steps, atI_nat (by rw [List.getElem?_map, h0]; rfl), _, rfl, r0, _, _, j, rfl, rfl, M.prow i r0 h0, ixN_of (by rw [nv_len, goRow_len]; exact hj), ?_⟩
          exact k1 (by rw [e1, e2, e3]; rfl) _ (M.setStep h0 hi hj hv) (keep_upd (MA.mem_pr (List.mem_of_getElem? h0)))
theorem scSetSign : FnScope ["self", "state", "sign", "weight"] ["self", "state", "sign", "weight"] (defScope sSetSign) := ⟨rfl, rfl, rfl, by decide +kernel, rfl, by decide +kernel, by decide +kernel⟩
theorem ok_setSign {f C fS fO fW : Addr} {fd fdS fdO fdW : FuncData} (F : Fun K "set_sign" "Model.set_sign" sSetSign f fd) (T : TxtM K mg C) 
    (GS : FnOk P w K mg base CX0 1 fS fdS ["self", "state"] (spHasState C)) (bS : Binds K fdS ["self", "state"] []) (mS : Meth K C "has_state" fS)
    (GO : FnOk P w K mg base CX0 1 fO fdO ["self", "sign"] (spHasSign C)) (bO : Binds K fdO ["self", "sign"] []) (mO : Meth K C "has_sign" fO)
    (GW : FnOk P w K mg base CX0 1 fW fdW ["weight"] spIsWeight) (bW : Binds K fdW ["weight"] []) (gW : mg "is_weight" = some (.ref fW)) (kW : PySem.W.keepIn K (.ref fW) = true) :
    FnOk P w K mg base CX0 2 f fd ["self", "state", "sign", "weight"] (spSetSign C) := by
  refine F.ok scSetSign (fun vs H Q E h => ?_) (fun cdv A outer s H vs Q E hr h => ?_)
  · obtain ⟨a, A, m, s, b, z, rfl, _⟩ := h
    rfl
  · obtain ⟨a, B, m, s, b, z, rfl, M, k0, k1⟩ := h
    refine ⟨_, pss_cons (ps_if (pt_not (PW.pt (pw_and (pt_val (pe_meth (pv 0) T.cl mS GS hr bS .nil pass0 (pa_cons (pv 1) pa_nil))) (pw_and (pt_val (pe_meth (pv 0) T.cl mO GO hr bO .nil pass0 (pa_cons (pv 2) pa_nil))) (pw_and1 (pt_val (pe_call GW hr rfl gW kW bW .nil pass0 (pa_cons (pv 3) pa_nil)))))))) (pss_one (ps_ret pe_bl)) pss_nil)
      (pss_cons (ps_asg (pv 3) (pg_sub (pe_ix ix_list (pe_fld (pv 0) rfl) (pv 1) (fun _ _ => rfl)) (pv 2) set_list)) (pss_one (ps_ret pe_bl))), ?_⟩
    refine ⟨_, rfl, a, _, _, rfl, M.ins, mf_hasState _ _ _, _, rfl, a, B, m, s, rfl, M, _, rfl, ?_⟩
    cases e1 : Rc49.isState m s with
    | false =>
      refine iteF (iteT (k0 ?_))
      rw [e1]
      rfl
    | true =>
      refine iteT ⟨_, rfl, a, _, _, rfl, M.ins, mf_hasSign _ _ _, _, rfl, a, B, m, b, rfl, M, _, rfl, ?_⟩
      cases e3 : Rc49.isSign m b with
      | false =>
        refine iteF (iteT (k0 ?_))
        rw [e1, e3]
        rfl
      | true =>
        refine iteT ⟨_, rfl, z, rfl, _, rfl, ?_⟩
        cases e2 : Rc49.isWeight z with
        | false =>
          refine iteT (k0 ?_)
          rw [e1, e2, e3]
          rfl
        | true =>
          refine iteF ?_
          obtain ⟨i, rfl, hi⟩ := isState_nat e1
          obtain ⟨j, rfl, hj⟩ := isSign_nat e3
          obtain ⟨v, rfl, hv⟩ := isWeight_nat e2
          obtain ⟨r0, h0⟩ : ∃ r, B.gr[i]? = some r := ⟨_, List.getElem?_eq_getElem (by rw [M.glen]; exact hi)⟩
          refine ⟨_, rfl, _, rfl, a, C, _, _, _, rfl, M.ins, T.cl, T.n5, mf_sign _ _ _, _, rfl, _, _, _, V.ref r0, rfl, rfl, SqL.of M.signs, atI_nat (by rw [List.getElem?_map, h0]; rfl), _, rfl, r0, _, _, j, rfl, rfl, M.grow i r0 h0, ixN_of (by rw [nv_len, showRow_len]; exact hj), ?_⟩
          exact k1 (by rw [e1, e2, e3]; rfl) _ (M.setSign h0 hi hj hv) (keep_upd (MA.mem_gr (List.mem_of_getElem? h0)))
end
end Hs
end

section
set_option Elab.async false
set_option maxRecDepth 100000
set_option maxHeartbeats 2000000
namespace Hs
open PySem PySem.Spec PyProof.Rows L2
/-- the model that size makes -/
def newModel (n k : Nat) : Rc49.Model := ⟨n, k, List.replicate n 0, List.replicate (n * n) 0, List.replicate (n * k) 0⟩
theorem getD_rep (n i : Nat) : (List.replicate n 0).getD i 0 = 0 := by
  rw [List.getD_eq_getElem?_getD, List.getElem?_replicate]
  split <;> rfl
theorem goRow_new (n k i : Nat) : goRow (newModel n k) i = List.replicate n 0 := by
  unfold goRow
  apply List.ext_getElem?
  intro j
  rw [List.getElem?_map]
  show Option.map (fun j => Rc49.Model.go (newModel n k) i j) (List.range n)[j]? = _
  rw [List.getElem?_replicate]
  by_cases h : j < n
  · rw [List.getElem?_range h, if_pos h]
    show some ((List.replicate (n * n) 0).getD _ 0) = _
    rw [getD_rep]
  · rw [if_neg h, List.getElem?_eq_none (by simp; omega)]
    rfl
theorem showRow_new (n k i : Nat) : showRow (newModel n k) i = List.replicate k 0 := by
  unfold showRow
  apply List.ext_getElem?
  intro j
  rw [List.getElem?_map]
  show Option.map (fun j => Rc49.Model.show_ (newModel n k) i j) (List.range k)[j]? = _
  rw [List.getElem?_replicate]
  by_cases h : j < k
  · rw [List.getElem?_range h, if_pos h]
    show some ((List.replicate (n * k) 0).getD _ 0) = _
    rw [getD_rep]
  · rw [if_neg h, List.getElem?_eq_none (by simp; omega)]
    rfl
theorem rep_flat : ∀ (n : Nat), (List.replicate n [V.int 0]).flatten = nv (List.replicate n 0)
  | 0 => rfl
  | n + 1 => by
    rw [List.replicate_succ, List.flatten_cons, rep_flat n, List.replicate_succ]
    rfl
theorem upd_new {H : Hp} {x : Addr} {o : HO} (h : H x = none) : Same H (upd H x o) := fun b u e => by
  rw [upd_ne (ne_of_none e h)]
  exact e
/-- no test in a comprehension -/
theorem yesT {σ : L2.St} {H : Hp} {A B : Hp → Prop} (h : A H) : tYes σ H (fun b H3 => if b = true then A H3 else B H3) := by
  show (if true = true then A H else B H)
  rw [if_pos rfl]
  exact h
theorem sz {n : Nat} (h : n ≤ 1000) : n ≤ sizeLine := Nat.le_of_lt (small1000 h)
/-- rows made one behind another, since H0 -/
structure Rows (H0 H : Hp) (D : Addr) (c i : Nat) : Prop where
  ex : ∃ rs : List Addr, H D = some (.lst (rs.map V.ref)) ∧ rs.length = i ∧ (D :: rs).Nodup ∧ (∀ r, r ∈ rs → H r = some (.lst (nv (List.replicate c 0))) ∧ H0 r = none) ∧ ∀ b o, H0 b = some o → H b = some o
theorem Rows.step {H0 H : Hp} {D : Addr} {c i : Nat} (R : Rows H0 H D c i) (hD : H0 D = none) {l p : Addr} {o : HO} (hl : H l = none) (hp : (upd H l o) p = none) : ∃ acc, (upd (upd H l o) p (.lst (nv (List.replicate c 0)))) D = some (.lst acc) ∧ acc.length = i ∧
    Rows H0 (upd (upd (upd H l o) p (.lst (nv (List.replicate c 0)))) D (.lst (acc ++ [V.ref p]))) D c (i + 1) := by
  obtain ⟨rs, h1, h2, h3, h4, h5⟩ := R.ex
  have s1 : Same H (upd H l o) := upd_new hl
  have s2 : Same (upd H l o) (upd (upd H l o) p (.lst (nv (List.replicate c 0)))) := upd_new hp
  have s := s1.trans s2
  have pD : p ≠ D := fun e => by
    rw [e, s1 _ _ h1] at hp
    cases hp
  obtain ⟨n1, n2⟩ := List.nodup_cons.mp h3
  refine ⟨_, s _ _ h1, by rw [List.length_map]; exact h2, ⟨rs ++ [p], by rw [upd_same, List.map_append]; rfl, by simp [h2], ?_, fun r hr => ?_, fun b u e => ?_⟩⟩
  · refine List.nodup_cons.mpr ⟨fun q => ?_, List.nodup_append.mpr ⟨n2, by simp, fun x hx y hy => ?_⟩⟩
    · rcases List.mem_append.mp q with q | q
      · exact n1 q
      · exact pD (List.mem_singleton.mp q).symm
    · rw [List.mem_singleton.mp hy]
      intro e
      rw [← e, s1 _ _ (h4 x hx).1] at hp
      cases hp
  · rcases List.mem_append.mp hr with q | q
    · refine ⟨?_, (h4 r q).2⟩
      rw [upd_ne (fun e : r = D => n1 (by rw [← e]; exact q)), s _ _ (h4 r q).1]
    · rw [List.mem_singleton.mp q]
      refine ⟨by rw [upd_ne pD, upd_same], ?_⟩
      cases e : H0 p with
      | none => rfl
      | some u =>
        rw [s1 _ _ (h5 _ _ e)] at hp
        cases hp
  · rw [upd_ne (ne_of_none e hD)]
    exact s _ _ (h5 _ _ e)
theorem Rows.first {H0 : Hp} {D : Addr} {c : Nat} (hD : H0 D = none) : Rows H0 (upd H0 D (.lst [])) D c 0 := ⟨[], upd_same, rfl, by simp, by simp, fun b o e => upd_new hD b o e⟩
def spMInit (C : Addr) : Sp := fun vs H Q _ => ∃ (p dx : Addr) (n k : Nat), vs = [.ref p, .int n, .int k] ∧ H p = some (.ins C dx []) ∧ 1 ≤ n ∧ n ≤ 16 ∧ 1 ≤ k ∧ k ≤ 16 ∧
  ∀ (H' : Hp) (A : MA), ModelAt C H' p A (newModel n k) → (∀ b o, H b = some o → b ≠ p → H' b = some o) → (∀ b, b ∈ A.lists → H b = none) → Q .non H'
section
variable {P : Program} {w : World} {K : PySem.W.Frag} {mg : Str → Option Value} {base : Heap}
theorem scMInit : FnScope ["self", "states", "signs", "state"] ["self", "states", "signs"] (defScope sMInit) := ⟨rfl, rfl, rfl, by decide +kernel, rfl, by decide +kernel, by decide +kernel⟩
theorem ok_minit {f C : Addr} {fd : FuncData} (F : Fun K "__init__" "Model.__init__" sMInit f fd) (T : TxtM K mg C) : FnOk P w K mg base CX0 1 f fd ["self", "states", "signs"] (spMInit C) := by
  refine F.ok scMInit (fun vs H Q E h => ?_) (fun cdv A outer s H vs Q E hr h => ?_)
  · obtain ⟨p, dx, n, k, rfl, _⟩ := h
    rfl
  · obtain ⟨p, dx, n, k, rfl, hp, hn1, hn2, hk1, hk2, q⟩ := h
    refine ⟨_, pss_cons (ps_fld (pv 0) (pv 1) rfl) (pss_cons (ps_fld (pv 0) (pv 2) rfl) (pss_cons (ps_fld (pv 0) (pe_op op_rep (pe_lst (pa_cons pe_int pa_nil)) (pv 1)) rfl)
      (pss_cons (ps_fld (pv 0) (pe_lc rfl scMInit.nd (pi_range1 rfl T.rng (pa_cons (pv 1) pa_nil)) (blkOk_by (own := [("state", 3)]) rfl) (fun _ _ _ _ _ => pg_name (i := 3) scMInit.nd rfl (Or.inl rfl)) (fun _ _ _ _ _ => pts_nil) (fun _ _ _ _ _ => pe_op op_rep (pe_lst (pa_cons pe_int pa_nil)) (pv 1))) rfl)
      (pss_one (ps_fld (pv 0) (pe_lc rfl scMInit.nd (pi_range1 rfl T.rng (pa_cons (pv 1) pa_nil)) (blkOk_by (own := [("state", 3)]) rfl) (fun _ _ _ _ _ => pg_name (i := 3) scMInit.nd rfl (Or.inl rfl)) (fun _ _ _ _ _ => pts_nil) (fun _ _ _ _ _ => pe_op op_rep (pe_lst (pa_cons pe_int pa_nil)) (pv 2))) rfl))))), ?_⟩
    -- self.states, self.signs
    refine ⟨_, rfl, _, rfl, p, C, dx, [], rfl, hp, T.cl, T.n1, (by show 0 < 1000; decide), ?_⟩
    refine ⟨_, rfl, _, rfl, p, C, dx, _, rfl, upd_same, T.cl, T.n2, (by show 1 < 1000; decide), ?_⟩
    rw [upd_upd]
    have t1 : (upd H p (HO.ins C dx (putF "signs" (V.int k) (putF "states" (V.int n) [])))) p = some (.ins C dx [("states", V.int n), ("signs", V.int k)]) := upd_same
    have t2 : ∀ b o, H b = some o → b ≠ p → (upd H p (HO.ins C dx (putF "signs" (V.int k) (putF "states" (V.int n) [])))) b = some o := fun b o e hb => by rw [upd_ne hb]; exact e
    have t3 : ∀ b, (upd H p (HO.ins C dx (putF "signs" (V.int k) (putF "states" (V.int n) [])))) b = none → H b = none := fun b e => by
      by_cases hb : b = p
      · rw [hb, t1] at e
        cases e
      · rw [upd_ne hb] at e
        exact e
    generalize (upd H p (HO.ins C dx (putF "signs" (V.int k) (putF "states" (V.int n) [])))) = H1 at t1 t2 t3 ⊢
    -- self.start_weights
    refine ⟨sz (by decide : 1 ≤ 1000), fun l hl => ⟨_, rfl, l, _, _, rfl, rfl, upd_same, by omega, by omega, sz (by show 1 * (n : Int).toNat ≤ 1000; omega), fun ls hls => ?_⟩⟩
    rw [Int.toNat_natCast, rep_flat]
    have u1 := upd_new (o := HO.lst [V.int 0]) hl
    have u2 := upd_new (o := HO.lst (nv (List.replicate n 0))) hls
    refine ⟨_, rfl, p, C, dx, _, rfl, (u1.trans u2) _ _ t1, T.cl, T.n3, (by show 2 < 1000; decide), ?_⟩
    have a1 : ls ≠ p := fun e => by
      rw [e, u1 _ _ t1] at hls
      cases hls
    have b0 : H1 ls = none := u1.free hls
    have b1 : (upd (upd (upd H1 l (HO.lst [V.int 0])) ls (HO.lst (nv (List.replicate n 0)))) p (HO.ins C dx (putF "start_weights" (V.ref ls) [("states", V.int n), ("signs", V.int k)]))) p = some (.ins C dx [("states", V.int n), ("signs", V.int k), ("start_weights", V.ref ls)]) := upd_same
    have b2 : (upd (upd (upd H1 l (HO.lst [V.int 0])) ls (HO.lst (nv (List.replicate n 0)))) p (HO.ins C dx (putF "start_weights" (V.ref ls) [("states", V.int n), ("signs", V.int k)]))) ls = some (.lst (nv (List.replicate n 0))) := by rw [upd_ne a1, upd_same]
    have b3 : ∀ b o, H1 b = some o → b ≠ p → (upd (upd (upd H1 l (HO.lst [V.int 0])) ls (HO.lst (nv (List.replicate n 0)))) p (HO.ins C dx (putF "start_weights" (V.ref ls) [("states", V.int n), ("signs", V.int k)]))) b = some o := fun b o e hb => by
      rw [upd_ne hb]
      exact (u1.trans u2) _ _ e
    have b4 : ∀ b, (upd (upd (upd H1 l (HO.lst [V.int 0])) ls (HO.lst (nv (List.replicate n 0)))) p (HO.ins C dx (putF "start_weights" (V.ref ls) [("states", V.int n), ("signs", V.int k)]))) b = none → H1 b = none := fun b e => by
      by_cases hb : b = p
      · rw [hb, b1] at e
        cases e
      · rw [upd_ne hb] at e
        exact (u1.trans u2).free e
    generalize (upd (upd (upd H1 l (HO.lst [V.int 0])) ls (HO.lst (nv (List.replicate n 0)))) p (HO.ins C dx (putF "start_weights" (V.ref ls) [("states", V.int n), ("signs", V.int k)]))) = H2 at b1 b2 b3 b4 ⊢
    -- self.step_weights
    refine ⟨_, rfl, _, rfl, by omega, by omega, fun D hD => lc_range (n := (n : Int).toNat) (fun i H' => Rows H2 H' D n i) (Rows.first hD) (fun i H' hi R => ?_) (fun H' R => ?_)⟩
    · refine ⟨rfl, ?_⟩
      refine yesT ?_
      refine ⟨sz (by decide : 1 ≤ 1000), fun l hl => ⟨_, rfl, l, _, _, rfl, rfl, upd_same, by omega, by omega, sz (by show 1 * (n : Int).toNat ≤ 1000; omega), fun r hr => ?_⟩⟩
      rw [Int.toNat_natCast, rep_flat]
      obtain ⟨acc, h1, h2, h3⟩ := R.step hD hl hr
      exact ⟨acc, h1, by rw [h2]; exact small1000 (by omega), h3⟩
    rw [Int.toNat_natCast] at R
    obtain ⟨pr, c1, c2, c3, c4, c5⟩ := R.ex
    refine ⟨_, rfl, p, C, dx, _, rfl, c5 _ _ b1, T.cl, T.n4, (by show 3 < 1000; decide), ?_⟩
    have nDp : D ≠ p := fun e => by
      rw [e, b1] at hD
      cases hD
    have nrp : ∀ r, r ∈ pr → r ≠ p := fun r hr e => by
      have := (c4 r hr).2
      rw [e, b1] at this
      cases this
    have d1 : (upd H' p (HO.ins C dx (putF "step_weights" (V.ref D) [("states", V.int n), ("signs", V.int k), ("start_weights", V.ref ls)]))) p = some (.ins C dx [("states", V.int n), ("signs", V.int k), ("start_weights", V.ref ls), ("step_weights", V.ref D)]) := upd_same
    have d2 : ∀ b o, H' b = some o → b ≠ p → (upd H' p (HO.ins C dx (putF "step_weights" (V.ref D) [("states", V.int n), ("signs", V.int k), ("start_weights", V.ref ls)]))) b = some o := fun b o e hb => by rw [upd_ne hb]; exact e
    have d3 : ∀ b, (upd H' p (HO.ins C dx (putF "step_weights" (V.ref D) [("states", V.int n), ("signs", V.int k), ("start_weights", V.ref ls)]))) b = none → H' b = none := fun b e => by
      by_cases hb : b = p
      · rw [hb, d1] at e
        cases e
      · rw [upd_ne hb] at e
        exact e
    generalize (upd H' p (HO.ins C dx (putF "step_weights" (V.ref D) [("states", V.int n), ("signs", V.int k), ("start_weights", V.ref ls)]))) = H3 at d1 d2 d3 ⊢
    -- self.sign_weights
    refine ⟨_, rfl, _, rfl, by omega, by omega, fun E' hE => lc_range (n := (n : Int).toNat) (fun i H' => Rows H3 H' E' k i) (Rows.first hE) (fun i H' hi R => ?_) (fun H4 R' => ?_)⟩
    · refine ⟨rfl, ?_⟩
      refine yesT ?_
      refine ⟨sz (by decide : 1 ≤ 1000), fun l hl => ⟨_, rfl, l, _, _, rfl, rfl, upd_same, by omega, by omega, sz (by show 1 * (k : Int).toNat ≤ 1000; omega), fun r hr => ?_⟩⟩
      rw [Int.toNat_natCast, rep_flat]
      obtain ⟨acc, h1, h2, h3⟩ := R.step hE hl hr
      exact ⟨acc, h1, by rw [h2]; exact small1000 (by omega), h3⟩
    rw [Int.toNat_natCast] at R'
    obtain ⟨gr, e1, e2, e3, e4, e5⟩ := R'.ex
    refine ⟨_, rfl, p, C, dx, _, rfl, e5 _ _ d1, T.cl, T.n5, (by show 4 < 1000; decide), ?_⟩
    have nEp : E' ≠ p := fun e => by
      rw [e, d1] at hE
      cases hE
    have nqp : ∀ r, r ∈ gr → r ≠ p := fun r hr e => by
      have := (e4 r hr).2
      rw [e, d1] at this
      cases this
    have l3 : ∀ b o, H2 b = some o → b ≠ p → H3 b = some o := fun b o e hb => d2 _ _ (c5 _ _ e) hb
    have D3 : H3 D = some (.lst (pr.map V.ref)) := d2 _ _ c1 nDp
    have P3 : ∀ r, r ∈ pr → H3 r = some (.lst (nv (List.replicate n 0))) := fun r hr => d2 _ _ (c4 r hr).1 (nrp r hr)
    have S3 : H3 ls = some (.lst (nv (List.replicate n 0))) := l3 _ _ b2 a1
    have no3 : ∀ (b : Addr) (o : HO), H3 b = some o → b ≠ E' ∧ b ∉ gr := fun b o e => ⟨ne_of_none e hE, fun hb => by
      have := (e4 b hb).2
      rw [e] at this
      cases this⟩
    have no2 : ∀ (b : Addr) (o : HO), H2 b = some o → b ≠ D ∧ b ∉ pr := fun b o e => ⟨ne_of_none e hD, fun hb => by
      have := (c4 b hb).2
      rw [e] at this
      cases this⟩
    obtain ⟨c6, c7⟩ := List.nodup_cons.mp c3
    obtain ⟨e6, e7⟩ := List.nodup_cons.mp e3
    refine q _ ⟨dx, ls, D, E', pr, gr⟩ ⟨?_, Good_new hn1 hn2 hk1 hk2, ?_, ?_, ?_, c2, e2, fun i r h => ?_, fun i r h => ?_, ?_⟩ (fun b o e hb => ?_) (fun b hb => ?_)
    · exact upd_same
    · rw [upd_ne a1]; exact e5 _ _ S3
    · rw [upd_ne nDp]; exact e5 _ _ D3
    · rw [upd_ne nEp]; exact e1
    · rw [goRow_new, upd_ne (nrp r (List.mem_of_getElem? h))]
      exact e5 _ _ (P3 r (List.mem_of_getElem? h))
    · rw [showRow_new, upd_ne (nqp r (List.mem_of_getElem? h))]
      exact (e4 r (List.mem_of_getElem? h)).1
    · show (ls :: D :: E' :: (pr ++ gr)).Nodup
      refine List.nodup_cons.mpr ⟨?_, List.nodup_cons.mpr ⟨?_, List.nodup_cons.mpr ⟨?_, List.nodup_append.mpr ⟨c7, e7, fun x hx y hy e => ?_⟩⟩⟩⟩
      · simp only [List.mem_cons, List.mem_append, not_or]
        exact ⟨(no2 _ _ b2).1, (no3 _ _ S3).1, (no2 _ _ b2).2, (no3 _ _ S3).2⟩
      · simp only [List.mem_cons, List.mem_append, not_or]
        exact ⟨(no3 _ _ D3).1, c6, (no3 _ _ D3).2⟩
      · simp only [List.mem_append, not_or]
        exact ⟨fun hb => (no3 _ _ (P3 _ hb)).1 rfl, e6⟩
      · exact (no3 _ _ (P3 x hx)).2 (e ▸ hy)
    · rw [upd_ne hb]
      exact e5 _ _ (l3 _ _ (b3 _ _ (t2 _ _ e hb) hb) hb)
    · have f2 : ∀ b, H2 b = none → H b = none := fun b e => t3 b (b4 b e)
      have f3 : ∀ b, H3 b = none → H b = none := fun b e => f2 b (by
        cases z : H2 b with
        | none => rfl
        | some o =>
          by_cases hbp : b = p
          · rw [hbp, d1] at e
            cases e
          · rw [l3 _ _ z hbp] at e
            cases e)
      have hb : b = ls ∨ b = D ∨ b = E' ∨ b ∈ pr ∨ b ∈ gr := by
        simpa [MA.lists] using hb
      rcases hb with rfl | rfl | rfl | hb | hb
      · exact t3 _ b0
      · exact f2 _ hD
      · exact f3 _ hE
      · exact f2 _ (c4 b hb).2
      · exact f3 _ (e4 b hb).2
end
end Hs
end

section
set_option Elab.async false
set_option maxRecDepth 100000
set_option maxHeartbeats 2000000
namespace Hs
open PySem PySem.Spec PyProof.Rows L2
abbrev sLarge : Stmt := top 2
abbrev sFraction : Stmt := top 3
abbrev sCommon : Stmt := top 4
abbrev sTotal : Stmt := top 6
abbrev sAt : Stmt := top 7
abbrev sNext : Stmt := top 8
abbrev sEnding : Stmt := top 9
abbrev sBehind : Stmt := top 10
abbrev sShown : Stmt := top 11
abbrev sReached : Stmt := top 12
abbrev sLeft : Stmt := top 13
abbrev sSteps : Stmt := top 14
abbrev sBest : Stmt := top 15
abbrev sOnward : Stmt := top 16
theorem bt_sum : bootBuiltins "sum" = some (.builtin "sum") := by decide +kernel
theorem bt_max : bootBuiltins "max" = some (.builtin "max") := by decide +kernel
theorem bt_all : bootBuiltins "all" = some (.builtin "all") := by decide +kernel
theorem bt_len : bootBuiltins "len" = some (.builtin "len") := by decide +kernel
theorem loc_by {sc : Scope} {x : Str} (h : (match sc.names.lookup x with | some .local => true | some .cell => true | _ => false) = true) : L2.Loc sc x := by
  unfold L2.Loc
  split at h
  · exact .inl (by assumption)
  · exact .inr (by assumption)
  · cases h
theorem ModelAt.same {C : Addr} {H H' : Hp} {a : Addr} {A : MA} {m : Rc49.Model} (M : ModelAt C H a A m) (s : Same H H') : ModelAt C H' a A m :=
  ⟨s _ _ M.ins, M.good, s _ _ M.start, s _ _ M.steps, s _ _ M.signs, M.plen, M.glen, fun i r h => s _ _ (M.prow i r h), fun i r h => s _ _ (M.grow i r h), M.nd⟩
theorem nv_at {x : List Nat} {n i : Nat} (hl : x.length = n) (hi : i < n) : (nv x)[i]? = some (V.int ((x.getD i 0 : Nat) : Int)) := by
  have e : x[i]? = some (x.getD i 0) := by
    rw [List.getD_eq_getElem?_getD, List.getElem?_eq_getElem (by omega)]
    rfl
  exact nv_get e
theorem nv_iv (l : List Nat) : nv l = (l.map fun (x : Nat) => (x : Int)).map V.int := by
  unfold nv
  rw [List.map_map]
  rfl
theorem sum_cast : ∀ l : List Nat, (l.map fun (x : Nat) => (x : Int)).sum = ((l.sum : Nat) : Int)
  | [] => rfl
  | a :: l => by
    rw [List.map_cons, List.sum_cons, List.sum_cons, sum_cast l]
    omega
theorem ModelAt.signRow {C : Addr} {H : Hp} {a : Addr} {A : MA} {m : Rc49.Model} (M : ModelAt C H a A m) {i : Nat} (hi : i < m.states) : ∃ r, (A.gr.map V.ref)[i]? = some (V.ref r) ∧ H r = some (.lst (nv (showRow m i))) := by
  have e : A.gr[i]? = some (A.gr[i]'(by rw [M.glen]; exact hi)) := List.getElem?_eq_getElem _
  exact ⟨_, by rw [List.getElem?_map, e]; rfl, M.grow i _ e⟩
theorem ModelAt.stepRow {C : Addr} {H : Hp} {a : Addr} {A : MA} {m : Rc49.Model} (M : ModelAt C H a A m) {i : Nat} (hi : i < m.states) : ∃ r, (A.pr.map V.ref)[i]? = some (V.ref r) ∧ H r = some (.lst (nv (goRow m i))) := by
  have e : A.pr[i]? = some (A.pr[i]'(by rw [M.plen]; exact hi)) := List.getElem?_eq_getElem _
  exact ⟨_, by rw [List.getElem?_map, e]; rfl, M.prow i _ e⟩
theorem showRow_at {m : Rc49.Model} {i o : Nat} (h : o < m.signs) : (nv (showRow m i))[o]? = some (V.int ((m.show_ i o : Nat) : Int)) := by
  rw [nv_at (showRow_len m i) h]
  rw [show (showRow m i).getD o 0 = _ from getD_map_range _ h]
theorem goRow_atV {m : Rc49.Model} {i o : Nat} (h : o < m.states) : (nv (goRow m i))[o]? = some (V.int ((m.go i o : Nat) : Int)) := by
  rw [nv_at (goRow_len m i) h, goRow_at m i h]
/-- a list that grows by numbers, all else since H0 as it was -/
structure Acc (H0 H : Hp) (D : Addr) (f : Nat → Nat) (i : Nat) : Prop where
  lst : H D = some (.lst (nv ((List.range i).map f)))
  same : Same H0 H
theorem Acc.first {H0 : Hp} {D : Addr} {f : Nat → Nat} (hD : H0 D = none) : Acc H0 (upd H0 D (.lst [])) D f 0 := ⟨upd_same, upd_new hD⟩
theorem Acc.push {H0 H H4 : Hp} {D : Addr} {f : Nat → Nat} {i : Nat} (R : Acc H0 H D f i) (hD : H0 D = none) (s : Same H H4) {y : V} (hy : y = V.int ((f i : Nat) : Int)) :
    Acc H0 (upd H4 D (.lst (nv ((List.range i).map f) ++ [y]))) D f (i + 1) := by
  refine ⟨?_, fun b o e => ?_⟩
  · rw [upd_same, hy, List.range_succ, List.map_append]
    unfold nv
    rw [List.map_append]
    rfl
  · rw [upd_ne (ne_of_none e hD)]
    exact s _ _ (R.same _ _ e)
theorem Acc.len {H0 H : Hp} {D : Addr} {f : Nat → Nat} {i : Nat} (_ : Acc H0 H D f i) (hi : i ≤ 1000) : (nv ((List.range i).map f)).length < sizeLine := by
  rw [nv_len, List.length_map, List.length_range]
  exact small1000 hi
theorem Acc.step {H0 H H4 : Hp} {D : Addr} {f : Nat → Nat} {i : Nat} (R : Acc H0 H D f i) (hD : H0 D = none) (s : Same H H4) (hi : i ≤ 1000) {y : V} (hy : y = V.int ((f i : Nat) : Int)) :
    ∃ acc, H4 D = some (.lst acc) ∧ acc.length < sizeLine ∧ Acc H0 (upd H4 D (.lst (acc ++ [y]))) D f (i + 1) :=
  ⟨_, s _ _ R.lst, R.len hi, R.push hD s hy⟩
theorem Acc.sq {K : PySem.W.Frag} {H0 H : Hp} {D : Addr} {f : Nat → Nat} {i : Nat} (R : Acc H0 H D f i) : SqL K H D ((((List.range i).map f).map fun (x : Nat) => (x : Int)).map V.int) := by
  rw [← nv_iv]
  exact SqL.of R.lst
theorem small16 {z : Nat} (h : z ≤ 65535) : -(2 ^ 64) < (z : Int) ∧ (z : Int) < 2 ^ 64 := ⟨by omega, by omega⟩
/-! ### rules for a comprehension's block: what they ask of the written part is named -/
theorem ixK (K : PySem.W.Frag) {X : Cx} (h : X.K = K := by rfl) : IxR X (rIxL K) := by
  subst h
  exact ix_list
theorem fldK (K : PySem.W.Frag) {X : Cx} {e : Expr} {f : Str} {pos : Pos} {ta : TE} (he : PE X e ta) (hb : attributeBase e f X.env (eval e X.env) = eval e X.env := by rfl) (h : X.K = K := by rfl) : PE X (.Attribute e f pos) (tFld K ta f) := by
  subst h
  exact pe_fld he hb
theorem sumK (K : PySem.W.Frag) {X : Cx} (hc : X.calm = true := by rfl) (h : X.K = K := by rfl) : CallR X (.builtin "sum") (rSum K) := by
  subst h
  exact cr_sum hc
theorem maxK (K : PySem.W.Frag) {X : Cx} (hc : X.calm = true := by rfl) (h : X.K = K := by rfl) : CallR X (.builtin "max") (rMax K) := by
  subst h
  exact cr_max hc
/-! ### the promises of ways.py -/
def spShown (C : Addr) : Sp := fun vs H Q _ => ∃ (a : Addr) (A : MA) (m : Rc49.Model) (w : Addr) (x : List Nat) (o : Nat), vs = [.ref a, .ref w, .int o] ∧ ModelAt C H a A m ∧ H w = some (.lst (nv x)) ∧ x.length = m.states ∧ o < m.signs ∧
  ∀ (H' : Hp) (p : Addr), Same H H' → H p = none → H' p = some (.lst (nv (shown m x o))) → Q (.ref p) H'
def spReached (C : Addr) : Sp := fun vs H Q _ => ∃ (a : Addr) (A : MA) (m : Rc49.Model) (w : Addr) (x : List Nat), vs = [.ref a, .ref w] ∧ ModelAt C H a A m ∧ H w = some (.lst (nv x)) ∧ x.length = m.states ∧
  ∀ (H' : Hp) (p : Addr), Same H H' → H p = none → H' p = some (.lst (nv (reached m x))) → Q (.ref p) H'
def spSteps (C : Addr) : Sp := fun vs H Q _ => ∃ (a : Addr) (A : MA) (m : Rc49.Model) (w : Addr) (x : List Nat) (i : Nat), vs = [.ref a, .int i, .ref w] ∧ ModelAt C H a A m ∧ H w = some (.lst (nv x)) ∧ x.length = m.states ∧ i < m.states ∧
  ∀ (H' : Hp) (p : Addr), Same H H' → H p = none → H' p = some (.lst (nv (stepsFrom m i x))) → Q (.ref p) H'
def spLeft (C : Addr) : Sp := fun vs H Q _ => ∃ (a : Addr) (A : MA) (m : Rc49.Model) (w : Addr) (x : List Nat), vs = [.ref a, .ref w] ∧ ModelAt C H a A m ∧ H w = some (.lst (nv x)) ∧ x.length = m.states ∧
  ∀ (H' : Hp) (p : Addr), Same H H' → H p = none → H' p = some (.lst (nv (left m x))) → Q (.ref p) H'
def spEnding (C : Addr) : Sp := fun vs H Q _ => ∃ (a : Addr) (A : MA) (m : Rc49.Model) (w : Addr) (o : Nat) (r : List Nat), vs = [.ref a, .ref w] ∧ ModelAt C H a A m ∧ H w = some (.lst (nv (o :: r))) ∧ (∀ z, z ∈ o :: r → z < m.signs) ∧
  ∀ (H' : Hp) (p : Addr), Same H H' → H' p = some (.lst (nv (fwd m (o :: r)))) → Q (.ref p) H'
def spBehind (C : Addr) : Sp := fun vs H Q _ => ∃ (a : Addr) (A : MA) (m : Rc49.Model) (w : Addr) (l : List Nat), vs = [.ref a, .ref w] ∧ ModelAt C H a A m ∧ H w = some (.lst (nv l)) ∧ (∀ z, z ∈ l → z < m.signs) ∧
  ∀ (H' : Hp) (p : Addr), Same H H' → H' p = some (.lst (nv (bwd m l))) → Q (.ref p) H'
end Hs
end

section
set_option Elab.async false
set_option maxRecDepth 100000
set_option maxHeartbeats 2000000
namespace Hs
open PySem PySem.Spec PyProof.Rows L2
section
variable {P : Program} {w : World} {K : PySem.W.Frag} {mg : Str → Option Value} {base : Heap}
theorem scShown : FnScope ["model", "weights", "sign", "state"] ["model", "weights", "sign"] (defScope sShown) := ⟨rfl, rfl, rfl, by decide +kernel, rfl, by decide +kernel, by decide +kernel⟩
theorem ok_shown {f C : Addr} {fd : FuncData} (F : Fun K "weights_shown" "weights_shown" sShown f fd) (T : TxtM K mg C) : FnOk P w K mg base CX0 1 f fd ["model", "weights", "sign"] (spShown C) := by
  refine F.ok scShown (fun vs H Q E h => ?_) (fun cdv A outer s H vs Q E hr h => ?_)
  · obtain ⟨a, A, m, w, x, o, rfl, _⟩ := h
    rfl
  · obtain ⟨a, B, m, w, x, o, rfl, M, hw, hx, ho, k⟩ := h
    refine ⟨_, pss_one (ps_ret (pe_lc rfl scShown.nd (pi_range1 rfl T.rng (pa_cons (pe_fld (pv 0) rfl) pa_nil)) (blkOk_by (own := [("state", 3)]) rfl) (fun _ _ _ _ _ => pg_name (i := 3) scShown.nd rfl (Or.inl rfl)) (fun _ _ _ _ _ => pts_nil)
      (fun _ _ _ _ _ => pe_op op_mul (pe_ix (ixK K) (pv 1) (pv 3) (fun _ _ => rfl)) (pe_ix (ixK K) (pe_ix (ixK K) (fldK K (pv 0)) (pv 3) (fun _ _ => rfl)) (pv 2) (fun _ _ => rfl))))), ?_⟩
    have hs : m.states ≤ 16 := M.good.2.1
    refine ⟨_, rfl, a, C, _, _, _, rfl, M.ins, T.cl, T.n1, mf_states _ _ _, _, rfl, by omega, by omega, fun D hD => lc_range (n := ((m.states : Nat) : Int).toNat) (fun i H' => Acc H H' D (fun s => x.getD s 0 * m.show_ s o) i) (Acc.first hD) (fun i H' hi R => ⟨rfl, yesT ?_⟩) (fun H' R => ?_)⟩
    · rw [Int.toNat_natCast] at hi
      have M' := M.same R.same
      obtain ⟨r, g1, g2⟩ := M'.signRow hi
      refine ⟨_, rfl, _, rfl, _, _, _, _, rfl, rfl, SqL.of (R.same _ _ hw), at_of (j := i) (by omega) (nv_at hx hi), ?_⟩
      refine ⟨_, rfl, a, C, _, _, _, rfl, M'.ins, T.cl, T.n5, mf_sign _ _ _, _, rfl, _, _, _, _, rfl, rfl, SqL.of M'.signs, at_of (j := i) (by omega) g1, _, rfl, _, _, _, _, rfl, rfl, SqL.of g2, atI_nat (showRow_at ho), ?_⟩
      refine ⟨_, _, rfl, rfl, .inr (small16 (Good_show M.good i o)), ?_⟩
      exact R.step hD (Same.refl _) (by omega) (congrArg V.int (Int.natCast_mul _ _).symm)
    · rw [Int.toNat_natCast] at R
      exact k H' D R.same hD R.lst
theorem scReached : FnScope ["model", "weights", "reached", "goal", "origin"] ["model", "weights"] (defScope sReached) := ⟨rfl, rfl, rfl, by decide +kernel, rfl, by decide +kernel, by decide +kernel⟩
theorem ok_reached {f C : Addr} {fd : FuncData} (F : Fun K "weights_reached" "weights_reached" sReached f fd) (T : TxtM K mg C) : FnOk P w K mg base CX0 1 f fd ["model", "weights"] (spReached C) := by
  refine F.ok scReached (fun vs H Q E h => ?_) (fun cdv A outer s H vs Q E hr h => ?_)
  · obtain ⟨a, A, m, w, x, rfl, _⟩ := h
    rfl
  · obtain ⟨a, B, m, w, x, rfl, M, hw, hx, k⟩ := h
    refine ⟨_, pss_cons (ps_set (i := 2) scReached.nd rfl (loc_by rfl) (pe_lst pa_nil)) (pss_cons (ps_for PassesOwn.never rfl (pi_range1 rfl T.rng (pa_cons (pe_fld (pv 0) rfl) pa_nil)) (pg_name (i := 3) scReached.nd rfl (loc_by rfl))
      (pss_one (ps_expr (pe_bm PySem.F.plainAttrs_list PySem.F.slot_list_append PySem.F.type_list_append mt_append (pv 2) (pa_cons (pe_callB (cr_sum rfl) rfl T.bsum bt_sum (pa_cons
        (pe_lc rfl scReached.nd (pi_range1 rfl T.rng (pa_cons (pe_fld (pv 0) rfl) pa_nil)) (blkOk_by (own := [("origin", 4)]) rfl) (fun _ _ _ _ _ => pg_name (i := 4) scReached.nd rfl (Or.inl rfl)) (fun _ _ _ _ _ => pts_nil)
          (fun _ _ _ _ _ => pe_op op_mul (pe_ix (ixK K) (pv 1) (pv 4) (fun _ _ => rfl)) (pe_ix (ixK K) (pe_ix (ixK K) (fldK K (pv 0)) (pv 4) (fun _ _ => rfl)) (pv 3) (fun _ _ => rfl)))) pa_nil)) pa_nil)))))
      (pss_one (ps_ret (pv 2)))), ?_⟩
    have hs : m.states ≤ 16 := M.good.2.1
    refine ⟨Nat.zero_le _, fun q hq => ?_⟩
    have s1 : Same H (upd H q (.lst [])) := upd_new hq
    have M1 := M.same s1
    refine ⟨_, rfl, a, C, _, _, _, rfl, M1.ins, T.cl, T.n1, mf_states _ _ _, _, rfl, by omega, by omega, for_range (n := ((m.states : Nat) : Int).toNat) (fun i σ H' => ∃ v : Option V, σ = [some (.ref a), some (.ref w), some (.ref q), v, none] ∧ Acc H H' q (fun b => S m.states fun s => x.getD s 0 * m.go s b) i)
      ⟨none, rfl, Acc.first hq⟩ ?_ ?_⟩
    · rintro i σ H' hi ⟨v, rfl, R⟩
      rw [Int.toNat_natCast] at hi
      have M2 := M.same R.same
      refine ⟨_, rfl, .inl ⟨rfl, _, SqL.of R.lst⟩, ?_⟩
      refine ⟨_, rfl, a, C, _, _, _, rfl, M2.ins, T.cl, T.n1, mf_states _ _ _, _, rfl, by omega, by omega, fun D hD => lc_range (n := ((m.states : Nat) : Int).toNat) (fun j H2 => Acc H' H2 D (fun s => x.getD s 0 * m.go s i) j) (Acc.first hD) (fun j H2 hj R2 => ⟨rfl, yesT ?_⟩) (fun H2 R2 => ?_)⟩
      · rw [Int.toNat_natCast] at hj
        have M3 := M2.same R2.same
        obtain ⟨r, g1, g2⟩ := M3.stepRow hj
        refine ⟨_, rfl, _, rfl, _, _, _, _, rfl, rfl, SqL.of (R2.same _ _ (R.same _ _ hw)), at_of (j := j) (by omega) (nv_at hx hj), ?_⟩
        refine ⟨_, rfl, a, C, _, _, _, rfl, M3.ins, T.cl, T.n4, mf_step _ _ _, _, rfl, _, _, _, _, rfl, rfl, SqL.of M3.steps, at_of (j := j) (by omega) g1, _, rfl, _, _, _, _, rfl, rfl, SqL.of g2, at_of (j := i) (by omega) (goRow_atV hi), ?_⟩
        refine ⟨_, _, rfl, rfl, .inr (small16 (Good_go M.good j i)), ?_⟩
        exact R2.step hD (Same.refl _) (by omega) (congrArg V.int (Int.natCast_mul _ _).symm)
      · rw [Int.toNat_natCast] at R2
        refine ⟨D, _, rfl, R2.sq, q, _, _, rfl, rfl, R2.same _ _ R.lst, R.len (by omega), ?_⟩
        refine ⟨_, rfl, R.push hq R2.same ?_⟩
        rw [sum_cast]
        rfl
    · rintro σ H' ⟨v, rfl, R⟩
      rw [Int.toNat_natCast] at R
      exact ⟨_, rfl, k H' q R.same hq R.lst⟩
theorem scSteps : FnScope ["model", "origin", "weights", "goal"] ["model", "origin", "weights"] (defScope sSteps) := ⟨rfl, rfl, rfl, by decide +kernel, rfl, by decide +kernel, by decide +kernel⟩
theorem ok_steps {f C : Addr} {fd : FuncData} (F : Fun K "steps_from" "steps_from" sSteps f fd) (T : TxtM K mg C) : FnOk P w K mg base CX0 1 f fd ["model", "origin", "weights"] (spSteps C) := by
  refine F.ok scSteps (fun vs H Q E h => ?_) (fun cdv A outer s H vs Q E hr h => ?_)
  · obtain ⟨a, A, m, w, x, i, rfl, _⟩ := h
    rfl
  · obtain ⟨a, B, m, w, x, i, rfl, M, hw, hx, hi, k⟩ := h
    refine ⟨_, pss_one (ps_ret (pe_lc rfl scSteps.nd (pi_range1 rfl T.rng (pa_cons (pe_fld (pv 0) rfl) pa_nil)) (blkOk_by (own := [("goal", 3)]) rfl) (fun _ _ _ _ _ => pg_name (i := 3) scSteps.nd rfl (Or.inl rfl)) (fun _ _ _ _ _ => pts_nil)
      (fun _ _ _ _ _ => pe_op op_mul (pe_ix (ixK K) (pe_ix (ixK K) (fldK K (pv 0)) (pv 1) (fun _ _ => rfl)) (pv 3) (fun _ _ => rfl)) (pe_ix (ixK K) (pv 2) (pv 3) (fun _ _ => rfl))))), ?_⟩
    have hs : m.states ≤ 16 := M.good.2.1
    refine ⟨_, rfl, a, C, _, _, _, rfl, M.ins, T.cl, T.n1, mf_states _ _ _, _, rfl, by omega, by omega, fun D hD => lc_range (n := ((m.states : Nat) : Int).toNat) (fun j H' => Acc H H' D (fun b => m.go i b * x.getD b 0) j) (Acc.first hD) (fun j H' hj R => ⟨rfl, yesT ?_⟩) (fun H' R => ?_)⟩
    · rw [Int.toNat_natCast] at hj
      have M' := M.same R.same
      obtain ⟨r, g1, g2⟩ := M'.stepRow hi
      refine ⟨_, rfl, a, C, _, _, _, rfl, M'.ins, T.cl, T.n4, mf_step _ _ _, _, rfl, _, _, _, _, rfl, rfl, SqL.of M'.steps, atI_nat g1, _, rfl, _, _, _, _, rfl, rfl, SqL.of g2, at_of (j := j) (by omega) (goRow_atV hj), ?_⟩
      refine ⟨_, rfl, _, rfl, _, _, _, _, rfl, rfl, SqL.of (R.same _ _ hw), at_of (j := j) (by omega) (nv_at hx hj), ?_⟩
      refine ⟨_, _, rfl, rfl, .inl (small16 (Good_go M.good i j)), ?_⟩
      exact R.step hD (Same.refl _) (by omega) (congrArg V.int (Int.natCast_mul _ _).symm)
    · rw [Int.toNat_natCast] at R
      exact k H' D R.same hD R.lst
theorem scLeft : FnScope ["model", "weights", "origin"] ["model", "weights"] (defScope sLeft) := ⟨rfl, rfl, rfl, by decide +kernel, rfl, by decide +kernel, by decide +kernel⟩
theorem ok_left {f C : Addr} {fd : FuncData} (F : Fun K "weights_left" "weights_left" sLeft f fd) (T : TxtM K mg C) (D1 : Def P w K mg base "steps_from" ["model", "origin", "weights"] 1 (spSteps C)) : FnOk P w K mg base CX0 2 f fd ["model", "weights"] (spLeft C) := by
  refine F.ok scLeft (fun vs H Q E h => ?_) (fun cdv A outer s H vs Q E hr h => ?_)
  · obtain ⟨a, A, m, w, x, rfl, _⟩ := h
    rfl
  · obtain ⟨a, B, m, w, x, rfl, M, hw, hx, k⟩ := h
    refine ⟨_, pss_one (ps_ret (pe_lc rfl scLeft.nd (pi_range1 rfl T.rng (pa_cons (pe_fld (pv 0) rfl) pa_nil)) (blkOk_by (own := [("origin", 2)]) rfl) (fun _ _ _ _ _ => pg_name (i := 2) scLeft.nd rfl (Or.inl rfl)) (fun _ _ _ _ _ => pts_nil)
      (fun _ _ _ _ _ => pe_callB (sumK K) rfl T.bsum bt_sum (pa_cons (pe_fn D1 hr (pa_cons (pv 0) (pa_cons (pv 2) (pa_cons (pv 1) pa_nil)))) pa_nil)))), ?_⟩
    have hs : m.states ≤ 16 := M.good.2.1
    refine ⟨_, rfl, a, C, _, _, _, rfl, M.ins, T.cl, T.n1, mf_states _ _ _, _, rfl, by omega, by omega, fun D hD => lc_range (n := ((m.states : Nat) : Int).toNat) (fun j H' => Acc H H' D (fun b => (stepsFrom m b x).sum) j) (Acc.first hD) (fun j H' hj R => ⟨rfl, yesT ?_⟩) (fun H' R => ?_)⟩
    · rw [Int.toNat_natCast] at hj
      have M' := M.same R.same
      refine ⟨_, rfl, _, rfl, _, rfl, a, B, m, w, x, j, by rw [Int.zero_add]; rfl, M', R.same _ _ hw, hx, hj, fun H2 p s2 _ hp => ?_⟩
      refine ⟨p, _, rfl, by rw [← nv_iv]; exact SqL.of hp, ?_⟩
      refine R.step hD s2 (by omega) ?_
      rw [sum_cast]
    · rw [Int.toNat_natCast] at R
      exact k H' D R.same hD R.lst
end
end Hs
end

section
set_option Elab.async false
set_option maxRecDepth 100000
set_option maxHeartbeats 2000000
namespace Hs
open PySem PySem.Spec PyProof.Rows L2
theorem nv_some {l : List Nat} {i : Nat} {y : V} (h : (nv l)[i]? = some y) : ∃ z, l[i]? = some z ∧ y = V.int ((z : Nat) : Int) := by
  unfold nv at h
  rw [List.getElem?_map] at h
  cases e : l[i]? with
  | none =>
    rw [e] at h
    cases h
  | some z =>
    rw [e] at h
    exact ⟨z, rfl, (Option.some.inj h).symm⟩
theorem nv_rev (l : List Nat) : (nv l).reverse = nv l.reverse := by
  unfold nv
  rw [List.map_reverse]
theorem nv_drop (l : List Nat) (i : Nat) : (nv l).drop i = nv (l.drop i) := by
  unfold nv
  rw [List.map_drop]
theorem nv_take (l : List Nat) (i : Nat) : (nv l).take i = nv (l.take i) := by
  unfold nv
  rw [List.map_take]
theorem take_snocN {l : List Nat} {i z : Nat} (h : l[i]? = some z) : l.take (i + 1) = l.take i ++ [z] := by
  rw [List.take_add_one, h]
  rfl
theorem drop_rev {l : List Nat} {i z : Nat} (h : l.reverse[i]? = some z) : i < l.length ∧ l.drop (l.length - (i + 1)) = z :: l.drop (l.length - i) := by
  have hi : i < l.length := by
    have := (List.getElem?_eq_some_iff.mp h).1
    rw [List.length_reverse] at this
    exact this
  refine ⟨hi, ?_⟩
  rw [List.getElem?_reverse hi] at h
  obtain ⟨h1, h2⟩ := List.getElem?_eq_some_iff.mp h
  have e : l.length - (i + 1) = l.length - 1 - i := by omega
  rw [e, List.drop_eq_getElem_cons h1, h2]
  rw [show l.length - 1 - i + 1 = l.length - i by omega]
theorem rep_flatN (n c : Nat) : (List.replicate n [V.int ((c : Nat) : Int)]).flatten = nv (List.replicate n c) := by
  induction n with
  | zero => rfl
  | succ n ih =>
    rw [List.replicate_succ, List.flatten_cons, ih, List.replicate_succ]
    rfl
def spTotal (C : Addr) : Sp := fun vs H Q _ => ∃ (a : Addr) (A : MA) (m : Rc49.Model) (w : Addr) (o : Nat) (r : List Nat), vs = [.ref a, .ref w] ∧ ModelAt C H a A m ∧ H w = some (.lst (nv (o :: r))) ∧ (∀ z, z ∈ o :: r → z < m.signs) ∧
  ∀ (H' : Hp), Same H H' → Q (.int ((Rc49.totalOf m (o :: r) : Nat) : Int)) H'
def spAt (C : Addr) : Sp := fun vs H Q _ => ∃ (a : Addr) (A : MA) (m : Rc49.Model) (w : Addr) (o : Nat) (r : List Nat) (i : Nat), vs = [.ref a, .ref w, .int i] ∧ ModelAt C H a A m ∧ H w = some (.lst (nv (o :: r))) ∧ (∀ z, z ∈ o :: r → z < m.signs) ∧ r.length ≤ 63 ∧ i ≤ r.length ∧
  ∀ (H' : Hp) (p : Addr), Same H H' → H' p = some (.lst (nv (weightsAt m (o :: r) i))) → Q (.ref p) H'
def spNext (C : Addr) : Sp := fun vs H Q _ => ∃ (a : Addr) (A : MA) (m : Rc49.Model) (w : Addr) (o : Nat) (r : List Nat), vs = [.ref a, .ref w] ∧ ModelAt C H a A m ∧ H w = some (.lst (nv (o :: r))) ∧ (∀ z, z ∈ o :: r → z < m.signs) ∧
  ∀ (H' : Hp) (p : Addr), Same H H' → H' p = some (.lst (nv (nextW m (o :: r)))) → Q (.ref p) H'
section
variable {P : Program} {w : World} {K : PySem.W.Frag} {mg : Str → Option Value} {base : Heap}
theorem scEnding : FnScope ["model", "signs", "ending", "sign"] ["model", "signs"] (defScope sEnding) := ⟨rfl, rfl, rfl, by decide +kernel, rfl, by decide +kernel, by decide +kernel⟩
theorem ok_ending {f C : Addr} {fd : FuncData} (F : Fun K "weights_ending" "weights_ending" sEnding f fd) (T : TxtM K mg C) (D1 : Def P w K mg base "weights_shown" ["model", "weights", "sign"] 1 (spShown C)) (D2 : Def P w K mg base "weights_reached" ["model", "weights"] 1 (spReached C)) :
    FnOk P w K mg base CX0 2 f fd ["model", "signs"] (spEnding C) := by
  refine F.ok scEnding (fun vs H Q E h => ?_) (fun cdv A outer s H vs Q E hr h => ?_)
  · obtain ⟨a, A, m, w, o, r, rfl, _⟩ := h
    rfl
  · obtain ⟨a, B, m, w, o, r, rfl, M, hw, hz, k⟩ := h
    refine ⟨_, pss_cons (ps_set (i := 2) scEnding.nd rfl (loc_by rfl) (pe_fn D1 hr (pa_cons (pv 0) (pa_cons (pe_fld (pv 0) rfl) (pa_cons (pe_ix ix_list (pv 1) pe_int (fun _ _ => rfl)) pa_nil)))))
      (pss_cons (ps_for PassesOwn.never rfl (pi_list (pe_slice sl_list (pv 1) (po_some pe_int) po_none)) (pg_name (i := 3) scEnding.nd rfl (loc_by rfl))
        (pss_one (ps_set (i := 2) scEnding.nd rfl (loc_by rfl) (pe_fn D1 hr (pa_cons (pv 0) (pa_cons (pe_fn D2 hr (pa_cons (pv 0) (pa_cons (pv 2) pa_nil))) (pa_cons (pv 3) pa_nil)))))))
      (pss_one (ps_ret (pv 2)))), ?_⟩
    refine ⟨_, rfl, _, rfl, a, C, _, _, _, rfl, M.ins, T.cl, T.n3, mf_start _ _ _, _, rfl, w, _, _, _, rfl, rfl, SqL.of hw, at_of (j := 0) rfl rfl, ?_⟩
    refine ⟨a, B, m, B.ls, m.begins, o, rfl, M, M.start, M.good.2.2.2.2.1, hz o (List.mem_cons_self ..), fun H1 e0 s1 _ he0 => ?_⟩
    refine ⟨_, rfl, 1, rfl, w, _, rfl, SqL.of (s1 _ _ hw), fun q hq => ?_⟩
    have ec : cutV (nv (o :: r)) (some 1) none = nv r := by
      rw [cut_from (z := 1) (i := 1) rfl, nv_drop]
      rfl
    rw [ec]
    have s2 := upd_new (o := HO.lst (nv r)) hq
    refine ⟨q, rfl, ⟨_, SqL.of upd_same⟩, for_list (K := K) (a := q) (xs := nv r) (fun i σ H' => ∃ (v : Option V) (e : Addr), σ = [some (.ref a), some (.ref w), some (.ref e), v] ∧ Same H H' ∧ H' q = some (.lst (nv r)) ∧ H' e = some (.lst (nv (fwd m (o :: r.take i)))))
      ⟨none, e0, rfl, s1.trans s2, upd_same, s2 _ _ he0⟩ (fun i σ H' _ ⟨_, _, _, _, h, _⟩ => SqL.of h) ?_ ?_⟩
    · rintro i y σ H' hi ⟨v, e, rfl, s3, hq3, he⟩
      obtain ⟨z, hz1, rfl⟩ := nv_some hi
      have M3 := M.same s3
      refine ⟨_, rfl, _, rfl, _, rfl, a, B, m, e, _, rfl, M3, he, fwd_len m o _, fun H4 p4 s4 _ h4 => ?_⟩
      have M4 := M3.same s4
      refine ⟨_, rfl, a, B, m, p4, _, z, rfl, M4, h4, reached_len m _, hz z (List.mem_cons_of_mem _ (List.mem_of_getElem? hz1)), fun H5 p5 s5 _ h5 => ?_⟩
      refine ⟨_, p5, rfl, (s3.trans s4).trans s5, s5 _ _ (s4 _ _ hq3), ?_⟩
      rw [h5, take_snocN hz1]
      rw [show fwd m (o :: (r.take i ++ [z])) = _ from fwd_snoc m o (r.take i) z, further_eq]
    · rintro σ H' ⟨v, e, rfl, s3, _, he⟩
      rw [nv_len, List.take_length] at he
      exact ⟨_, rfl, k H' e s3 he⟩
theorem scBehind : FnScope ["model", "signs", "behind", "sign"] ["model", "signs"] (defScope sBehind) := ⟨rfl, rfl, rfl, by decide +kernel, rfl, by decide +kernel, by decide +kernel⟩
theorem ok_behind {f C : Addr} {fd : FuncData} (F : Fun K "weights_behind" "weights_behind" sBehind f fd) (T : TxtM K mg C) (D1 : Def P w K mg base "weights_shown" ["model", "weights", "sign"] 1 (spShown C)) (D2 : Def P w K mg base "weights_left" ["model", "weights"] 2 (spLeft C)) :
    FnOk P w K mg base CX0 3 f fd ["model", "signs"] (spBehind C) := by
  refine F.ok scBehind (fun vs H Q E h => ?_) (fun cdv A outer s H vs Q E hr h => ?_)
  · obtain ⟨a, A, m, w, l, rfl, _⟩ := h
    rfl
  · obtain ⟨a, B, m, w, l, rfl, M, hw, hz, k⟩ := h
    have hr1 : Room 1 _ := hr.mono (by decide)
    have hs : m.states ≤ 16 := M.good.2.1
    refine ⟨_, pss_cons (ps_set (i := 2) scBehind.nd rfl (loc_by rfl) (pe_op op_rep (pe_lst (pa_cons pe_int pa_nil)) (pe_fld (pv 0) rfl)))
      (pss_cons (ps_for PassesOwn.never rfl (pi_reversed rfl T.brev (pa_cons (pv 1) pa_nil)) (pg_name (i := 3) scBehind.nd rfl (loc_by rfl))
        (pss_one (ps_set (i := 2) scBehind.nd rfl (loc_by rfl) (pe_fn D2 hr (pa_cons (pv 0) (pa_cons (pe_fn D1 hr1 (pa_cons (pv 0) (pa_cons (pv 2) (pa_cons (pv 3) pa_nil)))) pa_nil))))))
      (pss_one (ps_ret (pv 2)))), ?_⟩
    refine ⟨sz (by decide : 1 ≤ 1000), fun l1 hl1 => ?_⟩
    have s1 := upd_new (o := HO.lst [V.int 1]) hl1
    have M1 := M.same s1
    refine ⟨_, rfl, a, C, _, _, _, rfl, M1.ins, T.cl, T.n1, mf_states _ _ _, l1, _, _, rfl, rfl, upd_same, by omega, by omega, sz (by show 1 * ((m.states : Nat) : Int).toNat ≤ 1000; omega), fun e0 he0 => ?_⟩
    rw [Int.toNat_natCast, show (List.replicate m.states [V.int 1]).flatten = _ from rep_flatN m.states 1]
    have s2 := upd_new (o := HO.lst (nv (List.replicate m.states 1))) he0
    have s12 := s1.trans s2
    refine ⟨_, rfl, w, _, rfl, SqL.of (s12 _ _ hw), for_rev (K := K) (a := w) (xs := nv l) (fun i σ H' => ∃ (v : Option V) (e : Addr), σ = [some (.ref a), some (.ref w), some (.ref e), v] ∧ Same H H' ∧ H' e = some (.lst (nv (bwd m (l.drop (l.length - i))))))
      ⟨none, e0, rfl, s12, ?_⟩ (fun i σ H' _ ⟨_, _, _, h, _⟩ => SqL.of (h _ _ hw)) ?_ ?_⟩
    · rw [Nat.sub_zero, List.drop_length]
      exact upd_same
    · rintro i y σ H' hi ⟨v, e, rfl, s3, he⟩
      rw [nv_rev] at hi
      obtain ⟨z, hz1, rfl⟩ := nv_some hi
      obtain ⟨hil, hd⟩ := drop_rev hz1
      have M3 := M.same s3
      refine ⟨_, rfl, _, rfl, _, rfl, _, rfl, a, B, m, e, _, z, rfl, M3, he, bwd_len m _, hz z (List.mem_reverse.mp (List.mem_of_getElem? hz1)), fun H4 p4 s4 _ h4 => ?_⟩
      have M4 := M3.same s4
      refine ⟨a, B, m, p4, _, rfl, M4, h4, shown_len m _ _, fun H5 p5 s5 _ h5 => ?_⟩
      refine ⟨_, p5, rfl, (s3.trans s4).trans s5, ?_⟩
      rw [h5, hd]
      rfl
    · rintro σ H' ⟨v, e, rfl, s3, he⟩
      rw [nv_len, Nat.sub_self, List.drop_zero] at he
      exact ⟨_, rfl, k H' e s3 he⟩
theorem scTotal : FnScope ["model", "signs"] ["model", "signs"] (defScope sTotal) := ⟨rfl, rfl, rfl, by decide +kernel, rfl, by decide +kernel, by decide +kernel⟩
theorem ok_total {f C : Addr} {fd : FuncData} (F : Fun K "total_weight" "total_weight" sTotal f fd) (T : TxtM K mg C) (D1 : Def P w K mg base "weights_ending" ["model", "signs"] 2 (spEnding C)) :
    FnOk P w K mg base CX0 3 f fd ["model", "signs"] (spTotal C) := by
  refine F.ok scTotal (fun vs H Q E h => ?_) (fun cdv A outer s H vs Q E hr h => ?_)
  · obtain ⟨a, A, m, w, o, r, rfl, _⟩ := h
    rfl
  · obtain ⟨a, B, m, w, o, r, rfl, M, hw, hz, k⟩ := h
    refine ⟨_, pss_one (ps_ret (pe_callB (cr_sum rfl) rfl T.bsum bt_sum (pa_cons (pe_fn D1 hr (pa_cons (pv 0) (pa_cons (pv 1) pa_nil))) pa_nil))), ?_⟩
    refine ⟨_, rfl, _, rfl, a, B, m, w, o, r, rfl, M, hw, hz, fun H1 p s1 h1 => ?_⟩
    refine ⟨p, _, rfl, by rw [← nv_iv]; exact SqL.of h1, ?_⟩
    rw [sum_cast, ← totalOf_eq]
    exact k H1 s1
theorem scAt : FnScope ["model", "signs", "place", "ending", "behind", "state"] ["model", "signs", "place"] (defScope sAt) := ⟨rfl, rfl, rfl, by decide +kernel, rfl, by decide +kernel, by decide +kernel⟩
theorem big_le {a k : Nat} (h : a ≤ 2 ^ (36 * k)) (hk : k ≤ 64) : a < 2 ^ 3000 :=
  Nat.lt_of_le_of_lt h (Nat.pow_lt_pow_right (by decide) (by omega))
theorem ok_at {f C : Addr} {fd : FuncData} (F : Fun K "weights_at" "weights_at" sAt f fd) (T : TxtM K mg C) (D1 : Def P w K mg base "weights_ending" ["model", "signs"] 2 (spEnding C)) (D2 : Def P w K mg base "weights_behind" ["model", "signs"] 3 (spBehind C)) :
    FnOk P w K mg base CX0 4 f fd ["model", "signs", "place"] (spAt C) := by
  refine F.ok scAt (fun vs H Q E h => ?_) (fun cdv A outer s H vs Q E hr h => ?_)
  · obtain ⟨a, A, m, w, o, r, i, rfl, _⟩ := h
    rfl
  · obtain ⟨a, B, m, w, o, r, i, rfl, M, hw, hz, hr63, hir, k⟩ := h
    have hr2 : Room 2 _ := hr.mono (by decide)
    have hs : m.states ≤ 16 := M.good.2.1
    refine ⟨_, pss_cons (ps_set (i := 3) scAt.nd rfl (loc_by rfl) (pe_fn D1 hr2 (pa_cons (pv 0) (pa_cons (pe_slice sl_list (pv 1) po_none (po_some (pe_op op_add (pv 2) pe_int))) pa_nil))))
      (pss_cons (ps_set (i := 4) scAt.nd rfl (loc_by rfl) (pe_fn D2 hr (pa_cons (pv 0) (pa_cons (pe_slice sl_list (pv 1) (po_some (pe_op op_add (pv 2) pe_int)) po_none) pa_nil))))
      (pss_one (ps_ret (pe_lc rfl scAt.nd (pi_range1 rfl T.rng (pa_cons (pe_fld (pv 0) rfl) pa_nil)) (blkOk_by (own := [("state", 5)]) rfl) (fun _ _ _ _ _ => pg_name (i := 5) scAt.nd rfl (Or.inl rfl)) (fun _ _ _ _ _ => pts_nil)
        (fun _ _ _ _ _ => pe_op op_mulB (pe_ix (ixK K) (pv 3) (pv 5) (fun _ _ => rfl)) (pe_ix (ixK K) (pv 4) (pv 5) (fun _ _ => rfl))))))), ?_⟩
    refine ⟨_, rfl, _, rfl, _, rfl, _, _, rfl, rfl, _, rfl, w, _, rfl, SqL.of hw, fun q1 hq1 => ?_⟩
    have e1 : cutV (nv (o :: r)) none (some ((i : Int) + 1)) = nv (o :: r.take i) := by
      rw [cut_to (i := i + 1) (by omega), nv_take]
      rfl
    rw [e1]
    have s1 := upd_new (o := HO.lst (nv (o :: r.take i))) hq1
    refine ⟨a, B, m, q1, o, r.take i, rfl, M.same s1, upd_same, fun z hz' => hz z ?_, fun H2 p2 s2 h2 => ?_⟩
    · rcases List.mem_cons.mp hz' with e | e
      · rw [e]
        exact List.mem_cons_self ..
      · exact List.mem_cons_of_mem _ (List.mem_of_mem_take e)
    have s12 := s1.trans s2
    refine ⟨_, rfl, _, rfl, _, rfl, _, _, rfl, rfl, _, rfl, w, _, rfl, SqL.of (s12 _ _ hw), fun q3 hq3 => ?_⟩
    have e3 : cutV (nv (o :: r)) (some ((i : Int) + 1)) none = nv (r.drop i) := by
      rw [cut_from (i := i + 1) (by omega), nv_drop]
      rfl
    rw [e3]
    have s3 := upd_new (o := HO.lst (nv (r.drop i))) hq3
    have s13 := s12.trans s3
    refine ⟨a, B, m, q3, _, rfl, M.same s13, upd_same, fun z hz' => hz z (List.mem_cons_of_mem _ (List.mem_of_mem_drop hz')), fun H4 p4 s4 h4 => ?_⟩
    have s14 := s13.trans s4
    have M4 := M.same s14
    have h24 : H4 p2 = some (.lst (nv (fwd m (o :: r.take i)))) := s4 _ _ (s3 _ _ h2)
    refine ⟨_, rfl, a, C, _, _, _, rfl, M4.ins, T.cl, T.n1, mf_states _ _ _, _, rfl, by omega, by omega, fun D hD => lc_range (n := ((m.states : Nat) : Int).toNat) (fun j H' => Acc H4 H' D (fun s => (fwd m (o :: r.take i)).getD s 0 * (bwd m (r.drop i)).getD s 0) j) (Acc.first hD) (fun j H' hj R => ⟨rfl, yesT ?_⟩) (fun H' R => ?_)⟩
    · rw [Int.toNat_natCast] at hj
      refine ⟨_, rfl, _, rfl, _, _, _, _, rfl, rfl, SqL.of (R.same _ _ h24), at_of (j := j) (by omega) (nv_at (fwd_len m o _) hj), ?_⟩
      refine ⟨_, rfl, _, rfl, _, _, _, _, rfl, rfl, SqL.of (R.same _ _ h4), at_of (j := j) (by omega) (nv_at (bwd_len m _) hj), ?_⟩
      refine ⟨_, _, rfl, rfl, mulOk_nat (m := 3000) (n := 3000) (big_le (k := (o :: r.take i).length) (Nat.le_trans (getD_le_sum _ _) (fwd_sum M.good _)) ?_) (big_le (bwd_le M.good _ _) ?_) (by decide), ?_⟩
      · rw [List.length_cons, List.length_take]
        omega
      · rw [List.length_drop]
        omega
      exact R.step hD (Same.refl _) (by omega) (congrArg V.int (Int.natCast_mul _ _).symm)
    · rw [Int.toNat_natCast] at R
      exact k H' D (s14.trans R.same) R.lst
theorem scNext : FnScope ["model", "signs", "reached", "sign"] ["model", "signs"] (defScope sNext) := ⟨rfl, rfl, rfl, by decide +kernel, rfl, by decide +kernel, by decide +kernel⟩
theorem ok_next {f C : Addr} {fd : FuncData} (F : Fun K "weights_of_next" "weights_of_next" sNext f fd) (T : TxtM K mg C) (D1 : Def P w K mg base "weights_ending" ["model", "signs"] 2 (spEnding C)) (D2 : Def P w K mg base "weights_reached" ["model", "weights"] 1 (spReached C))
    (D3 : Def P w K mg base "weights_shown" ["model", "weights", "sign"] 1 (spShown C)) : FnOk P w K mg base CX0 3 f fd ["model", "signs"] (spNext C) := by
  refine F.ok scNext (fun vs H Q E h => ?_) (fun cdv A outer s H vs Q E hr h => ?_)
  · obtain ⟨a, A, m, w, o, r, rfl, _⟩ := h
    rfl
  · obtain ⟨a, B, m, w, o, r, rfl, M, hw, hz, k⟩ := h
    have hr1 : Room 1 _ := hr.mono (by decide)
    have hs : m.signs ≤ 16 := M.good.2.2.2.1
    refine ⟨_, pss_cons (ps_set (i := 2) scNext.nd rfl (loc_by rfl) (pe_fn D2 hr1 (pa_cons (pv 0) (pa_cons (pe_fn D1 hr (pa_cons (pv 0) (pa_cons (pv 1) pa_nil))) pa_nil))))
      (pss_one (ps_ret (pe_lc rfl scNext.nd (pi_range1 rfl T.rng (pa_cons (pe_fld (pv 0) rfl) pa_nil)) (blkOk_by (own := [("sign", 3)]) rfl) (fun _ _ _ _ _ => pg_name (i := 3) scNext.nd rfl (Or.inl rfl)) (fun _ _ _ _ _ => pts_nil)
        (fun _ _ _ _ _ => pe_callB (sumK K) rfl T.bsum bt_sum (pa_cons (pe_fn D3 hr1 (pa_cons (pv 0) (pa_cons (pv 2) (pa_cons (pv 3) pa_nil)))) pa_nil))))), ?_⟩
    refine ⟨_, rfl, _, rfl, _, rfl, a, B, m, w, o, r, rfl, M, hw, hz, fun H1 p1 s1 h1 => ?_⟩
    refine ⟨a, B, m, p1, _, rfl, M.same s1, h1, fwd_len m o r, fun H2 p2 s2 _ h2 => ?_⟩
    have s12 := s1.trans s2
    have M2 := M.same s12
    refine ⟨_, rfl, a, C, _, _, _, rfl, M2.ins, T.cl, T.n2, mf_signs _ _ _, _, rfl, by omega, by omega, fun D hD => lc_range (n := ((m.signs : Nat) : Int).toNat) (fun j H' => Acc H2 H' D (fun x => (shown m (reached m (fwd m (o :: r))) x).sum) j) (Acc.first hD) (fun j H' hj R => ⟨rfl, yesT ?_⟩) (fun H' R => ?_)⟩
    · rw [Int.toNat_natCast] at hj
      refine ⟨_, rfl, _, rfl, _, rfl, a, B, m, p2, _, j, by rw [Int.zero_add]; rfl, M2.same R.same, R.same _ _ h2, reached_len m _, hj, fun H3 p3 s3 _ h3 => ?_⟩
      refine ⟨p3, _, rfl, by rw [← nv_iv]; exact SqL.of h3, ?_⟩
      refine R.step hD s3 (by omega) ?_
      rw [sum_cast]
    · rw [Int.toNat_natCast] at R
      exact k H' D (s12.trans R.same) R.lst
end
end Hs
end

section
set_option Elab.async false
set_option maxRecDepth 100000
set_option maxHeartbeats 2000000
namespace Hs
open PySem PySem.Spec PyProof.Rows L2
/-- lists of numbers at addresses of which Pd holds -/
inductive RowsAt (H : Hp) (Pd : Addr → Prop) : List Addr → List (List Nat) → Prop
  | nil : RowsAt H Pd [] []
  | cons {r : Addr} {x : List Nat} {rs : List Addr} {xs : List (List Nat)} : H r = some (.lst (nv x)) → Pd r → RowsAt H Pd rs xs → RowsAt H Pd (r :: rs) (x :: xs)
theorem RowsAt.imp {H H' : Hp} {Pd Pd' : Addr → Prop} (f : ∀ r, Pd r → Pd' r) (g : ∀ r o, Pd r → H r = some o → H' r = some o) : ∀ {rs : List Addr} {xs : List (List Nat)}, RowsAt H Pd rs xs → RowsAt H' Pd' rs xs
  | _, _, .nil => .nil
  | _, _, .cons h p t => .cons (g _ _ p h) (f _ p) (RowsAt.imp f g t)
theorem RowsAt.len {H : Hp} {Pd : Addr → Prop} : ∀ {rs : List Addr} {xs : List (List Nat)}, RowsAt H Pd rs xs → rs.length = xs.length
  | _, _, .nil => rfl
  | _, _, .cons _ _ t => by rw [List.length_cons, List.length_cons, t.len]
theorem RowsAt.get {H : Hp} {Pd : Addr → Prop} : ∀ {rs : List Addr} {xs : List (List Nat)}, RowsAt H Pd rs xs → ∀ {i : Nat} {r : Addr}, rs[i]? = some r → ∃ x, xs[i]? = some x ∧ H r = some (.lst (nv x)) ∧ Pd r
  | _, _, .nil, i, r, h => by simp at h
  | _, _, .cons h p t, 0, r, e => by
    simp at e
    subst e
    exact ⟨_, rfl, h, p⟩
  | _, _, .cons h p t, i + 1, r, e => by
    obtain ⟨x, h1, h2⟩ := t.get (i := i) (r := r) (by simpa using e)
    exact ⟨x, by simpa using h1, h2⟩
def spOnward (C : Addr) : Sp := fun vs H Q _ => ∃ (a : Addr) (A : MA) (m : Rc49.Model) (w : Addr) (l : List Nat), vs = [.ref a, .ref w] ∧ ModelAt C H a A m ∧ H w = some (.lst (nv l)) ∧ (∀ z, z ∈ l → z < m.signs) ∧ l.length ≤ 64 ∧
  ∀ (H' : Hp) (p : Addr) (gs : List Addr), Same H H' → H p = none → H' p = some (.lst (gs.map V.ref)) → RowsAt H' (fun r => H r = none) gs (onwards m l) → Q (.ref p) H'
def spBest (C : Addr) : Sp := fun vs H Q _ => ∃ (a : Addr) (A : MA) (m : Rc49.Model) (w : Addr) (o : Nat) (r : List Nat), vs = [.ref a, .ref w] ∧ ModelAt C H a A m ∧ H w = some (.lst (nv (o :: r))) ∧ (∀ z, z ∈ o :: r → z < m.signs) ∧ r.length ≤ 63 ∧
  (Rc49.totalOf m (o :: r) = 0 → ∀ H' : Hp, Same H H' → Q .non H') ∧
  (Rc49.totalOf m (o :: r) ≠ 0 → ∀ (H' : Hp) (p : Addr), Same H H' → H' p = some (.lst (nv (Rc49.bestOf m (o :: r)))) → Q (.ref p) H')
theorem max_cast {l : List Nat} {z : Int} (h : z ∈ l.map fun (x : Nat) => (x : Int)) (hb : ∀ y, y ∈ (l.map fun (x : Nat) => (x : Int)) → y ≤ z) : z = ((l.foldl max 0 : Nat) : Int) := by
  obtain ⟨x, hx, rfl⟩ := List.mem_map.mp h
  rw [max_is hx fun y hy => ?_]
  have := hb _ (List.mem_map.mpr ⟨y, hy, rfl⟩)
  omega
theorem nv_flat : ∀ l : List Nat, (nv l).all flatV = true
  | [] => rfl
  | _ :: l => nv_flat l
section
variable {P : Program} {w : World} {K : PySem.W.Frag} {mg : Str → Option Value} {base : Heap}
theorem scOnward : FnScope ["model", "signs", "found", "onward", "sign", "greatest", "origin"] ["model", "signs"] (defScope sOnward) := ⟨rfl, rfl, rfl, by decide +kernel, rfl, by decide +kernel, by decide +kernel⟩
theorem ok_onward {f C : Addr} {fd : FuncData} (F : Fun K "greatest_onward" "greatest_onward" sOnward f fd) (T : TxtM K mg C) (D1 : Def P w K mg base "weights_shown" ["model", "weights", "sign"] 1 (spShown C)) (D2 : Def P w K mg base "steps_from" ["model", "origin", "weights"] 1 (spSteps C)) :
    FnOk P w K mg base CX0 2 f fd ["model", "signs"] (spOnward C) := by
  refine F.ok scOnward (fun vs H Q E h => ?_) (fun cdv A outer s H vs Q E hr h => ?_)
  · obtain ⟨a, A, m, w, l, rfl, _⟩ := h
    rfl
  · obtain ⟨a, B, m, w, l, rfl, M, hw, hz, hl64, k⟩ := h
    have hs : m.states ≤ 16 := M.good.2.1
    have hs0 : 1 ≤ m.states := M.good.1
    refine ⟨_, pss_cons (ps_set (i := 2) scOnward.nd rfl (loc_by rfl) (pe_lst pa_nil)) (pss_cons (ps_set (i := 3) scOnward.nd rfl (loc_by rfl) (pe_op op_rep (pe_lst (pa_cons pe_int pa_nil)) (pe_fld (pv 0) rfl)))
      (pss_cons (ps_for PassesOwn.never rfl (pi_reversed rfl T.brev (pa_cons (pv 1) pa_nil)) (pg_name (i := 4) scOnward.nd rfl (loc_by rfl))
        (pss_cons (ps_set (i := 5) scOnward.nd rfl (loc_by rfl) (pe_fn D1 hr (pa_cons (pv 0) (pa_cons (pv 3) (pa_cons (pv 4) pa_nil)))))
        (pss_cons (ps_expr (pe_bm PySem.F.plainAttrs_list PySem.F.slot_list_append PySem.F.type_list_append mt_append (pv 2) (pa_cons (pv 5) pa_nil)))
        (pss_one (ps_setLc (i := 3) rfl scOnward.nd rfl rfl (sw_true rfl rfl rfl rfl) (pi_range1 rfl T.rng (pa_cons (pe_fld (pv 0) rfl) pa_nil)) (blkOk_by (own := [("origin", 6)]) rfl) (fun _ _ _ _ _ => pg_name (i := 6) scOnward.nd rfl (Or.inl rfl)) (fun _ _ _ _ _ => pts_nil)
          (fun _ _ _ _ _ => pe_callB (maxK K) rfl T.bmax bt_max (pa_cons (pe_fn D2 hr (pa_cons (pv 0) (pa_cons (pv 6) (pa_cons (pv 5) pa_nil)))) pa_nil)))))))
      (pss_one (ps_ret (pe_listRev rfl T.blst T.brev (pa_cons (pv 2) pa_nil)))))), ?_⟩
    refine ⟨Nat.zero_le _, fun q hq => ?_⟩
    have s0 : Same H (upd H q (.lst [])) := upd_new hq
    refine ⟨sz (by decide : 1 ≤ 1000), fun l1 hl1 => ?_⟩
    have s1 := upd_new (o := HO.lst [V.int 1]) hl1
    have M1 := (M.same s0).same s1
    refine ⟨_, rfl, a, C, _, _, _, rfl, M1.ins, T.cl, T.n1, mf_states _ _ _, l1, _, _, rfl, rfl, upd_same, by omega, by omega, sz (by show 1 * ((m.states : Nat) : Int).toNat ≤ 1000; omega), fun e0 he0 => ?_⟩
    rw [Int.toNat_natCast, show (List.replicate m.states [V.int 1]).flatten = _ from rep_flatN m.states 1]
    have s2 := upd_new (o := HO.lst (nv (List.replicate m.states 1))) he0
    have s12 := s1.trans s2
    have s02 := s0.trans s12
    refine ⟨_, rfl, w, _, rfl, SqL.of (s02 _ _ hw), for_rev (K := K) (a := w) (xs := nv l) (fun i σ H' => ∃ (v4 v5 : Option V) (e : Addr) (gs : List Addr), σ = [some (.ref a), some (.ref w), some (.ref q), some (.ref e), v4, v5, none] ∧ Same H H' ∧ H' e = some (.lst (nv (Rc49.ahead m (l.drop (l.length - i))))) ∧
        H' q = some (.lst (gs.map V.ref)) ∧ gs.length = i ∧ RowsAt H' (fun r => H r = none ∧ r ≠ q) gs.reverse (onwards m (l.drop (l.length - i))))
      ⟨none, none, e0, [], rfl, s02, ?_, s12 _ _ upd_same, rfl, ?_⟩ (fun i σ H' _ ⟨_, _, _, _, _, h, _⟩ => SqL.of (h _ _ hw)) ?_ ?_⟩
    · rw [Nat.sub_zero, List.drop_length]
      exact upd_same
    · rw [Nat.sub_zero, List.drop_length]
      exact .nil
    · rintro i y σ H' hi ⟨v4, v5, e, gs, rfl, s3, he, hq3, hg3, hR⟩
      rw [nv_rev] at hi
      obtain ⟨z, hz1, rfl⟩ := nv_some hi
      obtain ⟨hil, hd⟩ := drop_rev hz1
      have M3 := M.same s3
      refine ⟨_, rfl, _, rfl, _, rfl, a, B, m, e, _, z, rfl, M3, he, ahead_len m _, hz z (List.mem_reverse.mp (List.mem_of_getElem? hz1)), fun H4 p4 s4 n4 h4 => ?_⟩
      have M4 := M3.same s4
      have hq4 := s4 _ _ hq3
      have p4q : p4 ≠ q := fun z => by
        rw [z, hq3] at n4
        cases n4
      refine ⟨_, rfl, .inl ⟨rfl, _, SqL.of hq4⟩, _, rfl, q, _, _, rfl, rfl, hq4, small1000 (by rw [List.length_map]; omega), ?_⟩
      have s5 : ∀ b o, b ≠ q → H4 b = some o → (upd H4 q (.lst (gs.map V.ref ++ [V.ref p4]))) b = some o := fun b o hb e => by
        rw [upd_ne hb]
        exact e
      have hq5 : (upd H4 q (.lst (gs.map V.ref ++ [V.ref p4]))) q = some (.lst (gs.map V.ref ++ [V.ref p4])) := upd_same
      have s35 : Same H (upd H4 q (.lst (gs.map V.ref ++ [V.ref p4]))) := fun b o e => s5 b o (ne_of_none e hq) (s4 _ _ (s3 _ _ e))
      have h5 := s5 _ _ p4q h4
      have hR5 : RowsAt (upd H4 q (.lst (gs.map V.ref ++ [V.ref p4]))) (fun r => H r = none ∧ r ≠ q) gs.reverse (onwards m (l.drop (l.length - i))) := hR.imp (fun _ p => p) fun r o p e => s5 r o p.2 (s4 _ _ e)
      generalize (upd H4 q (.lst (gs.map V.ref ++ [V.ref p4]))) = H5 at hq5 s35 h5 hR5 ⊢
      have M5 := M.same s35
      refine ⟨_, rfl, a, C, _, _, _, rfl, M5.ins, T.cl, T.n1, mf_states _ _ _, _, rfl, by omega, by omega, fun D hD => lc_range (n := ((m.states : Nat) : Int).toNat)
        (fun j H' => Acc H5 H' D (fun b => (stepsFrom m b (shown m (Rc49.ahead m (l.drop (l.length - i))) z)).foldl max 0) j) (Acc.first hD) (fun j H6 hj R => ⟨rfl, yesT ?_⟩) (fun H6 R => ?_)⟩
      · rw [Int.toNat_natCast] at hj
        refine ⟨_, rfl, _, rfl, _, rfl, a, B, m, p4, _, j, by rw [Int.zero_add]; rfl, M5.same R.same, R.same _ _ h5, shown_len m _ _, hj, fun H7 p7 s7 _ h7 => ?_⟩
        refine ⟨p7, _, rfl, by rw [← nv_iv]; exact SqL.of h7, by rw [List.length_map, stepsFrom_len]; omega, fun mx hm hb => ?_⟩
        refine R.step hD s7 (by omega) ?_
        rw [max_cast hm hb]
      · rw [Int.toNat_natCast] at R
        refine ⟨_, _, D, gs ++ [p4], rfl, s35.trans R.same, ?_, ?_, by simp [hg3], ?_⟩
        · rw [hd, ahead_steps]
          exact R.lst
        · rw [R.same _ _ hq5, List.map_append]
          rfl
        · rw [hd, List.reverse_append]
          refine .cons (R.same _ _ h5) ⟨s3.free n4, p4q⟩ ?_
          exact hR5.imp (fun _ p => p) fun r o _ e => R.same _ _ e
    · rintro σ H' ⟨v4, v5, e, gs, rfl, s3, he, hq3, hg3, hR⟩
      rw [nv_len, Nat.sub_self, List.drop_zero] at hR
      refine ⟨_, rfl, q, _, rfl, SqL.of hq3, fun p hp => ?_⟩
      have s4 := upd_new (o := HO.lst (gs.map V.ref).reverse) hp
      refine k _ p gs.reverse (s3.trans s4) (s3.free hp) ?_ ?_
      · rw [upd_same, List.map_reverse]
      · exact hR.imp (fun _ p => p.1) fun r o _ e => s4 _ _ e
theorem scBest : FnScope ["model", "signs", "way", "leading", "greatest", "choices", "most", "chosen", "state"] ["model", "signs"] (defScope sBest) := ⟨rfl, rfl, rfl, by decide +kernel, rfl, by decide +kernel, by decide +kernel⟩
theorem ok_best {f C : Addr} {fd : FuncData} (F : Fun K "best_way" "best_way" sBest f fd) (T : TxtM K mg C) (D1 : Def P w K mg base "greatest_onward" ["model", "signs"] 2 (spOnward C)) :
    FnOk P w K mg base CX0 3 f fd ["model", "signs"] (spBest C) := by
  refine F.ok scBest (fun vs H Q E h => ?_) (fun cdv A outer s H vs Q E hr h => ?_)
  · obtain ⟨a, A, m, w, o, r, rfl, _⟩ := h
    rfl
  · obtain ⟨a, B, m, w, o, r, rfl, M, hw, hz, hr63, k0, k1⟩ := h
    have hs : m.states ≤ 16 := M.good.2.1
    have hs0 : 1 ≤ m.states := M.good.1
    refine ⟨_, pss_cons (ps_set (i := 2) scBest.nd rfl (loc_by rfl) (pe_lst pa_nil)) (pss_cons (ps_set (i := 3) scBest.nd rfl (loc_by rfl) (pe_fld (pv 0) rfl))
      (pss_cons (ps_for PassesOwn.never rfl (pi_list (pe_fn D1 hr (pa_cons (pv 0) (pa_cons (pv 1) pa_nil)))) (pg_name (i := 4) scBest.nd rfl (loc_by rfl))
        (pss_cons (ps_setLc (i := 5) rfl scBest.nd rfl rfl (sw_true rfl rfl rfl rfl) (pi_range1 rfl T.rng (pa_cons (pe_fld (pv 0) rfl) pa_nil)) (blkOk_by (own := [("state", 8)]) rfl) (fun _ _ _ _ _ => pg_name (i := 8) scBest.nd rfl (Or.inl rfl)) (fun _ _ _ _ _ => pts_nil)
          (fun _ _ _ _ _ => pe_op op_mul (pe_ix (ixK K) (pv 3) (pv 8) (fun _ _ => rfl)) (pe_ix (ixK K) (pv 4) (pv 8) (fun _ _ => rfl))))
        (pss_cons (ps_set (i := 6) scBest.nd rfl (loc_by rfl) (pe_callB (cr_max rfl) rfl T.bmax bt_max (pa_cons (pv 5) pa_nil)))
        (pss_cons (ps_if (pt_cmpR op_eq (pv 6) pe_int (nomark _)) (pss_one (ps_ret pe_non)) pss_nil)
        (pss_cons (ps_set (i := 7) scBest.nd rfl (loc_by rfl) (pe_bm PySem.F.plainAttrs_list PySem.F.slot_list_index PySem.F.type_list_index mt_index (pv 5) (pa_cons (pv 6) pa_nil)))
        (pss_cons (ps_expr (pe_bm PySem.F.plainAttrs_list PySem.F.slot_list_append PySem.F.type_list_append mt_append (pv 2) (pa_cons (pv 7) pa_nil)))
        (pss_one (ps_set (i := 3) scBest.nd rfl (loc_by rfl) (pe_ix ix_list (pe_fld (pv 0) rfl) (pv 7) (fun _ _ => rfl))))))))))
      (pss_one (ps_ret (pv 2))))), ?_⟩
    refine ⟨Nat.zero_le _, fun q hq => ?_⟩
    have s0 : Same H (upd H q (.lst [])) := upd_new hq
    have M0 := M.same s0
    have hq0 : (upd H q (.lst [])) q = some (.lst (nv [])) := upd_same
    generalize (upd H q (.lst [])) = H0 at s0 M0 hq0 ⊢
    refine ⟨_, rfl, a, C, _, _, _, rfl, M0.ins, T.cl, T.n3, mf_start _ _ _, ?_⟩
    refine ⟨_, rfl, _, rfl, a, B, m, w, _, rfl, M0, s0 _ _ hw, hz, by rw [List.length_cons]; omega, fun H1 g gs s1 ng hg hR => ?_⟩
    have s01 := s0.trans s1
    have gq : g ≠ q := fun e => by
      rw [e, hq0] at ng
      cases ng
    have rq : ∀ r, H0 r = none → r ≠ q := fun r e z => by
      rw [z, hq0] at e
      cases e
    refine ⟨g, rfl, ⟨_, SqL.of hg⟩, for_list (K := K) (a := g) (xs := gs.map V.ref) (fun i σ H' => ∃ (v4 v5 v6 v7 : Option V) (ld : Addr) (lead wy : List Nat), σ = [some (.ref a), some (.ref w), some (.ref q), some (.ref ld), v4, v5, v6, v7, none] ∧ Same H H' ∧
        H' g = some (.lst (gs.map V.ref)) ∧ RowsAt H' (fun r => H0 r = none) gs (onwards m (o :: r)) ∧ H' q = some (.lst (nv wy)) ∧ wy.length = i ∧ H' ld = some (.lst (nv lead)) ∧ lead.length = m.states ∧ (∀ s, lead.getD s 0 ≤ 65535) ∧ wy ++ bw m lead ((o :: r).drop i) = Rc49.bestOf m (o :: r) ∧
        (i = 0 → lead = m.begins) ∧ (0 < i → Open m lead ((o :: r).drop i) ∧ Rc49.totalOf m (o :: r) ≠ 0))
      ⟨none, none, none, none, B.ls, m.begins, [], rfl, s01, hg, hR, s1 _ _ hq0, rfl, s01 _ _ M.start, M.good.2.2.2.2.1, fun s => Good_begin M.good s, (bestOf_eq m _).symm, fun _ => rfl, fun h => absurd h (by decide)⟩ (fun i σ H' _ ⟨_, _, _, _, _, _, _, _, _, h, _⟩ => SqL.of h) ?_ ?_⟩
    · rintro i y σ H' hi ⟨v4, v5, v6, v7, ld, lead, wy, rfl, s3, hg3, hR3, hq3, hwy, hld, hll, hlb, hbw, hi0, hop⟩
      rw [List.getElem?_map] at hi
      cases hgi : gs[i]? with
      | none =>
        rw [hgi] at hi
        cases hi
      | some gr =>
      rw [hgi] at hi
      have ey : y = V.ref gr := (Option.some.inj hi).symm
      subst ey
      obtain ⟨x, hx1, hx2, hx3⟩ := hR3.get hgi
      have hil : i < (o :: r).length := by
        have h1 := (List.getElem?_eq_some_iff.mp hgi).1
        rw [hR3.len, onwards_len] at h1
        exact h1
      obtain ⟨o', r', hdrop⟩ : ∃ o' r', (o :: r).drop i = o' :: r' := ⟨_, _, List.drop_eq_getElem_cons hil⟩
      have hdrop1 : (o :: r).drop (i + 1) = r' := by
        rw [← List.drop_drop, hdrop]
        rfl
      have hx : x = shown m (Rc49.ahead m r') o' := by
        have h1 : ((onwards m (o :: r)).drop i)[0]? = some x := by
          rw [List.getElem?_drop]
          exact hx1
        rw [onwards_drop, hdrop] at h1
        exact (Option.some.inj h1).symm
      subst hx
      have M3 := M.same s3
      -- choices
      refine ⟨_, rfl, a, C, _, _, _, rfl, M3.ins, T.cl, T.n1, mf_states _ _ _, _, rfl, by omega, by omega, fun D hD => lc_range (n := ((m.states : Nat) : Int).toNat)
        (fun j H4 => Acc H' H4 D (fun s => lead.getD s 0 * (shown m (Rc49.ahead m r') o').getD s 0) j) (Acc.first hD) (fun j H4 hj R => ⟨rfl, yesT ?_⟩) (fun H4 R => ?_)⟩
      · rw [Int.toNat_natCast] at hj
        refine ⟨_, rfl, _, rfl, _, _, _, _, rfl, rfl, SqL.of (R.same _ _ hld), at_of (j := j) (by omega) (nv_at hll hj), ?_⟩
        refine ⟨_, rfl, _, rfl, _, _, _, _, rfl, rfl, SqL.of (R.same _ _ hx2), at_of (j := j) (by omega) (nv_at (shown_len m _ _) hj), ?_⟩
        refine ⟨_, _, rfl, rfl, .inl (small16 (hlb j)), ?_⟩
        exact R.step hD (Same.refl _) (by omega) (congrArg V.int (Int.natCast_mul _ _).symm)
      rw [Int.toNat_natCast] at R
      have hch : H4 D = some (.lst (nv (choices m lead o' r'))) := R.lst
      have s4 := R.same
      -- most
      refine ⟨_, rfl, D, (choices m lead o' r').map fun (x : Nat) => (x : Int), rfl, by rw [← nv_iv]; exact SqL.of hch, by rw [List.length_map, choices_len]; omega, fun mx hm hb => ?_⟩
      obtain ⟨xm, hxm, exm⟩ := List.mem_map.mp hm
      have emx := max_cast hm hb
      have exm2 : (choices m lead o' r').foldl max 0 = xm := by omega
      subst exm
      -- if most == 0
      refine ⟨_, rfl, rfl, _, rfl, ite2 (fun h0 => ?_) (fun h0 => ?_)⟩
      · have h0 := of_decide_eq_true h0
        have hxm0 : xm = 0 := by
          injection h0 with h0
          omega
        have hi00 : i = 0 := by
          cases i with
          | zero => rfl
          | succ i =>
            have h1 := (hop (Nat.succ_pos _)).1
            rw [hdrop] at h1
            exact absurd (by rw [exm2, hxm0]) h1
        subst hi00
        have hc : o' = o ∧ r' = r := by
          rw [List.drop_zero] at hdrop
          injection hdrop with e1 e2
          exact ⟨e1.symm, e2.symm⟩
        obtain ⟨rfl, rfl⟩ := hc
        refine k0 ((total_zero m _ _).mpr ?_) H4 (s3.trans s4)
        rw [← hi0 rfl, exm2, hxm0]
      · have hxm0 : xm ≠ 0 := fun e => h0 (by
          rw [e]
          exact decide_eq_true rfl)
        -- chosen
        obtain ⟨j, hj1, hj2⟩ := exists_first hxm
        have hjs : j < m.states := by
          have := (List.getElem?_eq_some_iff.mp hj1).1
          rw [choices_len] at this
          exact this
        have hgr : Rc49.greatest (choices m lead o' r') = j := greatest_is hj1 exm2 hj2
        refine ⟨_, rfl, .inl ⟨rfl, _, SqL.of hch⟩, _, rfl, D, _, _, j, _, rfl, rfl, SqL.of hch, rfl, nv_flat _, nv_get hj1, by show ((xm : Int) == (xm : Int)) = true; exact beq_self_eq_true _, fun i2 z2 hi2 hz2 => ?_, ?_⟩
        · obtain ⟨y2, hy2, rfl⟩ := nv_some hz2
          have := hj2 i2 y2 hi2 hy2
          show ((y2 : Int) == (xm : Int)) = false
          rw [beq_eq_false_iff_ne]
          omega
        -- way.append(chosen)
        have hq4 := s4 _ _ hq3
        refine ⟨_, rfl, .inl ⟨rfl, _, SqL.of hq4⟩, _, rfl, q, _, _, rfl, rfl, hq4, small1000 (by rw [nv_len]; rw [List.length_cons] at hil; omega), ?_⟩
        have s5 : ∀ b o, b ≠ q → H4 b = some o → (upd H4 q (.lst (nv wy ++ [V.int ((j : Nat) : Int)]))) b = some o := fun b o hb e => by
          rw [upd_ne hb]
          exact e
        have hq5 : (upd H4 q (.lst (nv wy ++ [V.int ((j : Nat) : Int)]))) q = some (.lst (nv (wy ++ [j]))) := by
          rw [upd_same]
          unfold nv
          rw [List.map_append]
          rfl
        have s35 : Same H (upd H4 q (.lst (nv wy ++ [V.int ((j : Nat) : Int)]))) := fun b o e => s5 b o (ne_of_none e hq) (s4 _ _ (s3 _ _ e))
        have hg5 := s5 _ _ gq (s4 _ _ hg3)
        have hR5 : RowsAt (upd H4 q (.lst (nv wy ++ [V.int ((j : Nat) : Int)]))) (fun r => H0 r = none) gs (onwards m (o :: r)) := hR3.imp (fun _ p => p) fun r o p e => s5 r o (rq r p) (s4 _ _ e)
        generalize (upd H4 q (.lst (nv wy ++ [V.int ((j : Nat) : Int)]))) = H5 at hq5 s35 hg5 hR5 ⊢
        have M5 := M.same s35
        obtain ⟨rr, g1, g2⟩ := M5.stepRow hjs
        -- leading
        refine ⟨_, rfl, a, C, _, _, _, rfl, M5.ins, T.cl, T.n4, mf_step _ _ _, _, rfl, _, _, _, _, rfl, rfl, SqL.of M5.steps, atI_nat g1, ?_⟩
        have hcj : (choices m lead o' r').getD j 0 = xm := by
          rw [List.getD_eq_getElem?_getD, hj1]
          rfl
        refine ⟨_, _, _, _, rr, goRow m j, wy ++ [j], rfl, s35, hg5, hR5, hq5, by simp [hwy], g2, goRow_len m j, fun s => ?_, ?_, fun h => absurd h (Nat.succ_ne_zero _), fun _ => ⟨?_, ?_⟩⟩
        · by_cases hsj : s < m.states
          · rw [goRow_at m j hsj]
            exact Good_go M.good j s
          · rw [List.getD_eq_getElem?_getD, List.getElem?_eq_none (by rw [goRow_len]; omega)]
            exact Nat.zero_le _
        · rw [hdrop1, ← hbw, hdrop, List.append_assoc]
          show _ = wy ++ (Rc49.greatest (choices m lead o' r') :: bw m (goRow m (Rc49.greatest (choices m lead o' r'))) r')
          rw [hgr]
          rfl
        · rw [hdrop1]
          exact Open.next (lead := lead) (o := o') hjs (by rw [hcj]; exact hxm0)
        · intro ht
          cases i with
          | succ i => exact (hop (Nat.succ_pos _)).2 ht
          | zero =>
            have hc : o' = o ∧ r' = r := by
              rw [List.drop_zero] at hdrop
              injection hdrop with e1 e2
              exact ⟨e1.symm, e2.symm⟩
            obtain ⟨rfl, rfl⟩ := hc
            have h1 := (total_zero m _ _).mp ht
            rw [← hi0 rfl, exm2] at h1
            exact hxm0 h1
    · rintro σ H' ⟨v4, v5, v6, v7, ld, lead, wy, rfl, s3, hg3, hR3, hq3, hwy, hld, hll, hlb, hbw, hi0, hop⟩
      have hlen : (gs.map V.ref).length = (o :: r).length := by rw [List.length_map, hR.len, onwards_len]
      rw [hlen] at hbw hop
      rw [List.drop_length] at hbw
      have e : wy = Rc49.bestOf m (o :: r) := by rw [← hbw]; exact (List.append_nil _).symm
      refine ⟨_, rfl, k1 (hop (Nat.succ_pos _)).2 H' q s3 ?_⟩
      rw [hq3, e]
end
end Hs
end

section
set_option Elab.async false
set_option maxRecDepth 100000
set_option maxHeartbeats 2000000
namespace Hs
open PySem PySem.Spec PyProof.Rows L2
def spLarge : Sp := fun vs H Q _ => ∃ n : Nat, vs = [.int n] ∧ ∀ (H' : Hp) (p : Addr), Same H H' → H p = none → H' p = some (.lst (nv (Rc49.bytes 320 n))) → Q (.ref p) H'
def spCommon : Sp := fun vs H Q _ => ∃ x y : Nat, vs = [.int x, .int y] ∧ Q (.int ((Nat.gcd x y : Nat) : Int)) H
def spFraction : Sp := fun vs H Q _ => ∃ x y : Nat, vs = [.int x, .int y] ∧ 0 < y ∧ y < 2 ^ 8000 ∧ ∀ (H' : Hp) (p : Addr), Same H H' → H p = none → H' p = some (.lst (nv (Rc49.frac x y))) → Q (.ref p) H'
section
variable {P : Program} {w : World} {K : PySem.W.Frag} {mg : Str → Option Value} {base : Heap}
theorem scLarge : FnScope ["value", "told", "left", "place"] ["value"] (defScope sLarge) := ⟨rfl, rfl, rfl, by decide +kernel, rfl, by decide +kernel, by decide +kernel⟩
theorem ok_large {f C : Addr} {fd : FuncData} (F : Fun K "large_number" "large_number" sLarge f fd) (T : TxtM K mg C) (hB : ∃ t, mg "BYTES" = some (.int 320 t)) : FnOk P w K mg base CX0 1 f fd ["value"] spLarge := by
  refine F.ok scLarge (fun vs H Q E h => ?_) (fun cdv A outer s H vs Q E hr h => ?_)
  · obtain ⟨n, rfl, _⟩ := h
    rfl
  · obtain ⟨n, rfl, k⟩ := h
    refine ⟨_, pss_cons (ps_set (i := 1) scLarge.nd rfl (loc_by rfl) (pe_lst pa_nil)) (pss_cons (ps_set (i := 2) scLarge.nd rfl (loc_by rfl) (pv 0))
      (pss_cons (ps_for PassesOwn.never rfl (pi_range1 rfl T.rng (pa_cons (pe_gint hB) pa_nil)) (pg_name (i := 3) scLarge.nd rfl (loc_by rfl))
        (pss_cons (ps_expr (pe_bm PySem.F.plainAttrs_list PySem.F.slot_list_append PySem.F.type_list_append mt_append (pv 1) (pa_cons (pe_op op_mod (pv 2) pe_int) pa_nil)))
        (pss_one (ps_set (i := 2) scLarge.nd rfl (loc_by rfl) (pe_op op_fdiv (pv 2) pe_int)))))
      (pss_one (ps_ret (pv 1))))), ?_⟩
    refine ⟨Nat.zero_le _, fun q hq => ?_⟩
    refine ⟨_, rfl, _, rfl, by decide, by decide, for_range (n := (320 : Int).toNat) (fun i σ H' => ∃ v : Option V, σ = [some (.int n), some (.ref q), some (.int ((n / 256 ^ i : Nat) : Int)), v] ∧ Acc H H' q (fun j => n / 256 ^ j % 256) i)
      ⟨none, by rw [Nat.pow_zero, Nat.div_one]; rfl, Acc.first hq⟩ ?_ ?_⟩
    · rintro i σ H' hi ⟨v, rfl, R⟩
      have hi : i < 320 := hi
      refine ⟨_, rfl, .inl ⟨rfl, _, SqL.of R.lst⟩, _, rfl, _, _, rfl, rfl, (by show (0 : Int) < 256; decide), q, _, _, rfl, rfl, R.lst, R.len (by omega), ?_⟩
      refine ⟨_, rfl, _, _, rfl, rfl, ⟨by decide, by decide⟩, ?_⟩
      refine ⟨some (.int (0 + (i : Int))), ?_, R.push hq (Same.refl _) (congrArg V.int (by omega))⟩
      rw [← div_pow_succ]
      rfl
    · rintro σ H' ⟨v, rfl, R⟩
      exact ⟨_, rfl, k H' q R.same hq R.lst⟩
theorem scCommon : FnScope ["one", "other", "larger", "smaller", "rest"] ["one", "other"] (defScope sCommon) := ⟨rfl, rfl, rfl, by decide +kernel, rfl, by decide +kernel, by decide +kernel⟩
theorem ok_common {f : Addr} {fd : FuncData} (F : Fun K "common_divisor" "common_divisor" sCommon f fd) : FnOk P w K mg base CX0 1 f fd ["one", "other"] spCommon := by
  refine F.ok scCommon (fun vs H Q E h => ?_) (fun cdv A outer s H vs Q E hr h => ?_)
  · obtain ⟨x, y, rfl, _⟩ := h
    rfl
  · obtain ⟨x, y, rfl, k⟩ := h
    refine ⟨_, pss_cons (ps_set (i := 2) scCommon.nd rfl (loc_by rfl) (pv 0)) (pss_cons (ps_set (i := 3) scCommon.nd rfl (loc_by rfl) (pv 1))
      (pss_cons (ps_while PassesOwn.never (pt_cmpR op_gt (pv 3) pe_int (nomark _))
        (pss_cons (ps_set (i := 4) scCommon.nd rfl (loc_by rfl) (pe_op op_mod (pv 2) (pv 3))) (pss_cons (ps_set (i := 2) scCommon.nd rfl (loc_by rfl) (pv 3)) (pss_one (ps_set (i := 3) scCommon.nd rfl (loc_by rfl) (pv 4))))))
      (pss_one (ps_ret (pv 2))))), ?_⟩
    refine ⟨_, rfl, _, rfl, ?_⟩
    refine while_by (fun σ H' => ∃ (v : Option V) (a b : Nat), σ = [some (.int x), some (.int y), some (.int a), some (.int b), v] ∧ H' = H ∧ Nat.gcd a b = Nat.gcd x y) (fun σ _ => match σ with | [_, _, _, some (.int b), _] => b.toNat | _ => 0) ⟨none, x, y, rfl, rfl, rfl⟩ ?_ ?_
    · rintro σ H' ⟨v, a, b, rfl, rfl, hg⟩
      refine ⟨_, rfl, _, _, rfl, rfl, _, rfl, ite2 (fun h1 => ?_) (fun h1 => ?_)⟩
      · have h1 : (0 : Int) < (b : Int) := of_decide_eq_true h1
        refine ⟨_, rfl, _, rfl, _, _, rfl, rfl, h1, ?_⟩
        refine ⟨_, rfl, _, rfl, ⟨⟨_, b, a % b, rfl, rfl, ?_⟩, ?_⟩⟩
        · rw [gcd_turn, hg]
        · show ((a : Int) % (b : Int)).toNat < ((b : Nat) : Int).toNat
          have := Int.emod_lt_of_pos (a : Int) h1
          have := Int.emod_nonneg (a : Int) (b := (b : Int)) (by omega)
          omega
      · have h1 : ¬ (0 : Int) < (b : Int) := fun z => h1 (decide_eq_true z)
        have hb : b = 0 := by omega
        subst hb
        rw [Nat.gcd_zero_right] at hg
        refine ⟨_, rfl, ?_⟩
        rw [hg]
        exact k
    · rintro σ H' Q1 Q2 himp ⟨v, e, i, j, e1, e2, k, e3, q⟩
      exact ⟨v, e, i, j, e1, e2, k, e3, himp _ _ q⟩
theorem scFraction : FnScope ["part", "whole", "divisor"] ["part", "whole"] (defScope sFraction) := ⟨rfl, rfl, rfl, by decide +kernel, rfl, by decide +kernel, by decide +kernel⟩
theorem ok_fraction {f : Addr} {fd : FuncData} (F : Fun K "fraction" "fraction" sFraction f fd) (D1 : Def P w K mg base "common_divisor" ["one", "other"] 1 spCommon) (D2 : Def P w K mg base "large_number" ["value"] 1 spLarge) :
    FnOk P w K mg base CX0 2 f fd ["part", "whole"] spFraction := by
  refine F.ok scFraction (fun vs H Q E h => ?_) (fun cdv A outer s H vs Q E hr h => ?_)
  · obtain ⟨x, y, rfl, _⟩ := h
    rfl
  · obtain ⟨x, y, rfl, hy0, hy, k⟩ := h
    refine ⟨_, pss_cons (ps_set (i := 2) scFraction.nd rfl (loc_by rfl) (pe_fn D1 hr (pa_cons (pv 0) (pa_cons (pv 1) pa_nil))))
      (pss_one (ps_ret (pe_op op_cat (pe_fn D2 hr (pa_cons (pe_op op_fdivB (pv 0) (pv 2)) pa_nil)) (pe_fn D2 hr (pa_cons (pe_op op_fdivB (pv 1) (pv 2)) pa_nil))))), ?_⟩
    refine ⟨_, rfl, _, rfl, x, y, rfl, ?_⟩
    have hg0 : 0 < Nat.gcd x y := Nat.gcd_pos_of_pos_right _ hy0
    have hgl : Nat.gcd x y < 2 ^ 8000 := Nat.lt_of_le_of_lt (Nat.gcd_le_right _ hy0) hy
    have hc : ∀ z : Int, CDivB z ((Nat.gcd x y : Nat) : Int) := fun z => ⟨by omega, by
      rw [Int.natAbs_natCast]
      exact Nat.lt_trans (log2_of hgl (by decide)) (by decide)⟩
    refine ⟨_, rfl, _, rfl, _, _, rfl, rfl, hc _, x / Nat.gcd x y, (by show [V.int ((x : Int) / ((Nat.gcd x y : Nat) : Int))] = [V.int _]; rw [← Int.natCast_ediv]), fun H1 p1 s1 _ h1 => ?_⟩
    refine ⟨_, rfl, _, rfl, _, _, rfl, rfl, hc _, y / Nat.gcd x y, (by show [V.int ((y : Int) / ((Nat.gcd x y : Nat) : Int))] = [V.int _]; rw [← Int.natCast_ediv]), fun H2 p2 s2 _ h2 => ?_⟩
    refine ⟨p1, p2, _, _, rfl, rfl, s2 _ _ h1, h2, ?_, fun p hp => ?_⟩
    · rw [nv_len, nv_len, bytes_len, bytes_len]
      exact sz (by decide)
    · have s3 := upd_new (o := HO.lst (nv (Rc49.bytes 320 (x / Nat.gcd x y)) ++ nv (Rc49.bytes 320 (y / Nat.gcd x y)))) hp
      refine k _ p ((s1.trans s2).trans s3) ((s1.trans s2).free hp) ?_
      rw [upd_same]
      unfold Rc49.frac nv
      rw [List.map_append]
      rfl
end
end Hs
end

section
set_option Elab.async false
set_option maxRecDepth 100000
set_option maxHeartbeats 2000000
namespace Hs
open PySem PySem.Spec PyProof.Rows L2
abbrev sRow : Stmt := top 48
abbrev sABest : Stmt := top 49
abbrev sALikely : Stmt := top 50
abbrev sANext : Stmt := top 51
abbrev sShare : Stmt := top 52
def iv (l : List Int) : List V := l.map V.int
theorem nv_eq (l : List Nat) : nv l = iv (l.map fun (x : Nat) => (x : Int)) := nv_iv l
theorem iv_len (l : List Int) : (iv l).length = l.length := by simp [iv]
theorem iv_app (a b : List Int) : iv a ++ iv b = iv (a ++ b) := by
  unfold iv
  rw [List.map_append]
/-- a new list with these numbers, all else as it was -/
def Ans (H : Hp) (Q : VK) (r : List Int) : Prop := ∀ (H' : Hp) (p : Addr), Same H H' → H p = none → H' p = some (.lst (iv r)) → Q (.ref p) H'
theorem Ans.mono {H H1 : Hp} {Q : VK} {r : List Int} (h : Ans H Q r) (s : Same H H1) : Ans H1 Q r := fun H' p s' n e => h H' p (s.trans s') (s.free n) e
theorem Ans.new {H : Hp} {Q : VK} {r : List Int} (h : Ans H Q r) {p : Addr} (hp : H p = none) {xs : List V} (e : xs = iv r) : Q (.ref p) (upd H p (.lst xs)) := by
  subst e
  exact h _ p (upd_new hp) hp upd_same
structure TxtA (mg : Str → Option Value) : Prop where
  k0 : ∃ t, mg "BEGIN" = some (.int 0 t)
  k1 : ∃ t, mg "SIZE" = some (.int 1 t)
  k2 : ∃ t, mg "START" = some (.int 2 t)
  k3 : ∃ t, mg "STEP" = some (.int 3 t)
  k4 : ∃ t, mg "SIGN" = some (.int 4 t)
  k5 : ∃ t, mg "TOTAL" = some (.int 5 t)
  k6 : ∃ t, mg "BEST" = some (.int 6 t)
  k7 : ∃ t, mg "LIKELY" = some (.int 7 t)
  done : ∃ t, mg "DONE" = some (.int 0 t)
  wrong : ∃ t, mg "WRONG" = some (.int (-1) t)
  noway : ∃ t, mg "NO_WAY" = some (.int (-3) t)
  nomodel : ∃ t, mg "NO_MODEL" = some (.int (-4) t)
  nostate : ∃ t, mg "NO_STATE" = some (.int 255 t)
def spHasRow (C : Addr) : Sp := fun vs H Q _ => ∃ (a : Addr) (A : MA) (m : Rc49.Model) (w : Addr) (l : List Nat), vs = [.ref a, .ref w] ∧ ModelAt C H a A m ∧ H w = some (.lst (nv l)) ∧ l.length ≤ 64 ∧
  ∀ H' : Hp, Same H H' → Q (.bl (Rc49.isRow m l (l.length : Int))) H'
def spShare : Sp := fun vs H Q _ => ∃ (w : Addr) (x : List Nat) (i : Nat), vs = [.ref w, .int i] ∧ H w = some (.lst (nv x)) ∧ i < x.length ∧ x.sum < 2 ^ 8000 ∧
  (x.sum = 0 → Ans H Q [-3]) ∧ (x.sum ≠ 0 → Ans H Q (0 :: (Rc49.frac (x.getD i 0) x.sum).map fun (b : Nat) => (b : Int)))
def spANext (C : Addr) : Sp := fun vs H Q _ => ∃ (a : Addr) (A : MA) (m : Rc49.Model) (w : Addr) (o : Nat) (r : List Nat) (z : Int), vs = [.ref a, .ref w, .int z] ∧ ModelAt C H a A m ∧ H w = some (.lst (nv (o :: r))) ∧ (∀ z, z ∈ o :: r → z < m.signs) ∧ r.length ≤ 63 ∧
  (Rc49.isSign m z = false → Ans H Q [-1]) ∧
  (Rc49.isSign m z = true → ((List.range m.signs).map fun (x : Nat) => Rc49.totalOf m ((o :: r) ++ [x])).sum = 0 → Ans H Q [-3]) ∧
  (Rc49.isSign m z = true → ((List.range m.signs).map fun (x : Nat) => Rc49.totalOf m ((o :: r) ++ [x])).sum ≠ 0 →
    Ans H Q (0 :: (Rc49.frac (Rc49.totalOf m ((o :: r) ++ [z.toNat])) ((List.range m.signs).map fun (x : Nat) => Rc49.totalOf m ((o :: r) ++ [x])).sum).map fun (b : Nat) => (b : Int)))
def spALikely (C : Addr) : Sp := fun vs H Q _ => ∃ (a : Addr) (A : MA) (m : Rc49.Model) (w : Addr) (o : Nat) (r : List Nat) (k z : Int), vs = [.ref a, .ref w, .int k, .int z] ∧ ModelAt C H a A m ∧ H w = some (.lst (nv (o :: r))) ∧ (∀ z, z ∈ o :: r → z < m.signs) ∧ r.length ≤ 63 ∧
  ((decide (0 ≤ k ∧ k < ((o :: r).length : Int)) && Rc49.isState m z) = false → Ans H Q [-1]) ∧
  ((decide (0 ≤ k ∧ k < ((o :: r).length : Int)) && Rc49.isState m z) = true → Rc49.totalOf m (o :: r) = 0 → Ans H Q [-3]) ∧
  ((decide (0 ≤ k ∧ k < ((o :: r).length : Int)) && Rc49.isState m z) = true → Rc49.totalOf m (o :: r) ≠ 0 →
    Ans H Q (0 :: (Rc49.frac (Rc49.sumOf m (o :: r) k.toNat z.toNat) (Rc49.totalOf m (o :: r))).map fun (b : Nat) => (b : Int)))
def spABest (C : Addr) : Sp := fun vs H Q _ => ∃ (a : Addr) (A : MA) (m : Rc49.Model) (w : Addr) (o : Nat) (r : List Nat), vs = [.ref a, .ref w] ∧ ModelAt C H a A m ∧ H w = some (.lst (nv (o :: r))) ∧ (∀ z, z ∈ o :: r → z < m.signs) ∧ r.length ≤ 63 ∧
  (Rc49.totalOf m (o :: r) = 0 → Ans H Q [-3]) ∧
  (Rc49.totalOf m (o :: r) ≠ 0 → Ans H Q (0 :: (Rc49.bestOf m (o :: r) ++ List.replicate (64 - (o :: r).length) 255).map fun (b : Nat) => (b : Int)))
def spRow (C : Addr) : Sp := fun vs H Q _ => ∃ (a : Addr) (A : MA) (m : Rc49.Model) (kd : Nat) (nl : Addr) (ns : List Int) (w : Addr) (l : List Nat) (c : Rc49.Call), vs = [.ref a, .int kd, .ref nl, .ref w] ∧ ModelAt C H a A m ∧ H nl = some (.lst (iv ns)) ∧ H w = some (.lst (nv l)) ∧ l.length ≤ 64 ∧
  5 ≤ kd ∧ CallOf kd ns l c ∧ Ans H Q (ansOf (Rc49.does { model := some m } c).2)
section
variable {P : Program} {w : World} {K : PySem.W.Frag} {mg : Str → Option Value} {base : Heap}
theorem scHasRow : FnScope ["self", "signs", "sign"] ["self", "signs"] (defScope sHasRow) := ⟨rfl, rfl, rfl, by decide +kernel, rfl, by decide +kernel, by decide +kernel⟩
theorem mf_hasRow (n k : Nat) (A : MA) : (mf n k A).lookup ("has_row" : Str) = none := rfl
theorem ok_hasRow {f C : Addr} {fd : FuncData} (F : Fun K "has_row" "Model.has_row" sHasRow f fd) (T : TxtM K mg C) (D1 : MDef P w K mg base C "has_sign" ["self", "sign"] 1 (spHasSign C)) : FnOk P w K mg base CX0 2 f fd ["self", "signs"] (spHasRow C) := by
  obtain ⟨fS, fdS, mS, bS, GS⟩ := D1.ex
  refine F.ok scHasRow (fun vs H Q E h => ?_) (fun cdv A outer s H vs Q E hr h => ?_)
  · obtain ⟨a, A, m, w, l, rfl, _⟩ := h
    rfl
  · obtain ⟨a, B, m, w, l, rfl, M, hw, hl, k⟩ := h
    refine ⟨_, pss_one (ps_ret (pe_and (pe_chain op_le op_le pe_int (pe_callB call_len_seq rfl T.blen bt_len (pa_cons (pv 1) pa_nil)) (pe_gint T.mp)) (pe_one (pe_callB (cr_all rfl) rfl T.ball bt_all (pa_cons
      (pe_lc rfl scHasRow.nd (pi_list (pv 1)) (blkOk_by (own := [("sign", 2)]) rfl) (fun _ _ _ _ _ => pg_name (i := 2) scHasRow.nd rfl (Or.inl rfl)) (fun _ _ _ _ _ => pts_nil)
        (fun _ _ _ _ _ => pe_meth (pv 0) T.cl mS GS hr bS .nil pass0 (pa_cons (pv 2) pa_nil))) pa_nil))))), ?_⟩
    refine ⟨_, rfl, w, _, rfl, .inl (SqL.of hw), _, _, rfl, rfl, _, rfl, ite2 (fun h1 => ?_) (fun h1 => ?_)⟩
    · have h1 : (1 : Int) ≤ ((nv l).length : Int) := of_decide_eq_true h1
      rw [nv_len] at h1
      refine ⟨_, _, rfl, rfl, _, rfl, ite2 (fun h2 => ?_) (fun h2 => ?_)⟩
      · refine ⟨_, rfl, w, rfl, ⟨_, SqL.of hw⟩, fun D hD => lc_list (K := K) (a := w) (xs := nv l) (fun i H' => H' D = some (.lst (((l.take i).map fun (o : Nat) => Rc49.isSign m (o : Int)).map V.bl)) ∧ Same H H')
          ⟨upd_same, upd_new hD⟩ (fun i H' _ h => SqL.of (h.2 _ _ hw)) (fun i x H' hi h => ?_) (fun H' h => ?_)⟩
        · obtain ⟨z, hz, rfl⟩ := nv_some hi
          obtain ⟨h3, h4⟩ := h
          have M' := M.same h4
          refine ⟨rfl, yesT ?_⟩
          refine ⟨_, rfl, a, _, _, rfl, M'.ins, mf_hasSign _ _ _, _, rfl, a, B, m, _, rfl, M', _, h3, ?_, ?_, ?_⟩
          · rw [List.length_map, List.length_map, List.length_take]
            exact small1000 (by omega)
          · rw [upd_same, take_snocN hz, List.map_append, List.map_append]
            rfl
          · intro b o e
            rw [upd_ne (ne_of_none e hD)]
            exact h4 _ _ e
        · rw [nv_len, List.take_length] at h
          refine ⟨D, _, rfl, SqL.of h.1, ?_⟩
          have e : Rc49.isRow m l (l.length : Int) = (l.map fun (o : Nat) => Rc49.isSign m (o : Int)).all id := by
            unfold Rc49.isRow
            rw [List.all_map, decide_eq_true (show 1 ≤ (l.length : Int) ∧ (l.length : Int) ≤ 64 by omega), Bool.true_and]
            congr 1
            funext o
            show decide (o < m.signs) = decide (0 ≤ (o : Int) ∧ (o : Int) < (m.signs : Int))
            by_cases ho : o < m.signs
            · rw [decide_eq_true ho, decide_eq_true (by omega)]
            · rw [decide_eq_false ho, decide_eq_false (by omega)]
          rw [← e]
          exact k H' h.2
      · exfalso
        apply h2
        apply decide_eq_true
        rw [nv_len]
        omega
    · have h1 : ¬ (1 : Int) ≤ ((nv l).length : Int) := fun z => h1 (decide_eq_true z)
      rw [nv_len] at h1
      have e : Rc49.isRow m l (l.length : Int) = false := by
        unfold Rc49.isRow
        rw [decide_eq_false (by omega), Bool.false_and]
      have k' := k H (Same.refl _)
      rw [e] at k'
      exact ⟨_, rfl, iteF k'⟩
theorem scShare : FnScope ["weights", "chosen", "whole"] ["weights", "chosen"] (defScope sShare) := ⟨rfl, rfl, rfl, by decide +kernel, rfl, by decide +kernel, by decide +kernel⟩
theorem ok_share {f C : Addr} {fd : FuncData} (F : Fun K "answer_share" "answer_share" sShare f fd) (T : TxtM K mg C) (TA : TxtA mg) (D1 : Def P w K mg base "fraction" ["part", "whole"] 2 spFraction) : FnOk P w K mg base CX0 3 f fd ["weights", "chosen"] spShare := by
  refine F.ok scShare (fun vs H Q E h => ?_) (fun cdv A outer s H vs Q E hr h => ?_)
  · obtain ⟨w, x, i, rfl, _⟩ := h
    rfl
  · obtain ⟨w, x, i, rfl, hw, hi, hx, k0, k1⟩ := h
    refine ⟨_, pss_cons (ps_set (i := 2) scShare.nd rfl (loc_by rfl) (pe_callB (cr_sum rfl) rfl T.bsum bt_sum (pa_cons (pv 0) pa_nil)))
      (pss_cons (ps_if (pt_cmpR op_eq (pv 2) pe_int (nomark _)) (pss_one (ps_ret (pe_lst (pa_cons (pe_gint TA.noway) pa_nil)))) pss_nil)
      (pss_one (ps_ret (pe_op op_cat (pe_lst (pa_cons (pe_gint TA.done) pa_nil)) (pe_fn D1 hr (pa_cons (pe_ix ix_list (pv 0) (pv 1) (fun _ _ => rfl)) (pa_cons (pv 2) pa_nil))))))), ?_⟩
    refine ⟨_, rfl, w, _, rfl, by rw [← nv_iv]; exact SqL.of hw, ?_⟩
    rw [sum_cast]
    refine ⟨_, rfl, rfl, _, rfl, ite2 (fun h0 => ?_) (fun h0 => ?_)⟩
    · have h0 := of_decide_eq_true h0
      injection h0 with h0
      exact ⟨sz (by decide : 1 ≤ 1000), fun p hp => (k0 (by omega)).new hp rfl⟩
    · have hx0 : x.sum ≠ 0 := fun e => h0 (by
        rw [e]
        exact decide_eq_true rfl)
      refine ⟨sz (by decide : 1 ≤ 1000), fun p hp => ?_⟩
      have s1 := upd_new (o := HO.lst [V.int 0]) hp
      refine ⟨_, rfl, _, rfl, w, _, _, _, rfl, rfl, SqL.of (s1 _ _ hw), atI_nat (nv_at rfl hi), _, rfl, _, _, rfl, by omega, hx, fun H2 p2 s2 _ h2 => ?_⟩
      refine ⟨p, p2, _, _, rfl, rfl, s2 _ _ upd_same, h2, ?_, fun p3 hp3 => ?_⟩
      · rw [nv_len, frac_len]
        exact sz (by decide)
      · refine ((k1 hx0).mono (s1.trans s2)).new hp3 ?_
        rw [nv_eq]
        rfl
theorem scANext : FnScope ["model", "signs", "sign"] ["model", "signs", "sign"] (defScope sANext) := ⟨rfl, rfl, rfl, by decide +kernel, rfl, by decide +kernel, by decide +kernel⟩
theorem next_lt {m : Rc49.Model} (g : m.Good) {o : Nat} {r : List Nat} (hr : r.length ≤ 63) : (nextW m (o :: r)).sum < 2 ^ 8000 := by
  have h1 : (nextW m (o :: r)).sum ≤ (nextW m (o :: r)).length * 2 ^ 2340 := sum_le_mul fun x hx => by
    rw [nextW_eq] at hx
    obtain ⟨y, _, rfl⟩ := List.mem_map.mp hx
    exact total_le g (by simp; omega) (by simp)
  rw [nextW_len] at h1
  have h2 : m.signs * 2 ^ 2340 ≤ 2 ^ 4 * 2 ^ 2340 := Nat.mul_le_mul_right _ g.2.2.2.1
  rw [← Nat.pow_add] at h2
  exact Nat.lt_of_le_of_lt (Nat.le_trans h1 h2) (Nat.pow_lt_pow_right (by decide) (by decide))
theorem ok_anext {f C : Addr} {fd : FuncData} (F : Fun K "answer_next" "answer_next" sANext f fd) (T : TxtM K mg C) (TA : TxtA mg) (D1 : MDef P w K mg base C "has_sign" ["self", "sign"] 1 (spHasSign C)) (D2 : Def P w K mg base "weights_of_next" ["model", "signs"] 3 (spNext C))
    (D3 : Def P w K mg base "answer_share" ["weights", "chosen"] 3 spShare) : FnOk P w K mg base CX0 4 f fd ["model", "signs", "sign"] (spANext C) := by
  obtain ⟨fS, fdS, mS, bS, GS⟩ := D1.ex
  refine F.ok scANext (fun vs H Q E h => ?_) (fun cdv A outer s H vs Q E hr h => ?_)
  · obtain ⟨a, A, m, w, o, r, z, rfl, _⟩ := h
    rfl
  · obtain ⟨a, B, m, w, o, r, z, rfl, M, hw, hz, hr63, k1, k2, k3⟩ := h
    have hr1 : Room 1 _ := hr.mono (by decide)
    refine ⟨_, pss_cons (ps_if (pt_not (pt_val (pe_meth (pv 0) T.cl mS GS hr1 bS .nil pass0 (pa_cons (pv 2) pa_nil)))) (pss_one (ps_ret (pe_lst (pa_cons (pe_gint TA.wrong) pa_nil)))) pss_nil)
      (pss_one (ps_ret (pe_fn D3 hr (pa_cons (pe_fn D2 hr (pa_cons (pv 0) (pa_cons (pv 1) pa_nil))) (pa_cons (pv 2) pa_nil))))), ?_⟩
    refine ⟨_, rfl, a, _, _, rfl, M.ins, mf_hasSign _ _ _, _, rfl, a, B, m, z, rfl, M, _, rfl, ?_⟩
    cases e1 : Rc49.isSign m z with
    | false => exact iteT ⟨sz (by decide : 1 ≤ 1000), fun p hp => (k1 e1).new hp rfl⟩
    | true =>
      refine iteF ?_
      obtain ⟨i, rfl, hi⟩ := isSign_nat e1
      refine ⟨_, rfl, _, rfl, a, B, m, w, o, r, rfl, M, hw, hz, fun H1 p1 s1 h1 => ?_⟩
      refine ⟨_, rfl, p1, _, i, rfl, h1, by rw [nextW_len]; exact hi, next_lt M.good hr63, fun h0 => ?_, fun h0 => ?_⟩
      · rw [nextW_eq] at h0
        exact (k2 e1 h0).mono s1
      · rw [nextW_eq] at h0 ⊢
        rw [getD_map_range _ hi]
        exact (k3 e1 h0).mono s1
theorem scALikely : FnScope ["model", "signs", "place", "state"] ["model", "signs", "place", "state"] (defScope sALikely) := ⟨rfl, rfl, rfl, by decide +kernel, rfl, by decide +kernel, by decide +kernel⟩
theorem total_lt {m : Rc49.Model} (g : m.Good) {o : Nat} {r : List Nat} (hr : r.length ≤ 63) : Rc49.totalOf m (o :: r) < 2 ^ 8000 :=
  Nat.lt_of_le_of_lt (total_le g (by rw [List.length_cons]; omega) (by simp)) (Nat.pow_lt_pow_right (by decide) (by decide))
theorem ok_alikely {f C : Addr} {fd : FuncData} (F : Fun K "answer_likely" "answer_likely" sALikely f fd) (T : TxtM K mg C) (TA : TxtA mg) (D1 : MDef P w K mg base C "has_state" ["self", "state"] 1 (spHasState C)) (D2 : Def P w K mg base "weights_at" ["model", "signs", "place"] 4 (spAt C))
    (D3 : Def P w K mg base "answer_share" ["weights", "chosen"] 3 spShare) : FnOk P w K mg base CX0 5 f fd ["model", "signs", "place", "state"] (spALikely C) := by
  obtain ⟨fS, fdS, mS, bS, GS⟩ := D1.ex
  refine F.ok scALikely (fun vs H Q E h => ?_) (fun cdv A outer s H vs Q E hr h => ?_)
  · obtain ⟨a, A, m, w, o, r, k, z, rfl, _⟩ := h
    rfl
  · obtain ⟨a, B, m, w, o, r, k, z, rfl, M, hw, hz, hr63, k1, k2, k3⟩ := h
    have hr1 : Room 1 _ := hr.mono (by decide)
    have hr3 : Room 3 _ := hr.mono (by decide)
    refine ⟨_, pss_cons (ps_if (pt_not (PW.pt (pw_and (pt_chain op_le op_lt pe_int (pv 2) (pe_callB call_len_seq rfl T.blen bt_len (pa_cons (pv 1) pa_nil))) (pw_and1 (pt_val (pe_meth (pv 0) T.cl mS GS hr1 bS .nil pass0 (pa_cons (pv 3) pa_nil)))))))
        (pss_one (ps_ret (pe_lst (pa_cons (pe_gint TA.wrong) pa_nil)))) pss_nil)
      (pss_one (ps_ret (pe_fn D3 hr3 (pa_cons (pe_fn D2 hr (pa_cons (pv 0) (pa_cons (pv 1) (pa_cons (pv 2) pa_nil)))) (pa_cons (pv 3) pa_nil))))), ?_⟩
    have wrong : (decide (0 ≤ k ∧ k < ((o :: r).length : Int)) && Rc49.isState m z) = false → Ans H Q [-1] := k1
    refine ⟨_, rfl, _, _, rfl, rfl, _, rfl, ite2 (fun h1 => ?_) (fun h1 => ?_)⟩
    · have h1 : (0 : Int) ≤ k := of_decide_eq_true h1
      refine ⟨_, rfl, w, _, rfl, .inl (SqL.of hw), _, _, rfl, rfl, _, rfl, ite2 (fun h2 => ?_) (fun h2 => ?_)⟩
      · have h2 : k < ((nv (o :: r)).length : Int) := of_decide_eq_true h2
        rw [nv_len] at h2
        refine ⟨_, rfl, a, _, _, rfl, M.ins, mf_hasState _ _ _, _, rfl, a, B, m, z, rfl, M, _, rfl, ?_⟩
        have ed : decide (0 ≤ k ∧ k < ((o :: r).length : Int)) = true := decide_eq_true ⟨h1, h2⟩
        rw [ed, Bool.true_and] at k1 k2 k3
        cases e1 : Rc49.isState m z with
        | false => exact iteT ⟨sz (by decide : 1 ≤ 1000), fun p hp => (k1 e1).new hp rfl⟩
        | true =>
          refine iteF ?_
          obtain ⟨j, rfl, hj⟩ := isState_nat e1
          obtain ⟨i, rfl⟩ : ∃ i : Nat, k = (i : Int) := ⟨k.toNat, by omega⟩
          have hir : i ≤ r.length := by
            rw [List.length_cons] at h2
            omega
          refine ⟨_, rfl, _, rfl, _, rfl, a, B, m, w, o, r, i, rfl, M, hw, hz, hr63, hir, fun H1 p1 s1 h1' => ?_⟩
          refine ⟨_, rfl, p1, _, j, rfl, h1', by rw [weightsAt_len]; exact hj, by rw [weightsAt_sum m o r hir]; exact total_lt M.good hr63, fun h0 => ?_, fun h0 => ?_⟩
          · rw [weightsAt_sum m o r hir] at h0
            exact (k2 e1 h0).mono s1
          · rw [weightsAt_sum m o r hir] at h0 ⊢
            rw [weightsAt_one m o r hir hj]
            exact (k3 e1 h0).mono s1
      · have h2 : ¬ k < ((nv (o :: r)).length : Int) := fun z => h2 (decide_eq_true z)
        rw [nv_len] at h2
        refine iteT ⟨sz (by decide : 1 ≤ 1000), fun p hp => (wrong ?_).new hp rfl⟩
        rw [decide_eq_false (fun z => h2 z.2), Bool.false_and]
    · have h1 : ¬ (0 : Int) ≤ k := fun z => h1 (decide_eq_true z)
      refine ⟨_, rfl, iteF (iteT ⟨sz (by decide : 1 ≤ 1000), fun p hp => (wrong ?_).new hp rfl⟩)⟩
      rw [decide_eq_false (fun z => h1 z.1), Bool.false_and]
theorem scABest : FnScope ["model", "signs", "way"] ["model", "signs"] (defScope sABest) := ⟨rfl, rfl, rfl, by decide +kernel, rfl, by decide +kernel, by decide +kernel⟩
theorem ok_abest {f C : Addr} {fd : FuncData} (F : Fun K "answer_best" "answer_best" sABest f fd) (T : TxtM K mg C) (TA : TxtA mg) (D1 : Def P w K mg base "best_way" ["model", "signs"] 3 (spBest C)) : FnOk P w K mg base CX0 4 f fd ["model", "signs"] (spABest C) := by
  refine F.ok scABest (fun vs H Q E h => ?_) (fun cdv A outer s H vs Q E hr h => ?_)
  · obtain ⟨a, A, m, w, o, r, rfl, _⟩ := h
    rfl
  · obtain ⟨a, B, m, w, o, r, rfl, M, hw, hz, hr63, k0, k1⟩ := h
    refine ⟨_, pss_cons (ps_set (i := 2) scABest.nd rfl (loc_by rfl) (pe_fn D1 hr (pa_cons (pv 0) (pa_cons (pv 1) pa_nil))))
      (pss_cons (ps_if (pt_cmpR op_isN (pv 2) pe_non (nomark _)) (pss_one (ps_ret (pe_lst (pa_cons (pe_gint TA.noway) pa_nil)))) pss_nil)
      (pss_one (ps_ret (pe_op op_cat (pe_op op_cat (pe_lst (pa_cons (pe_gint TA.done) pa_nil)) (pv 2)) (pe_op op_rep (pe_lst (pa_cons (pe_gint TA.nostate) pa_nil)) (pe_op op_sub (pe_gint T.mp) (pe_callB call_len_seq rfl T.blen bt_len (pa_cons (pv 2) pa_nil)))))))), ?_⟩
    refine ⟨_, rfl, _, rfl, a, B, m, w, o, r, rfl, M, hw, hz, hr63, fun h0 H1 s1 => ?_, fun h0 H1 p1 s1 h1 => ?_⟩
    · exact ⟨_, rfl, rfl, _, rfl, iteT ⟨sz (by decide : 1 ≤ 1000), fun p hp => ((k0 h0).mono s1).new hp rfl⟩⟩
    · have hbl : (Rc49.bestOf m (o :: r)).length = (o :: r).length := by rw [bestOf_eq, bw_len]
      have hll : (o :: r).length ≤ 64 := by rw [List.length_cons]; omega
      refine ⟨_, rfl, rfl, _, rfl, iteF ⟨sz (by decide : 1 ≤ 1000), fun p2 hp2 => ?_⟩⟩
      have s2 := upd_new (o := HO.lst [V.int 0]) hp2
      refine ⟨_, rfl, p2, p1, _, _, rfl, rfl, upd_same, s2 _ _ h1, ?_, fun p3 hp3 => ?_⟩
      · rw [nv_len, hbl]
        exact sz (by show 1 + (o :: r).length ≤ 1000; omega)
      have s3 := upd_new (o := HO.lst ([V.int 0] ++ nv (Rc49.bestOf m (o :: r)))) hp3
      refine ⟨sz (by decide : 1 ≤ 1000), fun p4 hp4 => ?_⟩
      have s4 := upd_new (o := HO.lst [V.int 255]) hp4
      refine ⟨_, rfl, p1, _, rfl, .inl (SqL.of (s4 _ _ (s3 _ _ (s2 _ _ h1)))), _, _, rfl, rfl, p4, _, _, rfl, rfl, upd_same, ?_, ?_, ?_, fun p5 hp5 => ?_⟩
      · rw [nv_len, hbl]; omega
      · rw [nv_len, hbl]; omega
      · rw [nv_len, hbl]
        exact sz (by show 1 * _ ≤ 1000; omega)
      rw [nv_len, hbl, show ((64 : Int) - ((o :: r).length : Int)).toNat = 64 - (o :: r).length by omega, show (List.replicate (64 - (o :: r).length) [V.int 255]).flatten = _ from rep_flatN (64 - (o :: r).length) 255]
      have s5 := upd_new (o := HO.lst (nv (List.replicate (64 - (o :: r).length) 255))) hp5
      refine ⟨p3, p5, _, _, rfl, rfl, s5 _ _ (s4 _ _ upd_same), upd_same, ?_, fun p6 hp6 => ?_⟩
      · rw [List.length_append, nv_len, nv_len, hbl, List.length_replicate]
        exact sz (by show 1 + (o :: r).length + (64 - (o :: r).length) ≤ 1000; omega)
      refine ((k1 h0).mono ((((s1.trans s2).trans s3).trans s4).trans s5)).new hp6 ?_
      rw [nv_eq, nv_eq, List.map_append]
      unfold iv
      rw [List.map_cons, List.map_append]
      rfl
theorem scRow : FnScope ["model", "kind", "numbers", "signs"] ["model", "kind", "numbers", "signs"] (defScope sRow) := ⟨rfl, rfl, rfl, by decide +kernel, rfl, by decide +kernel, by decide +kernel⟩
theorem row_split {m : Rc49.Model} {l : List Nat} (h : Rc49.isRow m l (l.length : Int) = true) : ∃ o r, l = o :: r ∧ (∀ z, z ∈ o :: r → z < m.signs) ∧ r.length ≤ 63 := by
  unfold Rc49.isRow at h
  rw [Bool.and_eq_true] at h
  have h1 := of_decide_eq_true h.1
  cases l with
  | nil => simp at h1
  | cons o r =>
    refine ⟨o, r, rfl, fun z hz => of_decide_eq_true (List.all_eq_true.mp h.2 z hz), ?_⟩
    rw [List.length_cons] at h1
    omega
theorem ok_row {f C : Addr} {fd : FuncData} (F : Fun K "answer_of_row" "answer_of_row" sRow f fd) (T : TxtM K mg C) (TA : TxtA mg) (D0 : MDef P w K mg base C "has_row" ["self", "signs"] 2 (spHasRow C)) (D1 : Def P w K mg base "large_number" ["value"] 1 spLarge) (D2 : Def P w K mg base "total_weight" ["model", "signs"] 3 (spTotal C))
    (D3 : Def P w K mg base "answer_best" ["model", "signs"] 4 (spABest C)) (D4 : Def P w K mg base "answer_likely" ["model", "signs", "place", "state"] 5 (spALikely C)) (D5 : Def P w K mg base "answer_next" ["model", "signs", "sign"] 4 (spANext C)) :
    FnOk P w K mg base CX0 6 f fd ["model", "kind", "numbers", "signs"] (spRow C) := by
  obtain ⟨fS, fdS, mS, bS, GS⟩ := D0.ex
  refine F.ok scRow (fun vs H Q E h => ?_) (fun cdv A outer s H vs Q E hr h => ?_)
  · obtain ⟨a, A, m, kd, nl, ns, w, l, c, rfl, _⟩ := h
    rfl
  · obtain ⟨a, B, m, kd, nl, ns, w, l, c, rfl, M, hn, hw, hl, hkd, hc, k⟩ := h
    have hr1 : Room 1 _ := hr.mono (by decide)
    have hr2 : Room 2 _ := hr.mono (by decide)
    have hr3 : Room 3 _ := hr.mono (by decide)
    have hr4 : Room 4 _ := hr.mono (by decide)
    refine ⟨_, pss_cons (ps_if (pt_not (pt_val (pe_meth (pv 0) T.cl mS GS hr2 bS .nil pass0 (pa_cons (pv 3) pa_nil)))) (pss_one (ps_ret (pe_lst (pa_cons (pe_gint TA.wrong) pa_nil)))) pss_nil)
      (pss_cons (ps_if (pt_cmpR op_eq (pv 1) (pe_gint TA.k5) (nomark _)) (pss_one (ps_ret (pe_op op_cat (pe_lst (pa_cons (pe_gint TA.done) pa_nil)) (pe_fn D1 hr1 (pa_cons (pe_fn D2 hr3 (pa_cons (pv 0) (pa_cons (pv 3) pa_nil))) pa_nil))))) pss_nil)
      (pss_cons (ps_if (pt_cmpR op_eq (pv 1) (pe_gint TA.k6) (nomark _)) (pss_one (ps_ret (pe_fn D3 hr4 (pa_cons (pv 0) (pa_cons (pv 3) pa_nil))))) pss_nil)
      (pss_cons (ps_if (pt_cmpR op_eq (pv 1) (pe_gint TA.k7) (nomark _)) (pss_one (ps_ret (pe_fn D4 hr (pa_cons (pv 0) (pa_cons (pv 3) (pa_cons (pe_ix ix_list (pv 2) pe_int (fun _ _ => rfl)) (pa_cons (pe_ix ix_list (pv 2) pe_int (fun _ _ => rfl)) pa_nil))))))) pss_nil)
      (pss_one (ps_ret (pe_fn D5 hr4 (pa_cons (pv 0) (pa_cons (pv 3) (pa_cons (pe_ix ix_list (pv 2) pe_int (fun _ _ => rfl)) pa_nil))))))))), ?_⟩
    refine ⟨_, rfl, a, _, _, rfl, M.ins, mf_hasRow _ _ _, _, rfl, a, B, m, w, l, rfl, M, hw, hl, fun H1 s1 => ⟨_, rfl, ?_⟩⟩
    have M1 := M.same s1
    have hn1 := s1 _ _ hn
    have hw1 := s1 _ _ hw
    have k1 := k.mono s1
    cases e1 : Rc49.isRow m l (l.length : Int) with
    | false =>
      refine iteT ⟨sz (by decide : 1 ≤ 1000), fun p hp => k1.new hp ?_⟩
      cases hc with
      | c5 => show _ = iv (ansOf (if Rc49.isRow m l (l.length : Int) = false then Rc49.refused else _)); rw [if_pos e1]; rfl
      | c6 => show _ = iv (ansOf (if Rc49.isRow m l (l.length : Int) = false then Rc49.refused else _)); rw [if_pos e1]; rfl
      | c7 a b => show _ = iv (ansOf (if (Rc49.isRow m l (l.length : Int) && _) = false then Rc49.refused else _)); rw [if_pos (by rw [e1, Bool.false_and])]; rfl
      | c8 a => show _ = iv (ansOf (if (Rc49.isRow m l (l.length : Int) && _) = false then Rc49.refused else _)); rw [if_pos (by rw [e1, Bool.false_and])]; rfl
      | _ => exact absurd hkd (by decide)
    | true =>
      refine iteF ?_
      obtain ⟨o, r, rfl, hz, hr63⟩ := row_split e1
      have ne1 : ¬ Rc49.isRow m (o :: r) ((o :: r).length : Int) = false := by rw [e1]; exact Bool.noConfusion
      cases hc with
      | c5 =>
        refine ⟨_, rfl, rfl, _, rfl, iteT ?_⟩
        refine ⟨sz (by decide : 1 ≤ 1000), fun p hp => ?_⟩
        have s2 := upd_new (o := HO.lst [V.int 0]) hp
        refine ⟨_, rfl, _, rfl, a, B, m, w, o, r, rfl, M1.same s2, s2 _ _ hw1, hz, fun H3 s3 => ?_⟩
        refine ⟨_, rfl, fun H4 p4 s4 _ h4 => ?_⟩
        refine ⟨p, p4, _, _, rfl, rfl, s4 _ _ (s3 _ _ upd_same), h4, ?_, fun p5 hp5 => ?_⟩
        · rw [nv_len, bytes_len]
          exact sz (by decide)
        · refine (k1.mono ((s2.trans s3).trans s4)).new hp5 ?_
          show _ = iv (ansOf (if Rc49.isRow m (o :: r) ((o :: r).length : Int) = false then Rc49.refused else _))
          rw [if_neg ne1, nv_eq]
          rfl
      | c6 =>
        refine ⟨_, rfl, rfl, _, rfl, iteF ⟨_, rfl, rfl, _, rfl, iteT ?_⟩⟩
        refine ⟨_, rfl, _, rfl, a, B, m, w, o, r, rfl, M1, hw1, hz, hr63, fun h0 => ?_, fun h0 => ?_⟩
        · have e : ansOf (Rc49.does { model := some m } (.best (o :: r) ((o :: r).length : Int))).2 = [-3] := by
            show ansOf (if Rc49.isRow m (o :: r) ((o :: r).length : Int) = false then Rc49.refused else if Rc49.totalOf m (o :: r) = 0 then Rc49.nothing else _) = _
            rw [if_neg ne1, if_pos h0]
            rfl
          rw [e] at k1
          exact k1
        · have e : ansOf (Rc49.does { model := some m } (.best (o :: r) ((o :: r).length : Int))).2 = 0 :: (Rc49.bestOf m (o :: r) ++ List.replicate (64 - (o :: r).length) 255).map fun (b : Nat) => (b : Int) := by
            show ansOf (if Rc49.isRow m (o :: r) ((o :: r).length : Int) = false then Rc49.refused else if Rc49.totalOf m (o :: r) = 0 then Rc49.nothing else _) = _
            rw [if_neg ne1, if_neg h0]
            rfl
          rw [e] at k1
          exact k1
      | c7 kk zz =>
        refine ⟨_, rfl, rfl, _, rfl, iteF ⟨_, rfl, rfl, _, rfl, iteF ⟨_, rfl, rfl, _, rfl, iteT ?_⟩⟩⟩
        refine ⟨_, rfl, _, rfl, _, rfl, nl, _, _, _, rfl, rfl, SqL.of hn1, at_of (j := 0) rfl rfl, _, rfl, nl, _, _, _, rfl, rfl, SqL.of hn1, at_of (j := 1) rfl rfl, ?_⟩
        refine ⟨a, B, m, w, o, r, kk, zz, rfl, M1, hw1, hz, hr63, fun h1 => ?_, fun h1 h0 => ?_, fun h1 h0 => ?_⟩
        · have e : ansOf (Rc49.does { model := some m } (.likely (o :: r) ((o :: r).length : Int) kk zz)).2 = [-1] := by
            show ansOf (if (Rc49.isRow m (o :: r) ((o :: r).length : Int) && (decide (0 ≤ kk ∧ kk < ((o :: r).length : Int)) && Rc49.isState m zz)) = false then Rc49.refused else _) = _
            rw [if_pos (by rw [e1, h1]; rfl)]
            rfl
          rw [e] at k1
          exact k1
        · have e : ansOf (Rc49.does { model := some m } (.likely (o :: r) ((o :: r).length : Int) kk zz)).2 = [-3] := by
            show ansOf (if (Rc49.isRow m (o :: r) ((o :: r).length : Int) && (decide (0 ≤ kk ∧ kk < ((o :: r).length : Int)) && Rc49.isState m zz)) = false then Rc49.refused else if Rc49.totalOf m (o :: r) = 0 then Rc49.nothing else _) = _
            rw [if_neg (by rw [e1, h1]; exact Bool.noConfusion), if_pos h0]
            rfl
          rw [e] at k1
          exact k1
        · have e : ansOf (Rc49.does { model := some m } (.likely (o :: r) ((o :: r).length : Int) kk zz)).2 = 0 :: (Rc49.frac (Rc49.sumOf m (o :: r) kk.toNat zz.toNat) (Rc49.totalOf m (o :: r))).map fun (b : Nat) => (b : Int) := by
            show ansOf (if (Rc49.isRow m (o :: r) ((o :: r).length : Int) && (decide (0 ≤ kk ∧ kk < ((o :: r).length : Int)) && Rc49.isState m zz)) = false then Rc49.refused else if Rc49.totalOf m (o :: r) = 0 then Rc49.nothing else _) = _
            rw [if_neg (by rw [e1, h1]; exact Bool.noConfusion), if_neg h0]
            rfl
          rw [e] at k1
          exact k1
      | c8 zz =>
        refine ⟨_, rfl, rfl, _, rfl, iteF ⟨_, rfl, rfl, _, rfl, iteF ⟨_, rfl, rfl, _, rfl, iteF ?_⟩⟩⟩
        refine ⟨_, rfl, _, rfl, _, rfl, nl, _, _, _, rfl, rfl, SqL.of hn1, at_of (j := 0) rfl rfl, ?_⟩
        refine ⟨a, B, m, w, o, r, zz, rfl, M1, hw1, hz, hr63, fun h1 => ?_, fun h1 h0 => ?_, fun h1 h0 => ?_⟩
        · have e : ansOf (Rc49.does { model := some m } (.next (o :: r) ((o :: r).length : Int) zz)).2 = [-1] := by
            show ansOf (if (Rc49.isRow m (o :: r) ((o :: r).length : Int) && Rc49.isSign m zz) = false then Rc49.refused else _) = _
            rw [if_pos (by rw [e1, h1]; rfl)]
            rfl
          rw [e] at k1
          exact k1
        · have e : ansOf (Rc49.does { model := some m } (.next (o :: r) ((o :: r).length : Int) zz)).2 = [-3] := by
            show ansOf (if (Rc49.isRow m (o :: r) ((o :: r).length : Int) && Rc49.isSign m zz) = false then Rc49.refused else if ((List.range m.signs).map fun (x : Nat) => Rc49.totalOf m ((o :: r) ++ [x])).sum = 0 then Rc49.nothing else _) = _
            rw [if_neg (by rw [e1, h1]; exact Bool.noConfusion), if_pos h0]
            rfl
          rw [e] at k1
          exact k1
        · have e : ansOf (Rc49.does { model := some m } (.next (o :: r) ((o :: r).length : Int) zz)).2 = 0 :: (Rc49.frac (Rc49.totalOf m ((o :: r) ++ [zz.toNat])) ((List.range m.signs).map fun (x : Nat) => Rc49.totalOf m ((o :: r) ++ [x])).sum).map fun (b : Nat) => (b : Int) := by
            show ansOf (if (Rc49.isRow m (o :: r) ((o :: r).length : Int) && Rc49.isSign m zz) = false then Rc49.refused else if ((List.range m.signs).map fun (x : Nat) => Rc49.totalOf m ((o :: r) ++ [x])).sum = 0 then Rc49.nothing else _) = _
            rw [if_neg (by rw [e1, h1]; exact Bool.noConfusion), if_neg h0]
            rfl
          rw [e] at k1
          exact k1
      | _ => exact absurd hkd (by decide)
end
end Hs
end

section
set_option Elab.async false
set_option maxRecDepth 100000
set_option maxHeartbeats 2000000
namespace Hs
open PySem PySem.Spec PyProof.Rows L2
abbrev sLInit : Stmt := inClass (top 40) 0
abbrev sAnswers : Stmt := top 41
abbrev sAll : Stmt := top 42
abbrev sBRow : Stmt := top 43
abbrev sCall : Stmt := top 44
abbrev sDone : Stmt := top 45
abbrev sMake : Stmt := top 46
abbrev sSetW : Stmt := top 47
def lf (v : V) : List (Str × V) := [("model", v)]
theorem lf_model (v : V) : (lf v).lookup ("model" : Str) = some v := rfl
theorem lf_put (v u : V) : putF "model" u (lf v) = lf u := rfl
/-- what a line is in the heap; own: the lists that may be changed -/
structure LineAt (C L : Addr) (H : Hp) (p : Addr) (own : List Addr) (st : Rc49.Abs) : Prop where
  ex : ∃ (dl : Addr) (v : V), H p = some (.ins L dl (lf v)) ∧ ((v = .non ∧ st.model = none) ∨ ∃ (a : Addr) (A : MA) (m : Rc49.Model), v = .ref a ∧ ModelAt C H a A m ∧ st.model = some m ∧ ∀ b, b ∈ A.lists → b ∈ own)
structure TxtL (K : PySem.W.Frag) (mg : Str → Option Value) (L : Addr) : Prop where
  cl : Cls K L
  n1 : NoAttr K L "model"
  mgL : mg "Line" = some (.ref L)
def spLInit (L : Addr) : Sp := fun vs H Q _ => ∃ (p dx : Addr), vs = [.ref p] ∧ H p = some (.ins L dx []) ∧ ∀ H' : Hp, H' p = some (.ins L dx (lf .non)) → (∀ b o, H b = some o → b ≠ p → H' b = some o) → Q .non H'
def spDone : Sp := fun vs H Q _ => ∃ b : Bool, vs = [.bl b] ∧ Ans H Q (if b = true then [0] else [-1])
/-- set_weight: as the specification's own calls -/
def spSetW (C : Addr) : Sp := fun vs H Q _ => ∃ (a : Addr) (A : MA) (m : Rc49.Model) (kd : Nat) (nl : Addr) (ns : List Int) (c : Rc49.Call), vs = [.ref a, .int kd, .ref nl] ∧ ModelAt C H a A m ∧ H nl = some (.lst (iv ns)) ∧ 2 ≤ kd ∧ kd ≤ 4 ∧ CallOf kd ns [] c ∧
  (Rc49.does { model := some m } c = ({ model := some m }, Rc49.refused) → Q (.bl false) H) ∧
  (∀ m', Rc49.does { model := some m } c = ({ model := some m' }, { value := 0 }) → ∀ H', ModelAt C H' a A m' → Keep A.lists H H' → Q (.bl true) H')
def spMake (C L : Addr) : Sp := fun vs H Q _ => ∃ (p dl : Addr) (v : V) (n k : Int), vs = [.ref p, .int n, .int k] ∧ H p = some (.ins L dl (lf v)) ∧
  (¬ (1 ≤ n ∧ n ≤ 16 ∧ 1 ≤ k ∧ k ≤ 16) → Q (.bl false) H) ∧
  ((1 ≤ n ∧ n ≤ 16 ∧ 1 ≤ k ∧ k ≤ 16) → ∀ (H' : Hp) (a : Addr) (A : MA), H' p = some (.ins L dl (lf (.ref a))) → ModelAt C H' a A (newModel n.toNat k.toNat) → (∀ b o, H b = some o → b ≠ p → H' b = some o) → (∀ b, b ∈ A.lists → H b = none) → Q (.bl true) H')
def spCall (C L : Addr) : Sp := fun vs H Q _ => ∃ (p : Addr) (own : List Addr) (st : Rc49.Abs) (kd : Nat) (nl : Addr) (ns : List Int) (w : Addr) (l : List Nat) (c : Rc49.Call), vs = [.ref p, .int kd, .ref nl, .ref w] ∧ LineAt C L H p own st ∧ H nl = some (.lst (iv ns)) ∧ H w = some (.lst (nv l)) ∧ l.length ≤ 64 ∧ CallOf kd ns l c ∧
  ∀ (H' : Hp) (own' : List Addr) (q : Addr), LineAt C L H' p own' (Rc49.does st c).1 → Keep (p :: own) H H' → (∀ b, b ∈ own' → b ∈ own ∨ H b = none) → H q = none → H' q = some (.lst (iv (ansOf (Rc49.does st c).2))) → Q (.ref q) H'
def spBRow (K : PySem.W.Frag) : Sp := fun vs H Q _ => ∃ (a : Addr) (xs : List Int) (kd p en : Nat), vs = [.ref a, .int kd, .int p] ∧ SqL K H a (iv xs) ∧ (kd ≤ 4 → en = p) ∧ (5 ≤ kd → ∃ n : Nat, xs[p]? = some (n : Int) ∧ en = p + 1 + n) ∧ Q (.int (en : Int)) H
section
variable {P : Program} {w : World} {K : PySem.W.Frag} {mg : Str → Option Value} {base : Heap}
theorem scLInit : FnScope ["self"] ["self"] (defScope sLInit) := ⟨rfl, rfl, rfl, by decide +kernel, rfl, by decide +kernel, by decide +kernel⟩
theorem ok_linit {f L : Addr} {fd : FuncData} (F : Fun K "__init__" "Line.__init__" sLInit f fd) (T : TxtL K mg L) : FnOk P w K mg base CX0 1 f fd ["self"] (spLInit L) := by
  refine F.ok scLInit (fun vs H Q E h => ?_) (fun cdv A outer s H vs Q E hr h => ?_)
  · obtain ⟨p, dx, rfl, _⟩ := h
    rfl
  · obtain ⟨p, dx, rfl, hp, k⟩ := h
    refine ⟨_, pss_one (ps_fld (pv 0) pe_non rfl), ?_⟩
    refine ⟨_, rfl, p, L, dx, [], rfl, hp, T.cl, T.n1, (by show 0 < 1000; decide), ?_⟩
    exact k _ upd_same fun b o e hb => by rw [upd_ne hb]; exact e
theorem scDone : FnScope ["done"] ["done"] (defScope sDone) := ⟨rfl, rfl, rfl, by decide +kernel, rfl, by decide +kernel, by decide +kernel⟩
theorem ok_done {f : Addr} {fd : FuncData} (F : Fun K "done_or_wrong" "done_or_wrong" sDone f fd) (TA : TxtA mg) : FnOk P w K mg base CX0 1 f fd ["done"] spDone := by
  refine F.ok scDone (fun vs H Q E h => ?_) (fun cdv A outer s H vs Q E hr h => ?_)
  · obtain ⟨b, rfl, _⟩ := h
    rfl
  · obtain ⟨b, rfl, k⟩ := h
    refine ⟨_, pss_one (ps_ret (pe_ifExp (pt_val (pv 0)) (pe_lst (pa_cons (pe_gint TA.done) pa_nil)) (pe_lst (pa_cons (pe_gint TA.wrong) pa_nil)))), ?_⟩
    refine ⟨_, rfl, b, rfl, ?_⟩
    cases b with
    | true => exact iteT ⟨sz (by decide : 1 ≤ 1000), fun p hp => k.new hp rfl⟩
    | false => exact iteF ⟨sz (by decide : 1 ≤ 1000), fun p hp => k.new hp rfl⟩
theorem scSetW : FnScope ["model", "kind", "numbers"] ["model", "kind", "numbers"] (defScope sSetW) := ⟨rfl, rfl, rfl, by decide +kernel, rfl, by decide +kernel, by decide +kernel⟩
theorem mf_setStart (n k : Nat) (A : MA) : (mf n k A).lookup ("set_start" : Str) = none := rfl
theorem mf_setStep (n k : Nat) (A : MA) : (mf n k A).lookup ("set_step" : Str) = none := rfl
theorem mf_setSign (n k : Nat) (A : MA) : (mf n k A).lookup ("set_sign" : Str) = none := rfl
theorem ok_setw {f C : Addr} {fd : FuncData} (F : Fun K "set_weight" "set_weight" sSetW f fd) (T : TxtM K mg C) (TA : TxtA mg) (D1 : MDef P w K mg base C "set_start" ["self", "state", "weight"] 2 (spSetStart C)) (D2 : MDef P w K mg base C "set_step" ["self", "origin", "goal", "weight"] 2 (spSetStep C))
    (D3 : MDef P w K mg base C "set_sign" ["self", "state", "sign", "weight"] 2 (spSetSign C)) : FnOk P w K mg base CX0 3 f fd ["model", "kind", "numbers"] (spSetW C) := by
  obtain ⟨f1, fd1, m1, b1, G1⟩ := D1.ex
  obtain ⟨f2, fd2, m2, b2, G2⟩ := D2.ex
  obtain ⟨f3, fd3, m3, b3, G3⟩ := D3.ex
  refine F.ok scSetW (fun vs H Q E h => ?_) (fun cdv A outer s H vs Q E hr h => ?_)
  · obtain ⟨a, A, m, kd, nl, ns, c, rfl, _⟩ := h
    rfl
  · obtain ⟨a, B, m, kd, nl, ns, c, rfl, M, hn, h2, h4, hc, k0, k1⟩ := h
    refine ⟨_, pss_cons (ps_if (pt_cmpR op_eq (pv 1) (pe_gint TA.k2) (nomark _)) (pss_one (ps_ret (pe_meth (pv 0) T.cl m1 G1 hr b1 .nil pass0 (pa_cons (pe_ix ix_list (pv 2) pe_int (fun _ _ => rfl)) (pa_cons (pe_ix ix_list (pv 2) pe_int (fun _ _ => rfl)) pa_nil))))) pss_nil)
      (pss_cons (ps_if (pt_cmpR op_eq (pv 1) (pe_gint TA.k3) (nomark _)) (pss_one (ps_ret (pe_meth (pv 0) T.cl m2 G2 hr b2 .nil pass0 (pa_cons (pe_ix ix_list (pv 2) pe_int (fun _ _ => rfl)) (pa_cons (pe_ix ix_list (pv 2) pe_int (fun _ _ => rfl)) (pa_cons (pe_ix ix_list (pv 2) pe_int (fun _ _ => rfl)) pa_nil)))))) pss_nil)
      (pss_one (ps_ret (pe_meth (pv 0) T.cl m3 G3 hr b3 .nil pass0 (pa_cons (pe_ix ix_list (pv 2) pe_int (fun _ _ => rfl)) (pa_cons (pe_ix ix_list (pv 2) pe_int (fun _ _ => rfl)) (pa_cons (pe_ix ix_list (pv 2) pe_int (fun _ _ => rfl)) pa_nil))))))), ?_⟩
    cases hc with
    | c2 x y =>
      refine ⟨_, rfl, rfl, _, rfl, iteT ?_⟩
      refine ⟨_, rfl, a, _, _, rfl, M.ins, mf_setStart _ _ _, _, rfl, nl, _, _, _, rfl, rfl, SqL.of hn, at_of (j := 0) rfl rfl, _, rfl, nl, _, _, _, rfl, rfl, SqL.of hn, at_of (j := 1) rfl rfl, ?_⟩
      refine ⟨a, B, m, x, y, rfl, M, fun h => k0 ?_, fun h H' M' kp => k1 _ ?_ H' M' kp⟩
      · show (if (Rc49.isState m x && Rc49.isWeight y) = false then _ else _) = _
        rw [if_pos h]
      · show (if (Rc49.isState m x && Rc49.isWeight y) = false then _ else _) = _
        rw [if_neg (by rw [h]; exact Bool.noConfusion)]
    | c3 x y z =>
      refine ⟨_, rfl, rfl, _, rfl, iteF ⟨_, rfl, rfl, _, rfl, iteT ?_⟩⟩
      refine ⟨_, rfl, a, _, _, rfl, M.ins, mf_setStep _ _ _, _, rfl, nl, _, _, _, rfl, rfl, SqL.of hn, at_of (j := 0) rfl rfl, _, rfl, nl, _, _, _, rfl, rfl, SqL.of hn, at_of (j := 1) rfl rfl, _, rfl, nl, _, _, _, rfl, rfl, SqL.of hn, at_of (j := 2) rfl rfl, ?_⟩
      refine ⟨a, B, m, x, y, z, rfl, M, fun h => k0 ?_, fun h H' M' kp => k1 _ ?_ H' M' kp⟩
      · show (if (Rc49.isState m x && (Rc49.isState m y && Rc49.isWeight z)) = false then _ else _) = _
        rw [if_pos h]
      · show (if (Rc49.isState m x && (Rc49.isState m y && Rc49.isWeight z)) = false then _ else _) = _
        rw [if_neg (by rw [h]; exact Bool.noConfusion)]
    | c4 x y z =>
      refine ⟨_, rfl, rfl, _, rfl, iteF ⟨_, rfl, rfl, _, rfl, iteF ?_⟩⟩
      refine ⟨_, rfl, a, _, _, rfl, M.ins, mf_setSign _ _ _, _, rfl, nl, _, _, _, rfl, rfl, SqL.of hn, at_of (j := 0) rfl rfl, _, rfl, nl, _, _, _, rfl, rfl, SqL.of hn, at_of (j := 1) rfl rfl, _, rfl, nl, _, _, _, rfl, rfl, SqL.of hn, at_of (j := 2) rfl rfl, ?_⟩
      refine ⟨a, B, m, x, y, z, rfl, M, fun h => k0 ?_, fun h H' M' kp => k1 _ ?_ H' M' kp⟩
      · show (if (Rc49.isState m x && (Rc49.isSign m y && Rc49.isWeight z)) = false then _ else _) = _
        rw [if_pos h]
      · show (if (Rc49.isState m x && (Rc49.isSign m y && Rc49.isWeight z)) = false then _ else _) = _
        rw [if_neg (by rw [h]; exact Bool.noConfusion)]
    | c0 => exact absurd h2 (by decide)
    | c1 => exact absurd h2 (by decide)
    | _ => exact absurd h4 (by decide)
theorem scMake : FnScope ["line", "states", "signs"] ["line", "states", "signs"] (defScope sMake) := ⟨rfl, rfl, rfl, by decide +kernel, rfl, by decide +kernel, by decide +kernel⟩
theorem ok_make {f C L fI : Addr} {fd fdI : FuncData} (F : Fun K "make_model" "make_model" sMake f fd) (T : TxtM K mg C) (TL : TxtL K mg L) (D1 : Def P w K mg base "is_size" ["states", "signs"] 1 spIsSize)
    (MC : Mk K C fI) (GI : FnOk P w K mg base CX0 1 fI fdI ["self", "states", "signs"] (spMInit C)) (bI : Binds K fdI ["self", "states", "signs"] []) : FnOk P w K mg base CX0 3 f fd ["line", "states", "signs"] (spMake C L) := by
  refine F.ok scMake (fun vs H Q E h => ?_) (fun cdv A outer s H vs Q E hr h => ?_)
  · obtain ⟨p, dl, v, n, k, rfl, _⟩ := h
    rfl
  · obtain ⟨p, dl, v, n, k, rfl, hp, k0, k1⟩ := h
    have hr1 : Room 1 _ := hr.mono (by decide)
    refine ⟨_, pss_cons (ps_if (pt_not (pt_val (pe_fn D1 hr1 (pa_cons (pv 1) (pa_cons (pv 2) pa_nil))))) (pss_one (ps_ret pe_bl)) pss_nil)
      (pss_cons (ps_fld (pv 0) (pe_make MC GI hr rfl T.mgC bI .nil pass0 (pa_cons (pv 1) (pa_cons (pv 2) pa_nil))) rfl) (pss_one (ps_ret pe_bl))), ?_⟩
    refine ⟨_, rfl, _, rfl, n, k, rfl, _, rfl, ?_⟩
    by_cases h : 1 ≤ n ∧ n ≤ 16 ∧ 1 ≤ k ∧ k ≤ 16
    · rw [decide_eq_true h]
      refine iteF ?_
      refine ⟨_, rfl, _, rfl, fun x dx nx ndx nex => ?_⟩
      obtain ⟨n', rfl⟩ : ∃ n' : Nat, n = (n' : Int) := ⟨n.toNat, by omega⟩
      obtain ⟨k', rfl⟩ : ∃ k' : Nat, k = (k' : Int) := ⟨k.toNat, by omega⟩
      refine ⟨x, dx, n', k', rfl, upd_same, by omega, by omega, by omega, by omega, fun H1 A1 M1 kp1 fr1 => ⟨rfl, ?_⟩⟩
      have s1 : Same H H1 := Same.made nx ndx kp1
      refine ⟨_, rfl, p, L, dl, _, rfl, s1 _ _ hp, TL.cl, TL.n1, (by show 1 < 1000; decide), ?_⟩
      have xp : x ≠ p := fun e => by
        rw [e, hp] at nx
        cases nx
      have nl : ∀ b xs, H1 b = some (.lst xs) → b ≠ p := fun b xs e z => by
        rw [z, s1 _ _ hp] at e
        cases e
      refine k1 h _ x A1 (by rw [lf_put]; exact upd_same) ?_ (fun b o e hb => by rw [upd_ne hb]; exact s1 _ _ e) (fun b hb => ?_)
      · rw [Int.toNat_natCast, Int.toNat_natCast]
        refine ⟨by rw [upd_ne xp]; exact M1.ins, M1.good, by rw [upd_ne (nl _ _ M1.start)]; exact M1.start, by rw [upd_ne (nl _ _ M1.steps)]; exact M1.steps, by rw [upd_ne (nl _ _ M1.signs)]; exact M1.signs, M1.plen, M1.glen, fun i r h => ?_, fun i r h => ?_, M1.nd⟩
        · rw [upd_ne (nl _ _ (M1.prow i r h))]
          exact M1.prow i r h
        · rw [upd_ne (nl _ _ (M1.grow i r h))]
          exact M1.grow i r h
      · have h0 := fr1 b hb
        by_cases e1 : b = x
        · rw [e1]; exact nx
        · rw [upd_ne e1] at h0
          by_cases e2 : b = dx
          · rw [e2]; exact ndx
          · rw [upd_ne e2] at h0
            exact h0
    · rw [decide_eq_false h]
      exact iteT (k0 h)
theorem scBRow : FnScope ["calls", "kind", "place"] ["calls", "kind", "place"] (defScope sBRow) := ⟨rfl, rfl, rfl, by decide +kernel, rfl, by decide +kernel, by decide +kernel⟩
theorem iv_get {l : List Int} {i : Nat} {x : Int} (h : l[i]? = some x) : (iv l)[i]? = some (V.int x) := by
  unfold iv
  rw [List.getElem?_map, h]
  rfl
theorem ok_brow {f : Addr} {fd : FuncData} (F : Fun K "behind_row" "behind_row" sBRow f fd) (TA : TxtA mg) : FnOk P w K mg base CX0 1 f fd ["calls", "kind", "place"] (spBRow K) := by
  refine F.ok scBRow (fun vs H Q E h => ?_) (fun cdv A outer s H vs Q E hr h => ?_)
  · obtain ⟨a, xs, kd, p, en, rfl, _⟩ := h
    rfl
  · obtain ⟨a, xs, kd, p, en, rfl, hx, k0, k1, q⟩ := h
    refine ⟨_, pss_cons (ps_if (pt_cmpR op_le (pv 1) (pe_gint TA.k4) (nomark _)) (pss_one (ps_ret (pv 2))) pss_nil)
      (pss_one (ps_ret (pe_op op_add (pe_op op_add (pv 2) pe_int) (pe_ix ix_list (pv 0) (pv 2) (fun _ _ => rfl))))), ?_⟩
    refine ⟨_, rfl, _, _, rfl, rfl, _, rfl, ite2 (fun h => ?_) (fun h => ?_)⟩
    · have h : (kd : Int) ≤ 4 := of_decide_eq_true h
      rw [k0 (by omega)] at q
      exact ⟨_, rfl, q⟩
    · have h : ¬ (kd : Int) ≤ 4 := fun z => h (decide_eq_true z)
      obtain ⟨n, hn, rfl⟩ := k1 (by omega)
      refine ⟨_, rfl, _, _, rfl, rfl, _, rfl, _, rfl, a, _, _, _, rfl, rfl, hx, atI_nat (iv_get hn), _, _, rfl, rfl, ?_⟩
      have e : ((p : Int) + 1 + (n : Int)) = ((p + 1 + n : Nat) : Int) := by omega
      show Q (V.int ((p : Int) + 1 + (n : Int))) H
      rw [e]
      exact q
theorem scCall : FnScope ["line", "kind", "numbers", "signs"] ["line", "kind", "numbers", "signs"] (defScope sCall) := ⟨rfl, rfl, rfl, by decide +kernel, rfl, by decide +kernel, by decide +kernel⟩
theorem keep_same {own : List Addr} {H H' : Hp} (s : Same H H') : Keep own H H' := fun b o e _ => s b o e
theorem LineAt.same {C L : Addr} {H H' : Hp} {p : Addr} {own : List Addr} {st : Rc49.Abs} (h : LineAt C L H p own st) (s : Same H H') : LineAt C L H' p own st := by
  obtain ⟨dl, v, h1, h2⟩ := h.ex
  refine ⟨dl, v, s _ _ h1, ?_⟩
  rcases h2 with h2 | ⟨a, A, m, h2, M, h3, h4⟩
  · exact .inl h2
  · exact .inr ⟨a, A, m, h2, M.same s, h3, h4⟩
theorem ok_call {f C L : Addr} {fd : FuncData} (F : Fun K "answer_call" "answer_call" sCall f fd) (T : TxtM K mg C) (TL : TxtL K mg L) (TA : TxtA mg) (D1 : Def P w K mg base "done_or_wrong" ["done"] 1 spDone) (D2 : Def P w K mg base "make_model" ["line", "states", "signs"] 3 (spMake C L))
    (D3 : Def P w K mg base "set_weight" ["model", "kind", "numbers"] 3 (spSetW C)) (D4 : Def P w K mg base "answer_of_row" ["model", "kind", "numbers", "signs"] 6 (spRow C)) : FnOk P w K mg base CX0 7 f fd ["line", "kind", "numbers", "signs"] (spCall C L) := by
  refine F.ok scCall (fun vs H Q E h => ?_) (fun cdv A outer s H vs Q E hr h => ?_)
  · obtain ⟨p, own, st, kd, nl, ns, w, l, c, rfl, _⟩ := h
    rfl
  · obtain ⟨p, own, st, kd, nl, ns, w, l, c, rfl, hL, hn, hw, hl, hc, k⟩ := h
    have hr1 : Room 1 _ := hr.mono (by decide)
    have hr3 : Room 3 _ := hr.mono (by decide)
    refine ⟨_, pss_cons (ps_if (pt_cmpR op_eq (pv 1) (pe_gint TA.k0) (nomark _)) (pss_cons (ps_fld (pv 0) pe_non rfl) (pss_one (ps_ret (pe_lst (pa_cons (pe_gint TA.done) pa_nil))))) pss_nil)
      (pss_cons (ps_if (pt_cmpR op_eq (pv 1) (pe_gint TA.k1) (nomark _)) (pss_one (ps_ret (pe_fn D1 hr1 (pa_cons (pe_fn D2 hr3 (pa_cons (pv 0) (pa_cons (pe_ix ix_list (pv 2) pe_int (fun _ _ => rfl)) (pa_cons (pe_ix ix_list (pv 2) pe_int (fun _ _ => rfl)) pa_nil)))) pa_nil)))) pss_nil)
      (pss_cons (ps_if (pt_cmpR op_isN (pe_fld (pv 0) rfl) pe_non (nomark _)) (pss_one (ps_ret (pe_lst (pa_cons (pe_gint TA.nomodel) pa_nil)))) pss_nil)
      (pss_cons (ps_if (pt_cmpR op_le (pv 1) (pe_gint TA.k4) (nomark _)) (pss_one (ps_ret (pe_fn D1 hr1 (pa_cons (pe_fn D3 hr3 (pa_cons (pe_fld (pv 0) rfl) (pa_cons (pv 1) (pa_cons (pv 2) pa_nil)))) pa_nil)))) pss_nil)
      (pss_one (ps_ret (pe_fn D4 hr (pa_cons (pe_fld (pv 0) rfl) (pa_cons (pv 1) (pa_cons (pv 2) (pa_cons (pv 3) pa_nil)))))))))), ?_⟩
    obtain ⟨dl, v, hp, hv⟩ := hL.ex
    -- what is told with nothing changed
    have told : ∀ (r : List Int), Rc49.does st c = (st, (Rc49.does st c).2) → ansOf (Rc49.does st c).2 = r → Ans H Q r := fun r e1 e2 H' q s' nq hq => by
      refine k H' own q ?_ (keep_same s') (fun b hb => .inl hb) nq (by rw [e2]; exact hq)
      rw [e1]
      exact hL.same s'
    by_cases k0 : kd = 0
    · subst k0
      cases hc
      refine ⟨_, rfl, rfl, _, rfl, iteT ?_⟩
      refine ⟨_, rfl, p, L, dl, _, rfl, hp, TL.cl, TL.n1, (by show 1 < 1000; decide), ?_⟩
      rw [lf_put]
      refine ⟨sz (by decide : 1 ≤ 1000), fun q hq => ?_⟩
      have qp : q ≠ p := fun e => by
        rw [e, upd_same] at hq
        cases hq
      refine k _ own q ⟨dl, .non, ?_, .inl ⟨rfl, rfl⟩⟩ (fun b o e hb => ?_) (fun b hb => .inl hb) (by rw [upd_ne qp] at hq; exact hq) upd_same
      · rw [upd_ne (Ne.symm qp)]
        exact upd_same
      · have hbp : b ≠ p := fun z => hb (by rw [z]; exact List.mem_cons_self ..)
        have e2 : (upd H p (.ins L dl (lf .non))) b = some o := by rw [upd_ne hbp]; exact e
        rw [upd_ne (ne_of_none e2 hq)]
        exact e2
    by_cases k1 : kd = 1
    · subst k1
      cases hc with
      | c1 x y =>
      refine ⟨_, rfl, rfl, _, rfl, iteF ⟨_, rfl, rfl, _, rfl, iteT ?_⟩⟩
      refine ⟨_, rfl, _, rfl, nl, _, _, _, rfl, rfl, SqL.of hn, at_of (j := 0) rfl rfl, _, rfl, nl, _, _, _, rfl, rfl, SqL.of hn, at_of (j := 1) rfl rfl, ?_⟩
      refine ⟨p, dl, v, x, y, rfl, hp, fun h => ?_, fun h H1 a A hp1 M1 kp1 fr1 => ?_⟩
      · refine ⟨_, rfl, ?_⟩
        have e : Rc49.does st (.size x y) = (st, Rc49.refused) := by
          have z : x < 1 ∨ 16 < x ∨ y < 1 ∨ 16 < y := by omega
          cases st with
          | mk mo =>
          cases mo with
          | none =>
            show (if x < 1 ∨ 16 < x ∨ y < 1 ∨ 16 < y then _ else _) = _
            rw [if_pos z]
          | some mm =>
            show (if x < 1 ∨ 16 < x ∨ y < 1 ∨ 16 < y then _ else _) = _
            rw [if_pos z]
        exact told _ (by rw [e]) (by rw [e]; rfl)
      · refine ⟨_, rfl, fun H2 q s2 nq hq => ?_⟩
        have e : Rc49.does st (.size x y) = ({ model := some (newModel x.toNat y.toNat) }, { value := 0 }) := by
          have z : ¬ (x < 1 ∨ 16 < x ∨ y < 1 ∨ 16 < y) := by omega
          cases st with
          | mk mo =>
          cases mo with
          | none =>
            show (if x < 1 ∨ 16 < x ∨ y < 1 ∨ 16 < y then _ else _) = _
            rw [if_neg z]
            rfl
          | some mm =>
            show (if x < 1 ∨ 16 < x ∨ y < 1 ∨ 16 < y then _ else _) = _
            rw [if_neg z]
            rfl
        have nH : ∀ b, H1 b = none → H b = none := fun b e => by
          cases z : H b with
          | none => rfl
          | some o =>
            by_cases hb : b = p
            · rw [hb, hp1] at e
              cases e
            · rw [kp1 _ _ z hb] at e
              cases e
        refine k H2 A.lists q ?_ (fun b o e hb => s2 _ _ (kp1 b o e fun z => hb (by rw [z]; exact List.mem_cons_self ..))) (fun b hb => .inr (fr1 b hb)) (nH q nq) (by rw [e]; exact hq)
        rw [e]
        exact ⟨dl, .ref a, s2 _ _ hp1, .inr ⟨a, A, _, rfl, M1.same s2, rfl, fun b hb => hb⟩⟩
    have e0 : ¬ decide (V.int (kd : Int) = V.int 0) = true := fun z => by
      have z := of_decide_eq_true z
      injection z with z
      omega
    have e1 : ¬ decide (V.int (kd : Int) = V.int 1) = true := fun z => by
      have z := of_decide_eq_true z
      injection z with z
      omega
    refine ⟨_, rfl, rfl, _, rfl, ite2 (fun z => absurd z e0) fun _ => ?_⟩
    refine ⟨_, rfl, rfl, _, rfl, ite2 (fun z => absurd z e1) fun _ => ?_⟩
    refine ⟨_, rfl, p, L, dl, _, _, rfl, hp, TL.cl, TL.n1, lf_model _, rfl, _, rfl, ?_⟩
    rcases hv with ⟨rfl, hm⟩ | ⟨a, B, m, rfl, M, hm, hown⟩
    · refine iteT ⟨sz (by decide : 1 ≤ 1000), fun q hq => ?_⟩
      have e : Rc49.does st c = (st, Rc49.noModel) := by
        obtain ⟨mo⟩ := st
        cases (show mo = none from hm)
        cases hc with
        | c0 => exact absurd rfl k0
        | c1 => exact absurd rfl k1
        | _ => rfl
      exact (told [-4] (by rw [e]) (by rw [e]; rfl)).new hq rfl
    · refine iteF ?_
      have hst : st = { model := some m } := by
        obtain ⟨mo⟩ := st
        cases (show mo = some m from hm)
        rfl
      subst hst
      refine ⟨_, rfl, _, _, rfl, rfl, _, rfl, ite2 (fun h4 => ?_) (fun h4 => ?_)⟩
      · have h4 : (kd : Int) ≤ 4 := of_decide_eq_true h4
        refine ⟨_, rfl, p, L, dl, _, _, rfl, hp, TL.cl, TL.n1, lf_model _, _, rfl, _, rfl, ?_⟩
        have hl0 : l = [] := by cases hc <;> first | rfl | (exfalso; omega)
        subst hl0
        refine ⟨a, B, m, kd, nl, ns, c, rfl, M, hn, by omega, by omega, hc, fun e => ?_, fun m' e H1 M1 kp1 => ?_⟩
        · exact ⟨_, rfl, told _ (by rw [e]) (by rw [e]; rfl)⟩
        · refine ⟨_, rfl, fun H2 q s2 nq hq => ?_⟩
          have hp1 : H1 p = some (.ins L dl (lf (.ref a))) := kp1 p _ hp fun z => by
            have nins : ∀ b xs, H b = some (.lst xs) → b ≠ p := fun b xs e z => by
              rw [z, hp] at e
              cases e
            have hb : p = B.ls ∨ p = B.lp ∨ p = B.lg ∨ p ∈ B.pr ∨ p ∈ B.gr := by
              simpa [MA.lists] using z
            rcases hb with e | e | e | e | e
            · exact nins _ _ M.start e.symm
            · exact nins _ _ M.steps e.symm
            · exact nins _ _ M.signs e.symm
            · obtain ⟨i, hi⟩ := List.getElem?_of_mem e
              exact nins _ _ (M.prow i p hi) rfl
            · obtain ⟨i, hi⟩ := List.getElem?_of_mem e
              exact nins _ _ (M.grow i p hi) rfl
          have nq' : H q = none := by
            cases z : H q with
            | none => rfl
            | some o =>
              by_cases hb : q ∈ B.lists
              · exfalso
                have hb : q = B.ls ∨ q = B.lp ∨ q = B.lg ∨ q ∈ B.pr ∨ q ∈ B.gr := by
                  simpa [MA.lists] using hb
                rcases hb with e | e | e | e | e
                · rw [e, M1.start] at nq; cases nq
                · rw [e, M1.steps] at nq; cases nq
                · rw [e, M1.signs] at nq; cases nq
                · obtain ⟨i, hi⟩ := List.getElem?_of_mem e
                  rw [M1.prow i q hi] at nq; cases nq
                · obtain ⟨i, hi⟩ := List.getElem?_of_mem e
                  rw [M1.grow i q hi] at nq; cases nq
              · rw [kp1 q o z hb] at nq
                cases nq
          refine k H2 own q ?_ (fun b o e hb => s2 _ _ (kp1 b o e fun z => hb (List.mem_cons_of_mem _ (hown b z)))) (fun b hb => .inl hb) nq' (by rw [e]; exact hq)
          rw [e]
          exact ⟨dl, .ref a, s2 _ _ hp1, .inr ⟨a, B, m', rfl, M1.same s2, rfl, hown⟩⟩
      · have h4 : ¬ (kd : Int) ≤ 4 := fun z => h4 (decide_eq_true z)
        refine ⟨_, rfl, p, L, dl, _, _, rfl, hp, TL.cl, TL.n1, lf_model _, _, rfl, _, rfl, _, rfl, ?_⟩
        refine ⟨a, B, m, kd, nl, ns, w, l, c, rfl, M, hn, hw, hl, by omega, hc, told _ ?_ rfl⟩
        cases hc with
        | c5 => rfl
        | c6 => rfl
        | c7 => rfl
        | c8 => rfl
        | _ => exact absurd (by decide) h4
end
end Hs
end

section
set_option Elab.async false
set_option maxRecDepth 100000
set_option maxHeartbeats 2000000
namespace Hs
open PySem PySem.Spec PyProof.Rows L2
def numsV : List V := [.int 0, .int 2, .int 2, .int 3, .int 3, .int 0, .int 0, .int 2, .int 1]
theorem nums_at {k n : Nat} (h : NUMS[k]? = some n) : numsV[k]? = some (V.int ((n : Nat) : Int)) := by
  match k, h with
  | 0, h => cases h; rfl
  | 1, h => cases h; rfl
  | 2, h => cases h; rfl
  | 3, h => cases h; rfl
  | 4, h => cases h; rfl
  | 5, h => cases h; rfl
  | 6, h => cases h; rfl
  | 7, h => cases h; rfl
  | 8, h => cases h; rfl
  | k + 9, h => cases h
theorem sq_keep {K : PySem.W.Frag} {H H' : Hp} {a : Addr} {xs : List V} (f : ∀ b o, H b = some o → (∀ L dl fs, o ≠ .ins L dl fs) → H' b = some o) (h : SqL K H a xs) : SqL K H' a xs := by
  rcases h with (h | ⟨o, h⟩) | h
  · exact .inl (.inl (f _ _ h (by intro _ _ _ e; cases e)))
  · exact .inl (.inr ⟨o, f _ _ h (by intro _ _ _ e; cases e)⟩)
  · exact .inr h
def spAll (K : PySem.W.Frag) (C L : Addr) : Sp := fun vs H Q _ => ∃ (p dl c : Addr) (xs : List Int) (cs : List (List (List Int))), vs = [.ref p, .ref c] ∧ H p = some (.ins L dl (lf .non)) ∧ SqL K H c (iv xs) ∧ Many xs cs ∧ cs.length ≤ 400 ∧ (∀ c, c ∈ cs → Rc49Neutral.asked1 (PyRc49.whole c) = true) ∧
  ∀ (H' : Hp) (q : Addr), H' q = some (.lst (iv (due {} cs))) → Q (.ref q) H'
def spAnswers (K : PySem.W.Frag) : Sp := fun vs H Q _ => ∃ (c : Addr) (xs : List Int), vs = [.ref c] ∧ SqL K H c (iv xs) ∧ PyRc49.answers_asked xs = true ∧
  ∀ (H' : Hp) (q : Addr), H' q = some (.lst (iv (PyRc49.answers xs))) → Q (.ref q) H'
theorem iv_drop (l : List Int) (i : Nat) : (iv l).drop i = iv (l.drop i) := by
  unfold iv
  rw [List.map_drop]
theorem iv_take (l : List Int) (i : Nat) : (iv l).take i = iv (l.take i) := by
  unfold iv
  rw [List.map_take]
/-- the loop's word -/
structure Lp (C L : Addr) (H H' : Hp) (p t : Addr) (xs : List Int) (all : List Int) (pl : Nat) (own : List Addr) (st : Rc49.Abs) (cs : List (List (List Int))) (out : List Int) : Prop where
  le : pl ≤ xs.length
  many : Many (xs.drop pl) cs
  ask : ∀ c, c ∈ cs → Rc49Neutral.asked1 (PyRc49.whole c) = true
  line : LineAt C L H' p own st
  told : H' t = some (.lst (iv out))
  tn : t ∉ own
  free : ∀ b, b ∈ own → H b = none
  keep : ∀ b o, H b = some o → b ≠ p → H' b = some o
  eq : out ++ due st cs = all
  len : out.length + 700 * cs.length ≤ 280000
section
variable {P : Program} {w : World} {K : PySem.W.Frag} {mg : Str → Option Value} {base : Heap}
theorem scAll : FnScope ["line", "calls", "told", "place", "kind", "behind", "end", "answer"] ["line", "calls"] (defScope sAll) := ⟨rfl, rfl, rfl, by decide +kernel, rfl, by decide +kernel, by decide +kernel⟩
theorem LineAt.upd {C L : Addr} {H : Hp} {p : Addr} {own : List Addr} {st : Rc49.Abs} {t : Addr} {xs ys : List V} (h : LineAt C L H p own st) (ht : H t = some (.lst xs)) (hn : t ∉ own) : LineAt C L (upd H t (.lst ys)) p own st := by
  obtain ⟨dl, v, h1, h2⟩ := h.ex
  refine ⟨dl, v, ?_, ?_⟩
  · rw [upd_ne (ne_of h1 ht (by intro e; cases e))]
    exact h1
  · rcases h2 with h2 | ⟨a, A, m, h2, M, h3, h4⟩
    · exact .inl h2
    · refine .inr ⟨a, A, m, h2, ?_, h3, h4⟩
      have nl : ∀ b, b ∈ A.lists → b ≠ t := fun b hb e => hn (e ▸ h4 b hb)
      refine ⟨by rw [upd_ne (ne_of M.ins ht (by intro e; cases e))]; exact M.ins, M.good, ?_, ?_, ?_, M.plen, M.glen, fun i r h => ?_, fun i r h => ?_, M.nd⟩
      · rw [upd_ne (nl _ (by simp [MA.lists]))]; exact M.start
      · rw [upd_ne (nl _ (by simp [MA.lists]))]; exact M.steps
      · rw [upd_ne (nl _ (by simp [MA.lists]))]; exact M.signs
      · rw [upd_ne (nl _ (MA.mem_pr (List.mem_of_getElem? h)))]; exact M.prow i r h
      · rw [upd_ne (nl _ (MA.mem_gr (List.mem_of_getElem? h)))]; exact M.grow i r h
theorem ok_all {f C L tN : Addr} {fd : FuncData} (F : Fun K "answer_all" "answer_all" sAll f fd) (T : TxtM K mg C) (TL : TxtL K mg L) (hN : mg "NUMBERS" = some (.ref tN)) (sN : ∀ H, SqT K H tN numsV)
    (D1 : Def P w K mg base "behind_row" ["calls", "kind", "place"] 1 (spBRow K)) (D2 : Def P w K mg base "answer_call" ["line", "kind", "numbers", "signs"] 7 (spCall C L)) : FnOk P w K mg base CX0 8 f fd ["line", "calls"] (spAll K C L) := by
  refine F.ok scAll (fun vs H Q E h => ?_) (fun cdv A outer s H vs Q E hr h => ?_)
  · obtain ⟨p, dl, c, xs, cs, rfl, _⟩ := h
    rfl
  · obtain ⟨p, dl, c, xs, cs, rfl, hp, hc, hm, hlen, hask, k⟩ := h
    have hr1 : Room 1 _ := hr.mono (by decide)
    refine ⟨_, pss_cons (ps_set (i := 2) scAll.nd rfl (loc_by rfl) (pe_lst pa_nil)) (pss_cons (ps_set (i := 3) scAll.nd rfl (loc_by rfl) pe_int)
      (pss_cons (ps_while PassesOwn.never (pt_cmpR op_lt (pv 3) (pe_callB call_len_seq rfl T.blen bt_len (pa_cons (pv 1) pa_nil)) (nomark _))
        (pss_cons (ps_set (i := 4) scAll.nd rfl (loc_by rfl) (pe_ix ix_list (pv 1) (pv 3) (fun _ _ => rfl)))
        (pss_cons (ps_set (i := 5) scAll.nd rfl (loc_by rfl) (pe_op op_add (pe_op op_add (pv 3) pe_int) (pe_ix ix_tup (pe_glob (v := V.ref tN) rfl hN rfl) (pv 4) (fun _ _ => rfl))))
        (pss_cons (ps_set (i := 6) scAll.nd rfl (loc_by rfl) (pe_fn D1 hr1 (pa_cons (pv 1) (pa_cons (pv 4) (pa_cons (pv 5) pa_nil)))))
        (pss_cons (ps_set (i := 7) scAll.nd rfl (loc_by rfl) (pe_fn D2 hr (pa_cons (pv 0) (pa_cons (pv 4) (pa_cons (pe_slice sl_list (pv 1) (po_some (pe_op op_add (pv 3) pe_int)) (po_some (pv 5))) (pa_cons (pe_slice sl_list (pv 1) (po_some (pe_op op_add (pv 5) pe_int)) (po_some (pv 6))) pa_nil))))))
        (pss_cons (ps_expr (pe_bm PySem.F.plainAttrs_list PySem.F.slot_list_append PySem.F.type_list_append mt_append (pv 2) (pa_cons (pe_callB call_len_seq rfl T.blen bt_len (pa_cons (pv 7) pa_nil)) pa_nil)))
        (pss_cons (ps_expr (pe_bm PySem.F.plainAttrs_list PySem.F.slot_list_extend PySem.F.type_list_extend mt_extend (pv 2) (pa_cons (pv 7) pa_nil)))
        (pss_one (ps_set (i := 3) scAll.nd rfl (loc_by rfl) (pv 6))))))))))
      (pss_one (ps_ret (pv 2))))), ?_⟩
    refine ⟨Nat.zero_le _, fun t ht => ?_⟩
    have s0 : Same H (upd H t (.lst [])) := upd_new ht
    have tp : t ≠ p := fun e => by
      rw [e, hp] at ht
      cases ht
    refine while_by (fun σ H' => ∃ (v4 v5 v6 v7 : Option V) (pl : Nat) (own : List Addr) (st : Rc49.Abs) (cs' : List (List (List Int))) (out : List Int), σ = [some (.ref p), some (.ref c), some (.ref t), some (.int (pl : Int)), v4, v5, v6, v7] ∧ Lp C L H H' p t xs (due {} cs) pl own st cs' out)
      (fun σ _ => match σ with | [_, _, _, some (.int z), _, _, _, _] => xs.length - z.toNat | _ => 0) ⟨none, none, none, none, 0, [], {}, cs, [], rfl, ⟨Nat.zero_le _, hm, hask, ⟨dl, .non, s0 _ _ hp, .inl ⟨rfl, rfl⟩⟩, upd_same, by simp, by simp, fun b o e _ => s0 _ _ e, rfl, by simp; omega⟩⟩ ?_ ?_
    · rintro σ H' ⟨v4, v5, v6, v7, pl, own, st, cs', out, rfl, I⟩
      have hc' : SqL K H' c (iv xs) := sq_keep (fun b o e hn => I.keep b o e fun z => by
        rw [z, hp] at e
        exact hn _ _ _ (Option.some.inj e).symm) hc
      refine ⟨_, rfl, _, rfl, c, _, rfl, .inl hc', _, _, rfl, rfl, _, rfl, ite2 (fun h1 => ?_) (fun h1 => ?_)⟩
      · have h1 : (pl : Int) < ((iv xs).length : Int) := of_decide_eq_true h1
        rw [iv_len] at h1
        obtain ⟨c0, u, cs1, rfl, hone, hmany⟩ := I.many.head (by
          intro e
          have := congrArg List.length e
          rw [List.length_drop] at this
          simp at this
          omega)
        obtain ⟨kd, ns, l, call, hpt⟩ := parts_of hone (I.ask c0 (List.mem_cons_self ..))
        obtain ⟨g1, g2, g3, g4, g5⟩ := hpt.at
        obtain ⟨en, hen, henx, hdrop, hcut, hbr⟩ : ∃ en : Nat, pl + 1 + ns.length ≤ en ∧ en ≤ xs.length ∧ xs.drop en = u ∧ (xs.drop (pl + 1 + ns.length + 1)).take (en - (pl + 1 + ns.length + 1)) = l.map (fun (b : Nat) => (b : Int)) ∧
            ((kd ≤ 4 → en = pl + 1 + ns.length) ∧ (5 ≤ kd → xs[pl + 1 + ns.length]? = some (l.length : Int) ∧ en = pl + 1 + ns.length + 1 + l.length)) := by
          by_cases h4 : kd ≤ 4
          · obtain ⟨e1, e2⟩ := g4 h4
            refine ⟨pl + 1 + ns.length, Nat.le_refl _, g2, e2, ?_, fun _ => rfl, fun h => by omega⟩
            rw [e1, show pl + 1 + ns.length - (pl + 1 + ns.length + 1) = 0 by omega]
            rfl
          · obtain ⟨e1, e2, e3, e4⟩ := g5 (by omega)
            exact ⟨pl + 1 + ns.length + 1 + l.length, by omega, e2, e4, e3, fun h => by omega, fun _ => ⟨e1, rfl⟩⟩
        -- kind, behind
        refine ⟨_, rfl, _, rfl, c, _, _, _, rfl, rfl, hc', atI_nat (iv_get g1), ?_⟩
        refine ⟨_, rfl, _, _, rfl, rfl, _, rfl, tN, _, _, _, rfl, rfl, sN _, atI_nat (nums_at hpt.num), _, _, rfl, rfl, ?_⟩
        have eb : ((pl : Int) + 1 + (ns.length : Int)) = ((pl + 1 + ns.length : Nat) : Int) := by omega
        dsimp only
        rw [eb]
        -- end
        refine ⟨_, rfl, _, rfl, _, rfl, c, xs, kd, pl + 1 + ns.length, en, rfl, hc', hbr.1, fun h5 => ⟨l.length, hbr.2 h5⟩, ?_⟩
        -- the slices
        refine ⟨_, rfl, _, rfl, _, rfl, _, rfl, _, _, rfl, rfl, _, rfl, _, rfl, _, rfl, c, _, rfl, hc', fun nl hnl => ?_⟩
        have en1 : cutV (iv xs) (some ((pl : Int) + 1)) (some ((pl + 1 + ns.length : Nat) : Int)) = iv ns := by
          rw [cut_mid (i := pl + 1) (j := pl + 1 + ns.length) (by omega) rfl (by rw [iv_len]; exact g2), iv_drop, iv_take, g3]
        rw [en1]
        have s1 := upd_new (o := HO.lst (iv ns)) hnl
        refine ⟨_, rfl, _, rfl, _, _, rfl, rfl, _, rfl, _, rfl, _, rfl, c, _, rfl, s1.seq hc', fun wl hwl => ?_⟩
        have en2 : cutV (iv xs) (some (((pl + 1 + ns.length : Nat) : Int) + 1)) (some (en : Int)) = nv l := by
          rw [cut_mid (i := pl + 1 + ns.length + 1) (j := en) (by omega) rfl (by rw [iv_len]; exact henx), iv_drop, iv_take, hcut, nv_eq]
        rw [en2]
        have s2 := upd_new (o := HO.lst (nv l)) hwl
        have s12 := s1.trans s2
        -- answer_call
        refine ⟨p, own, st, kd, nl, ns, wl, l, call, rfl, I.line.same s12, s2 _ _ upd_same, upd_same, hpt.row, hpt.is, fun H3 own3 q L3 kp3 ow3 nq3 hq3 => ?_⟩
        have ht2 := s12 _ _ I.told
        have nt : t ∉ p :: own := fun z => by
          rcases List.mem_cons.mp z with z | z
          · exact tp z
          · exact I.tn z
        have ht3 := kp3 _ _ ht2 nt
        have tn3 : t ∉ own3 := fun z => by
          rcases ow3 t z with z | z
          · exact I.tn z
          · rw [ht2] at z
            cases z
        have qt : q ≠ t := fun e => by
          rw [e, ht2] at nq3
          cases nq3
        have hal := ans_len (s := st) hpt.is hpt.row
        have hlen0 := I.len
        rw [List.length_cons] at hlen0
        have szl : (1000000 : Nat) ≤ sizeLine := by rw [sizeLine_eq]; decide
        -- told.append(len(answer))
        refine ⟨_, rfl, .inl ⟨rfl, _, SqL.of ht3⟩, _, rfl, q, _, rfl, .inl (SqL.of hq3), t, _, _, rfl, rfl, ht3, by rw [iv_len]; omega, ?_⟩
        -- told.extend(answer)
        refine ⟨_, rfl, .inl ⟨rfl, _, SqL.of upd_same⟩, _, rfl, t, q, _, _, rfl, rfl, upd_same, by rw [upd_ne qt]; exact hq3, ?_, ?_⟩
        · rw [List.length_append, iv_len, iv_len]
          simp only [List.length_singleton]
          omega
        rw [upd_upd]
        -- place = end
        refine ⟨_, rfl, ⟨⟨_, _, _, _, en, own3, (Rc49.does st call).1, cs1, out ++ ((ansOf (Rc49.does st call).2).length : Int) :: ansOf (Rc49.does st call).2, rfl, ?_⟩, ?_⟩⟩
        · have hst := hpt.step st
          refine ⟨henx, by rw [hdrop]; exact hmany, fun c hc => I.ask c (List.mem_cons_of_mem _ hc), L3.upd ht3 tn3, ?_, tn3, fun b hb => ?_, fun b o e hb => ?_, ?_, ?_⟩
          · rw [upd_same]
            unfold iv
            simp [List.append_assoc]
          · rcases ow3 b hb with z | z
            · exact I.free b z
            · cases e : H b with
              | none => rfl
              | some o =>
                by_cases hbp : b = p
                · exfalso
                  obtain ⟨dl2, v2, hp2, _⟩ := I.line.ex
                  rw [hbp, s12 _ _ hp2] at z
                  cases z
                · rw [s12 _ _ (I.keep b o e hbp)] at z
                  cases z
          · have hbt : b ≠ t := ne_of_none e ht
            rw [upd_ne hbt]
            refine kp3 b o (s12 _ _ (I.keep b o e hb)) fun z => ?_
            rcases List.mem_cons.mp z with z | z
            · exact hb z
            · rw [I.free b z] at e
              cases e
          · rw [← I.eq, due_cons, hst, List.append_assoc]
          · rw [List.length_append, List.length_cons]
            omega
        · show xs.length - ((en : Nat) : Int).toNat < xs.length - ((pl : Nat) : Int).toNat
          rw [Int.toNat_natCast, Int.toNat_natCast]
          omega
      · have h1 : ¬ (pl : Int) < ((iv xs).length : Int) := fun z => h1 (decide_eq_true z)
        rw [iv_len] at h1
        have hpl : pl = xs.length := by
          have := I.le
          omega
        have hm' := I.many
        rw [hpl, List.drop_length] at hm'
        have hcs : cs' = [] := by
          cases hm' with
          | nil => rfl
          | cons a b => exact absurd rfl a.ne
        refine ⟨_, rfl, k H' t ?_⟩
        rw [I.told, ← I.eq, hcs, due_nil, List.append_nil]
    · rintro σ H' Q1 Q2 himp ⟨v, e, v1, e1, p1, ys, e2, e3, i, j, e4, e5, kk, e6, q⟩
      exact ⟨v, e, v1, e1, p1, ys, e2, e3, i, j, e4, e5, kk, e6, himp _ _ q⟩
theorem scAnswers : FnScope ["calls"] ["calls"] (defScope sAnswers) := ⟨rfl, rfl, rfl, by decide +kernel, rfl, by decide +kernel, by decide +kernel⟩
theorem ok_answers {f C L fI : Addr} {fd fdI : FuncData} (F : Fun K "answers" "answers" sAnswers f fd) (TL : TxtL K mg L) (D1 : Def P w K mg base "answer_all" ["line", "calls"] 8 (spAll K C L))
    (ML : Mk K L fI) (GI : FnOk P w K mg base CX0 1 fI fdI ["self"] (spLInit L)) (bI : Binds K fdI ["self"] []) : FnOk P w K mg base CX0 9 f fd ["calls"] (spAnswers K) := by
  refine F.ok scAnswers (fun vs H Q E h => ?_) (fun cdv A outer s H vs Q E hr h => ?_)
  · obtain ⟨c, xs, rfl, _⟩ := h
    rfl
  · obtain ⟨c, xs, rfl, hc, hask, k⟩ := h
    have hr2 : Room 2 _ := hr.mono (by decide)
    refine ⟨_, pss_one (ps_ret (pe_fn D1 hr (pa_cons (pe_make0 ML GI hr2 rfl TL.mgL bI .nil pass0) (pa_cons (pv 0) pa_nil)))), ?_⟩
    intro x dx nx ndx nex
    refine ⟨x, dx, rfl, upd_same, fun H1 h1 kp1 => ⟨rfl, ?_⟩⟩
    have s1 : Same H H1 := Same.made nx ndx kp1
    obtain ⟨cs, hm, hlen, ha, hans⟩ := asked_of hask
    refine ⟨_, rfl, x, dx, c, xs, cs, rfl, h1, s1.seq hc, hm, hlen, ha, fun H' q hq => k H' q ?_⟩
    rw [hans]
    exact hq
end
end Hs
end

section
set_option Elab.async false
set_option maxRecDepth 100000
set_option maxHeartbeats 4000000
namespace Hs
open PySem PySem.Spec PyProof.Rows L2
open PySem.W (Codec)
theorem all_mk {P : Program} {w : World} {K : PySem.W.Frag} {h : Heap} {mg : Str → Option Value} {fa C L : Addr} (X : K.In h) (G : h.Ns mainGlobals mg) (hfa : mg "answers" = some (.ref fa))
    {f_lg : Addr} {od_lg an_lg : Option Addr} {sl_lg : Array (Option Value)} {oc_lg kV_lg dc_lg pm_lg cd_lg ct_lg : Value}
    {f_fr : Addr} {od_fr an_fr : Option Addr} {sl_fr : Array (Option Value)} {oc_fr kV_fr dc_fr pm_fr cd_fr ct_fr : Value}
    {f_cd : Addr} {od_cd an_cd : Option Addr} {sl_cd : Array (Option Value)} {oc_cd kV_cd dc_cd pm_cd cd_cd ct_cd : Value}
    {f_tw : Addr} {od_tw an_tw : Option Addr} {sl_tw : Array (Option Value)} {oc_tw kV_tw dc_tw pm_tw cd_tw ct_tw : Value}
    {f_wa : Addr} {od_wa an_wa : Option Addr} {sl_wa : Array (Option Value)} {oc_wa kV_wa dc_wa pm_wa cd_wa ct_wa : Value}
    {f_wn : Addr} {od_wn an_wn : Option Addr} {sl_wn : Array (Option Value)} {oc_wn kV_wn dc_wn pm_wn cd_wn ct_wn : Value}
    {f_we : Addr} {od_we an_we : Option Addr} {sl_we : Array (Option Value)} {oc_we kV_we dc_we pm_we cd_we ct_we : Value}
    {f_wb : Addr} {od_wb an_wb : Option Addr} {sl_wb : Array (Option Value)} {oc_wb kV_wb dc_wb pm_wb cd_wb ct_wb : Value}
    {f_ws : Addr} {od_ws an_ws : Option Addr} {sl_ws : Array (Option Value)} {oc_ws kV_ws dc_ws pm_ws cd_ws ct_ws : Value}
    {f_wr : Addr} {od_wr an_wr : Option Addr} {sl_wr : Array (Option Value)} {oc_wr kV_wr dc_wr pm_wr cd_wr ct_wr : Value}
    {f_wl : Addr} {od_wl an_wl : Option Addr} {sl_wl : Array (Option Value)} {oc_wl kV_wl dc_wl pm_wl cd_wl ct_wl : Value}
    {f_sf : Addr} {od_sf an_sf : Option Addr} {sl_sf : Array (Option Value)} {oc_sf kV_sf dc_sf pm_sf cd_sf ct_sf : Value}
    {f_bw : Addr} {od_bw an_bw : Option Addr} {sl_bw : Array (Option Value)} {oc_bw kV_bw dc_bw pm_bw cd_bw ct_bw : Value}
    {f_go : Addr} {od_go an_go : Option Addr} {sl_go : Array (Option Value)} {oc_go kV_go dc_go pm_go cd_go ct_go : Value}
    {f_is : Addr} {od_is an_is : Option Addr} {sl_is : Array (Option Value)} {oc_is kV_is dc_is pm_is cd_is ct_is : Value}
    {f_iw : Addr} {od_iw an_iw : Option Addr} {sl_iw : Array (Option Value)} {oc_iw kV_iw dc_iw pm_iw cd_iw ct_iw : Value}
    {f_as : Addr} {od_as an_as : Option Addr} {sl_as : Array (Option Value)} {oc_as kV_as dc_as pm_as cd_as ct_as : Value}
    {f_aa : Addr} {od_aa an_aa : Option Addr} {sl_aa : Array (Option Value)} {oc_aa kV_aa dc_aa pm_aa cd_aa ct_aa : Value}
    {f_br : Addr} {od_br an_br : Option Addr} {sl_br : Array (Option Value)} {oc_br kV_br dc_br pm_br cd_br ct_br : Value}
    {f_ac : Addr} {od_ac an_ac : Option Addr} {sl_ac : Array (Option Value)} {oc_ac kV_ac dc_ac pm_ac cd_ac ct_ac : Value}
    {f_dw : Addr} {od_dw an_dw : Option Addr} {sl_dw : Array (Option Value)} {oc_dw kV_dw dc_dw pm_dw cd_dw ct_dw : Value}
    {f_mm : Addr} {od_mm an_mm : Option Addr} {sl_mm : Array (Option Value)} {oc_mm kV_mm dc_mm pm_mm cd_mm ct_mm : Value}
    {f_sw : Addr} {od_sw an_sw : Option Addr} {sl_sw : Array (Option Value)} {oc_sw kV_sw dc_sw pm_sw cd_sw ct_sw : Value}
    {f_ar : Addr} {od_ar an_ar : Option Addr} {sl_ar : Array (Option Value)} {oc_ar kV_ar dc_ar pm_ar cd_ar ct_ar : Value}
    {f_ab : Addr} {od_ab an_ab : Option Addr} {sl_ab : Array (Option Value)} {oc_ab kV_ab dc_ab pm_ab cd_ab ct_ab : Value}
    {f_al : Addr} {od_al an_al : Option Addr} {sl_al : Array (Option Value)} {oc_al kV_al dc_al pm_al cd_al ct_al : Value}
    {f_an : Addr} {od_an an_an : Option Addr} {sl_an : Array (Option Value)} {oc_an kV_an dc_an pm_an cd_an ct_an : Value}
    {f_sh : Addr} {od_sh an_sh : Option Addr} {sl_sh : Array (Option Value)} {oc_sh kV_sh dc_sh pm_sh cd_sh ct_sh : Value}
    {f_mi : Addr} {od_mi an_mi : Option Addr} {sl_mi : Array (Option Value)} {oc_mi kV_mi dc_mi pm_mi cd_mi ct_mi : Value}
    {f_hs : Addr} {od_hs an_hs : Option Addr} {sl_hs : Array (Option Value)} {oc_hs kV_hs dc_hs pm_hs cd_hs ct_hs : Value}
    {f_hg : Addr} {od_hg an_hg : Option Addr} {sl_hg : Array (Option Value)} {oc_hg kV_hg dc_hg pm_hg cd_hg ct_hg : Value}
    {f_hr : Addr} {od_hr an_hr : Option Addr} {sl_hr : Array (Option Value)} {oc_hr kV_hr dc_hr pm_hr cd_hr ct_hr : Value}
    {f_s1 : Addr} {od_s1 an_s1 : Option Addr} {sl_s1 : Array (Option Value)} {oc_s1 kV_s1 dc_s1 pm_s1 cd_s1 ct_s1 : Value}
    {f_s2 : Addr} {od_s2 an_s2 : Option Addr} {sl_s2 : Array (Option Value)} {oc_s2 kV_s2 dc_s2 pm_s2 cd_s2 ct_s2 : Value}
    {f_s3 : Addr} {od_s3 an_s3 : Option Addr} {sl_s3 : Array (Option Value)} {oc_s3 kV_s3 dc_s3 pm_s3 cd_s3 ct_s3 : Value}
    {f_li : Addr} {od_li an_li : Option Addr} {sl_li : Array (Option Value)} {oc_li kV_li dc_li pm_li cd_li ct_li : Value}
    {t_BYTES : Tok}
    {t_MOST_STATES : Tok}
    {t_MOST_SIGNS : Tok}
    {t_MOST_WEIGHT : Tok}
    {t_MOST_PLACES : Tok}
    {t_BEGIN : Tok}
    {t_SIZE : Tok}
    {t_START : Tok}
    {t_STEP : Tok}
    {t_SIGN : Tok}
    {t_TOTAL : Tok}
    {t_BEST : Tok}
    {t_LIKELY : Tok}
    {t_DONE : Tok}
    {t_WRONG : Tok}
    {t_NO_WAY : Tok}
    {t_NO_MODEL : Tok}
    {t_NO_STATE : Tok}
    {tN : Addr} {oN : Option Addr} {slN : Array (Option Value)} {nN : Nat} {u0 u1 u2 u3 u4 u5 u6 u7 u8 : Tok}
    (a_lg : PySem.W.nsIn K mainGlobals "large_number" = some (some (.ref f_lg)))
    (l_lg : K.lookup f_lg = some ⟨oc_lg, od_lg, .func (PySem.W.fnOf "large_number" "large_number" (defArgs sLarge) (defBody sLarge) (defScope sLarge) .none kV_lg dc_lg pm_lg an_lg cd_lg ct_lg), sl_lg⟩)
    (c_lg : PySem.W.codeIn K cd_lg "large_number" = true)
    (k_lg : PySem.W.keepIn K (.ref f_lg) = true)
    (a_fr : PySem.W.nsIn K mainGlobals "fraction" = some (some (.ref f_fr)))
    (l_fr : K.lookup f_fr = some ⟨oc_fr, od_fr, .func (PySem.W.fnOf "fraction" "fraction" (defArgs sFraction) (defBody sFraction) (defScope sFraction) .none kV_fr dc_fr pm_fr an_fr cd_fr ct_fr), sl_fr⟩)
    (c_fr : PySem.W.codeIn K cd_fr "fraction" = true)
    (k_fr : PySem.W.keepIn K (.ref f_fr) = true)
    (a_cd : PySem.W.nsIn K mainGlobals "common_divisor" = some (some (.ref f_cd)))
    (l_cd : K.lookup f_cd = some ⟨oc_cd, od_cd, .func (PySem.W.fnOf "common_divisor" "common_divisor" (defArgs sCommon) (defBody sCommon) (defScope sCommon) .none kV_cd dc_cd pm_cd an_cd cd_cd ct_cd), sl_cd⟩)
    (c_cd : PySem.W.codeIn K cd_cd "common_divisor" = true)
    (k_cd : PySem.W.keepIn K (.ref f_cd) = true)
    (a_tw : PySem.W.nsIn K mainGlobals "total_weight" = some (some (.ref f_tw)))
    (l_tw : K.lookup f_tw = some ⟨oc_tw, od_tw, .func (PySem.W.fnOf "total_weight" "total_weight" (defArgs sTotal) (defBody sTotal) (defScope sTotal) .none kV_tw dc_tw pm_tw an_tw cd_tw ct_tw), sl_tw⟩)
    (c_tw : PySem.W.codeIn K cd_tw "total_weight" = true)
    (k_tw : PySem.W.keepIn K (.ref f_tw) = true)
    (a_wa : PySem.W.nsIn K mainGlobals "weights_at" = some (some (.ref f_wa)))
    (l_wa : K.lookup f_wa = some ⟨oc_wa, od_wa, .func (PySem.W.fnOf "weights_at" "weights_at" (defArgs sAt) (defBody sAt) (defScope sAt) .none kV_wa dc_wa pm_wa an_wa cd_wa ct_wa), sl_wa⟩)
    (c_wa : PySem.W.codeIn K cd_wa "weights_at" = true)
    (k_wa : PySem.W.keepIn K (.ref f_wa) = true)
    (a_wn : PySem.W.nsIn K mainGlobals "weights_of_next" = some (some (.ref f_wn)))
    (l_wn : K.lookup f_wn = some ⟨oc_wn, od_wn, .func (PySem.W.fnOf "weights_of_next" "weights_of_next" (defArgs sNext) (defBody sNext) (defScope sNext) .none kV_wn dc_wn pm_wn an_wn cd_wn ct_wn), sl_wn⟩)
    (c_wn : PySem.W.codeIn K cd_wn "weights_of_next" = true)
    (k_wn : PySem.W.keepIn K (.ref f_wn) = true)
    (a_we : PySem.W.nsIn K mainGlobals "weights_ending" = some (some (.ref f_we)))
    (l_we : K.lookup f_we = some ⟨oc_we, od_we, .func (PySem.W.fnOf "weights_ending" "weights_ending" (defArgs sEnding) (defBody sEnding) (defScope sEnding) .none kV_we dc_we pm_we an_we cd_we ct_we), sl_we⟩)
    (c_we : PySem.W.codeIn K cd_we "weights_ending" = true)
    (k_we : PySem.W.keepIn K (.ref f_we) = true)
    (a_wb : PySem.W.nsIn K mainGlobals "weights_behind" = some (some (.ref f_wb)))
    (l_wb : K.lookup f_wb = some ⟨oc_wb, od_wb, .func (PySem.W.fnOf "weights_behind" "weights_behind" (defArgs sBehind) (defBody sBehind) (defScope sBehind) .none kV_wb dc_wb pm_wb an_wb cd_wb ct_wb), sl_wb⟩)
    (c_wb : PySem.W.codeIn K cd_wb "weights_behind" = true)
    (k_wb : PySem.W.keepIn K (.ref f_wb) = true)
    (a_ws : PySem.W.nsIn K mainGlobals "weights_shown" = some (some (.ref f_ws)))
    (l_ws : K.lookup f_ws = some ⟨oc_ws, od_ws, .func (PySem.W.fnOf "weights_shown" "weights_shown" (defArgs sShown) (defBody sShown) (defScope sShown) .none kV_ws dc_ws pm_ws an_ws cd_ws ct_ws), sl_ws⟩)
    (c_ws : PySem.W.codeIn K cd_ws "weights_shown" = true)
    (k_ws : PySem.W.keepIn K (.ref f_ws) = true)
    (a_wr : PySem.W.nsIn K mainGlobals "weights_reached" = some (some (.ref f_wr)))
    (l_wr : K.lookup f_wr = some ⟨oc_wr, od_wr, .func (PySem.W.fnOf "weights_reached" "weights_reached" (defArgs sReached) (defBody sReached) (defScope sReached) .none kV_wr dc_wr pm_wr an_wr cd_wr ct_wr), sl_wr⟩)
    (c_wr : PySem.W.codeIn K cd_wr "weights_reached" = true)
    (k_wr : PySem.W.keepIn K (.ref f_wr) = true)
    (a_wl : PySem.W.nsIn K mainGlobals "weights_left" = some (some (.ref f_wl)))
    (l_wl : K.lookup f_wl = some ⟨oc_wl, od_wl, .func (PySem.W.fnOf "weights_left" "weights_left" (defArgs sLeft) (defBody sLeft) (defScope sLeft) .none kV_wl dc_wl pm_wl an_wl cd_wl ct_wl), sl_wl⟩)
    (c_wl : PySem.W.codeIn K cd_wl "weights_left" = true)
    (k_wl : PySem.W.keepIn K (.ref f_wl) = true)
    (a_sf : PySem.W.nsIn K mainGlobals "steps_from" = some (some (.ref f_sf)))
    (l_sf : K.lookup f_sf = some ⟨oc_sf, od_sf, .func (PySem.W.fnOf "steps_from" "steps_from" (defArgs sSteps) (defBody sSteps) (defScope sSteps) .none kV_sf dc_sf pm_sf an_sf cd_sf ct_sf), sl_sf⟩)
    (c_sf : PySem.W.codeIn K cd_sf "steps_from" = true)
    (k_sf : PySem.W.keepIn K (.ref f_sf) = true)
    (a_bw : PySem.W.nsIn K mainGlobals "best_way" = some (some (.ref f_bw)))
    (l_bw : K.lookup f_bw = some ⟨oc_bw, od_bw, .func (PySem.W.fnOf "best_way" "best_way" (defArgs sBest) (defBody sBest) (defScope sBest) .none kV_bw dc_bw pm_bw an_bw cd_bw ct_bw), sl_bw⟩)
    (c_bw : PySem.W.codeIn K cd_bw "best_way" = true)
    (k_bw : PySem.W.keepIn K (.ref f_bw) = true)
    (a_go : PySem.W.nsIn K mainGlobals "greatest_onward" = some (some (.ref f_go)))
    (l_go : K.lookup f_go = some ⟨oc_go, od_go, .func (PySem.W.fnOf "greatest_onward" "greatest_onward" (defArgs sOnward) (defBody sOnward) (defScope sOnward) .none kV_go dc_go pm_go an_go cd_go ct_go), sl_go⟩)
    (c_go : PySem.W.codeIn K cd_go "greatest_onward" = true)
    (k_go : PySem.W.keepIn K (.ref f_go) = true)
    (a_is : PySem.W.nsIn K mainGlobals "is_size" = some (some (.ref f_is)))
    (l_is : K.lookup f_is = some ⟨oc_is, od_is, .func (PySem.W.fnOf "is_size" "is_size" (defArgs sIsSize) (defBody sIsSize) (defScope sIsSize) .none kV_is dc_is pm_is an_is cd_is ct_is), sl_is⟩)
    (c_is : PySem.W.codeIn K cd_is "is_size" = true)
    (k_is : PySem.W.keepIn K (.ref f_is) = true)
    (a_iw : PySem.W.nsIn K mainGlobals "is_weight" = some (some (.ref f_iw)))
    (l_iw : K.lookup f_iw = some ⟨oc_iw, od_iw, .func (PySem.W.fnOf "is_weight" "is_weight" (defArgs sIsWeight) (defBody sIsWeight) (defScope sIsWeight) .none kV_iw dc_iw pm_iw an_iw cd_iw ct_iw), sl_iw⟩)
    (c_iw : PySem.W.codeIn K cd_iw "is_weight" = true)
    (k_iw : PySem.W.keepIn K (.ref f_iw) = true)
    (a_as : PySem.W.nsIn K mainGlobals "answers" = some (some (.ref f_as)))
    (l_as : K.lookup f_as = some ⟨oc_as, od_as, .func (PySem.W.fnOf "answers" "answers" (defArgs sAnswers) (defBody sAnswers) (defScope sAnswers) .none kV_as dc_as pm_as an_as cd_as ct_as), sl_as⟩)
    (c_as : PySem.W.codeIn K cd_as "answers" = true)
    (k_as : PySem.W.keepIn K (.ref f_as) = true)
    (a_aa : PySem.W.nsIn K mainGlobals "answer_all" = some (some (.ref f_aa)))
    (l_aa : K.lookup f_aa = some ⟨oc_aa, od_aa, .func (PySem.W.fnOf "answer_all" "answer_all" (defArgs sAll) (defBody sAll) (defScope sAll) .none kV_aa dc_aa pm_aa an_aa cd_aa ct_aa), sl_aa⟩)
    (c_aa : PySem.W.codeIn K cd_aa "answer_all" = true)
    (k_aa : PySem.W.keepIn K (.ref f_aa) = true)
    (a_br : PySem.W.nsIn K mainGlobals "behind_row" = some (some (.ref f_br)))
    (l_br : K.lookup f_br = some ⟨oc_br, od_br, .func (PySem.W.fnOf "behind_row" "behind_row" (defArgs sBRow) (defBody sBRow) (defScope sBRow) .none kV_br dc_br pm_br an_br cd_br ct_br), sl_br⟩)
    (c_br : PySem.W.codeIn K cd_br "behind_row" = true)
    (k_br : PySem.W.keepIn K (.ref f_br) = true)
    (a_ac : PySem.W.nsIn K mainGlobals "answer_call" = some (some (.ref f_ac)))
    (l_ac : K.lookup f_ac = some ⟨oc_ac, od_ac, .func (PySem.W.fnOf "answer_call" "answer_call" (defArgs sCall) (defBody sCall) (defScope sCall) .none kV_ac dc_ac pm_ac an_ac cd_ac ct_ac), sl_ac⟩)
    (c_ac : PySem.W.codeIn K cd_ac "answer_call" = true)
    (k_ac : PySem.W.keepIn K (.ref f_ac) = true)
    (a_dw : PySem.W.nsIn K mainGlobals "done_or_wrong" = some (some (.ref f_dw)))
    (l_dw : K.lookup f_dw = some ⟨oc_dw, od_dw, .func (PySem.W.fnOf "done_or_wrong" "done_or_wrong" (defArgs sDone) (defBody sDone) (defScope sDone) .none kV_dw dc_dw pm_dw an_dw cd_dw ct_dw), sl_dw⟩)
    (c_dw : PySem.W.codeIn K cd_dw "done_or_wrong" = true)
    (k_dw : PySem.W.keepIn K (.ref f_dw) = true)
    (a_mm : PySem.W.nsIn K mainGlobals "make_model" = some (some (.ref f_mm)))
    (l_mm : K.lookup f_mm = some ⟨oc_mm, od_mm, .func (PySem.W.fnOf "make_model" "make_model" (defArgs sMake) (defBody sMake) (defScope sMake) .none kV_mm dc_mm pm_mm an_mm cd_mm ct_mm), sl_mm⟩)
    (c_mm : PySem.W.codeIn K cd_mm "make_model" = true)
    (k_mm : PySem.W.keepIn K (.ref f_mm) = true)
    (a_sw : PySem.W.nsIn K mainGlobals "set_weight" = some (some (.ref f_sw)))
    (l_sw : K.lookup f_sw = some ⟨oc_sw, od_sw, .func (PySem.W.fnOf "set_weight" "set_weight" (defArgs sSetW) (defBody sSetW) (defScope sSetW) .none kV_sw dc_sw pm_sw an_sw cd_sw ct_sw), sl_sw⟩)
    (c_sw : PySem.W.codeIn K cd_sw "set_weight" = true)
    (k_sw : PySem.W.keepIn K (.ref f_sw) = true)
    (a_ar : PySem.W.nsIn K mainGlobals "answer_of_row" = some (some (.ref f_ar)))
    (l_ar : K.lookup f_ar = some ⟨oc_ar, od_ar, .func (PySem.W.fnOf "answer_of_row" "answer_of_row" (defArgs sRow) (defBody sRow) (defScope sRow) .none kV_ar dc_ar pm_ar an_ar cd_ar ct_ar), sl_ar⟩)
    (c_ar : PySem.W.codeIn K cd_ar "answer_of_row" = true)
    (k_ar : PySem.W.keepIn K (.ref f_ar) = true)
    (a_ab : PySem.W.nsIn K mainGlobals "answer_best" = some (some (.ref f_ab)))
    (l_ab : K.lookup f_ab = some ⟨oc_ab, od_ab, .func (PySem.W.fnOf "answer_best" "answer_best" (defArgs sABest) (defBody sABest) (defScope sABest) .none kV_ab dc_ab pm_ab an_ab cd_ab ct_ab), sl_ab⟩)
    (c_ab : PySem.W.codeIn K cd_ab "answer_best" = true)
    (k_ab : PySem.W.keepIn K (.ref f_ab) = true)
    (a_al : PySem.W.nsIn K mainGlobals "answer_likely" = some (some (.ref f_al)))
    (l_al : K.lookup f_al = some ⟨oc_al, od_al, .func (PySem.W.fnOf "answer_likely" "answer_likely" (defArgs sALikely) (defBody sALikely) (defScope sALikely) .none kV_al dc_al pm_al an_al cd_al ct_al), sl_al⟩)
    (c_al : PySem.W.codeIn K cd_al "answer_likely" = true)
    (k_al : PySem.W.keepIn K (.ref f_al) = true)
    (a_an : PySem.W.nsIn K mainGlobals "answer_next" = some (some (.ref f_an)))
    (l_an : K.lookup f_an = some ⟨oc_an, od_an, .func (PySem.W.fnOf "answer_next" "answer_next" (defArgs sANext) (defBody sANext) (defScope sANext) .none kV_an dc_an pm_an an_an cd_an ct_an), sl_an⟩)
    (c_an : PySem.W.codeIn K cd_an "answer_next" = true)
    (k_an : PySem.W.keepIn K (.ref f_an) = true)
    (a_sh : PySem.W.nsIn K mainGlobals "answer_share" = some (some (.ref f_sh)))
    (l_sh : K.lookup f_sh = some ⟨oc_sh, od_sh, .func (PySem.W.fnOf "answer_share" "answer_share" (defArgs sShare) (defBody sShare) (defScope sShare) .none kV_sh dc_sh pm_sh an_sh cd_sh ct_sh), sl_sh⟩)
    (c_sh : PySem.W.codeIn K cd_sh "answer_share" = true)
    (k_sh : PySem.W.keepIn K (.ref f_sh) = true)
    (aC : PySem.W.nsIn K mainGlobals "Model" = some (some (.ref C)))
    (pg_C : PySem.W.plainGet K C Str.empty = true)
    (hd_C : PySem.W.hasDictIn K C = true)
    (po_C : PySem.W.plainOver K C = true)
    (sa_C : PySem.W.findIn K (.ref C) "__setattr__" = some (some (.builtin "object.__setattr__")))
    (mk_C : PySem.W.makesIn K C = true)
    (kc_C : PySem.W.keepIn K (.ref C) = true)
    (n1_C : PySem.W.findIn K (.ref C) "states" = some none)
    (n2_C : PySem.W.findIn K (.ref C) "signs" = some none)
    (n3_C : PySem.W.findIn K (.ref C) "start_weights" = some none)
    (n4_C : PySem.W.findIn K (.ref C) "step_weights" = some none)
    (n5_C : PySem.W.findIn K (.ref C) "sign_weights" = some none)
    (aL : PySem.W.nsIn K mainGlobals "Line" = some (some (.ref L)))
    (pg_L : PySem.W.plainGet K L Str.empty = true)
    (hd_L : PySem.W.hasDictIn K L = true)
    (po_L : PySem.W.plainOver K L = true)
    (sa_L : PySem.W.findIn K (.ref L) "__setattr__" = some (some (.builtin "object.__setattr__")))
    (mk_L : PySem.W.makesIn K L = true)
    (kc_L : PySem.W.keepIn K (.ref L) = true)
    (n1_L : PySem.W.findIn K (.ref L) "model" = some none)
    (a_mi : PySem.W.findIn K (.ref C) "__init__" = some (some (.ref f_mi)))
    (i_mi : PySem.W.isFn K (.ref f_mi) = true)
    (l_mi : K.lookup f_mi = some ⟨oc_mi, od_mi, .func (PySem.W.fnOf "__init__" "Model.__init__" (defArgs sMInit) (defBody sMInit) (defScope sMInit) .none kV_mi dc_mi pm_mi an_mi cd_mi ct_mi), sl_mi⟩)
    (c_mi : PySem.W.codeIn K cd_mi "Model.__init__" = true)
    (k_mi : PySem.W.keepIn K (.ref f_mi) = true)
    (a_hs : PySem.W.findIn K (.ref C) "has_state" = some (some (.ref f_hs)))
    (i_hs : PySem.W.isFn K (.ref f_hs) = true)
    (l_hs : K.lookup f_hs = some ⟨oc_hs, od_hs, .func (PySem.W.fnOf "has_state" "Model.has_state" (defArgs sHasState) (defBody sHasState) (defScope sHasState) .none kV_hs dc_hs pm_hs an_hs cd_hs ct_hs), sl_hs⟩)
    (c_hs : PySem.W.codeIn K cd_hs "Model.has_state" = true)
    (k_hs : PySem.W.keepIn K (.ref f_hs) = true)
    (a_hg : PySem.W.findIn K (.ref C) "has_sign" = some (some (.ref f_hg)))
    (i_hg : PySem.W.isFn K (.ref f_hg) = true)
    (l_hg : K.lookup f_hg = some ⟨oc_hg, od_hg, .func (PySem.W.fnOf "has_sign" "Model.has_sign" (defArgs sHasSign) (defBody sHasSign) (defScope sHasSign) .none kV_hg dc_hg pm_hg an_hg cd_hg ct_hg), sl_hg⟩)
    (c_hg : PySem.W.codeIn K cd_hg "Model.has_sign" = true)
    (k_hg : PySem.W.keepIn K (.ref f_hg) = true)
    (a_hr : PySem.W.findIn K (.ref C) "has_row" = some (some (.ref f_hr)))
    (i_hr : PySem.W.isFn K (.ref f_hr) = true)
    (l_hr : K.lookup f_hr = some ⟨oc_hr, od_hr, .func (PySem.W.fnOf "has_row" "Model.has_row" (defArgs sHasRow) (defBody sHasRow) (defScope sHasRow) .none kV_hr dc_hr pm_hr an_hr cd_hr ct_hr), sl_hr⟩)
    (c_hr : PySem.W.codeIn K cd_hr "Model.has_row" = true)
    (k_hr : PySem.W.keepIn K (.ref f_hr) = true)
    (a_s1 : PySem.W.findIn K (.ref C) "set_start" = some (some (.ref f_s1)))
    (i_s1 : PySem.W.isFn K (.ref f_s1) = true)
    (l_s1 : K.lookup f_s1 = some ⟨oc_s1, od_s1, .func (PySem.W.fnOf "set_start" "Model.set_start" (defArgs sSetStart) (defBody sSetStart) (defScope sSetStart) .none kV_s1 dc_s1 pm_s1 an_s1 cd_s1 ct_s1), sl_s1⟩)
    (c_s1 : PySem.W.codeIn K cd_s1 "Model.set_start" = true)
    (k_s1 : PySem.W.keepIn K (.ref f_s1) = true)
    (a_s2 : PySem.W.findIn K (.ref C) "set_step" = some (some (.ref f_s2)))
    (i_s2 : PySem.W.isFn K (.ref f_s2) = true)
    (l_s2 : K.lookup f_s2 = some ⟨oc_s2, od_s2, .func (PySem.W.fnOf "set_step" "Model.set_step" (defArgs sSetStep) (defBody sSetStep) (defScope sSetStep) .none kV_s2 dc_s2 pm_s2 an_s2 cd_s2 ct_s2), sl_s2⟩)
    (c_s2 : PySem.W.codeIn K cd_s2 "Model.set_step" = true)
    (k_s2 : PySem.W.keepIn K (.ref f_s2) = true)
    (a_s3 : PySem.W.findIn K (.ref C) "set_sign" = some (some (.ref f_s3)))
    (i_s3 : PySem.W.isFn K (.ref f_s3) = true)
    (l_s3 : K.lookup f_s3 = some ⟨oc_s3, od_s3, .func (PySem.W.fnOf "set_sign" "Model.set_sign" (defArgs sSetSign) (defBody sSetSign) (defScope sSetSign) .none kV_s3 dc_s3 pm_s3 an_s3 cd_s3 ct_s3), sl_s3⟩)
    (c_s3 : PySem.W.codeIn K cd_s3 "Model.set_sign" = true)
    (k_s3 : PySem.W.keepIn K (.ref f_s3) = true)
    (a_li : PySem.W.findIn K (.ref L) "__init__" = some (some (.ref f_li)))
    (i_li : PySem.W.isFn K (.ref f_li) = true)
    (l_li : K.lookup f_li = some ⟨oc_li, od_li, .func (PySem.W.fnOf "__init__" "Line.__init__" (defArgs sLInit) (defBody sLInit) (defScope sLInit) .none kV_li dc_li pm_li an_li cd_li ct_li), sl_li⟩)
    (c_li : PySem.W.codeIn K cd_li "Line.__init__" = true)
    (k_li : PySem.W.keepIn K (.ref f_li) = true)
    (g_BYTES : PySem.W.nsIn K mainGlobals "BYTES" = some (some (.int 320 t_BYTES)))
    (g_MOST_STATES : PySem.W.nsIn K mainGlobals "MOST_STATES" = some (some (.int 16 t_MOST_STATES)))
    (g_MOST_SIGNS : PySem.W.nsIn K mainGlobals "MOST_SIGNS" = some (some (.int 16 t_MOST_SIGNS)))
    (g_MOST_WEIGHT : PySem.W.nsIn K mainGlobals "MOST_WEIGHT" = some (some (.int 65535 t_MOST_WEIGHT)))
    (g_MOST_PLACES : PySem.W.nsIn K mainGlobals "MOST_PLACES" = some (some (.int 64 t_MOST_PLACES)))
    (g_BEGIN : PySem.W.nsIn K mainGlobals "BEGIN" = some (some (.int 0 t_BEGIN)))
    (g_SIZE : PySem.W.nsIn K mainGlobals "SIZE" = some (some (.int 1 t_SIZE)))
    (g_START : PySem.W.nsIn K mainGlobals "START" = some (some (.int 2 t_START)))
    (g_STEP : PySem.W.nsIn K mainGlobals "STEP" = some (some (.int 3 t_STEP)))
    (g_SIGN : PySem.W.nsIn K mainGlobals "SIGN" = some (some (.int 4 t_SIGN)))
    (g_TOTAL : PySem.W.nsIn K mainGlobals "TOTAL" = some (some (.int 5 t_TOTAL)))
    (g_BEST : PySem.W.nsIn K mainGlobals "BEST" = some (some (.int 6 t_BEST)))
    (g_LIKELY : PySem.W.nsIn K mainGlobals "LIKELY" = some (some (.int 7 t_LIKELY)))
    (g_DONE : PySem.W.nsIn K mainGlobals "DONE" = some (some (.int 0 t_DONE)))
    (g_WRONG : PySem.W.nsIn K mainGlobals "WRONG" = some (some (.int (-1) t_WRONG)))
    (g_NO_WAY : PySem.W.nsIn K mainGlobals "NO_WAY" = some (some (.int (-3) t_NO_WAY)))
    (g_NO_MODEL : PySem.W.nsIn K mainGlobals "NO_MODEL" = some (some (.int (-4) t_NO_MODEL)))
    (g_NO_STATE : PySem.W.nsIn K mainGlobals "NO_STATE" = some (some (.int 255 t_NO_STATE)))
    (z_range : PySem.W.nsIn K mainGlobals "range" = some none)
    (z_sum : PySem.W.nsIn K mainGlobals "sum" = some none)
    (z_max : PySem.W.nsIn K mainGlobals "max" = some none)
    (z_all : PySem.W.nsIn K mainGlobals "all" = some none)
    (z_len : PySem.W.nsIn K mainGlobals "len" = some none)
    (z_reversed : PySem.W.nsIn K mainGlobals "reversed" = some none)
    (z_list : PySem.W.nsIn K mainGlobals "list" = some none)
    (aN : PySem.W.nsIn K mainGlobals "NUMBERS" = some (some (.ref tN)))
    (lN : K.lookup tN = some ⟨.type "tuple", oN, .seq #[.int 0 u0, .int 2 u1, .int 2 u2, .int 3 u3, .int 3 u4, .int 0 u5, .int 0 u6, .int 2 u7, .int 1 u8] nN, slN⟩)
    : ∃ fd : FuncData, (∀ (s : Shared) (us : List Value), us.length = (["calls"] : List Str).length → BindsTo s fd ⟨us, []⟩ ((["calls"] : List Str).zip us)) ∧ ∀ base : Heap, K.In base → base.Ns mainGlobals mg → FnOk P w K mg base CX0 9 fa fd ["calls"] (spAnswers K) := by
  have e := hfa.symm.trans (PySem.W.mg_of X G a_as)
  cases e
  have T : TxtM K mg C := ⟨⟨pg_C, hd_C, po_C, sa_C⟩, n1_C, n2_C, n3_C, n4_C, n5_C, PySem.W.mg_of X G aC, ⟨_, PySem.W.mg_of X G g_MOST_STATES⟩, ⟨_, PySem.W.mg_of X G g_MOST_SIGNS⟩, ⟨_, PySem.W.mg_of X G g_MOST_WEIGHT⟩, ⟨_, PySem.W.mg_of X G g_MOST_PLACES⟩, PySem.W.mg_none_of X G z_range, PySem.W.mg_none_of X G z_sum, PySem.W.mg_none_of X G z_max, PySem.W.mg_none_of X G z_all, PySem.W.mg_none_of X G z_len, PySem.W.mg_none_of X G z_reversed, PySem.W.mg_none_of X G z_list⟩
  have TL : TxtL K mg L := ⟨⟨pg_L, hd_L, po_L, sa_L⟩, n1_L, PySem.W.mg_of X G aL⟩
  have TA : TxtA mg := ⟨⟨_, PySem.W.mg_of X G g_BEGIN⟩, ⟨_, PySem.W.mg_of X G g_SIZE⟩, ⟨_, PySem.W.mg_of X G g_START⟩, ⟨_, PySem.W.mg_of X G g_STEP⟩, ⟨_, PySem.W.mg_of X G g_SIGN⟩, ⟨_, PySem.W.mg_of X G g_TOTAL⟩, ⟨_, PySem.W.mg_of X G g_BEST⟩, ⟨_, PySem.W.mg_of X G g_LIKELY⟩, ⟨_, PySem.W.mg_of X G g_DONE⟩, ⟨_, PySem.W.mg_of X G g_WRONG⟩, ⟨_, PySem.W.mg_of X G g_NO_WAY⟩, ⟨_, PySem.W.mg_of X G g_NO_MODEL⟩, ⟨_, PySem.W.mg_of X G g_NO_STATE⟩⟩
  have sN : ∀ H, SqT K H tN numsV := fun H => .inr ⟨_, _, _, lN, rfl, rfl, by show 9 ≤ sizeLine; decide, .cons ⟨_, rfl⟩ (.cons ⟨_, rfl⟩ (.cons ⟨_, rfl⟩ (.cons ⟨_, rfl⟩ (.cons ⟨_, rfl⟩ (.cons ⟨_, rfl⟩ (.cons ⟨_, rfl⟩ (.cons ⟨_, rfl⟩ (.cons ⟨_, rfl⟩ .nil))))))))⟩
  have F_lg := fun_mk (st := sLarge) l_lg c_lg k_lg
  have b_lg := F_lg.binds (ps := ["value"]) fun _ _ _ _ _ _ us hl => match us, hl with | [_], _ => rfl
  have F_fr := fun_mk (st := sFraction) l_fr c_fr k_fr
  have b_fr := F_fr.binds (ps := ["part", "whole"]) fun _ _ _ _ _ _ us hl => match us, hl with | [_, _], _ => rfl
  have F_cd := fun_mk (st := sCommon) l_cd c_cd k_cd
  have b_cd := F_cd.binds (ps := ["one", "other"]) fun _ _ _ _ _ _ us hl => match us, hl with | [_, _], _ => rfl
  have F_tw := fun_mk (st := sTotal) l_tw c_tw k_tw
  have b_tw := F_tw.binds (ps := ["model", "signs"]) fun _ _ _ _ _ _ us hl => match us, hl with | [_, _], _ => rfl
  have F_wa := fun_mk (st := sAt) l_wa c_wa k_wa
  have b_wa := F_wa.binds (ps := ["model", "signs", "place"]) fun _ _ _ _ _ _ us hl => match us, hl with | [_, _, _], _ => rfl
  have F_wn := fun_mk (st := sNext) l_wn c_wn k_wn
  have b_wn := F_wn.binds (ps := ["model", "signs"]) fun _ _ _ _ _ _ us hl => match us, hl with | [_, _], _ => rfl
  have F_we := fun_mk (st := sEnding) l_we c_we k_we
  have b_we := F_we.binds (ps := ["model", "signs"]) fun _ _ _ _ _ _ us hl => match us, hl with | [_, _], _ => rfl
  have F_wb := fun_mk (st := sBehind) l_wb c_wb k_wb
  have b_wb := F_wb.binds (ps := ["model", "signs"]) fun _ _ _ _ _ _ us hl => match us, hl with | [_, _], _ => rfl
  have F_ws := fun_mk (st := sShown) l_ws c_ws k_ws
  have b_ws := F_ws.binds (ps := ["model", "weights", "sign"]) fun _ _ _ _ _ _ us hl => match us, hl with | [_, _, _], _ => rfl
  have F_wr := fun_mk (st := sReached) l_wr c_wr k_wr
  have b_wr := F_wr.binds (ps := ["model", "weights"]) fun _ _ _ _ _ _ us hl => match us, hl with | [_, _], _ => rfl
  have F_wl := fun_mk (st := sLeft) l_wl c_wl k_wl
  have b_wl := F_wl.binds (ps := ["model", "weights"]) fun _ _ _ _ _ _ us hl => match us, hl with | [_, _], _ => rfl
  have F_sf := fun_mk (st := sSteps) l_sf c_sf k_sf
  have b_sf := F_sf.binds (ps := ["model", "origin", "weights"]) fun _ _ _ _ _ _ us hl => match us, hl with | [_, _, _], _ => rfl
  have F_bw := fun_mk (st := sBest) l_bw c_bw k_bw
  have b_bw := F_bw.binds (ps := ["model", "signs"]) fun _ _ _ _ _ _ us hl => match us, hl with | [_, _], _ => rfl
  have F_go := fun_mk (st := sOnward) l_go c_go k_go
  have b_go := F_go.binds (ps := ["model", "signs"]) fun _ _ _ _ _ _ us hl => match us, hl with | [_, _], _ => rfl
  have F_is := fun_mk (st := sIsSize) l_is c_is k_is
  have b_is := F_is.binds (ps := ["states", "signs"]) fun _ _ _ _ _ _ us hl => match us, hl with | [_, _], _ => rfl
  have F_iw := fun_mk (st := sIsWeight) l_iw c_iw k_iw
  have b_iw := F_iw.binds (ps := ["weight"]) fun _ _ _ _ _ _ us hl => match us, hl with | [_], _ => rfl
  have F_as := fun_mk (st := sAnswers) l_as c_as k_as
  have b_as := F_as.binds (ps := ["calls"]) fun _ _ _ _ _ _ us hl => match us, hl with | [_], _ => rfl
  have F_aa := fun_mk (st := sAll) l_aa c_aa k_aa
  have b_aa := F_aa.binds (ps := ["line", "calls"]) fun _ _ _ _ _ _ us hl => match us, hl with | [_, _], _ => rfl
  have F_br := fun_mk (st := sBRow) l_br c_br k_br
  have b_br := F_br.binds (ps := ["calls", "kind", "place"]) fun _ _ _ _ _ _ us hl => match us, hl with | [_, _, _], _ => rfl
  have F_ac := fun_mk (st := sCall) l_ac c_ac k_ac
  have b_ac := F_ac.binds (ps := ["line", "kind", "numbers", "signs"]) fun _ _ _ _ _ _ us hl => match us, hl with | [_, _, _, _], _ => rfl
  have F_dw := fun_mk (st := sDone) l_dw c_dw k_dw
  have b_dw := F_dw.binds (ps := ["done"]) fun _ _ _ _ _ _ us hl => match us, hl with | [_], _ => rfl
  have F_mm := fun_mk (st := sMake) l_mm c_mm k_mm
  have b_mm := F_mm.binds (ps := ["line", "states", "signs"]) fun _ _ _ _ _ _ us hl => match us, hl with | [_, _, _], _ => rfl
  have F_sw := fun_mk (st := sSetW) l_sw c_sw k_sw
  have b_sw := F_sw.binds (ps := ["model", "kind", "numbers"]) fun _ _ _ _ _ _ us hl => match us, hl with | [_, _, _], _ => rfl
  have F_ar := fun_mk (st := sRow) l_ar c_ar k_ar
  have b_ar := F_ar.binds (ps := ["model", "kind", "numbers", "signs"]) fun _ _ _ _ _ _ us hl => match us, hl with | [_, _, _, _], _ => rfl
  have F_ab := fun_mk (st := sABest) l_ab c_ab k_ab
  have b_ab := F_ab.binds (ps := ["model", "signs"]) fun _ _ _ _ _ _ us hl => match us, hl with | [_, _], _ => rfl
  have F_al := fun_mk (st := sALikely) l_al c_al k_al
  have b_al := F_al.binds (ps := ["model", "signs", "place", "state"]) fun _ _ _ _ _ _ us hl => match us, hl with | [_, _, _, _], _ => rfl
  have F_an := fun_mk (st := sANext) l_an c_an k_an
  have b_an := F_an.binds (ps := ["model", "signs", "sign"]) fun _ _ _ _ _ _ us hl => match us, hl with | [_, _, _], _ => rfl
  have F_sh := fun_mk (st := sShare) l_sh c_sh k_sh
  have b_sh := F_sh.binds (ps := ["weights", "chosen"]) fun _ _ _ _ _ _ us hl => match us, hl with | [_, _], _ => rfl
  have F_mi := fun_mk (st := sMInit) l_mi c_mi k_mi
  have b_mi := F_mi.binds (ps := ["self", "states", "signs"]) fun _ _ _ _ _ _ us hl => match us, hl with | [_, _, _], _ => rfl
  have F_hs := fun_mk (st := sHasState) l_hs c_hs k_hs
  have b_hs := F_hs.binds (ps := ["self", "state"]) fun _ _ _ _ _ _ us hl => match us, hl with | [_, _], _ => rfl
  have F_hg := fun_mk (st := sHasSign) l_hg c_hg k_hg
  have b_hg := F_hg.binds (ps := ["self", "sign"]) fun _ _ _ _ _ _ us hl => match us, hl with | [_, _], _ => rfl
  have F_hr := fun_mk (st := sHasRow) l_hr c_hr k_hr
  have b_hr := F_hr.binds (ps := ["self", "signs"]) fun _ _ _ _ _ _ us hl => match us, hl with | [_, _], _ => rfl
  have F_s1 := fun_mk (st := sSetStart) l_s1 c_s1 k_s1
  have b_s1 := F_s1.binds (ps := ["self", "state", "weight"]) fun _ _ _ _ _ _ us hl => match us, hl with | [_, _, _], _ => rfl
  have F_s2 := fun_mk (st := sSetStep) l_s2 c_s2 k_s2
  have b_s2 := F_s2.binds (ps := ["self", "origin", "goal", "weight"]) fun _ _ _ _ _ _ us hl => match us, hl with | [_, _, _, _], _ => rfl
  have F_s3 := fun_mk (st := sSetSign) l_s3 c_s3 k_s3
  have b_s3 := F_s3.binds (ps := ["self", "state", "sign", "weight"]) fun _ _ _ _ _ _ us hl => match us, hl with | [_, _, _, _], _ => rfl
  have F_li := fun_mk (st := sLInit) l_li c_li k_li
  have b_li := F_li.binds (ps := ["self"]) fun _ _ _ _ _ _ us hl => match us, hl with | [_], _ => rfl
  refine ⟨PySem.W.fnOf "answers" "answers" (defArgs sAnswers) (defBody sAnswers) (defScope sAnswers) .none kV_as dc_as pm_as an_as cd_as ct_as, fun s us hu => match us, hu with | [_], _ => .of_eq rfl, fun base _ _ => ?_⟩
  have G_iw : FnOk P w K mg base CX0 1 f_iw _ ["weight"] spIsWeight := ok_isWeight F_iw T
  have D_iw : Def P w K mg base "is_weight" ["weight"] 1 spIsWeight := ⟨_, _, PySem.W.mg_of X G a_iw, k_iw, b_iw, G_iw⟩
  have G_is : FnOk P w K mg base CX0 1 f_is _ ["states", "signs"] spIsSize := ok_isSize F_is T
  have D_is : Def P w K mg base "is_size" ["states", "signs"] 1 spIsSize := ⟨_, _, PySem.W.mg_of X G a_is, k_is, b_is, G_is⟩
  have G_hs : FnOk P w K mg base CX0 1 f_hs _ ["self", "state"] (spHasState C) := ok_hasState F_hs T
  have M_hs : MDef P w K mg base C "has_state" ["self", "state"] 1 (spHasState C) := ⟨_, _, ⟨a_hs, i_hs, k_hs⟩, b_hs, G_hs⟩
  have G_hg : FnOk P w K mg base CX0 1 f_hg _ ["self", "sign"] (spHasSign C) := ok_hasSign F_hg T
  have M_hg : MDef P w K mg base C "has_sign" ["self", "sign"] 1 (spHasSign C) := ⟨_, _, ⟨a_hg, i_hg, k_hg⟩, b_hg, G_hg⟩
  have G_hr : FnOk P w K mg base CX0 2 f_hr _ ["self", "signs"] (spHasRow C) := ok_hasRow F_hr T M_hg
  have M_hr : MDef P w K mg base C "has_row" ["self", "signs"] 2 (spHasRow C) := ⟨_, _, ⟨a_hr, i_hr, k_hr⟩, b_hr, G_hr⟩
  have G_s1 : FnOk P w K mg base CX0 2 f_s1 _ ["self", "state", "weight"] (spSetStart C) := ok_setStart F_s1 T G_hs b_hs ⟨a_hs, i_hs, k_hs⟩ G_iw b_iw (PySem.W.mg_of X G a_iw) k_iw
  have M_s1 : MDef P w K mg base C "set_start" ["self", "state", "weight"] 2 (spSetStart C) := ⟨_, _, ⟨a_s1, i_s1, k_s1⟩, b_s1, G_s1⟩
  have G_s2 : FnOk P w K mg base CX0 2 f_s2 _ ["self", "origin", "goal", "weight"] (spSetStep C) := ok_setStep F_s2 T G_hs b_hs ⟨a_hs, i_hs, k_hs⟩ G_iw b_iw (PySem.W.mg_of X G a_iw) k_iw
  have M_s2 : MDef P w K mg base C "set_step" ["self", "origin", "goal", "weight"] 2 (spSetStep C) := ⟨_, _, ⟨a_s2, i_s2, k_s2⟩, b_s2, G_s2⟩
  have G_s3 : FnOk P w K mg base CX0 2 f_s3 _ ["self", "state", "sign", "weight"] (spSetSign C) := ok_setSign F_s3 T G_hs b_hs ⟨a_hs, i_hs, k_hs⟩ G_hg b_hg ⟨a_hg, i_hg, k_hg⟩ G_iw b_iw (PySem.W.mg_of X G a_iw) k_iw
  have M_s3 : MDef P w K mg base C "set_sign" ["self", "state", "sign", "weight"] 2 (spSetSign C) := ⟨_, _, ⟨a_s3, i_s3, k_s3⟩, b_s3, G_s3⟩
  have G_mi : FnOk P w K mg base CX0 1 f_mi _ ["self", "states", "signs"] (spMInit C) := ok_minit F_mi T
  have G_li : FnOk P w K mg base CX0 1 f_li _ ["self"] (spLInit L) := ok_linit F_li TL
  have G_lg : FnOk P w K mg base CX0 1 f_lg _ ["value"] spLarge := ok_large F_lg T ⟨_, PySem.W.mg_of X G g_BYTES⟩
  have D_lg : Def P w K mg base "large_number" ["value"] 1 spLarge := ⟨_, _, PySem.W.mg_of X G a_lg, k_lg, b_lg, G_lg⟩
  have G_cd : FnOk P w K mg base CX0 1 f_cd _ ["one", "other"] spCommon := ok_common F_cd
  have D_cd : Def P w K mg base "common_divisor" ["one", "other"] 1 spCommon := ⟨_, _, PySem.W.mg_of X G a_cd, k_cd, b_cd, G_cd⟩
  have G_fr : FnOk P w K mg base CX0 2 f_fr _ ["part", "whole"] spFraction := ok_fraction F_fr D_cd D_lg
  have D_fr : Def P w K mg base "fraction" ["part", "whole"] 2 spFraction := ⟨_, _, PySem.W.mg_of X G a_fr, k_fr, b_fr, G_fr⟩
  have G_ws : FnOk P w K mg base CX0 1 f_ws _ ["model", "weights", "sign"] (spShown C) := ok_shown F_ws T
  have D_ws : Def P w K mg base "weights_shown" ["model", "weights", "sign"] 1 (spShown C) := ⟨_, _, PySem.W.mg_of X G a_ws, k_ws, b_ws, G_ws⟩
  have G_wr : FnOk P w K mg base CX0 1 f_wr _ ["model", "weights"] (spReached C) := ok_reached F_wr T
  have D_wr : Def P w K mg base "weights_reached" ["model", "weights"] 1 (spReached C) := ⟨_, _, PySem.W.mg_of X G a_wr, k_wr, b_wr, G_wr⟩
  have G_sf : FnOk P w K mg base CX0 1 f_sf _ ["model", "origin", "weights"] (spSteps C) := ok_steps F_sf T
  have D_sf : Def P w K mg base "steps_from" ["model", "origin", "weights"] 1 (spSteps C) := ⟨_, _, PySem.W.mg_of X G a_sf, k_sf, b_sf, G_sf⟩
  have G_wl : FnOk P w K mg base CX0 2 f_wl _ ["model", "weights"] (spLeft C) := ok_left F_wl T D_sf
  have D_wl : Def P w K mg base "weights_left" ["model", "weights"] 2 (spLeft C) := ⟨_, _, PySem.W.mg_of X G a_wl, k_wl, b_wl, G_wl⟩
  have G_we : FnOk P w K mg base CX0 2 f_we _ ["model", "signs"] (spEnding C) := ok_ending F_we T D_ws D_wr
  have D_we : Def P w K mg base "weights_ending" ["model", "signs"] 2 (spEnding C) := ⟨_, _, PySem.W.mg_of X G a_we, k_we, b_we, G_we⟩
  have G_wb : FnOk P w K mg base CX0 3 f_wb _ ["model", "signs"] (spBehind C) := ok_behind F_wb T D_ws D_wl
  have D_wb : Def P w K mg base "weights_behind" ["model", "signs"] 3 (spBehind C) := ⟨_, _, PySem.W.mg_of X G a_wb, k_wb, b_wb, G_wb⟩
  have G_tw : FnOk P w K mg base CX0 3 f_tw _ ["model", "signs"] (spTotal C) := ok_total F_tw T D_we
  have D_tw : Def P w K mg base "total_weight" ["model", "signs"] 3 (spTotal C) := ⟨_, _, PySem.W.mg_of X G a_tw, k_tw, b_tw, G_tw⟩
  have G_wa : FnOk P w K mg base CX0 4 f_wa _ ["model", "signs", "place"] (spAt C) := ok_at F_wa T D_we D_wb
  have D_wa : Def P w K mg base "weights_at" ["model", "signs", "place"] 4 (spAt C) := ⟨_, _, PySem.W.mg_of X G a_wa, k_wa, b_wa, G_wa⟩
  have G_wn : FnOk P w K mg base CX0 3 f_wn _ ["model", "signs"] (spNext C) := ok_next F_wn T D_we D_wr D_ws
  have D_wn : Def P w K mg base "weights_of_next" ["model", "signs"] 3 (spNext C) := ⟨_, _, PySem.W.mg_of X G a_wn, k_wn, b_wn, G_wn⟩
  have G_go : FnOk P w K mg base CX0 2 f_go _ ["model", "signs"] (spOnward C) := ok_onward F_go T D_ws D_sf
  have D_go : Def P w K mg base "greatest_onward" ["model", "signs"] 2 (spOnward C) := ⟨_, _, PySem.W.mg_of X G a_go, k_go, b_go, G_go⟩
  have G_bw : FnOk P w K mg base CX0 3 f_bw _ ["model", "signs"] (spBest C) := ok_best F_bw T D_go
  have D_bw : Def P w K mg base "best_way" ["model", "signs"] 3 (spBest C) := ⟨_, _, PySem.W.mg_of X G a_bw, k_bw, b_bw, G_bw⟩
  have G_sh : FnOk P w K mg base CX0 3 f_sh _ ["weights", "chosen"] spShare := ok_share F_sh T TA D_fr
  have D_sh : Def P w K mg base "answer_share" ["weights", "chosen"] 3 spShare := ⟨_, _, PySem.W.mg_of X G a_sh, k_sh, b_sh, G_sh⟩
  have G_an : FnOk P w K mg base CX0 4 f_an _ ["model", "signs", "sign"] (spANext C) := ok_anext F_an T TA M_hg D_wn D_sh
  have D_an : Def P w K mg base "answer_next" ["model", "signs", "sign"] 4 (spANext C) := ⟨_, _, PySem.W.mg_of X G a_an, k_an, b_an, G_an⟩
  have G_al : FnOk P w K mg base CX0 5 f_al _ ["model", "signs", "place", "state"] (spALikely C) := ok_alikely F_al T TA M_hs D_wa D_sh
  have D_al : Def P w K mg base "answer_likely" ["model", "signs", "place", "state"] 5 (spALikely C) := ⟨_, _, PySem.W.mg_of X G a_al, k_al, b_al, G_al⟩
  have G_ab : FnOk P w K mg base CX0 4 f_ab _ ["model", "signs"] (spABest C) := ok_abest F_ab T TA D_bw
  have D_ab : Def P w K mg base "answer_best" ["model", "signs"] 4 (spABest C) := ⟨_, _, PySem.W.mg_of X G a_ab, k_ab, b_ab, G_ab⟩
  have G_ar : FnOk P w K mg base CX0 6 f_ar _ ["model", "kind", "numbers", "signs"] (spRow C) := ok_row F_ar T TA M_hr D_lg D_tw D_ab D_al D_an
  have D_ar : Def P w K mg base "answer_of_row" ["model", "kind", "numbers", "signs"] 6 (spRow C) := ⟨_, _, PySem.W.mg_of X G a_ar, k_ar, b_ar, G_ar⟩
  have G_dw : FnOk P w K mg base CX0 1 f_dw _ ["done"] spDone := ok_done F_dw TA
  have D_dw : Def P w K mg base "done_or_wrong" ["done"] 1 spDone := ⟨_, _, PySem.W.mg_of X G a_dw, k_dw, b_dw, G_dw⟩
  have G_sw : FnOk P w K mg base CX0 3 f_sw _ ["model", "kind", "numbers"] (spSetW C) := ok_setw F_sw T TA M_s1 M_s2 M_s3
  have D_sw : Def P w K mg base "set_weight" ["model", "kind", "numbers"] 3 (spSetW C) := ⟨_, _, PySem.W.mg_of X G a_sw, k_sw, b_sw, G_sw⟩
  have G_mm : FnOk P w K mg base CX0 3 f_mm _ ["line", "states", "signs"] (spMake C L) := ok_make F_mm T TL D_is ⟨mk_C, a_mi, i_mi, kc_C⟩ G_mi b_mi
  have D_mm : Def P w K mg base "make_model" ["line", "states", "signs"] 3 (spMake C L) := ⟨_, _, PySem.W.mg_of X G a_mm, k_mm, b_mm, G_mm⟩
  have G_br : FnOk P w K mg base CX0 1 f_br _ ["calls", "kind", "place"] (spBRow K) := ok_brow F_br TA
  have D_br : Def P w K mg base "behind_row" ["calls", "kind", "place"] 1 (spBRow K) := ⟨_, _, PySem.W.mg_of X G a_br, k_br, b_br, G_br⟩
  have G_ac : FnOk P w K mg base CX0 7 f_ac _ ["line", "kind", "numbers", "signs"] (spCall C L) := ok_call F_ac T TL TA D_dw D_mm D_sw D_ar
  have D_ac : Def P w K mg base "answer_call" ["line", "kind", "numbers", "signs"] 7 (spCall C L) := ⟨_, _, PySem.W.mg_of X G a_ac, k_ac, b_ac, G_ac⟩
  have G_aa : FnOk P w K mg base CX0 8 f_aa _ ["line", "calls"] (spAll K C L) := ok_all F_aa T TL (PySem.W.mg_of X G aN) sN D_br D_ac
  have D_aa : Def P w K mg base "answer_all" ["line", "calls"] 8 (spAll K C L) := ⟨_, _, PySem.W.mg_of X G a_aa, k_aa, b_aa, G_aa⟩
  exact ok_answers F_as TL D_aa ⟨mk_L, a_li, i_li, kc_L⟩ G_li b_li
end Hs
end

open PySem PySem.W PyProof.Rows
set_option maxRecDepth 100000 in
set_option maxHeartbeats 0 in
theorem PySem.Challenge.cw_hiddenstates_s01_answers_holds : PySem.Challenge.rw_hiddenstates_s01_answers.Holds := by
  w_on; k_headS; (case hw => exact ⟨[.list [.int 0]], by decide +kernel, by decide +kernel⟩)
  k_fillS
  refine L2.walk_specK (r := PySem.Challenge.rw_hiddenstates_s01_answers) (k := 9) (CX := L2.CX0) (ps := ["calls"]) (sp := Hs.spAnswers) (by decide +kernel) rfl rfl ⟨rfl, by decide, by decide⟩ (fun w h Y => PySem.W.kIn_of Y) ?F ?S (fun _ _ _ _ z => z)
  case F =>
    intro w mg fa h Y KX G hmg
    refine' Hs.all_mk KX G hmg ?a_lg ?l_lg ?c_lg ?k_lg ?a_fr ?l_fr ?c_fr ?k_fr ?a_cd ?l_cd ?c_cd ?k_cd ?a_tw ?l_tw ?c_tw ?k_tw ?a_wa ?l_wa ?c_wa ?k_wa ?a_wn ?l_wn ?c_wn ?k_wn ?a_we ?l_we ?c_we ?k_we ?a_wb ?l_wb ?c_wb ?k_wb ?a_ws ?l_ws ?c_ws ?k_ws ?a_wr ?l_wr ?c_wr ?k_wr ?a_wl ?l_wl ?c_wl ?k_wl ?a_sf ?l_sf ?c_sf ?k_sf ?a_bw ?l_bw ?c_bw ?k_bw ?a_go ?l_go ?c_go ?k_go ?a_is ?l_is ?c_is ?k_is ?a_iw ?l_iw ?c_iw ?k_iw ?a_as ?l_as ?c_as ?k_as ?a_aa ?l_aa ?c_aa ?k_aa ?a_br ?l_br ?c_br ?k_br ?a_ac ?l_ac ?c_ac ?k_ac ?a_dw ?l_dw ?c_dw ?k_dw ?a_mm ?l_mm ?c_mm ?k_mm ?a_sw ?l_sw ?c_sw ?k_sw ?a_ar ?l_ar ?c_ar ?k_ar ?a_ab ?l_ab ?c_ab ?k_ab ?a_al ?l_al ?c_al ?k_al ?a_an ?l_an ?c_an ?k_an ?a_sh ?l_sh ?c_sh ?k_sh ?aC ?pg_C ?hd_C ?po_C ?sa_C ?mk_C ?kc_C ?n1_C ?n2_C ?n3_C ?n4_C ?n5_C ?aL ?pg_L ?hd_L ?po_L ?sa_L ?mk_L ?kc_L ?n1_L ?a_mi ?i_mi ?l_mi ?c_mi ?k_mi ?a_hs ?i_hs ?l_hs ?c_hs ?k_hs ?a_hg ?i_hg ?l_hg ?c_hg ?k_hg ?a_hr ?i_hr ?l_hr ?c_hr ?k_hr ?a_s1 ?i_s1 ?l_s1 ?c_s1 ?k_s1 ?a_s2 ?i_s2 ?l_s2 ?c_s2 ?k_s2 ?a_s3 ?i_s3 ?l_s3 ?c_s3 ?k_s3 ?a_li ?i_li ?l_li ?c_li ?k_li ?g_BYTES ?g_MOST_STATES ?g_MOST_SIGNS ?g_MOST_WEIGHT ?g_MOST_PLACES ?g_BEGIN ?g_SIZE ?g_START ?g_STEP ?g_SIGN ?g_TOTAL ?g_BEST ?g_LIKELY ?g_DONE ?g_WRONG ?g_NO_WAY ?g_NO_MODEL ?g_NO_STATE ?z_range ?z_sum ?z_max ?z_all ?z_len ?z_reversed ?z_list ?aN ?lN
    (case a_lg => k_is)
    (case l_lg => k_is)
    (case c_lg => k_is)
    (case k_lg => k_is)
    (case a_fr => k_is)
    (case l_fr => k_is)
    (case c_fr => k_is)
    (case k_fr => k_is)
    (case a_cd => k_is)
    (case l_cd => k_is)
    (case c_cd => k_is)
    (case k_cd => k_is)
    (case a_tw => k_is)
    (case l_tw => k_is)
    (case c_tw => k_is)
    (case k_tw => k_is)
    (case a_wa => k_is)
    (case l_wa => k_is)
    (case c_wa => k_is)
    (case k_wa => k_is)
    (case a_wn => k_is)
    (case l_wn => k_is)
    (case c_wn => k_is)
    (case k_wn => k_is)
    (case a_we => k_is)
    (case l_we => k_is)
    (case c_we => k_is)
    (case k_we => k_is)
    (case a_wb => k_is)
    (case l_wb => k_is)
    (case c_wb => k_is)
    (case k_wb => k_is)
    (case a_ws => k_is)
    (case l_ws => k_is)
    (case c_ws => k_is)
    (case k_ws => k_is)
    (case a_wr => k_is)
    (case l_wr => k_is)
    (case c_wr => k_is)
    (case k_wr => k_is)
    (case a_wl => k_is)
    (case l_wl => k_is)
    (case c_wl => k_is)
    (case k_wl => k_is)
    (case a_sf => k_is)
    (case l_sf => k_is)
    (case c_sf => k_is)
    (case k_sf => k_is)
    (case a_bw => k_is)
    (case l_bw => k_is)
    (case c_bw => k_is)
    (case k_bw => k_is)
    (case a_go => k_is)
    (case l_go => k_is)
    (case c_go => k_is)
    (case k_go => k_is)
    (case a_is => k_is)
    (case l_is => k_is)
    (case c_is => k_is)
    (case k_is => k_is)
    (case a_iw => k_is)
    (case l_iw => k_is)
    (case c_iw => k_is)
    (case k_iw => k_is)
    (case a_as => k_is)
    (case l_as => k_is)
    (case c_as => k_is)
    (case k_as => k_is)
    (case a_aa => k_is)
    (case l_aa => k_is)
    (case c_aa => k_is)
    (case k_aa => k_is)
    (case a_br => k_is)
    (case l_br => k_is)
    (case c_br => k_is)
    (case k_br => k_is)
    (case a_ac => k_is)
    (case l_ac => k_is)
    (case c_ac => k_is)
    (case k_ac => k_is)
    (case a_dw => k_is)
    (case l_dw => k_is)
    (case c_dw => k_is)
    (case k_dw => k_is)
    (case a_mm => k_is)
    (case l_mm => k_is)
    (case c_mm => k_is)
    (case k_mm => k_is)
    (case a_sw => k_is)
    (case l_sw => k_is)
    (case c_sw => k_is)
    (case k_sw => k_is)
    (case a_ar => k_is)
    (case l_ar => k_is)
    (case c_ar => k_is)
    (case k_ar => k_is)
    (case a_ab => k_is)
    (case l_ab => k_is)
    (case c_ab => k_is)
    (case k_ab => k_is)
    (case a_al => k_is)
    (case l_al => k_is)
    (case c_al => k_is)
    (case k_al => k_is)
    (case a_an => k_is)
    (case l_an => k_is)
    (case c_an => k_is)
    (case k_an => k_is)
    (case a_sh => k_is)
    (case l_sh => k_is)
    (case c_sh => k_is)
    (case k_sh => k_is)
    (case aC => k_is)
    (case pg_C => k_is)
    (case hd_C => k_is)
    (case po_C => k_is)
    (case sa_C => k_is)
    (case mk_C => k_is)
    (case kc_C => k_is)
    (case n1_C => k_is)
    (case n2_C => k_is)
    (case n3_C => k_is)
    (case n4_C => k_is)
    (case n5_C => k_is)
    (case aL => k_is)
    (case pg_L => k_is)
    (case hd_L => k_is)
    (case po_L => k_is)
    (case sa_L => k_is)
    (case mk_L => k_is)
    (case kc_L => k_is)
    (case n1_L => k_is)
    (case a_mi => k_is)
    (case i_mi => k_is)
    (case l_mi => k_is)
    (case c_mi => k_is)
    (case k_mi => k_is)
    (case a_hs => k_is)
    (case i_hs => k_is)
    (case l_hs => k_is)
    (case c_hs => k_is)
    (case k_hs => k_is)
    (case a_hg => k_is)
    (case i_hg => k_is)
    (case l_hg => k_is)
    (case c_hg => k_is)
    (case k_hg => k_is)
    (case a_hr => k_is)
    (case i_hr => k_is)
    (case l_hr => k_is)
    (case c_hr => k_is)
    (case k_hr => k_is)
    (case a_s1 => k_is)
    (case i_s1 => k_is)
    (case l_s1 => k_is)
    (case c_s1 => k_is)
    (case k_s1 => k_is)
    (case a_s2 => k_is)
    (case i_s2 => k_is)
    (case l_s2 => k_is)
    (case c_s2 => k_is)
    (case k_s2 => k_is)
    (case a_s3 => k_is)
    (case i_s3 => k_is)
    (case l_s3 => k_is)
    (case c_s3 => k_is)
    (case k_s3 => k_is)
    (case a_li => k_is)
    (case i_li => k_is)
    (case l_li => k_is)
    (case c_li => k_is)
    (case k_li => k_is)
    (case g_BYTES => k_is)
    (case g_MOST_STATES => k_is)
    (case g_MOST_SIGNS => k_is)
    (case g_MOST_WEIGHT => k_is)
    (case g_MOST_PLACES => k_is)
    (case g_BEGIN => k_is)
    (case g_SIZE => k_is)
    (case g_START => k_is)
    (case g_STEP => k_is)
    (case g_SIGN => k_is)
    (case g_TOTAL => k_is)
    (case g_BEST => k_is)
    (case g_LIKELY => k_is)
    (case g_DONE => k_is)
    (case g_WRONG => k_is)
    (case g_NO_WAY => k_is)
    (case g_NO_MODEL => k_is)
    (case g_NO_STATE => k_is)
    (case z_range => k_is)
    (case z_sum => k_is)
    (case z_max => k_is)
    (case z_all => k_is)
    (case z_len => k_is)
    (case z_reversed => k_is)
    (case z_list => k_is)
    (case aN => k_is)
    (case lN => k_is)
  case S =>
    intro K H xs a hO hwi hask hx
    cases hx with
    | cons h1 h2 =>
      cases h2
      cases h1 with
      | lst hs ha =>
        have e := L2.ints_dw a.1 _ ha
        subst e
        exact ⟨_, a.1, rfl, hs, hask, fun H' p hp => .lst (L2.SqL.of hp) (L2.dw_ints _)⟩
#print axioms PySem.Challenge.cw_hiddenstates_s01_answers_holds
