import PyProof.Rows.All
import Wide.All
import OpenK.AllK
import Wide.FinOn
import PyProof.EqAt
import PyProof.EqKinds
import PyProof.TupleCall
import KE.BitLaws
import Open.SpecLaws
import KE.OsHead
import KE.OsGo
import PySem.Challenge.RW_citedcases_s01_answers
set_option Elab.async false
set_option linter.all false
set_option maxRecDepth 100000
/-! THE HAND LAYER, for ints, bools, texts, own classes, lists, tuples, dicts, comprehensions, walks over dicts, enumerate, zip, reversed, texts, calls, loops. Paste it whole ahead of your own text; what your proof does not reach may be deleted. -/
namespace L2
open PySem PySem.Spec PyProof.Rows

/-- a key: an int or a str -/
abbrev Key := Sum Int Str
def keyIs : Key → Value → Bool
  | .inl k, v => Value.isInt k v
  | .inr x, v => Value.isStrOf x v
def keyH (w : World) : Key → Int
  | .inl k => hashInt k
  | .inr x => hashStr w x
theorem keyIs_shape : ∀ {k : Key} {v : Value}, keyIs k v = true → (∃ i t, k = Sum.inl i ∧ v = Value.int i t) ∨ (∃ x t, k = Sum.inr x ∧ v = Value.str x t)
  | .inl i, v, h => by
    obtain ⟨t, e⟩ := Value.isInt_shape (k := i) (v := v) h
    exact .inl ⟨i, t, rfl, e⟩
  | .inr x, v, h => by
    obtain ⟨t, e⟩ := Value.isStrOf_shape (x := x) (v := v) h
    exact .inr ⟨x, t, rfl, e⟩
theorem key_ll (a b : Int) : decide ((Sum.inl a : Key) = Sum.inl b) = (a == b) := by
  by_cases e : a = b
  · subst e; simp
  · have h : ¬ (Sum.inl a : Key) = Sum.inl b := fun q => e (Sum.inl.inj q)
    rw [decide_eq_false h]
    exact (beq_eq_false_iff_ne.mpr e).symm
theorem key_rr (a b : Str) : decide ((Sum.inr a : Key) = Sum.inr b) = decide (a = b) := by
  by_cases e : a = b
  · subst e; simp
  · have h : ¬ (Sum.inr a : Key) = Sum.inr b := fun q => e (Sum.inr.inj q)
    rw [decide_eq_false h, decide_eq_false e]
theorem key_lr (a : Int) (b : Str) : decide ((Sum.inl a : Key) = Sum.inr b) = false := decide_eq_false (fun q => nomatch q)
theorem key_rl (a : Str) (b : Int) : decide ((Sum.inr a : Key) = Sum.inl b) = false := decide_eq_false (fun q => nomatch q)

def mixKind (prog : Program) (w : World) : PySem.KeyKind prog w Key where
  is := keyIs
  hash := keyH w
  inj := fun v a b ha hb => by
    rcases keyIs_shape ha with ⟨i, t, rfl, rfl⟩ | ⟨x, t, rfl, rfl⟩
    · rcases keyIs_shape hb with ⟨j, u, rfl, e⟩ | ⟨y, u, rfl, e⟩
      · injection e with e1 _; rw [e1]
      · exact nomatch e
    · rcases keyIs_shape hb with ⟨j, u, rfl, e⟩ | ⟨y, u, rfl, e⟩
      · exact nomatch e
      · injection e with e1 _; rw [e1]
  byValue := fun k v h => by
    rcases keyIs_shape h with ⟨i, t, rfl, rfl⟩ | ⟨x, t, rfl, rfl⟩ <;> rfl
  pyHash := fun hv h => by
    rcases keyIs_shape hv with ⟨i, t, rfl, rfl⟩ | ⟨x, t, rfl, rfl⟩
    · exact wpAny_pyHash_int h
    · exact wpAny_pyHash_str h
  eqBool := fun hu hv h => by
    rcases keyIs_shape hu with ⟨i, t, rfl, rfl⟩ | ⟨x, t, rfl, rfl⟩
    · rcases keyIs_shape hv with ⟨j, u, rfl, rfl⟩ | ⟨y, u, rfl, rfl⟩
      · rw [key_ll] at h; exact wpAny_eqBool_int h
      · rw [key_lr] at h; exact SeqAt.EqAt.int_str i t y u _ _ _ _ h
    · rcases keyIs_shape hv with ⟨j, u, rfl, rfl⟩ | ⟨y, u, rfl, rfl⟩
      · rw [key_rl] at h; exact SeqAt.EqAt.str_int x t j u _ _ _ _ h
      · rw [key_rr] at h; exact wpAny_eqBool_str h
  «strs» := fun k x t v h => by
    rcases keyIs_shape h with ⟨i, u, rfl, e⟩ | ⟨y, u, rfl, e⟩
    · exact nomatch e
    · injection e with e1 _
      subst e1
      cases v <;> rfl

end L2

namespace L2
open PySem PySem.Spec PyProof.Rows

/-- a value, without the heap -/
inductive V where
  | non | bl (b : Bool) | int (i : Int) | str (x : Str) | byt (b : Array UInt8) | flt (b : UInt64) | ref (a : Addr) | ty (n : String)
  deriving DecidableEq

def RelV : V → Value → Prop
  | .non, u => u = Value.none
  | .bl b, u => u = Value.bool b
  | .int i, u => ∃ t, u = Value.int i t
  | .str x, u => ∃ t, u = Value.str x t
  | .byt b, u => ∃ t, u = Value.bytes b t
  | .flt b, u => ∃ t, u = Value.float b t
  | .ref a, u => u = Value.ref a
  | .ty n, u => u = Value.type n

abbrev Vals : List V → List Value → Prop := Paired RelV
theorem Vals.length {xs : List V} {us : List Value} (r : Vals xs us) : xs.length = us.length := Paired.length r
theorem Vals.get : ∀ {xs : List V} {us : List Value} {i : Nat} {x : V}, Vals xs us → xs[i]? = some x → ∃ u, us[i]? = some u ∧ RelV x u
  | _, _, _, _, .nil, e => by simp at e
  | _, _, 0, _, .cons r _, e => by simp at e; subst e; exact ⟨_, rfl, r⟩
  | _, _, i + 1, x, .cons _ t, e => by
    obtain ⟨u, h1, h2⟩ := Vals.get (i := i) (x := x) t (by simpa using e)
    exact ⟨u, by simpa using h1, h2⟩
theorem Vals.append : ∀ {xs ys : List V} {us ws : List Value}, Vals xs us → Vals ys ws → Vals (xs ++ ys) (us ++ ws)
  | _, _, _, _, .nil, s => s
  | _, _, _, _, .cons r t, s => .cons r (Vals.append t s)
theorem Vals.take : ∀ {xs : List V} {us : List Value} (n : Nat), Vals xs us → Vals (xs.take n) (us.take n)
  | _, _, 0, _ => .nil
  | _, _, _ + 1, .nil => .nil
  | _, _, n + 1, .cons r t => .cons r (Vals.take n t)
theorem Vals.drop : ∀ {xs : List V} {us : List Value} (n : Nat), Vals xs us → Vals (xs.drop n) (us.drop n)
  | _, _, 0, r => r
  | _, _, _ + 1, .nil => .nil
  | _, _, n + 1, .cons _ t => Vals.drop n t
def RelO : Option V → Option Value → Prop
  | some v, some u => RelV v u
  | none, none => True
  | _, _ => False
def KV {κ : Type} : List (κ × V) → List (κ × Value) → Prop := Paired fun (p : κ × V) (q : κ × Value) => p.1 = q.1 ∧ RelV p.2 q.2

/-- a key of a dict (00_mix): an int or a text -/
def kV : Key → V
  | .inl i => .int i
  | .inr x => .str x

/-- what stands at a tracked address -/
inductive HO where
  /-- a list -/
  | lst (xs : List V)
  /-- a tuple (never changes) -/
  | tup (xs : List V)
  /-- a dict whose keys are ints and texts; one whose keys are tuples of ints and texts (the empty one is both) -/
  | dK (kvs : List (Key × V)) | dT (kvs : List (List Key × V))
  /-- a set of ints: its members, its size -/
  | set (S : Int → Bool) (n : Nat)
  /-- an instance of the class at C, its dict at dx, its attributes -/
  | ins (C dx : Addr) (fs : List (Str × V))
  /-- the dict of the instance at x -/
  | own (x : Addr)
  /-- the dict of an exception -/
  | xd (fs : List (Str × V))
  /-- a bound method, f of x -/
  | met (f x : Addr)
  /-- a range object lo, lo + 1, .. below hi -/
  | rng (lo hi : Int)
  /-- a thing that is known to the object (the script; a dict while a loop walks it): read, never written while it is so -/
  | frz (o : Obj) (u : HO)
  /-- a code object's table -/
  | tbl (ps : Array Value)
  /-- any other thing, by what is true of its one object (a def of one's own: SetO a S n := HO.ext fun h => ..) -/
  | ext (φ : Heap → Prop)

abbrev Hp := Addr → Option HO
def upd (H : Hp) (a : Addr) (o : HO) : Hp := fun b => if b = a then some o else H b
theorem upd_same {H : Hp} {a : Addr} {o : HO} : upd H a o a = some o := by unfold upd; rw [if_pos rfl]
theorem upd_ne {H : Hp} {a b : Addr} {o : HO} (h : b ≠ a) : upd H a o b = H b := by unfold upd; rw [if_neg h]
theorem upd_upd {H : Hp} {a : Addr} {o u : HO} : upd (upd H a o) a u = upd H a u := by
  funext b; unfold upd; split <;> rfl
/-- two objects of different content stand apart -/
theorem ne_of {H : Hp} {a b : Addr} {o u : HO} (h : H a = some o) (h' : H b = some u) (d : o ≠ u) : a ≠ b := by
  intro e; subst e; rw [h] at h'; exact d (Option.some.inj h')
theorem ne_of_none {H : Hp} {a b : Addr} {o : HO} (h : H a = some o) (h' : H b = none) : a ≠ b := by
  intro e; subst e; rw [h] at h'; cases h'

section
variable (P : Program) (w : World)
def ObjOk (H : Hp) (h : Heap) (a : Addr) : HO → Prop
  | .lst xs => xs.length ≤ sizeLine ∧ ∃ (its : List Value) (n : Nat), Vals xs its ∧ h.get? a = some { cls := .type "list", data := .seq its.toArray n }
  | .tup xs => xs.length ≤ sizeLine ∧ ∃ its : List Value, Vals xs its ∧ IsTup h a its.toArray
  | .dK kvs => kvs.length ≤ sizeLine ∧ (a == sysModules) = false ∧ ∃ vs, KV kvs vs ∧ h.DictOf (mixKind P w) a vs
  | .dT kvs => kvs.length ≤ sizeLine ∧ (a == sysModules) = false ∧ ∃ xs : List (List Key × Addr × Value),
      Paired (fun (p : List Key × V) (q : List Key × Addr × Value) => p.1 = q.1 ∧ H q.2.1 = some (.tup (p.1.map kV)) ∧ RelV p.2 q.2.2) kvs xs ∧
      ∃ o es ep, h.get? a = some o ∧ o.ExactDict ∧ o.data = .dict es ep ∧ es.toList = xs.map (entryOfKey (tupleKind (mixKind P w))) ∧ (xs.map (·.1)).Nodup
  | .set S n => h.SetOf (intKind P w) a S n
  | .ins C dx fs => H dx = some (.own a) ∧ fs.length ≤ 1000 ∧ dx ≠ a ∧ h.get? a = some (PySem.W.instObj C dx) ∧
      ∃ mA, h.Ns1 dx mA ∧ (∀ f, RelO (fs.lookup f) (mA f)) ∧ PySem.Within mA (fs.map (·.1))
  | .own _ => ∃ o, h.get? a = some o
  | .xd fs => ∃ mA, h.Ns1 a mA ∧ ∀ f, RelO (fs.lookup f) (mA f)
  | .rng lo hi => ∃ t u v, h.get? a = some { cls := .type "range", data := .fields #[.int lo t, .int hi u, .int 1 v] }
  | .frz o u => h.get? a = some o ∧ ObjOk H h a u
  | .tbl ps => h.get? a = some { cls := .none, data := .fields ps }
  | .met f x => h.get? a = some (PySem.W.methodObj (.ref f) (.ref x))
  | .ext φ => φ h ∧ (∃ o, h.get? a = some o) ∧ ∀ h1 h2 : Heap, φ h1 → (∀ o, h1.get? a = some o → h2.get? a = some o) → φ h2
/-- the abstract heap is held -/
def HOk (H : Hp) (h : Heap) : Prop := ∀ a o, H a = some o → ObjOk P w H h a o
end

section
variable {P : Program} {w : World} {H H' : Hp} {h h' : Heap} {a : Addr} {o : HO}
theorem ObjOk.lt (x : ObjOk P w H h a o) : a < h.objs.size := by
  cases o with
  | lst xs => obtain ⟨_, _, _, _, e⟩ := x; exact Heap.lt_size e
  | tup xs => obtain ⟨_, _, _, p⟩ := x; exact p.lt
  | dK kvs => obtain ⟨_, _, _, _, o, _, _, e, _⟩ := x; exact Heap.lt_size e
  | dT kvs => obtain ⟨_, _, _, _, o, _, _, e, _⟩ := x; exact Heap.lt_size e
  | set S n => obtain ⟨o, _, _, _, e, _⟩ := x; exact Heap.lt_size e
  | ins C dx fs => obtain ⟨_, _, _, e, _⟩ := x; exact Heap.lt_size e
  | own y => obtain ⟨_, e⟩ := x; exact Heap.lt_size e
  | xd fs => obtain ⟨_, ⟨_, _, _, e, _⟩, _⟩ := x; exact Heap.lt_size e
  | rng lo hi => obtain ⟨_, _, _, e⟩ := x; exact Heap.lt_size e
  | frz ob u => obtain ⟨e, _⟩ := x; exact Heap.lt_size e
  | tbl ps => exact Heap.lt_size (show h.get? a = some _ from x)
  | met f y => exact Heap.lt_size (show h.get? a = some _ from x)
  | ext φ => obtain ⟨_, ⟨_, e⟩, _⟩ := x; exact Heap.lt_size e
theorem Paired.mapP {α β : Type} {F G : α → β → Prop} : ∀ {l₁ : List α} {l₂ : List β}, Paired F l₁ l₂ → (∀ a b, F a b → G a b) → Paired G l₁ l₂
  | _, _, .nil, _ => .nil
  | _, _, .cons r t, f => .cons (f _ _ r) (Paired.mapP t f)
/-- what an object's description leans on: its own object, its own dict, the tuples -/
theorem ObjOk.stay (x : ObjOk P w H h a o) (k : ∀ b u, (b = a ∨ H b = some (.own a)) → h.get? b = some u → h'.get? b = some u)
    (ho : ∀ b, H b = some (.own a) → H' b = some (.own a)) (ht : ∀ b xs, H b = some (.tup xs) → H' b = some (.tup xs)) : ObjOk P w H' h' a o := by
  induction o with
  | lst xs => obtain ⟨z, its, n, r, e⟩ := x; exact ⟨z, its, n, r, k _ _ (.inl rfl) e⟩
  | tup xs => obtain ⟨z, its, r, ob, e, c⟩ := x; exact ⟨z, its, r, ob, k _ _ (.inl rfl) e, c⟩
  | dK kvs => obtain ⟨z, y, vs, r, ob, es, ep, e, c⟩ := x; exact ⟨z, y, vs, r, ob, es, ep, k _ _ (.inl rfl) e, c⟩
  | dT kvs =>
    obtain ⟨z, y, xs, r, ob, es, ep, e, c⟩ := x
    exact ⟨z, y, xs, Paired.mapP r fun p q z => ⟨z.1, ht _ _ z.2.1, z.2.2⟩, ob, es, ep, k _ _ (.inl rfl) e, c⟩
  | set S n => obtain ⟨ob, es, ep, t, e, c⟩ := x; exact ⟨ob, es, ep, t, k _ _ (.inl rfl) e, c⟩
  | ins C dx fs =>
    obtain ⟨d, z, ne, e, mA, ⟨od, es, ep, e2, c⟩, r⟩ := x
    exact ⟨ho _ d, z, ne, k _ _ (.inl rfl) e, mA, ⟨od, es, ep, k _ _ (.inr d) e2, c⟩, r⟩
  | own y => obtain ⟨ob, e⟩ := x; exact ⟨ob, k _ _ (.inl rfl) e⟩
  | xd fs => obtain ⟨mA, ⟨od, es, ep, e, c⟩, r⟩ := x; exact ⟨mA, ⟨od, es, ep, k _ _ (.inl rfl) e, c⟩, r⟩
  | rng lo hi => obtain ⟨t, u, v, e⟩ := x; exact ⟨t, u, v, k _ _ (.inl rfl) e⟩
  | frz ob u ih => obtain ⟨e, q⟩ := x; exact ⟨k _ _ (.inl rfl) e, ih q⟩
  | tbl ps =>
    have e : h.get? a = some { cls := .none, data := .fields ps } := x
    show h'.get? a = some { cls := .none, data := .fields ps }
    exact k a _ (.inl rfl) e
  | met f y =>
    have e : h.get? a = some (PySem.W.methodObj (.ref f) (.ref y)) := x
    show h'.get? a = some (PySem.W.methodObj (.ref f) (.ref y))
    exact k a _ (.inl rfl) e
  | ext φ => obtain ⟨p, ⟨o, e⟩, st⟩ := x; exact ⟨st _ _ p fun o q => k _ _ (.inl rfl) q, ⟨o, k _ _ (.inl rfl) e⟩, st⟩
theorem HOk.lt (x : HOk P w H h) (e : H a = some o) : a < h.objs.size := (x a o e).lt
theorem HOk.fresh (x : HOk P w H h) (e : h.objs.size ≤ a) : H a = none := by
  cases q : H a with
  | none => rfl
  | some u => exact absurd (Nat.lt_of_lt_of_le (x.lt q) e) (Nat.lt_irrefl _)
/-- every object of the heap is kept -/
theorem HOk.kept (x : HOk P w H h) (k : ∀ b u, h.get? b = some u → h'.get? b = some u) : HOk P w H h' := fun a o e =>
  (x a o e).stay (fun b u _ q => k b u q) (fun _ q => q) fun _ _ q => q
/-- a new object is laid and tracked -/
theorem HOk.laid (x : HOk P w H h) (k : ∀ b u, h.get? b = some u → h'.get? b = some u) (hp : h.objs.size ≤ a) (new : ObjOk P w (upd H a o) h' a o) : HOk P w (upd H a o) h' := fun b u e => by
  have hn := x.fresh hp
  by_cases hb : b = a
  · subst hb; rw [upd_same] at e; cases e; exact new
  · rw [upd_ne hb] at e
    exact (x b u e).stay (fun c v _ q => k c v q) (fun c q => by rw [upd_ne (ne_of_none q hn)]; exact q) fun c xs q => by rw [upd_ne (ne_of_none q hn)]; exact q
end

/-- what may be read as u: it is u, or a known u -/
def Rd (H : Hp) (a : Addr) (u : HO) : Prop := H a = some u ∨ ∃ o, H a = some (.frz o u)
theorem Rd.ok {P : Program} {w : World} {H : Hp} {h : Heap} {a : Addr} {u : HO} (r : Rd H a u) (x : HOk P w H h) : ObjOk P w H h a u := by
  rcases r with r | ⟨o, r⟩
  · exact x a u r
  · obtain ⟨_, q⟩ := x a _ r
    exact q
/-- what may be written -/
def Mut : Option HO → Prop
  | some (.lst _) => True
  | some (.dK _) => True
  | some (.dT _) => True
  | some (.set _ _) => True
  | some (.ins _ _ _) => True
  | some (.ext _) => True
  | _ => False
section
variable {P : Program} {w : World} {H : Hp} {h h' : Heap} {x e : Addr} {o' : HO}
/-- the object at e is changed: x itself, or the dict of the instance x -/
theorem HOk.write (ok : HOk P w H h) (mu : Mut (H x)) (he : e = x ∨ H e = some (.own x)) (k : ∀ b u, b ≠ e → h.get? b = some u → h'.get? b = some u) (heo : ∃ u, h'.get? e = some u)
    (new : ObjOk P w (upd H x o') h' x o') : HOk P w (upd H x o') h' := fun b u q => by
  have nown : ∀ c y, H c = some (.own y) → c ≠ x := fun c y r z => by subst z; rw [r] at mu; exact mu
  have ntup : ∀ c xs, H c = some (.tup xs) → c ≠ x := fun c xs r z => by subst z; rw [r] at mu; exact mu
  by_cases hb : b = x
  · subst hb; rw [upd_same] at q; cases q; exact new
  · rw [upd_ne hb] at q
    by_cases hbe : b = e
    · have q' : H b = some (.own x) := by
        rcases he with z | z
        · exact absurd (hbe.trans z) hb
        · rw [hbe]; exact z
      rw [q] at q'; cases q'
      obtain ⟨v, hv⟩ := heo
      exact ⟨v, by rw [hbe]; exact hv⟩
    · refine (ok b u q).stay (fun c v hc r => k c v ?_ r) (fun c r => by rw [upd_ne (nown c b r)]; exact r) fun c xs r => by rw [upd_ne (ntup c xs r)]; exact r
      rcases hc with rfl | hc
      · exact hbe
      · rintro rfl
        rcases he with z | z
        · exact nown c b hc z
        · rw [hc] at z; cases z; exact hb rfl
end

/-! ### kept unless tracked; of the frames at fs (the callers') the slots may change (an exception that passes writes there); of the records at ex (iterators) nothing is said -/
structure Un (fs ex : List Addr) (H H' : Hp) (h h' : Heap) : Prop where
  keep : ∀ b o, h.get? b = some o → H b = none → b ∉ fs → b ∉ ex → h'.get? b = some o
  slot : ∀ b o, h.get? b = some o → H b = none → b ∈ fs → b ∉ ex → ∃ sl, h'.get? b = some { o with slots := sl }
  free : ∀ b o, h.get? b = some o → H b = none → b ∉ ex → H' b = none
  there : ∀ b o, h.get? b = some o → b ∉ ex → ∃ o', h'.get? b = some o'
  tups : ∀ b xs, H b = some (.tup xs) → H' b = some (.tup xs)
  frzs : ∀ b o u, H b = some (.frz o u) → H' b = some (.frz o u)
  tbls : ∀ b ps, H b = some (.tbl ps) → ∃ more, H' b = some (.tbl (ps ++ more))
section
variable {fs fs' ex ex' : List Addr} {H H1 H2 : Hp} {h h1 h2 h' : Heap} {a x e : Addr} {o : HO}
theorem Un.any (u : Un fs ex H H1 h h1) {b : Addr} {ob : Obj} (q : h.get? b = some ob) (n : H b = none) (hx : b ∉ ex) : ∃ sl, h1.get? b = some { ob with slots := sl } := by
  by_cases hb : b ∈ fs
  · exact u.slot b ob q n hb hx
  · exact ⟨ob.slots, u.keep b ob q n hb hx⟩
theorem Un.kept (k : ∀ b u, h.get? b = some u → h'.get? b = some u) : Un fs ex H H h h' :=
  ⟨fun b ob q _ _ _ => k b ob q, fun b ob q _ _ _ => ⟨ob.slots, k b ob q⟩, fun _ _ _ n _ => n, fun b ob q _ => ⟨ob, k b ob q⟩, fun _ _ q => q, fun _ _ _ q => q, fun _ ps q => ⟨#[], by rw [q]; simp⟩⟩
theorem Un.refl : Un fs ex H H h h := Un.kept fun _ _ q => q
theorem Un.laid (k : ∀ b u, h.get? b = some u → h'.get? b = some u) (hp : h.objs.size ≤ a) (hn : H a = none) : Un fs ex H (upd H a o) h h' where
  keep := fun b u q _ _ _ => k b u q
  slot := fun b u q _ _ _ => ⟨u.slots, k b u q⟩
  free := fun b u q n _ => by rw [upd_ne (Nat.ne_of_lt (Nat.lt_of_lt_of_le (Heap.lt_size q) hp))]; exact n
  there := fun b u q _ => ⟨u, k b u q⟩
  tups := fun b xs q => by rw [upd_ne (ne_of_none q hn)]; exact q
  frzs := fun b u xs q => by rw [upd_ne (ne_of_none q hn)]; exact q
  tbls := fun b ps q => ⟨#[], by rw [upd_ne (ne_of_none q hn), q]; simp⟩
theorem Un.write (mu : Mut (H x)) (he : e = x ∨ H e = some (.own x)) (k : ∀ b u, b ≠ e → h.get? b = some u → h'.get? b = some u) (heo : ∃ u, h'.get? e = some u) : Un fs ex H (upd H x o) h h' := by
  have hx : ∀ b, H b = none → b ≠ x := fun b n z => by subst z; rw [n] at mu; exact mu
  have hb : ∀ b, H b = none → b ≠ e := fun b n z => by
    subst z
    rcases he with r | r
    · exact hx b n r
    · rw [n] at r; cases r
  have hm : ∀ b u, H b = some u → ¬ Mut (some u) → b ≠ x := fun b u q nm z => by subst z; rw [q] at mu; exact nm mu
  refine ⟨fun b u q n _ _ => k b u (hb b n) q, fun b u q n _ _ => ⟨u.slots, k b u (hb b n) q⟩, fun b u q n _ => by rw [upd_ne (hx b n)]; exact n, fun b u q _ => ?_,
    fun b xs q => by rw [upd_ne (hm b _ q fun z => z)]; exact q, fun b u xs q => by rw [upd_ne (hm b _ q fun z => z)]; exact q, fun b ps q => ⟨#[], by rw [upd_ne (hm b _ q fun z => z), q]; simp⟩⟩
  by_cases hbe : b = e
  · subst hbe; exact heo
  · exact ⟨u, k b u hbe q⟩
end

/-! ### the heap without what is tracked -/
def trk (h : Heap) (H : Hp) : List Addr := (List.range h.objs.size).filter fun a => (H a).isSome
def hidT (h : Heap) (H : Hp) : Heap := PySem.W.hideAll h (trk h H)
theorem hidT_size (h : Heap) (H : Hp) : (hidT h H).objs.size = h.objs.size := PySem.W.hideAll_size _ _
theorem hidT_get {h : Heap} {H : Hp} {b : Addr} {o : Obj} (e : h.get? b = some o) (n : H b = none) : (hidT h H).get? b = some o :=
  PySem.W.hideAll_get _ e fun hm => by
    have q : (H b).isSome = true := (List.mem_filter.mp hm).2
    rw [n] at q; simp at q
theorem of_hidT {h : Heap} {H : Hp} {b : Addr} {o : Obj} (e : (hidT h H).get? b = some o) : h.get? b = some o ∧ H b = none := by
  have e' : h.get? b = some o := PySem.W.of_hideAll (trk h H) e
  refine ⟨e', ?_⟩
  cases q : H b with
  | none => rfl
  | some x =>
    have hm : b ∈ trk h H := List.mem_filter.mpr ⟨List.mem_range.mpr (Heap.lt_size e'), by simp [q]⟩
    have z : (hidT h H).get? b = none := PySem.W.hideAll_none (trk h H) hm
    rw [z] at e; cases e

/-! ### OpenK's ledger, filled with every new object but one -/
end L2

namespace L2
open PySem PySem.Spec PyProof.Rows

/-- the module's facts, over the base: the heap at the law's entry without what is tracked there -/
structure Mod (K : PySem.W.Frag) (mg : Str → Option Value) (base : Heap) : Prop where
  kin : K.In base
  glob : base.Ns mainGlobals mg
  blt : ∃ mb, base.Ns builtinsNs mb ∧ ∀ x : Str, x ≠ "__name__" → mb x = bootBuiltins x
  nolimit : base.NoLimit

/-- the context: a def's body (or a comprehension's block) running. base: fixed through the whole law; s₀, H₀: the entry; outer: the frames whose slots others may change (a def's callers); stack: all frames that run;
   ex: iterators that were made ahead of the entry and are walked here (a comprehension's); fn: the names whose cells were made at the entry (a def: all; a comprehension's block: its own); calm: not within an except suite; pn: pins that every state bears; xe: what is wanted of an exception that leaves the code -/
structure Cx where
  prog : Program
  w : World
  K : PySem.W.Frag
  mg : Str → Option Value
  base : Heap
  A : Around
  N : List Str
  s_0 : Shared
  H_0 : Hp
  env : Env
  outer : List Env
  stack : List Env
  ex : List Addr
  fn : Str → Bool
  calm : Bool
  pn : List (Addr × Obj)
  xe : Value → Shared → Prop
/-- the callers' frames -/
def frs (l : List Env) : List Addr := l.filterMap (·.frame)
abbrev Cx.fs (X : Cx) : List Addr := frs X.outer

def Vis (sc : Scope) (x : Str) : Prop := sc.names.lookup x = some .local ∨ sc.names.lookup x = some .cell ∨ sc.names.lookup x = some .free
def Loc (sc : Scope) (x : Str) : Prop := sc.names.lookup x = some .local ∨ sc.names.lookup x = some .cell
def Look (env : Env) (h : Heap) (m : Str → Option Value) (x : Str) (u : Value) : Prop :=
  (env.kindOf x = some .local ∧ m x = some u) ∨ ((env.kindOf x = some .cell ∨ env.kindOf x = some .free) ∧ ∃ c, env.cells.lookup x = some c ∧ h.IsCell c (some u))

structure Cx.Ok (X : Cx) : Prop where
  mod : Mod X.K X.mg X.base
  kind : X.env.scope.kind = .function
  glob : X.env.globals = mainGlobals
  blt : X.env.builtins = builtinsNs
  above : X.s_0.heap.objs.size ≤ X.env.locals
  inj : ∀ x y c, X.env.cells.lookup x = some c → X.env.cells.lookup y = some c → x = y
  has : ∀ x, (X.env.kindOf x = some .cell ∨ X.env.kindOf x = some .free) → ∃ c, X.env.cells.lookup x = some c
  cab : ∀ x c, X.fn x = true → X.env.cells.lookup x = some c → X.s_0.heap.objs.size ≤ c
  hd : X.calm = true → X.A.handled = none
  frames : X.A.frames = some X.stack
  stk : X.stack = X.outer ∨ (X.stack = X.env :: X.outer ∧ X.env.frame = some X.env.locals)
  exf : ∀ b ∈ X.ex, b ≠ X.env.locals ∧ ∀ x c, X.env.cells.lookup x = some c → c ≠ b
  bs : ∀ b o, X.base.get? b = some o → X.s_0.heap.get? b = some o ∧ X.H_0 b = none
  bsz : X.base.objs.size ≤ X.s_0.heap.objs.size
  noex : ∀ b o, X.base.get? b = some o → b ∉ X.ex
  exfs : ∀ b ∈ X.ex, b ∉ X.fs
  funs : X.s_0.heap.FunFrames X.base X.outer
  frf : ∀ b ∈ X.fs, X.H_0 b = none

structure Inv (X : Cx) (pins : List (Addr × Obj)) (σ : List (Option V)) (H : Hp) (s : Shared) : Prop where
  ok : X.Ok
  os : s.os = X.s_0.os
  bare : AllBare s.gens
  base : Un X.fs X.ex X.H_0 H X.s_0.heap s.heap
  loc : ∃ m, s.heap.Ns X.env.locals m ∧ ∀ (i : Nat) (x : Str) (v : V), X.N[i]? = some x → σ[i]? = some (some v) → Vis X.env.scope x → ∃ u, RelV v u ∧ Look X.env s.heap m x u
  cell : ∀ x c, X.env.cells.lookup x = some c → ∃ v, s.heap.IsCell c v
  free : H X.env.locals = none
  freeC : ∀ x c, X.env.cells.lookup x = some c → H c = none
  pin : ∀ p ∈ X.pn ++ pins, s.heap.get? p.1 = some p.2 ∧ H p.1 = none ∧ p.1 ≠ X.env.locals ∧ p.1 ∉ X.fs ∧ ∀ v, p.2.data ≠ .cell v
  hok : HOk X.prog X.w H s.heap
  len : σ.length = X.N.length

section
variable {X : Cx} {pins : List (Addr × Obj)} {σ : List (Option V)} {H H' : Hp} {s : Shared} {h' : Heap}

theorem Cx.Ok.nofr (ok : X.Ok) {b : Addr} {o : Obj} (e : X.base.get? b = some o) : b ∉ X.fs := fun hb => by
  have := (ok.funs.mem hb).1
  rw [e] at this; cases this
theorem Inv.bs (I : Inv X pins σ H s) : ∀ b o, X.base.get? b = some o → s.heap.get? b = some o ∧ H b = none := fun b o e =>
  ⟨I.base.keep b o (I.ok.bs b o e).1 (I.ok.bs b o e).2 (I.ok.nofr e) (I.ok.noex b o e), I.base.free b o (I.ok.bs b o e).1 (I.ok.bs b o e).2 (I.ok.noex b o e)⟩
theorem Inv.bk (I : Inv X pins σ H s) : ∀ b o, X.base.get? b = some o → s.heap.get? b = some o := fun b o e => (I.bs b o e).1
theorem Inv.mod (I : Inv X pins σ H s) : Mod X.K X.mg X.base := I.ok.mod
theorem Inv.kIn (I : Inv X pins σ H s) : X.K.In s.heap := I.ok.mod.kin.keeps I.bk
theorem Inv.lt (I : Inv X pins σ H s) : X.env.locals < s.heap.objs.size := let ⟨_, hn, _⟩ := I.loc; hn.lt
theorem Inv.sz (I : Inv X pins σ H s) : X.s_0.heap.objs.size ≤ s.heap.objs.size := Nat.le_trans I.ok.above (Nat.le_of_lt I.lt)
theorem Inv.nofs (I : Inv X pins σ H s) {a : Addr} (h : s.heap.objs.size ≤ a) : a ∉ X.fs := fun hb => by
  obtain ⟨_, o, ho, _⟩ := I.ok.funs.mem hb
  exact absurd (Nat.lt_of_lt_of_le (Heap.lt_size ho) (Nat.le_trans I.sz h)) (Nat.lt_irrefl _)
theorem Inv.cne (I : Inv X pins σ H s) : ∀ x c, X.env.cells.lookup x = some c → c ≠ X.env.locals := fun x c e z => by
  obtain ⟨v, o, ho, hd⟩ := I.cell x c e
  obtain ⟨m, ⟨o', es, ep, ho', hd', _⟩, _⟩ := I.loc
  rw [z, ho'] at ho; cases ho; rw [hd'] at hd; cases hd
theorem Inv.funs (I : Inv X pins σ H s) : s.heap.FunFrames X.base X.outer := by
  have all : ∀ (l : List Env), (∀ b ∈ frs l, b ∈ X.fs) → X.s_0.heap.FunFrames X.base l → s.heap.FunFrames X.base l := by
    intro l
    induction l with
    | nil => intro _ _; trivial
    | cons env r ih =>
      intro hs hl
      obtain ⟨hk, ⟨L, o, hf, hn, ho, hd⟩, hr⟩ := hl
      have hL : L ∈ X.fs := hs L (by unfold frs; rw [List.filterMap_cons, hf]; exact List.mem_cons_self)
      obtain ⟨sl, e⟩ := I.base.slot L o ho (I.ok.frf L hL) hL fun z => I.ok.exfs L z hL
      exact ⟨hk, ⟨L, _, hf, hn, e, hd⟩, ih (fun b hb => hs b (by unfold frs; rw [List.filterMap_cons, hf]; exact List.mem_cons_of_mem _ hb)) hr⟩
  exact all X.outer (fun _ hb => hb) I.ok.funs

/-- the frames that run, for a call -/
theorem Inv.stack (I : Inv X pins σ H s) : s.heap.FunFrames X.base X.stack := by
  rcases I.ok.stk with e | ⟨e, hf⟩
  · rw [e]; exact I.funs
  · rw [e]
    obtain ⟨m, hn, _⟩ := I.loc
    refine .cons (by rw [I.ok.kind]; decide) hf hn ?_ I.funs
    exact Heap.get?_none_of_le (Nat.le_trans I.ok.bsz I.ok.above)
theorem Inv.stkSub (I : Inv X pins σ H s) : ∀ b ∈ frs X.stack, b ∈ X.env.locals :: X.fs := fun b hb => by
  rcases I.ok.stk with e | ⟨e, hf⟩
  · rw [e] at hb; exact List.mem_cons_of_mem _ hb
  · rw [e] at hb
    unfold frs at hb
    rw [List.filterMap_cons, hf] at hb
    exact hb
theorem Inv.stkFree (I : Inv X pins σ H s) : ∀ b ∈ frs X.stack, H b = none := fun b hb => by
  rcases List.mem_cons.mp (I.stkSub b hb) with e | hb
  · rw [e]; exact I.free
  · obtain ⟨_, o, ho, _⟩ := I.ok.funs.mem hb
    exact I.base.free b o ho (I.ok.frf b hb) fun z => I.ok.exfs b z hb

/-- THE STEP: the untracked objects but the frame and the records at ch are kept (the callers' frames up to slots), the frame's map is kept, the new abstract heap is held -/
theorem Inv.step {g' : Array GenState} {t' : Nat} {d' : Drawn} {ch : List Addr} (I : Inv X pins σ H s)
    (hch : ∀ b ∈ ch, (b ∈ X.ex ∨ X.s_0.heap.objs.size ≤ b) ∧ b ≠ X.env.locals ∧ (∀ x c, X.env.cells.lookup x = some c → c ≠ b) ∧ ∀ p ∈ X.pn ++ pins, p.1 ≠ b)
    (keep : ∀ b o, b ≠ X.env.locals → b ∉ X.fs → b ∉ ch → s.heap.get? b = some o → H b = none → h'.get? b = some o)
    (slot : ∀ b o, b ≠ X.env.locals → b ∈ X.fs → b ∉ ch → s.heap.get? b = some o → H b = none → ∃ sl, h'.get? b = some { o with slots := sl }) (free : ∀ b o, b ∉ ch → s.heap.get? b = some o → H b = none → H' b = none)
    (there : ∀ b o, b ∉ ch → s.heap.get? b = some o → ∃ o', h'.get? b = some o')
    (tups : ∀ b xs, H b = some (.tup xs) → H' b = some (.tup xs)) (frzs : ∀ b o u, H b = some (.frz o u) → H' b = some (.frz o u)) (tbls : ∀ b ps, H b = some (.tbl ps) → ∃ more, H' b = some (.tbl (ps ++ more)))
    (ns : ∀ m, s.heap.Ns X.env.locals m → h'.Ns X.env.locals m) (hok : HOk X.prog X.w H' h') (hg : AllBare g') :
    Inv X pins σ H' { s with heap := h', gens := g', drawn := d', toks := t' } := by
  have neL : ∀ b o, X.s_0.heap.get? b = some o → b ≠ X.env.locals := fun b o e => Nat.ne_of_lt (Nat.lt_of_lt_of_le (Heap.lt_size e) I.ok.above)
  have neC : ∀ b o, X.s_0.heap.get? b = some o → b ∉ X.ex → b ∉ ch := fun b o e hx hb => by
    rcases (hch b hb).1 with z | z
    · exact hx z
    · exact absurd (Nat.lt_of_lt_of_le (Heap.lt_size e) z) (Nat.lt_irrefl _)
  have cellK : ∀ x c, X.env.cells.lookup x = some c → ∀ v, s.heap.IsCell c v → h'.IsCell c v := fun x c e v ⟨o, ho, hd⟩ => by
    have nch : c ∉ ch := fun z => (hch c z).2.2.1 x c e rfl
    by_cases hc : c ∈ X.fs
    · obtain ⟨sl, q⟩ := slot c o (I.cne x c e) hc nch ho (I.freeC x c e)
      exact ⟨_, q, hd⟩
    · exact ⟨o, keep c o (I.cne x c e) hc nch ho (I.freeC x c e), hd⟩
  refine ⟨I.ok, I.os, hg, ⟨fun b o e n hb hx => ?_, fun b o e n hb hx => ?_, fun b o e n hx => ?_, fun b o e hx => ?_, fun b xs e => tups b xs (I.base.tups b xs e), fun b o xs e => frzs b o xs (I.base.frzs b o xs e), fun b ps e => ?_⟩, ?_, fun x c e => ?_, ?_, fun x c e => ?_, fun p hp => ?_, hok, I.len⟩
  · exact keep b o (neL b o e) hb (neC b o e hx) (I.base.keep b o e n hb hx) (I.base.free b o e n hx)
  · obtain ⟨sl, e1⟩ := I.base.slot b o e n hb hx
    obtain ⟨sl', e2⟩ := slot b _ (neL b o e) hb (neC b o e hx) e1 (I.base.free b o e n hx)
    exact ⟨sl', e2⟩
  · obtain ⟨o', e1⟩ := I.base.there b o e hx
    exact free b o' (neC b o e hx) e1 (I.base.free b o e n hx)
  · obtain ⟨o', e1⟩ := I.base.there b o e hx
    exact there b o' (neC b o e hx) e1
  · obtain ⟨m1, e1⟩ := I.base.tbls b ps e
    obtain ⟨m2, e2⟩ := tbls b _ e1
    exact ⟨m1 ++ m2, by rw [e2, Array.append_assoc]⟩
  · obtain ⟨m, hn, hl⟩ := I.loc
    refine ⟨m, ns m hn, fun i x v e1 e2 e3 => ?_⟩
    obtain ⟨u, r, l⟩ := hl i x v e1 e2 e3
    refine ⟨u, r, ?_⟩
    rcases l with l | ⟨k, c, e, z⟩
    · exact .inl l
    · exact .inr ⟨k, c, e, cellK x c e _ z⟩
  · obtain ⟨v, z⟩ := I.cell x c e
    exact ⟨v, cellK x c e v z⟩
  · obtain ⟨m, ⟨o, _, _, ho, _⟩, _⟩ := I.loc
    exact free _ o (fun z => (hch _ z).2.1 rfl) ho I.free
  · obtain ⟨v, o, ho, hd⟩ := I.cell x c e
    exact free c o (fun z => (hch c z).2.2.1 x c e rfl) ho (I.freeC x c e)
  · obtain ⟨e, n, ne, nf, d⟩ := I.pin p hp
    have nch : p.1 ∉ ch := fun z => (hch p.1 z).2.2.2 p hp rfl
    exact ⟨keep p.1 p.2 ne nf nch e n, free p.1 p.2 nch e n, ne, nf, d⟩
/-- .. where the frame's own object is kept too -/
theorem Inv.un {t' : Nat} (I : Inv X pins σ H s) (u : Un X.fs [] H H' s.heap h') (hok : HOk X.prog X.w H' h') : Inv X pins σ H' { s with heap := h', toks := t' } := by
  obtain ⟨m, ⟨o, es, ep, ho, r⟩, _⟩ := id I.loc
  obtain ⟨sl, hL⟩ := u.any ho I.free (by simp)
  exact I.step (g' := s.gens) (d' := s.drawn) (ch := []) (fun _ z => nomatch z) (fun b o _ hb _ e n => u.keep b o e n hb (by simp)) (fun b o _ hb _ e n => u.slot b o e n hb (by simp)) (fun b o _ e n => u.free b o e n (by simp)) (fun b o _ e => u.there b o e (by simp)) u.tups u.frzs u.tbls (fun m' hm => by
    obtain ⟨o', es', ep', ho', r'⟩ := hm
    rw [ho] at ho'; cases ho'
    exact ⟨_, es', ep', hL, r'⟩) hok I.bare
/-- behind a call (or a comprehension's block): the slots of this frame may have changed too, the records at ch may have turned -/
theorem Inv.call {g' : Array GenState} {t' : Nat} {d' : Drawn} {ch : List Addr} (I : Inv X pins σ H s) (u : Un (frs X.stack) ch H H' s.heap h') (hok : HOk X.prog X.w H' h') (hg : AllBare g')
    (hch : ∀ b ∈ ch, (b ∈ X.ex ∨ X.s_0.heap.objs.size ≤ b) ∧ b ≠ X.env.locals ∧ (∀ x c, X.env.cells.lookup x = some c → c ≠ b) ∧ ∀ p ∈ X.pn ++ pins, p.1 ≠ b) :
    Inv X pins σ H' { s with heap := h', gens := g', drawn := d', toks := t' } := by
  obtain ⟨m, ⟨o, es, ep, ho, r⟩, _⟩ := id I.loc
  obtain ⟨sl, hL⟩ := u.any ho I.free fun z => (hch _ z).2.1 rfl
  exact I.step (ch := ch) hch (fun b o hL hb hc e n => u.keep b o e n (fun z => (List.mem_cons.mp (I.stkSub b z)).elim hL hb) hc) (fun b o _ _ hc e n => u.any e n hc) (fun b o hc e n => u.free b o e n hc) (fun b o hc e => u.there b o e hc) u.tups u.frzs u.tbls (fun m' hm => by
    obtain ⟨o', es', ep', ho', r'⟩ := hm
    rw [ho] at ho'; cases ho'
    exact ⟨_, es', ep', hL, r'⟩) hok hg
/-- an untracked record of ours (an iterator) has turned -/
theorem Inv.turned {t' : Nat} {it : Addr} (I : Inv X pins σ H s) (k : ∀ b o, b ≠ it → s.heap.get? b = some o → h'.get? b = some o) (hn : H it = none) (hL : it ≠ X.env.locals)
    (h1 : it ∈ X.ex ∨ X.s_0.heap.objs.size ≤ it) (h2 : ∀ x c, X.env.cells.lookup x = some c → c ≠ it) (h3 : ∀ p ∈ X.pn ++ pins, p.1 ≠ it) : Inv X pins σ H { s with heap := h', toks := t' } := by
  have nit : ∀ b u, H b = some u → b ≠ it := fun b u e z => by rw [z, hn] at e; cases e
  refine I.step (g' := s.gens) (d' := s.drawn) (ch := [it]) (fun b hb => ?_) (fun b o _ _ hc e _ => k b o (fun z => hc (by simp [z])) e) (fun b o _ _ hc e _ => ⟨o.slots, k b o (fun z => hc (by simp [z])) e⟩) (fun _ _ _ _ n => n)
    (fun b o hc e => ⟨o, k b o (fun z => hc (by simp [z])) e⟩) (fun _ _ e => e) (fun _ _ _ e => e) (fun b ps e => ⟨#[], by rw [e]; simp⟩) (fun m hm => ?_) (fun b u e => ?_) I.bare
  · have e : b = it := by simpa using hb
    subst e
    exact ⟨h1, hL, h2, h3⟩
  · obtain ⟨o, es, ep, ho, r⟩ := hm
    exact ⟨o, es, ep, k _ o (Ne.symm hL) ho, r⟩
  · refine (I.hok b u e).stay (fun c v hc q => k c v ?_ q) (fun _ q => q) fun _ _ q => q
    rcases hc with z | z
    · rw [z]; exact nit b u e
    · exact nit c _ z
theorem Inv.tok (I : Inv X pins σ H s) (t : Nat) : Inv X pins σ H { s with toks := t } := I.un (h' := s.heap) (t' := t) Un.refl I.hok
/-- all objects kept -/
theorem Inv.kept {t' : Nat} (I : Inv X pins σ H s) (k : ∀ b u, s.heap.get? b = some u → h'.get? b = some u) : Inv X pins σ H { s with heap := h', toks := t' } := I.un (Un.kept k) (I.hok.kept k)
/-- a new object laid and tracked -/
theorem Inv.laid {a : Addr} {o : HO} {t' : Nat} (I : Inv X pins σ H s) (k : ∀ b u, s.heap.get? b = some u → h'.get? b = some u) (hp : s.heap.objs.size ≤ a) (new : ObjOk X.prog X.w (upd H a o) h' a o) :
    Inv X pins σ (upd H a o) { s with heap := h', toks := t' } := I.un (Un.laid k hp (I.hok.fresh hp)) (I.hok.laid k hp new)
/-- an object written -/
theorem Inv.write {x e : Addr} {o : HO} {t' : Nat} (I : Inv X pins σ H s) (mu : Mut (H x)) (he : e = x ∨ H e = some (.own x)) (k : ∀ b u, b ≠ e → s.heap.get? b = some u → h'.get? b = some u) (heo : ∃ u, h'.get? e = some u)
    (new : ObjOk X.prog X.w (upd H x o) h' x o) : Inv X pins σ (upd H x o) { s with heap := h', toks := t' } := I.un (Un.write mu he k heo) (I.hok.write mu he k heo new)
/-- forgetting slots, pins -/
theorem Inv.weak {σ' : List (Option V)} (I : Inv X pins σ H s) (hl : σ'.length = σ.length) (w : ∀ (i : Nat) v, σ'[i]? = some (some v) → σ[i]? = some (some v)) : Inv X pins σ' H s :=
  ⟨I.ok, I.os, I.bare, I.base, let ⟨m, hn, hl'⟩ := I.loc; ⟨m, hn, fun i x v e1 e2 e3 => hl' i x v e1 (w i v e2) e3⟩, I.cell, I.free, I.freeC, I.pin, I.hok, hl.trans I.len⟩
theorem Inv.pins_of {pins' : List (Addr × Obj)} (I : Inv X pins σ H s) (h : ∀ p ∈ pins', s.heap.get? p.1 = some p.2 ∧ H p.1 = none ∧ p.1 ≠ X.env.locals ∧ p.1 ∉ X.fs ∧ ∀ v, p.2.data ≠ .cell v) : Inv X pins' σ H s :=
  ⟨I.ok, I.os, I.bare, I.base, I.loc, I.cell, I.free, I.freeC, fun p hp => (List.mem_append.mp hp).elim (fun z => I.pin p (List.mem_append_left _ z)) (h p), I.hok, I.len⟩

theorem nodup_ix {N : List Str} (hN : N.Nodup) {i j : Nat} {x : Str} (a : N[i]? = some x) (b : N[j]? = some x) : i = j := by
  obtain ⟨h1, e1⟩ := List.getElem?_eq_some_iff.mp a
  obtain ⟨h2, e2⟩ := List.getElem?_eq_some_iff.mp b
  exact (List.getElem_inj hN).mp (e1.trans e2.symm)

/-- a name is stored; what changed -/
theorem store_ok2 {M : Model} {A : Around} {E : Value → Shared → Prop} {i : Nat} {x : Str} {v : V} {u : Value} {Q : Unit → Shared → Prop} (I : Inv X pins σ H s) (hN : X.N.Nodup) (hi : X.N[i]? = some x) (hx : Loc X.env.scope x) (r : RelV v u)
    (h : ∀ s', Inv X pins (σ.set i (some v)) H s' → (∃ a, Heap.SameBut a s.heap s'.heap ∧ (a = X.env.locals ∨ X.env.cells.lookup x = some a)) → Q () s') (hf : X.fn x = true ∨ X.env.scope.names.lookup x = some .local := by first | exact .inl rfl | exact .inr rfl | assumption) : wpAny M A (storeName X.env x u) Q E s := by
  obtain ⟨m, hn, hl⟩ := id I.loc
  have hcls : (X.env.scope.kind == .class || (X.env.scope.kind == .module && X.env.locals != X.env.globals)) = false := by rw [I.ok.kind]; rfl
  have hiσ : i < σ.length := by rw [I.len]; exact (List.getElem?_eq_some_iff.mp hi).1
  have cne := I.cne
  have tracked : ∀ {a : Addr} {h' : Heap}, (∃ o, s.heap.get? a = some o ∧ H a = none) → Heap.SameBut a s.heap h' → HOk X.prog X.w H h' := fun {a h'} ha hs b ob e => by
    obtain ⟨_, _, hfree⟩ := ha
    refine (I.hok b ob e).stay (fun c w' hc q => (hs.2 c ?_).trans q) (fun _ q => q) fun _ _ q => q
    rintro rfl
    rcases hc with rfl | hc
    · rw [hfree] at e; cases e
    · rw [hfree] at hc; cases hc
  rcases hx with hk | hk
  · refine wpAny_storeName_local hk hn (fun h' hn' hs => ?_) hcls
    obtain ⟨oL, _, _, hoL, _⟩ := id hn
    refine h _ ⟨I.ok, I.os, I.bare, ⟨fun b o e n hb hx => ?_, fun b o e n hb hx => ?_, I.base.free, fun b o e hx => ?_, I.base.tups, I.base.frzs, I.base.tbls⟩, ⟨_, hn', fun j y v' e1 e2 e3 => ?_⟩, fun y c e => ?_, I.free, I.freeC, fun p hp => ?_, tracked ⟨oL, hoL, I.free⟩ hs, by simpa using I.len⟩ ⟨_, hs, .inl rfl⟩
    · exact (hs.2 b (Nat.ne_of_lt (Nat.lt_of_lt_of_le (Heap.lt_size e) I.ok.above))).trans (I.base.keep b o e n hb hx)
    · obtain ⟨sl, e1⟩ := I.base.slot b o e n hb hx
      exact ⟨sl, (hs.2 b (Nat.ne_of_lt (Nat.lt_of_lt_of_le (Heap.lt_size e) I.ok.above))).trans e1⟩
    · obtain ⟨o', e1⟩ := I.base.there b o e hx
      exact ⟨o', (hs.2 b (Nat.ne_of_lt (Nat.lt_of_lt_of_le (Heap.lt_size e) I.ok.above))).trans e1⟩
    · by_cases hj : j = i
      · subst hj
        rw [hi] at e1; cases e1
        rw [List.getElem?_set_self hiσ] at e2
        cases e2
        exact ⟨u, r, .inl ⟨hk, by simp⟩⟩
      · rw [List.getElem?_set_ne (Ne.symm hj)] at e2
        obtain ⟨u', r', q⟩ := hl j y v' e1 e2 e3
        refine ⟨u', r', ?_⟩
        rcases q with ⟨k, e⟩ | ⟨k, c, e, z⟩
        · refine .inl ⟨k, ?_⟩
          have : y ≠ x := fun e => hj (nodup_ix hN e1 (e ▸ hi))
          simp [this, e]
        · exact .inr ⟨k, c, e, z.sameBut hs (cne y c e)⟩
    · obtain ⟨w', z⟩ := I.cell y c e
      exact ⟨w', z.sameBut hs (cne y c e)⟩
    · obtain ⟨e, n, ne, nf, d⟩ := I.pin p hp
      exact ⟨(hs.2 p.1 ne).trans e, n, ne, nf, d⟩
  · have hfn : X.fn x = true := by
      rcases hf with z | z
      · exact z
      · rw [z] at hk; cases hk
    obtain ⟨c, hc⟩ := I.ok.has x (.inl hk)
    obtain ⟨w', z⟩ := I.cell x c hc
    refine wpAny_storeName_cell I.ok.kind hk hc z (fun h' hc' hs => ?_)
    obtain ⟨oc, hoc, hocd⟩ := id z
    refine h { s with heap := h' } ⟨I.ok, I.os, I.bare, ⟨fun b o e n hb hx => ?_, fun b o e n hb hx => ?_, I.base.free, fun b o e hx => ?_, I.base.tups, I.base.frzs, I.base.tbls⟩, ⟨m, hn.sameBut hs (Ne.symm (cne x c hc)), fun j y v' e1 e2 e3 => ?_⟩, fun y c' e => ?_, I.free, I.freeC, fun p hp => ?_, tracked ⟨oc, hoc, I.freeC x c hc⟩ hs, by simpa using I.len⟩ ⟨c, hs, .inr hc⟩
    · exact (hs.2 b (Nat.ne_of_lt (Nat.lt_of_lt_of_le (Heap.lt_size e) (I.ok.cab x c hfn hc)))).trans (I.base.keep b o e n hb hx)
    · obtain ⟨sl, e1⟩ := I.base.slot b o e n hb hx
      exact ⟨sl, (hs.2 b (Nat.ne_of_lt (Nat.lt_of_lt_of_le (Heap.lt_size e) (I.ok.cab x c hfn hc)))).trans e1⟩
    · obtain ⟨o', e1⟩ := I.base.there b o e hx
      exact ⟨o', (hs.2 b (Nat.ne_of_lt (Nat.lt_of_lt_of_le (Heap.lt_size e) (I.ok.cab x c hfn hc)))).trans e1⟩
    · by_cases hj : j = i
      · subst hj
        rw [hi] at e1; cases e1
        rw [List.getElem?_set_self hiσ] at e2
        cases e2
        exact ⟨u, r, .inr ⟨.inl hk, c, hc, hc'⟩⟩
      · rw [List.getElem?_set_ne (Ne.symm hj)] at e2
        obtain ⟨u', r', q⟩ := hl j y v' e1 e2 e3
        refine ⟨u', r', ?_⟩
        rcases q with q | ⟨k, c', e, z'⟩
        · exact .inl q
        · refine .inr ⟨k, c', e, z'.sameBut hs ?_⟩
          rintro rfl
          exact hj (nodup_ix hN e1 (I.ok.inj _ _ _ e hc ▸ hi))
    · by_cases hcc : c' = c
      · subst hcc; exact ⟨_, hc'⟩
      · obtain ⟨w2, z2⟩ := I.cell y c' e
        exact ⟨w2, z2.sameBut hs hcc⟩
    · obtain ⟨e, n, ne, nf, d⟩ := I.pin p hp
      refine ⟨(hs.2 p.1 ?_).trans e, n, ne, nf, d⟩
      intro q
      rw [q, hoc] at e
      have q' : oc = p.2 := Option.some.inj e
      exact d w' (by rw [← q']; exact hocd)
theorem store_ok {M : Model} {A : Around} {E : Value → Shared → Prop} {i : Nat} {x : Str} {v : V} {u : Value} {Q : Unit → Shared → Prop} (I : Inv X pins σ H s) (hN : X.N.Nodup) (hi : X.N[i]? = some x) (hx : Loc X.env.scope x) (r : RelV v u)
    (h : ∀ s', Inv X pins (σ.set i (some v)) H s' → Q () s') (hf : X.fn x = true ∨ X.env.scope.names.lookup x = some .local := by first | exact .inl rfl | exact .inr rfl | assumption) : wpAny M A (storeName X.env x u) Q E s :=
  store_ok2 I hN hi hx r (fun s' I' _ => h s' I') hf
/-- behind a call or a block, the state as it is -/
theorem Inv.call' {s' : Shared} {ch : List Addr} (I : Inv X pins σ H s) (ho : s'.os = s.os) (u : Un (frs X.stack) ch H H' s.heap s'.heap) (hok : HOk X.prog X.w H' s'.heap) (hg : AllBare s'.gens)
    (hch : ∀ b ∈ ch, (b ∈ X.ex ∨ X.s_0.heap.objs.size ≤ b) ∧ b ≠ X.env.locals ∧ (∀ x c, X.env.cells.lookup x = some c → c ≠ b) ∧ ∀ p ∈ X.pn ++ pins, p.1 ≠ b) : Inv X pins σ H' s' := by
  obtain ⟨h', g', d', t', o'⟩ := s'
  have e : o' = s.os := ho
  subst e
  exact I.call (g' := g') (t' := t') (d' := d') u hok hg hch
end

/-! ### the judgements -/
/-- an exception: its class, its own dict's address (where it has one), the abstract heap behind it -/
abbrev XK := Value → Option Addr → Hp → Prop
abbrev St := List (Option V)
abbrev VK := V → Hp → Prop
/-- an expression's reading; a test's; an argument list's -/
abbrev TE := St → Hp → VK → Prop
abbrev TT := St → Hp → (Bool → Hp → Prop) → Prop
abbrev TA := St → Hp → (List V → Hp → Prop) → Prop
/-- what is wanted behind a statement -/
structure Ends where
  nx : St → Hp → Prop
  rt : VK
  bk : St → Hp → Prop := fun _ _ => False
  ct : St → Hp → Prop := fun _ _ => False
abbrev TS := Ends → St → Hp → Prop

def EP (X : Cx) (pins : List (Addr × Obj)) (σ : St) (Q : VK) (u : Value) (s' : Shared) : Prop := ∃ v H', Inv X pins σ H' s' ∧ RelV v u ∧ Q v H'
def TP (X : Cx) (pins : List (Addr × Obj)) (σ : St) (Q : Bool → Hp → Prop) (b : Bool) (s' : Shared) : Prop := ∃ H', Inv X pins σ H' s' ∧ Q b H'
def AP (X : Cx) (pins : List (Addr × Obj)) (σ : St) (Q : List V → Hp → Prop) (us : List Value) (s' : Shared) : Prop := ∃ vs H', Inv X pins σ H' s' ∧ Vals vs us ∧ Q vs H'
def SP (X : Cx) (pins : List (Addr × Obj)) (D : Ends) (f : Flow) (s' : Shared) : Prop :=
  match f with
  | .next => ∃ σ' H', Inv X pins σ' H' s' ∧ D.nx σ' H'
  | .brk => ∃ σ' H', Inv X pins σ' H' s' ∧ D.bk σ' H'
  | .cont => ∃ σ' H', Inv X pins σ' H' s' ∧ D.ct σ' H'
  | .ret u => ∃ v σ' H', Inv X pins σ' H' s' ∧ RelV v u ∧ D.rt v H'

def PE (X : Cx) (e : Expr) (t : TE) : Prop :=
  ∀ (pins : List (Addr × Obj)) (s : Shared) (σ : St) (H : Hp) (Q : VK), Inv X pins σ H s → t σ H Q → wpAny (model X.prog X.w) X.A (eval e X.env) (EP X pins σ Q) X.xe s
def PT (X : Cx) (e : Expr) (t : TT) : Prop :=
  ∀ (pins : List (Addr × Obj)) (s : Shared) (σ : St) (H : Hp) (Q : Bool → Hp → Prop), Inv X pins σ H s → t σ H Q → wpAny (model X.prog X.w) X.A (isTrue e X.env (eval e X.env)) (TP X pins σ Q) X.xe s
/-- a test whatever its 'whole' is (and, or) -/
def PW (X : Cx) (e : Expr) (t : TT) : Prop :=
  ∀ (whole : Sem Value) (pins : List (Addr × Obj)) (s : Shared) (σ : St) (H : Hp) (Q : Bool → Hp → Prop), Inv X pins σ H s → t σ H Q → wpAny (model X.prog X.w) X.A (isTrue e X.env whole) (TP X pins σ Q) X.xe s
theorem PW.pt {X : Cx} {e : Expr} {t : TT} (h : PW X e t) : PT X e t := h _
/-- an argument list (no star), from the left -/
def PA (X : Cx) (es : List Expr) (t : TA) : Prop :=
  ∀ (pos : Pos) (pins : List (Addr × Obj)) (s : Shared) (σ : St) (H : Hp) (Q : List V → Hp → Prop), Inv X pins σ H s → t σ H Q → wpAny (model X.prog X.w) X.A (spliced (backTo pos (starEach es X.env))) (AP X pins σ Q) X.xe s
def PS (X : Cx) (st : Stmt) (t : TS) : Prop :=
  ∀ (pins : List (Addr × Obj)) (s : Shared) (σ : St) (H : Hp) (D : Ends), Inv X pins σ H s → t D σ H → wpAny (model X.prog X.w) X.A (exec st X.env) (SP X pins D) X.xe s
def PSs (X : Cx) (st : List Stmt) (t : TS) : Prop :=
  ∀ (pins : List (Addr × Obj)) (s : Shared) (σ : St) (H : Hp) (D : Ends), Inv X pins σ H s → t D σ H → wpAny (model X.prog X.w) X.A (execs st X.env) (SP X pins D) X.xe s
/-- weaken the end -/
theorem thn {α : Type} {t : Sem α} {Q Q' : α → Shared → Prop} {M : Model} {A : Around} {E : Value → Shared → Prop} {s : Shared} (h : wpAny M A t Q E s) (hQ : ∀ a s, Q a s → Q' a s) : wpAny M A t Q' E s := wpAny_mono h hQ fun _ _ x => x
end L2

namespace L2
open PySem PySem.Spec PyProof.Rows
section
variable {X : Cx}

/-! ### names and constants -/
def tVar (i : Nat) : TE := fun σ H Q => ∃ v, σ[i]? = some (some v) ∧ Q v H
def tC (v : V) : TE := fun _ H Q => Q v H
theorem pe_var {i : Nat} {x : Str} {pos : Pos} (hN : X.N[i]? = some x) (hv : Vis X.env.scope x) (hd : (x == ("__debug__" : Str)) = false := by decide) (hcd : (x == ("__classdict__" : Str)) = false := by decide) : PE X (.Name x pos) (tVar i) := by
  intro pins s σ H Q I h
  obtain ⟨v, e, h⟩ := h
  obtain ⟨m, hn, hl⟩ := I.loc
  obtain ⟨u, r, l⟩ := hl i x v hN e hv
  have fin : EP X pins σ Q u s := ⟨v, H, I, r, h⟩
  rcases l with ⟨hk, hm⟩ | ⟨hk, c, hc, hcell⟩
  · exact wpAny_Name (wpAny_loadName_local I.ok.kind hk hn hm fin) hd
  · rcases hk with hk | hk
    · exact wpAny_Name (wpAny_loadName_cell I.ok.kind hk hc hcell fin) hd
    · exact wpAny_Name (wpAny_loadName_free I.ok.kind hk hc hcell fin hcd) hd
theorem pe_int {i j pos} : PE X (.Constant (.int i) j pos) (tC (.int i)) := fun _ _ _ H _ I h => wpAny_Constant_int ⟨.int i, H, I.tok _, ⟨_, rfl⟩, h⟩
theorem pe_bl {b j pos} : PE X (.Constant (.bool b) j pos) (tC (.bl b)) := fun _ _ _ H _ I h => Constant_bool ⟨.bl b, H, I, rfl, h⟩
theorem pe_non {j pos} : PE X (.Constant .none j pos) (tC .non) := fun _ _ _ H _ I h => Constant_none ⟨.non, H, I, rfl, h⟩
/-- a global name of the def -/
def Gl (X : Cx) (x : Str) : Prop := X.env.kindOf x = some .globalImplicit
theorem ld_glob {E : Value → Shared → Prop} {pins : List (Addr × Obj)} {s : Shared} {σ : St} {H : Hp} {x : Str} {u : Value} {pos : Pos} {Q : Value → Shared → Prop} (I : Inv X pins σ H s) (hg : Gl X x) (hm : X.mg x = some u) (h : Q u s)
    (hd : (x == ("__debug__" : Str)) = false := by decide) : wpAny (model X.prog X.w) X.A (eval (.Name x pos) X.env) Q E s :=
  Calls.Name_function_global I.ok.kind hg (Calls.loadGlobal_global (by rw [I.ok.glob]; exact I.mod.glob.keeps I.bk) hm h) hd
theorem ld_blt {E : Value → Shared → Prop} {pins : List (Addr × Obj)} {s : Shared} {σ : St} {H : Hp} {x : Str} {u : Value} {pos : Pos} {Q : Value → Shared → Prop} (I : Inv X pins σ H s) (hg : Gl X x) (hm : X.mg x = none) (hv : bootBuiltins x = some u) (h : Q u s)
    (hn : x ≠ "__name__" := by decide) (hd : (x == ("__debug__" : Str)) = false := by decide) : wpAny (model X.prog X.w) X.A (eval (.Name x pos) X.env) Q E s := by
  obtain ⟨mb, h1, h2⟩ := I.mod.blt
  exact Calls.Name_function_global I.ok.kind hg (Calls.loadGlobal_builtin (by rw [I.ok.glob]; exact I.mod.glob.keeps I.bk) hm (by rw [I.ok.blt]; exact h1.keeps I.bk) ((h2 x hn).trans hv) h) hd
/-- a module's constant, a class, a function, as a value -/
theorem pe_glob {x : Str} {v : V} {u : Value} {pos : Pos} (hg : Gl X x) (hm : X.mg x = some u) (r : RelV v u) (hd : (x == ("__debug__" : Str)) = false := by decide) : PE X (.Name x pos) (tC v) :=
  fun _ _ _ H _ I h => ld_glob I hg hm ⟨v, H, I, r, h⟩ hd
/-! ### arithmetic -/
variable {a b : Expr} {ta tb : TE} {pos : Pos}
/-! ### comparisons -/
def PC (X : Cx) (op : CmpOp) (a b : Expr) (t : TE) : Prop :=
  ∀ (pins : List (Addr × Obj)) (s : Shared) (σ : St) (H : Hp) (Q : VK), Inv X pins σ H s → t σ H Q →
    wpAny (model X.prog X.w) X.A (eval a X.env) (fun v s₁ => wpAny (model X.prog X.w) X.A (eval b X.env) (fun u s₂ => wpAny (model X.prog X.w) X.A (compareOp op v u) (EP X pins σ Q) X.xe s₂) X.xe s₁) X.xe s
theorem nobehind (b : Expr) {op : CmpOp} (h : op ≠ .In) (h2 : op ≠ .NotIn) : behindInMarks op b = false := by
  have e1 : (op == CmpOp.In) = false := by cases op <;> first | rfl | exact absurd rfl h
  have e2 : (op == CmpOp.NotIn) = false := by cases op <;> first | rfl | exact absurd rfl h2
  cases b <;> simp [behindInMarks, e1, e2]
/-- is None -/
def tIsN (ta : TE) : TE := fun σ H Q => ta σ H fun x H1 => Q (.bl (decide (x = .non))) H1
theorem RelV.none_iff {x : V} {v : Value} (r : RelV x v) : (v == Value.none) = decide (x = .non) := by
  cases x with
  | non => cases r; rfl
  | bl _ => cases r; rfl
  | int _ => obtain ⟨t, rfl⟩ := r; rfl
  | str _ => obtain ⟨t, rfl⟩ := r; rfl
  | byt _ => obtain ⟨t, rfl⟩ := r; rfl
  | flt _ => obtain ⟨t, rfl⟩ := r; rfl
  | ref _ => cases r; rfl
  | ty _ => cases r; rfl
theorem pc_isN {j pos'} (ha : PE X a ta) : PC X .Is a (.Constant .none j pos') (tIsN ta) := by
  intro pins s σ H Q I h
  refine thn (ha pins s σ H _ I h) fun v s1 ⟨x, H1, I1, r1, q1⟩ => ?_
  exact Constant_none (is_none_gen ⟨.bl _, H1, I1, by rw [r1.none_iff]; rfl, q1⟩)
/-- a comparison as a value, as a test -/
def tB (t : TE) : TT := fun σ H Q => t σ H fun x H1 => ∃ c, x = .bl c ∧ Q c H1
theorem pt_cmp {op : CmpOp} {t : TE} (h : PC X op a b t) (h1 : behindInMarks op b = false := by first | exact nobehind _ (by decide) (by decide) | rfl) : PT X (.Compare a [op] [b] pos) (tB t) := by
  intro pins s σ H Q I hw
  refine wpAny_isTrue_Compare1 (thn (h pins s σ H _ I hw) fun v s1 h1 => thn h1 fun u s2 h2 => thn h2 fun c s3 ⟨x, H1, I1, r1, q1⟩ => ?_) h1
  obtain ⟨d, rfl, q⟩ := q1
  cases r1
  exact wpAny_truthy_bool ⟨H1, I1, q⟩
/-- an expression whose value is a bool, as a test -/
theorem pt_val {e : Expr} {t : TE} (h : PE X e t) (he : ∀ whole, isTrue e X.env whole = (do let v ← whole; standAt e.pos; holding [v] (truthy v)) := by intro _; rfl) : PT X e (tB t) := by
  intro pins s σ H Q I hw
  refine isTrue_plain (thn (h pins s σ H _ I hw) fun v s1 ⟨x, H1, I1, r1, q1⟩ => ?_) (he _)
  obtain ⟨d, rfl, q⟩ := q1
  cases r1
  exact wpAny_truthy_bool ⟨H1, I1, q⟩

/-! ### and, or, not -/
variable {tA tB' : TT} {rest : List Expr}
def tAnd (t u : TT) : TT := fun σ H Q => t σ H fun c H1 => if c = true then u σ H1 Q else Q false H1
def tOr (t u : TT) : TT := fun σ H Q => t σ H fun c H1 => if c = true then Q true H1 else u σ H1 Q
def tNot (t : TT) : TT := fun σ H Q => t σ H fun c H1 => Q (!c) H1
theorem pw_and1 (ha : PT X a tA) : PW X (.BoolOp .And [a] pos) tA := by
  intro wh pins s σ H Q I h
  refine isTrue_and (thn (ha pins s σ H Q I h) fun c s1 e => ?_)
  cases c with
  | true => exact isTrue_and_nil e
  | false => exact e
theorem pw_or1 (ha : PT X a tA) : PW X (.BoolOp .Or [a] pos) tA := by
  intro wh pins s σ H Q I h
  refine isTrue_or (thn (ha pins s σ H Q I h) fun c s1 e => ?_)
  cases c with
  | false => exact isTrue_or_nil e
  | true => exact e
theorem pw_and (ha : PT X a tA) (hb : PW X (.BoolOp .And (b :: rest) pos) tB') : PW X (.BoolOp .And (a :: b :: rest) pos) (tAnd tA tB') := by
  intro wh pins s σ H Q I h
  refine isTrue_and (thn (ha pins s σ H _ I h) fun c s1 ⟨H1, I1, q1⟩ => ?_)
  cases c with
  | true => exact hb wh pins s1 σ H1 Q I1 q1
  | false => exact ⟨H1, I1, q1⟩
theorem pw_or (ha : PT X a tA) (hb : PW X (.BoolOp .Or (b :: rest) pos) tB') : PW X (.BoolOp .Or (a :: b :: rest) pos) (tOr tA tB') := by
  intro wh pins s σ H Q I h
  refine isTrue_or (thn (ha pins s σ H _ I h) fun c s1 ⟨H1, I1, q1⟩ => ?_)
  cases c with
  | true => exact ⟨H1, I1, q1⟩
  | false => exact hb wh pins s1 σ H1 Q I1 q1
theorem pt_not (ha : PT X a tA) : PT X (.UnaryOp .Not a pos) (tNot tA) := by
  intro pins s σ H Q I h
  exact isTrue_not (ha pins s σ H (fun c H1 => Q (!c) H1) I h)
/-- .. as values (bools) -/
def tAndV (ta tb : TE) : TE := fun σ H Q => ta σ H fun x H1 => ∃ c, x = .bl c ∧ if c = true then tb σ H1 Q else Q (.bl false) H1
def tOrV (ta tb : TE) : TE := fun σ H Q => ta σ H fun x H1 => ∃ c, x = .bl c ∧ if c = true then Q (.bl true) H1 else tb σ H1 Q
theorem pe_one {op} {t : TE} (h : PE X a t) : PE X (.BoolOp op [a] pos) t := fun pins s σ H Q I hw => BoolOp_one (h pins s σ H Q I hw)
theorem pe_and (ha : PE X a ta) (hb : PE X (.BoolOp .And (b :: rest) pos) tb) : PE X (.BoolOp .And (a :: b :: rest) pos) (tAndV ta tb) := by
  intro pins s σ H Q I h
  refine BoolOp_and (thn (ha pins s σ H _ I h) fun v s1 ⟨x, H1, I1, r1, q1⟩ => ?_)
  obtain ⟨c, rfl, q1⟩ := q1
  cases r1
  refine wpAny_truthy_bool ?_
  cases c with
  | true => exact hb pins s1 σ H1 Q I1 q1
  | false => exact ⟨.bl false, H1, I1, rfl, q1⟩
theorem pe_or (ha : PE X a ta) (hb : PE X (.BoolOp .Or (b :: rest) pos) tb) : PE X (.BoolOp .Or (a :: b :: rest) pos) (tOrV ta tb) := by
  intro pins s σ H Q I h
  refine BoolOp_or (thn (ha pins s σ H _ I h) fun v s1 ⟨x, H1, I1, r1, q1⟩ => ?_)
  obtain ⟨c, rfl, q1⟩ := q1
  cases r1
  refine wpAny_truthy_bool ?_
  cases c with
  | false => exact hb pins s1 σ H1 Q I1 q1
  | true => exact ⟨.bl true, H1, I1, rfl, q1⟩
/-- a if t else b -/
def tIf (t : TT) (ta tb : TE) : TE := fun σ H Q => t σ H fun c H1 => if c = true then ta σ H1 Q else tb σ H1 Q
theorem pe_ifExp {c : Expr} (hc : PT X c tA) (ha : PE X a ta) (hb : PE X b tb) : PE X (.IfExp c a b pos) (tIf tA ta tb) := by
  intro pins s σ H Q I h
  refine wpAny_IfExp (thn (hc pins s σ H _ I h) fun d s1 ⟨H1, I1, q1⟩ => ?_)
  cases d with
  | true => exact ha pins s1 σ H1 Q I1 q1
  | false => exact hb pins s1 σ H1 Q I1 q1
end
end L2

namespace L2
open PySem PySem.Spec PyProof.Rows

/-! ### a list, a tuple that is read: tracked, frozen, or an object of the module -/
def SqL (K : PySem.W.Frag) (H : Hp) (a : Addr) (xs : List V) : Prop :=
  Rd H a (.lst xs) ∨
    ∃ (o : Obj) (its : Array Value) (n : Nat), K.lookup a = some o ∧ o.cls = .type "list" ∧ o.dict = none ∧ o.data = .seq its n ∧ its.size ≤ sizeLine ∧ Vals xs its.toList
def SqT (K : PySem.W.Frag) (H : Hp) (a : Addr) (xs : List V) : Prop :=
  Rd H a (.tup xs) ∨
    ∃ (o : Obj) (its : Array Value) (n : Nat), K.lookup a = some o ∧ o.cls = .type "tuple" ∧ o.data = .seq its n ∧ its.size ≤ sizeLine ∧ Vals xs its.toList
def absV : Value → Option V
  | .none => some .non
  | .bool b => some (.bl b)
  | .int i _ => some (.int i)
  | .str x _ => some (.str x)
  | .bytes b _ => some (.byt b)
  | .float b _ => some (.flt b)
  | .ref a => some (.ref a)
  | .type n => some (.ty n)
  | _ => none
theorem RelV.abs {x : V} {u : Value} (r : RelV x u) : absV u = some x := by
  cases x with
  | non => cases r; rfl
  | bl _ => cases r; rfl
  | int _ => obtain ⟨t, rfl⟩ := r; rfl
  | str _ => obtain ⟨t, rfl⟩ := r; rfl
  | byt _ => obtain ⟨t, rfl⟩ := r; rfl
  | flt _ => obtain ⟨t, rfl⟩ := r; rfl
  | ref _ => cases r; rfl
  | ty _ => cases r; rfl
theorem RelV.inj {x y : V} {u : Value} (r : RelV x u) (q : RelV y u) : x = y := Option.some.inj (r.abs.symm.trans q.abs)
theorem Vals.inj : ∀ {xs ys : List V} {us : List Value}, Vals xs us → Vals ys us → xs = ys
  | _, _, _, .nil, .nil => rfl
  | _, _, _, .cons r t, .cons r' t' => by rw [r.inj r', Vals.inj t t']
section
variable {X : Cx} {pins : List (Addr × Obj)} {σ : St} {H : Hp} {s : Shared} {a : Addr} {xs ys : List V}
theorem SqL.of {K : PySem.W.Frag} (h : H a = some (.lst xs)) : SqL K H a xs := .inl (.inl h)
theorem Inv.list (I : Inv X pins σ H s) (h : SqL X.K H a xs) : ∃ its : List Value, Vals xs its ∧ PlainL s.heap a its.toArray ∧ xs.length ≤ sizeLine := by
  rcases h with h | ⟨o, its, n, hk, hc, hd, hs, hz, r⟩
  · obtain ⟨z, its, n, r, e⟩ := h.ok I.hok
    exact ⟨its, r, ⟨_, n, e, rfl, rfl, rfl⟩, z⟩
  · refine ⟨its.toList, r, ⟨o, n, I.kIn a o hk, hc, hd, by simpa using hs⟩, ?_⟩
    have e := r.length
    simp only [Array.length_toList] at e
    omega
theorem Inv.tuple (I : Inv X pins σ H s) (h : SqT X.K H a xs) : ∃ its : List Value, Vals xs its ∧ IsTup s.heap a its.toArray ∧ xs.length ≤ sizeLine := by
  rcases h with h | ⟨o, its, n, hk, hc, hs, hz, r⟩
  · obtain ⟨z, its, r, p⟩ := h.ok I.hok
    exact ⟨its, r, p, z⟩
  · refine ⟨its.toList, r, ⟨o, I.kIn a o hk, hc, n, by simpa using hs⟩, ?_⟩
    have e := r.length
    simp only [Array.length_toList] at e
    omega
theorem Inv.list_inj (I : Inv X pins σ H s) (h : SqL X.K H a xs) (h' : SqL X.K H a ys) : xs = ys := by
  obtain ⟨its, r, ⟨o, n, e, _, _, d⟩, _⟩ := I.list h
  obtain ⟨its', r', ⟨o', n', e', _, _, d'⟩, _⟩ := I.list h'
  rw [e] at e'; cases e'
  rw [d] at d'
  injection d' with d1 _
  have : its = its' := by simpa using congrArg Array.toList d1
  subst this
  exact r.inj r'
end

/-! ### another wish about exceptions -/
abbrev Cx.wish (X : Cx) (E : Value → Shared → Prop) : Cx := { X with xe := E }
/-- no exception leaves -/
abbrev Cx.nox (X : Cx) : Cx := X.wish fun _ _ => False
theorem Cx.Ok.wish {X : Cx} (ok : X.Ok) (E : Value → Shared → Prop) : (X.wish E).Ok :=
  ⟨ok.mod, ok.kind, ok.glob, ok.blt, ok.above, ok.inj, ok.has, ok.cab, ok.hd, ok.frames, ok.stk, ok.exf, ok.bs, ok.bsz, ok.noex, ok.exfs, ok.funs, ok.frf⟩
theorem Cx.Ok.unwish {X : Cx} {E : Value → Shared → Prop} (ok : (X.wish E).Ok) : X.Ok :=
  ⟨ok.mod, ok.kind, ok.glob, ok.blt, ok.above, ok.inj, ok.has, ok.cab, ok.hd, ok.frames, ok.stk, ok.exf, ok.bs, ok.bsz, ok.noex, ok.exfs, ok.funs, ok.frf⟩
section
variable {X : Cx} {pins : List (Addr × Obj)} {σ : St} {H : Hp} {s : Shared} {E : Value → Shared → Prop}
theorem Inv.wish (I : Inv X pins σ H s) (E : Value → Shared → Prop) : Inv (X.wish E) pins σ H s := ⟨I.ok.wish E, I.os, I.bare, I.base, I.loc, I.cell, I.free, I.freeC, I.pin, I.hok, I.len⟩
theorem Inv.unwish (I : Inv (X.wish E) pins σ H s) : Inv X pins σ H s := ⟨I.ok.unwish, I.os, I.bare, I.base, I.loc, I.cell, I.free, I.freeC, I.pin, I.hok, I.len⟩
theorem SP.unwish {D : Ends} {f : Flow} {s' : Shared} (h : SP (X.wish E) pins D f s') : SP X pins D f s' := by
  cases f with
  | next => obtain ⟨σ', H', I, q⟩ := h; exact ⟨σ', H', I.unwish, q⟩
  | brk => obtain ⟨σ', H', I, q⟩ := h; exact ⟨σ', H', I.unwish, q⟩
  | cont => obtain ⟨σ', H', I, q⟩ := h; exact ⟨σ', H', I.unwish, q⟩
  | ret u => obtain ⟨v, σ', H', I, r, q⟩ := h; exact ⟨v, σ', H', I.unwish, r, q⟩
theorem PSs.nox {st : List Stmt} {t : TS} (h : PSs X.nox st t) : PSs X st t := fun pins s σ H D I hw =>
  wpAny_mono (h pins s σ H D (I.wish _) hw) (fun _ _ q => q.unwish) fun _ _ z => False.elim z
end

/-! ### blocks and small statements -/
section
variable {X : Cx} {st : Stmt} {rest : List Stmt} {t u : TS} {e : Expr} {te : TE} {pos : Pos}
def tNext : TS := fun D σ H => D.nx σ H
def tSeq (t u : TS) : TS := fun D σ H => t { D with nx := u D } σ H
theorem pss_nil : PSs X [] tNext := fun _ _ σ H _ I h => wpAny_execs_nil ⟨σ, H, I, h⟩
theorem pss_cons (h1 : PS X st t) (h2 : PSs X rest u) : PSs X (st :: rest) (tSeq t u) := by
  intro pins s σ H D I h
  refine wpAny_execs_cons (thn (h1 pins s σ H { D with nx := u D } I h) fun f s1 q => ?_)
  cases f with
  | next =>
    obtain ⟨σ', H', I', q⟩ := q
    exact h2 pins s1 σ' H' D I' q
  | ret v => exact q
  | brk => exact q
  | cont => exact q
theorem pss_one (h1 : PS X st t) : PSs X [st] t := by
  intro pins s σ H D I h
  refine wpAny_execs_cons (thn (h1 pins s σ H D I h) fun f s1 q => ?_)
  cases f with
  | next => exact wpAny_execs_nil q
  | ret v => exact q
  | brk => exact q
  | cont => exact q
def tCont : TS := fun D σ H => D.ct σ H
theorem ps_continue : PS X (.Continue pos) tCont := fun _ _ σ H _ I h => wpAny_Continue ⟨σ, H, I, h⟩
/-- in a def's body nothing is shown -/
theorem Inv.quiet {pins : List (Addr × Obj)} {σ : St} {H : Hp} {s : Shared} (I : Inv X pins σ H s) : interactive X.env = false := by simp [interactive, I.ok.kind]
/-- an expression whose value is dropped -/
def tDrop (te : TE) : TS := fun D σ H => te σ H fun _ H1 => D.nx σ H1
theorem ps_expr (he : PE X e te) (hs : swapsWith e none pos.line X.env = pure false := by rfl) : PS X (.Expr e pos) (tDrop te) := by
  intro pins s σ H D I h
  exact wpAny_Expr_any (thn (he pins s σ H _ I h) fun v s1 ⟨x, H1, I1, r1, q1⟩ => ⟨σ, H1, I1, q1⟩) I.quiet hs
def tRet (te : TE) : TS := fun D σ H => te σ H D.rt
theorem ps_ret (he : PE X e te) : PS X (.Return (some e) pos) (tRet te) := by
  intro pins s σ H D I h
  exact wpAny_Return_some (thn (he pins s σ H _ I h) fun v s1 ⟨x, H1, I1, r1, q1⟩ => ⟨x, σ, H1, I1, r1, q1⟩)
def tIfS (c : TT) (t u : TS) : TS := fun D σ H => c σ H fun b H1 => if b = true then t D σ H1 else u D σ H1
theorem ps_if {c : Expr} {a b : List Stmt} {tc : TT} (hc : PT X c tc) (ha : PSs X a t) (hb : PSs X b u) : PS X (.If c a b pos) (tIfS tc t u) := by
  intro pins s σ H D I h
  refine wpAny_If (thn (hc pins s σ H _ I h) fun d s1 ⟨H1, I1, q1⟩ => ?_)
  cases d with
  | true => exact ha pins s1 σ H1 D I1 q1
  | false => exact hb pins s1 σ H1 D I1 q1
end

/-! ### targets -/
abbrev TG := V → St → Hp → (St → Hp → Prop) → Prop
def PG (X : Cx) (target : Expr) (t : TG) : Prop :=
  ∀ (pins : List (Addr × Obj)) (s : Shared) (σ : St) (H : Hp) (v : V) (u : Value) (Q : St → Hp → Prop), Inv X pins σ H s → RelV v u → t v σ H Q →
    wpAny (model X.prog X.w) X.A (assign target X.env u) (fun _ s' => ∃ σ' H', Inv X pins σ' H' s' ∧ Q σ' H') X.xe s
section
variable {X : Cx} {pos : Pos}
def gName (i : Nat) : TG := fun v σ H Q => Q (σ.set i (some v)) H
theorem pg_name {i : Nat} {x : Str} (hN : X.N.Nodup) (hi : X.N[i]? = some x) (hx : Loc X.env.scope x) (hf : X.fn x = true ∨ X.env.scope.names.lookup x = some .local := by first | exact .inl rfl | exact .inr rfl | assumption) : PG X (.Name x pos) (gName i) := by
  intro pins s σ H v u Q I r h
  exact wpAny_assign_Name (store_ok I hN hi hx r (fun s' I' => ⟨_, H, I', h⟩) hf)
/-- target = value -/
def tAsg (te : TE) (g : TG) : TS := fun D σ H => te σ H fun x H1 => g x σ H1 D.nx
/-- name = value -/
theorem ps_set {i : Nat} {x : Str} {e : Expr} {te : TE} {pos' : Pos} (hN : X.N.Nodup) (hi : X.N[i]? = some x) (hx : Loc X.env.scope x) (he : PE X e te) (hs : swapsWith e (some (.Name x pos')) pos.line X.env = pure false := by rfl) (hf : X.fn x = true ∨ X.env.scope.names.lookup x = some .local := by first | exact .inl rfl | exact .inr rfl | assumption) :
    PS X (.Assign [.Name x pos'] e pos) (tAsg te (gName i)) := by
  intro pins s σ H D I h
  refine wpAny_Assign_Name (thn (he pins s σ H _ I h) fun v s1 ⟨y, H1, I1, r1, q1⟩ => ?_) hs
  exact store_ok I1 hN hi hx r1 (fun s2 I2 => ⟨_, H1, I2, q1⟩) hf
end

/-! ### while -/
section
variable {X : Cx} {pos : Pos}
/-- the invariant W with its measure -/
def tWhile (c : TT) (tb : TS) : TS := fun D σ H => ∃ W : Nat → St → Hp → Prop, (∃ m, W m σ H) ∧ ∀ m σ H, W m σ H →
  c σ H fun b H1 => if b = true then ∃ N : St → Hp → Prop, (∀ σ' H', N σ' H' → ∃ m', m' < m ∧ W m' σ' H') ∧ tb { D with nx := N, ct := N, bk := D.nx } σ H1 else D.nx σ H1
theorem ps_while {c : Expr} {body : List Stmt} {tc : TT} {tb : TS} (hp : PassesOwn (model X.prog X.w) X.A X.env X.xe) (hc : PT X c tc) (hb : PSs X body tb) : PS X (.While c body [] pos) (tWhile tc tb) := by
  intro pins s σ H D I h
  obtain ⟨W, ⟨m0, w0⟩, turn⟩ := h
  refine wpAny_While (codeAny_whileLoop (fun n s' => ∃ σ' H', Inv X pins σ' H' s' ∧ W n σ' H') ?_ m0 ⟨σ, H, I, w0⟩)
  rintro n s1 ⟨σ1, H1, I1, w1⟩
  refine wpAny_passesOwn hp (thn (hc pins s1 σ1 H1 _ I1 (turn n σ1 H1 w1)) fun b s2 ⟨H2, I2, q2⟩ => ?_)
  cases b with
  | true =>
    obtain ⟨N, hN, q2⟩ := q2
    rw [if_pos rfl]
    refine wpAny_passesOwn hp (thn (hb pins s2 σ1 H2 _ I2 q2) fun f s3 q3 => ?_)
    cases f with
    | next =>
      obtain ⟨σ3, H3, I3, n3⟩ := q3
      obtain ⟨m', hm, w3⟩ := hN σ3 H3 n3
      exact ⟨m', hm, σ3, H3, I3, w3⟩
    | cont =>
      obtain ⟨σ3, H3, I3, n3⟩ := q3
      obtain ⟨m', hm, w3⟩ := hN σ3 H3 n3
      exact ⟨m', hm, σ3, H3, I3, w3⟩
    | brk => exact q3
    | ret v => exact q3
  | false =>
    rw [if_neg Bool.false_ne_true]
    exact wpAny_execs_nil ⟨σ1, H2, I2, q2⟩
end

/-! ### what a loop or a comprehension walks -/
/-- at turn i: it yields x (the heap may grow), or it stops -/
structure It where
  go : Nat → Hp → Prop
  yld : Nat → Hp → V → Hp → Prop
  stop : Nat → Hp → Prop
/-- the iterator's own objects may turn: they are not the frame's, not pinned, younger than the entry (or a comprehension's own) -/
def FpOk (X : Cx) (pins : List (Addr × Obj)) (H : Hp) (b : Addr) : Prop :=
  H b = none ∧ b ≠ X.env.locals ∧ b ∉ X.fs ∧ (b ∈ X.ex ∨ X.s_0.heap.objs.size ≤ b) ∧ (∀ x c, X.env.cells.lookup x = some c → c ≠ b) ∧ ∀ p ∈ X.pn ++ pins, p.1 ≠ b
theorem Inv.fpOk {X : Cx} {pins : List (Addr × Obj)} {σ : St} {H H' : Hp} {s : Shared} {b : Addr} (I : Inv X pins σ H s) (hb : s.heap.objs.size ≤ b) (hn : H' b = none) : FpOk X pins H' b := by
  refine ⟨hn, Nat.ne_of_gt (Nat.lt_of_lt_of_le I.lt hb), I.nofs hb, .inr (Nat.le_trans I.sz hb), fun x c e z => ?_, fun p hp z => ?_⟩
  · obtain ⟨v, q⟩ := I.cell x c e
    exact absurd (Nat.lt_of_lt_of_le q.lt (by rw [z]; exact hb)) (Nat.lt_irrefl _)
  · exact absurd (Nat.lt_of_lt_of_le (Heap.lt_size (I.pin p hp).1) (by rw [z]; exact hb)) (Nat.lt_irrefl _)
structure Turn (P : Program) (w : World) (K : PySem.W.Frag) (tg : Expr) (J : It) (fp : List Addr) (it : Addr) (tn : Nat → Heap → Prop) : Prop where
  mem : it ∈ fp
  obj : ∀ i h, tn i h → ∀ b ∈ fp, ∃ o, h.get? b = some o ∧ ∀ v, o.data ≠ .cell v
  keep : ∀ i h h', tn i h → (∀ b ∈ fp, ∀ o, h.get? b = some o → h'.get? b = some o) → tn i h'
  item : ∀ (X : Cx), X.prog = P → X.w = w → X.K = K → X.calm = true → ∀ (i : Nat) (pins : List (Addr × Obj)) (s : Shared) (σ : St) (H : Hp) (E : Value → Shared → Prop), Inv X pins σ H s → (∀ b ∈ fp, FpOk X pins H b) → tn i s.heap → J.go i H →
    wpAny (model P w) X.A (pyNext (.ref it)) (fun r s1 => ∃ u, r = some u ∧
      wpAny (model P w) X.A (letOwnedTupleGo tg (.ref it) u) (fun _ s2 => ∃ x H', Inv X pins σ H' s2 ∧ RelV x u ∧ J.yld i H x H' ∧ tn (i + 1) s2.heap ∧ ∀ b ∈ fp, H' b = none) E s1) E s
  done : ∀ (X : Cx), X.prog = P → X.w = w → X.K = K → X.calm = true → ∀ (i : Nat) (pins : List (Addr × Obj)) (s : Shared) (σ : St) (H : Hp) (E : Value → Shared → Prop), Inv X pins σ H s → (∀ b ∈ fp, FpOk X pins H b) → tn i s.heap → J.stop i H →
    wpAny (model P w) X.A (pyNext (.ref it)) (fun r s1 => r = none ∧ Inv X pins σ H s1) E s
  self : ∀ (A : Around) (i : Nat) (s : Shared) (Q : Value → Shared → Prop) (E : Value → Shared → Prop), tn i s.heap → Q (.ref it) s → wpAny (model P w) A (pyIter (.ref it)) Q E s
abbrev TI := St → Hp → (It → Hp → Prop) → Prop
/-- an iterator has come -/
def PIE (X : Cx) (pins : List (Addr × Obj)) (σ : St) (tg : Expr) (R : It → Hp → Prop) (itv : Value) (s2 : Shared) : Prop :=
  ∃ (it : Addr) (fp : List Addr) (tn : Nat → Heap → Prop) (J : It) (H' : Hp), itv = .ref it ∧ Inv X pins σ H' s2 ∧ Turn X.prog X.w X.K tg J fp it tn ∧ tn 0 s2.heap ∧ (∀ b ∈ fp, FpOk X pins H' b) ∧ R J H'
def PI (X : Cx) (tg iter : Expr) (wi : TI) : Prop :=
  ∀ (pins : List (Addr × Obj)) (s : Shared) (σ : St) (H : Hp) (R : It → Hp → Prop), Inv X pins σ H s → wi σ H R →
    wpAny (model X.prog X.w) X.A (eval iter X.env) (fun v s1 => wpAny (model X.prog X.w) X.A (pyIter v) (PIE X pins σ tg R) X.xe s1) X.xe s

/-- the step ahead of the store is nothing for an iterator that keeps no tuple -/
theorem go_of {M : Model} {A : Around} {E : Value → Shared → Prop} {s : Shared} {tg : Expr} {it : Addr} {u : Value} {o : Obj} {n : String} {vs : Array Value} {Q : Unit → Shared → Prop} (ho : s.heap.get? it = some o) (hc : o.cls = .type n) (hd : o.data = .fields vs)
    (hn : ["enumerate", "zip", "dict_itemiterator", "dict_reverseitemiterator", "odict_iterator", "itertools.zip_longest", "itertools.pairwise"].contains n = false) (hQ : Q () s) : wpAny M A (letOwnedTupleGo tg (.ref it) u) Q E s := by
  unfold letOwnedTupleGo
  cases tg <;> first
    | exact wpAny_pure hQ
    | (cases u <;> first
        | exact wpAny_pure hQ
        | (refine wpAny_bind (wpAny_load ho ?_)
           rw [hc, hd]
           show wpAny M A (if (["enumerate", "zip", "dict_itemiterator", "dict_reverseitemiterator", "odict_iterator", "itertools.zip_longest", "itertools.pairwise"].contains n && vs[0]? == some (rawInt _)) = true then _ else _) Q E s
           rw [if_neg (by intro h; rw [hn, Bool.false_and] at h; cases h)]
           exact wpAny_pure hQ))

/-- the list at a, as it stands at each turn (a loop may append to it) -/
def Itl (K : PySem.W.Frag) (a : Addr) : It :=
  ⟨fun i H => ∃ xs x, SqL K H a xs ∧ xs[i]? = some x, fun i H x H' => H' = H ∧ ∀ xs, SqL K H a xs → xs[i]? = some x, fun i H => ∃ xs, SqL K H a xs ∧ xs.length ≤ i⟩
/-- lo, lo + 1, .. (n of them) -/
def Itr (lo : Int) (n : Nat) : It := ⟨fun i _ => i < n, fun i H x H' => H' = H ∧ x = .int (lo + i), fun i _ => n ≤ i⟩
theorem turn_list {P : Program} {w : World} {K : PySem.W.Frag} {tg : Expr} (a it : Addr) : Turn P w K tg (Itl K a) [it] it (fun i h => h.IsListIter it a i) where
  mem := by simp
  obj := fun i h st b hb => by
    have e : b = it := by simpa using hb
    subst e
    obtain ⟨o, e, c, d⟩ := st
    exact ⟨o, e, fun v z => by rw [d] at z; cases z⟩
  keep := fun i h h' st k => st.at fun o e => k it (by simp) o e
  item := by
    intro X hP hw hK hc i pins s σ H E I hf st hg
    subst hP hw hK
    obtain ⟨xs, x, hq, hx⟩ := hg
    obtain ⟨its, rv, p, hz⟩ := I.list hq
    obtain ⟨u, hu, ru⟩ := rv.get hx
    obtain ⟨f0, f1, f2, f3, f4, f5⟩ := hf it (by simp)
    refine wpAny_pyNext_list_item st p.isList (x := u) (by simpa using hu) fun h' st' sb => ?_
    have I1 : Inv X pins σ H { s with heap := h' } := I.turned (t' := s.toks) (fun b o hb e => (sb.2 b hb).trans e) f0 f1 f3 f4 f5
    obtain ⟨o, e, c, d⟩ := id st'
    exact ⟨u, rfl, go_of (s := { s with heap := h' }) e c d (by decide) ⟨x, H, I1, ru, ⟨rfl, fun ys hy => by rw [I.list_inj hy hq]; exact hx⟩, st', fun b hb => (hf b hb).1⟩⟩
  done := by
    intro X hP hw hK hc i pins s σ H E I hf st hg
    subst hP hw hK
    obtain ⟨xs, hq, hx⟩ := hg
    obtain ⟨its, rv, p, hz⟩ := I.list hq
    obtain ⟨f0, f1, f2, f3, f4, f5⟩ := hf it (by simp)
    have hl := rv.length
    exact wpAny_pyNext_list_end (I.ok.hd hc) st p.isList (by simp; omega) fun h' eb => ⟨rfl, I.turned (t' := s.toks) (fun b o hb e => eb b o hb e) f0 f1 f3 f4 f5⟩
  self := fun _ _ _ _ _ st h => wpAny_pyIter_listiter st h
theorem turn_range {P : Program} {w : World} {K : PySem.W.Frag} {tg : Expr} (it : Addr) (lo : Int) (n : Nat) : Turn P w K tg (Itr lo n) [it] it (fun i h => IsRangeIter h it (lo + (i : Nat) * 1) ((n : Int) - (i : Nat)) 1) where
  mem := by simp
  obj := fun i h st b hb => by
    have e : b = it := by simpa using hb
    subst e
    exact ⟨_, st, fun v z => by
      have z' : Data.fields _ = Data.cell v := z
      cases z'⟩
  keep := fun i h h' st k => k it (by simp) _ st
  item := by
    intro X hP hw hK hc i pins s σ H E I hf st hg
    subst hP hw hK
    obtain ⟨f0, f1, f2, f3, f4, f5⟩ := hf it (by simp)
    have W := Walks.range (prog := X.prog) (w := X.w) (I.ok.hd hc) it lo 1 n
    refine W.item i s _ _ hg st fun v h' tk hv st' kk => ?_
    obtain ⟨t, rfl⟩ := hv
    have I1 : Inv X pins σ H { s with heap := h', toks := tk } := I.turned (fun b o hb e => kk b o (by simpa using hb) e) f0 f1 f3 f4 f5
    refine ⟨_, rfl, go_of (s := { s with heap := h', toks := tk }) (n := "range_iterator") st' rfl rfl (by decide) ⟨.int (lo + i), H, I1, ⟨t, ?_⟩, ⟨rfl, rfl⟩, st', fun b hb => (hf b hb).1⟩⟩
    rw [Int.mul_one]
  done := by
    intro X hP hw hK hc i pins s σ H E I hf st hg
    subst hP hw hK
    obtain ⟨f0, f1, f2, f3, f4, f5⟩ := hf it (by simp)
    exact wpAny_pyNext_range_end (I.ok.hd hc) st (by have : n ≤ i := hg; omega) fun h' eb => ⟨rfl, I.turned (t' := s.toks) (fun b o hb e => eb b o hb e) f0 f1 f3 f4 f5⟩
  self := fun _ _ _ _ _ st h => wpAny_pyIter_rangeiter st h
end L2

namespace L2
open PySem PySem.Spec PyProof.Rows
section
variable {X : Cx} {tg : Expr}
def iList (K : PySem.W.Frag) (tl : TE) : TI := fun σ H R => tl σ H fun x H1 => ∃ a, x = .ref a ∧ (∃ xs, SqL K H1 a xs) ∧ R (Itl K a) H1
theorem pi_list {l : Expr} {tl : TE} (hl : PE X l tl) : PI X tg l (iList X.K tl) := by
  intro pins s σ H R I h
  refine thn (hl pins s σ H _ I h) fun v s1 ⟨x, H1, I1, r1, q1⟩ => ?_
  obtain ⟨a, e, ⟨xs, hq⟩, q⟩ := q1
  subst e
  cases r1
  obtain ⟨its, rv, p, hz⟩ := I1.list hq
  refine wpAny_pyIter_list p.isList ?_
  refine ⟨s1.heap.objs.size, [s1.heap.objs.size], _, _, H1, rfl, I1.kept (t' := s1.toks) fun b o e => Heap.get?_push_of_some _ e, turn_list a _, ⟨_, Heap.get?_push_size _ rfl, rfl, rfl⟩, fun b hb => ?_, q⟩
  have e : b = s1.heap.objs.size := by simpa using hb
  subst e
  exact I1.fpOk (Nat.le_refl _) (I1.hok.fresh (Nat.le_refl _))
/-- a range object just made, walked -/
theorem range_it {pins : List (Addr × Obj)} {σ : St} {H : Hp} {s : Shared} {R : It → Hp → Prop} {E : Value → Shared → Prop} {lo hi : Int} {t u v : Tok} {tk : Nat} (I : Inv X pins σ H s) (h1 : -(2 ^ 62) ≤ lo) (h2 : lo < 2 ^ 62) (h3 : -(2 ^ 62) ≤ hi) (h4 : hi < 2 ^ 62)
    (q : R (Itr lo (hi - lo).toNat) H) : wpAny (model X.prog X.w) X.A (pyIter (.ref s.heap.objs.size)) (PIE X pins σ tg R) E { s with heap := s.heap.push { cls := .type "range", data := .fields #[.int lo t, .int hi u, .int 1 v] }, toks := tk } := by
  refine wpAny_pyIter_range (IsRange.new ..) (small_one h1 h2 h3 h4) ?_
  have I1 : Inv X pins σ H { s with heap := s.heap.push { cls := .type "range", data := .fields #[.int lo t, .int hi u, .int 1 v] }, toks := tk } := I.kept fun b o e => Heap.get?_push_of_some _ e
  refine ⟨(s.heap.push { cls := .type "range", data := .fields #[.int lo t, .int hi u, .int 1 v] }).objs.size, [(s.heap.push { cls := .type "range", data := .fields #[.int lo t, .int hi u, .int 1 v] }).objs.size], _, _, H, rfl,
    I1.kept (t' := tk) fun b o e => Heap.get?_push_of_some _ e, turn_range _ lo (hi - lo).toNat, ?_, fun b hb => ?_, q⟩
  · have e1 : lo + ((0 : Nat) : Int) * 1 = lo := by simp
    have e2 : (((hi - lo).toNat : Nat) : Int) - ((0 : Nat) : Int) = Builtin.Range.rangeSize lo hi 1 := by rw [rangeSize_one]; split <;> omega
    show IsRangeIter _ _ (lo + ((0 : Nat) : Int) * 1) ((((hi - lo).toNat : Nat) : Int) - ((0 : Nat) : Int)) 1
    rw [e1, e2]
    exact Heap.get?_push_size _ rfl
  · have e : b = (s.heap.push { cls := .type "range", data := .fields #[.int lo t, .int hi u, .int 1 v] }).objs.size := by simpa using hb
    subst e
    exact I1.fpOk (Nat.le_refl _) (I1.hok.fresh (Nat.le_refl _))
def iRng1 (ta : TA) : TI := fun σ H R => ta σ H fun vs H1 => ∃ j : Int, vs = [.int j] ∧ -(2 ^ 62) ≤ j ∧ j < 2 ^ 62 ∧ R (Itr 0 j.toNat) H1
def iRng2 (ta : TA) : TI := fun σ H R => ta σ H fun vs H1 => ∃ i j : Int, vs = [.int i, .int j] ∧ (-(2 ^ 62) ≤ i ∧ i < 2 ^ 62 ∧ -(2 ^ 62) ≤ j ∧ j < 2 ^ 62) ∧ R (Itr i (j - i).toNat) H1
theorem pi_range1 {a : Expr} {ta : TA} {p pos : Pos} (hg : Gl X "range") (hm : X.mg "range" = none) (ha : PA X [a] ta) (hs : starEach [a] X.env = [(false, eval a X.env)] := by rfl) : PI X tg (.Call (.Name "range" p) [a] [] pos) (iRng1 ta) := by
  intro pins s σ H R I h
  refine Call_ (ld_blt I hg hm boot_range (PyProof.Rows.callWith_type1 (thn (ha pos pins s σ H _ I h) fun us s1 ⟨vs, H1, I1, r1, q1⟩ => ?_) hs rfl))
  obtain ⟨j, e, q1, q2, q⟩ := q1
  subst e
  cases r1 with
  | cons r rr =>
    cases rr
    obtain ⟨t, rfl⟩ := r
    exact call_range_1 (range_it I1 (by omega) (by omega) q1 q2 (by simpa using q))
theorem pi_range2 {a b : Expr} {ta : TA} {p pos : Pos} (hg : Gl X "range") (hm : X.mg "range" = none) (ha : PA X [a, b] ta) (hs : starEach [a, b] X.env = [(false, eval a X.env), (false, eval b X.env)] := by rfl) (hs2 : starEach [b] X.env = [(false, eval b X.env)] := by rfl) :
    PI X tg (.Call (.Name "range" p) [a, b] [] pos) (iRng2 ta) := by
  intro pins s σ H R I h
  refine Call_ (ld_blt I hg hm boot_range (PyProof.Rows.callWith_type1 (thn (ha pos pins s σ H _ I h) fun us s1 ⟨vs, H1, I1, r1, q1⟩ => ?_) (by rw [hs, hs2]) (by rw [hs2]; rfl)))
  obtain ⟨i, j, e, ⟨q1, q2, q3, q4⟩, q⟩ := q1
  subst e
  cases r1 with
  | cons r rr =>
    cases rr with
    | cons r' rr =>
      cases rr
      obtain ⟨t, rfl⟩ := r
      obtain ⟨t', rfl⟩ := r'
      exact call_range_2 (range_it I1 q1 q2 q3 q4 q)

/-! ### for -/
/-- W: the invariant by the turn and a measure; N: what the body is to reach -/
def tFor (wi : TI) (g : TG) (tb : TS) : TS := fun D σ H => wi σ H fun J H1 => ∃ W : Nat → Nat → St → Hp → Prop, (∃ m, W 0 m σ H1) ∧ ∀ i m σ H, W i m σ H →
  (J.stop i H ∧ D.nx σ H) ∨ (J.go i H ∧ ∃ N : St → Hp → Prop, (∀ σ' H', N σ' H' → ∃ m', m' < m ∧ W (i + 1) m' σ' H') ∧ ∀ x H', J.yld i H x H' → g x σ H' fun σ2 H2 => tb { D with nx := N, ct := N, bk := D.nx } σ2 H2)
/-- the records at fp as they stand -/
def pinsAt (fp : List Addr) (h : Heap) : List (Addr × Obj) := fp.filterMap fun b => (h.get? b).map fun o => (b, o)
theorem mem_pinsAt {fp : List Addr} {h : Heap} {b : Addr} {o : Obj} (hb : b ∈ fp) (e : h.get? b = some o) : (b, o) ∈ pinsAt fp h := List.mem_filterMap.mpr ⟨b, hb, by rw [e]; rfl⟩
theorem of_pinsAt {fp : List Addr} {h : Heap} {p : Addr × Obj} (hp : p ∈ pinsAt fp h) : p.1 ∈ fp ∧ h.get? p.1 = some p.2 := by
  obtain ⟨b, hb, e⟩ := List.mem_filterMap.mp hp
  cases q : h.get? b with
  | none => rw [q] at e; cases e
  | some o =>
    rw [q] at e
    have e' : (b, o) = p := Option.some.inj e
    subst e'
    exact ⟨hb, q⟩
theorem Inv.pinned {pins : List (Addr × Obj)} {σ : St} {H : Hp} {s : Shared} {fp : List Addr} (I : Inv X pins σ H s) (hf : ∀ b ∈ fp, FpOk X pins H b) (ho : ∀ b ∈ fp, ∃ o, s.heap.get? b = some o ∧ ∀ v, o.data ≠ .cell v) : Inv X (pins ++ pinsAt fp s.heap) σ H s :=
  I.pins_of fun p hp => (List.mem_append.mp hp).elim (fun z => I.pin p (List.mem_append_right _ z)) fun z => by
    obtain ⟨hb, e⟩ := of_pinsAt z
    obtain ⟨f0, f1, f2, _⟩ := hf p.1 hb
    obtain ⟨o, e', d⟩ := ho p.1 hb
    rw [e] at e'; cases e'
    exact ⟨e, f0, f1, f2, d⟩
theorem Inv.unpinned {pins pl : List (Addr × Obj)} {σ : St} {H : Hp} {s : Shared} (I : Inv X (pins ++ pl) σ H s) : Inv X pins σ H s := I.pins_of fun p hp => I.pin p (List.mem_append_right _ (List.mem_append_left _ hp))
theorem ps_for {iter : Expr} {body : List Stmt} {wi : TI} {g : TG} {tb : TS} {pos : Pos} (hp : PassesOwn (model X.prog X.w) X.A X.env X.xe) (hc : X.calm = true) (hi : PI X tg iter wi) (hg : PG X tg g) (hb : PSs X body tb)
    (hs : ∀ x, foldedSetIterable iter X.env x = pure x := by intro _; rfl) : PS X (.For tg iter body [] pos) (tFor wi g tb) := by
  intro pins s σ H D I h
  refine wpAny_For (thn (hi pins s σ H _ I h) fun v s1 h1 => thn h1 fun itv s2 h2 => ?_) hs
  obtain ⟨it, fp, tn, J, H2, e, I2, T, st2, f2, W, ⟨m0, w0⟩, turn⟩ := h2
  subst e
  -- what stays true of the iterator's objects through the loop
  have stat : ∀ {H' : Hp}, (∀ b ∈ fp, H' b = none) → ∀ b ∈ fp, FpOk X pins H' b := fun hn b hb => ⟨hn b hb, (f2 b hb).2⟩
  refine codeAny_forLoop_any (fun n s' => ∃ i σ' H', Inv X pins σ' H' s' ∧ tn i s'.heap ∧ (∀ b ∈ fp, H' b = none) ∧ W i n σ' H') ?_ m0 ⟨0, σ, H2, I2, st2, fun b hb => (f2 b hb).1, w0⟩
  rintro n s3 ⟨i, σ3, H3, I3, st3, fr3, w3⟩
  rcases turn i n σ3 H3 w3 with ⟨stop, qn⟩ | ⟨go, N, hN, step⟩
  · refine wpAny_passesOwn hp (thn (T.done X rfl rfl rfl hc i pins s3 σ3 H3 X.xe I3 (stat fr3) st3 stop) fun r s4 ⟨hr, I4⟩ => ?_)
    subst hr
    exact wpAny_execs_nil ⟨σ3, H3, I4, qn⟩
  · refine wpAny_passesOwn hp (thn (T.item X rfl rfl rfl hc i pins s3 σ3 H3 X.xe I3 (stat fr3) st3 go) fun r s4 ⟨u, hr, h4⟩ => ?_)
    subst hr
    refine wpAny_passesOwn hp (thn h4 fun _ s5 ⟨x, H5, I5, r5, y5, st5, fr5⟩ => ?_)
    have I5' := I5.pinned (stat fr5) (T.obj _ _ st5)
    refine wpAny_passesOwn hp (thn (hg _ s5 σ3 H5 x u _ I5' r5 (step x H5 y5)) fun _ s6 ⟨σ6, H6, I6, q6⟩ => ?_)
    refine wpAny_passesOwn hp (thn (hb _ s6 σ6 H6 _ I6 q6) fun f s7 q7 => ?_)
    have again : ∀ {σ7 : St} {H7 : Hp}, Inv X (pins ++ pinsAt fp s5.heap) σ7 H7 s7 → N σ7 H7 → ∃ m, m < n ∧ ∃ i σ' H', Inv X pins σ' H' s7 ∧ tn i s7.heap ∧ (∀ b ∈ fp, H' b = none) ∧ W i m σ' H' := fun {σ7 H7} I7 n7 => by
      obtain ⟨m', hm, w7⟩ := hN σ7 H7 n7
      refine ⟨m', hm, i + 1, σ7, H7, I7.unpinned, T.keep _ _ _ st5 fun b hb o e => (I7.pin (b, o) (List.mem_append_right _ (List.mem_append_right _ (mem_pinsAt hb e)))).1, fun b hb => ?_, w7⟩
      obtain ⟨o, e, d⟩ := T.obj _ _ st5 b hb
      exact (I7.pin (b, o) (List.mem_append_right _ (List.mem_append_right _ (mem_pinsAt hb e)))).2.1
    cases f with
    | next => obtain ⟨σ7, H7, I7, n7⟩ := q7; exact again I7 n7
    | cont => obtain ⟨σ7, H7, I7, n7⟩ := q7; exact again I7 n7
    | brk => obtain ⟨σ7, H7, I7, q7⟩ := q7; exact ⟨σ7, H7, I7.unpinned, q7⟩
    | ret v => obtain ⟨x7, σ7, H7, I7, r7, q7⟩ := q7; exact ⟨x7, σ7, H7, I7.unpinned, r7, q7⟩
end

/-! ### the forms one uses -/
/-- over a list that the body leaves as it is -/
theorem for_list {K : PySem.W.Frag} {a : Addr} {xs : List V} {g : TG} {tb : TS} {D : Ends} {σ : St} {H : Hp} (Pv : Nat → St → Hp → Prop) (h0 : Pv 0 σ H) (hl : ∀ i σ H, i ≤ xs.length → Pv i σ H → SqL K H a xs)
    (hs : ∀ i x σ H, xs[i]? = some x → Pv i σ H → g x σ H fun σ2 H2 => tb { D with nx := Pv (i + 1), ct := Pv (i + 1), bk := D.nx } σ2 H2) (hd : ∀ σ H, Pv xs.length σ H → D.nx σ H) :
    ∃ W : Nat → Nat → St → Hp → Prop, (∃ m, W 0 m σ H) ∧ ∀ i m σ H, W i m σ H →
      ((Itl K a).stop i H ∧ D.nx σ H) ∨ ((Itl K a).go i H ∧ ∃ N : St → Hp → Prop, (∀ σ' H', N σ' H' → ∃ m', m' < m ∧ W (i + 1) m' σ' H') ∧ ∀ x H', (Itl K a).yld i H x H' → g x σ H' fun σ2 H2 => tb { D with nx := N, ct := N, bk := D.nx } σ2 H2) := by
  refine ⟨fun i m σ H => m = xs.length - i ∧ i ≤ xs.length ∧ Pv i σ H, ⟨xs.length, by simp, Nat.zero_le _, h0⟩, ?_⟩
  rintro i m σ H ⟨rfl, hi, p⟩
  have q := hl i σ H hi p
  by_cases hlt : i < xs.length
  · refine .inr ⟨⟨xs, xs[i], q, by simp [hlt]⟩, Pv (i + 1), fun σ' H' p' => ⟨xs.length - (i + 1), by omega, rfl, hlt, p'⟩, fun x H' y => ?_⟩
    obtain ⟨e, y⟩ := y
    subst e
    exact hs i x σ _ (y xs q) p
  · have e : i = xs.length := by omega
    subst e
    exact .inl ⟨⟨xs, q, Nat.le_refl _⟩, hd σ H p⟩
theorem for_range {lo : Int} {n : Nat} {g : TG} {tb : TS} {D : Ends} {σ : St} {H : Hp} (Pv : Nat → St → Hp → Prop) (h0 : Pv 0 σ H)
    (hs : ∀ i σ H, i < n → Pv i σ H → g (.int (lo + i)) σ H fun σ2 H2 => tb { D with nx := Pv (i + 1), ct := Pv (i + 1), bk := D.nx } σ2 H2) (hd : ∀ σ H, Pv n σ H → D.nx σ H) :
    ∃ W : Nat → Nat → St → Hp → Prop, (∃ m, W 0 m σ H) ∧ ∀ i m σ H, W i m σ H →
      ((Itr lo n).stop i H ∧ D.nx σ H) ∨ ((Itr lo n).go i H ∧ ∃ N : St → Hp → Prop, (∀ σ' H', N σ' H' → ∃ m', m' < m ∧ W (i + 1) m' σ' H') ∧ ∀ x H', (Itr lo n).yld i H x H' → g x σ H' fun σ2 H2 => tb { D with nx := N, ct := N, bk := D.nx } σ2 H2) := by
  refine ⟨fun i m σ H => m = n - i ∧ i ≤ n ∧ Pv i σ H, ⟨n, by simp, Nat.zero_le _, h0⟩, ?_⟩
  rintro i m σ H ⟨rfl, hi, p⟩
  by_cases hlt : i < n
  · refine .inr ⟨hlt, Pv (i + 1), fun σ' H' p' => ⟨n - (i + 1), by omega, rfl, hlt, p'⟩, fun x H' y => ?_⟩
    obtain ⟨e, y⟩ := y
    subst e y
    exact hs i σ _ hlt p
  · have e : i = n := by omega
    subst e
    exact .inl ⟨Nat.le_refl _, hd σ H p⟩
/-- while, by a word and a measure of the state -/
theorem while_by {c : TT} {tb : TS} {D : Ends} {σ : St} {H : Hp} (Pv : St → Hp → Prop) (μ : St → Hp → Nat) (h0 : Pv σ H)
    (hs : ∀ σ H, Pv σ H → c σ H fun b H1 => if b = true then tb { D with nx := fun σ' H' => Pv σ' H' ∧ μ σ' H' < μ σ H, ct := fun σ' H' => Pv σ' H' ∧ μ σ' H' < μ σ H, bk := D.nx } σ H1 else D.nx σ H1)
    (mono : ∀ σ H Q Q', (∀ b H1, Q b H1 → Q' b H1) → c σ H Q → c σ H Q') : tWhile c tb D σ H := by
  refine ⟨fun m σ H => m = μ σ H ∧ Pv σ H, ⟨_, rfl, h0⟩, ?_⟩
  rintro m σ H ⟨rfl, p⟩
  refine mono σ H _ _ (fun b H1 q => ?_) (hs σ H p)
  cases b with
  | true => exact ⟨_, fun σ' H' ⟨p', l⟩ => ⟨_, l, rfl, p'⟩, q⟩
  | false => exact q
end L2

namespace L2
open PySem PySem.Spec PyProof.Rows

abbrev R2 := V → V → Hp → VK → Prop
/-- a two-place operation on values: f is binaryOp op, inplaceOp op or compareOp op -/
def OpR (X : Cx) (f : Value → Value → Sem Value) (r : R2) : Prop :=
  ∀ (pins : List (Addr × Obj)) (s : Shared) (σ : St) (H : Hp) (x y : V) (v u : Value) (Q : VK), Inv X pins σ H s → RelV x v → RelV y u → r x y H Q →
    wpAny (model X.prog X.w) X.A (f v u) (EP X pins σ Q) X.xe s
/-- a one-place operation -/
def UnR (X : Cx) (f : Value → Sem Value) (r : V → Hp → VK → Prop) : Prop :=
  ∀ (pins : List (Addr × Obj)) (s : Shared) (σ : St) (H : Hp) (x : V) (v : Value) (Q : VK), Inv X pins σ H s → RelV x v → r x H Q →
    wpAny (model X.prog X.w) X.A (f v) (EP X pins σ Q) X.xe s
/-- a call of a value that is known (a builtin, a type) with values -/
def CallR (X : Cx) (f : Value) (r : List V → Hp → VK → Prop) : Prop :=
  ∀ (pins : List (Addr × Obj)) (s : Shared) (σ : St) (H : Hp) (xs : List V) (us : List Value) (Q : VK), Inv X pins σ H s → Vals xs us → r xs H Q →
    wpAny (model X.prog X.w) X.A (call f us) (EP X pins σ Q) X.xe s
def tOp (r : R2) (ta tb : TE) : TE := fun σ H Q => ta σ H fun x H1 => tb σ H1 fun y H2 => r x y H2 Q
def tUn (r : V → Hp → VK → Prop) (ta : TE) : TE := fun σ H Q => ta σ H fun x H1 => r x H1 Q
def rI0 (g : Int → Int → V) : R2 := fun x y H Q => ∃ i j, x = .int i ∧ y = .int j ∧ Q (g i j) H
def rU (g : Int → V) : V → Hp → VK → Prop := fun x H Q => ∃ i, x = .int i ∧ Q (g i) H

section
variable {X : Cx} {a b c : Expr} {ta tb tc : TE} {pos : Pos}

theorem binT (ha : PE X a ta) (hb : PE X b tb) {pins : List (Addr × Obj)} {s : Shared} {σ : St} {H : Hp} {R : V → V → Hp → Prop} (I : Inv X pins σ H s)
    (h : ta σ H fun x H1 => tb σ H1 fun y H2 => R x y H2) {Q : Value → Shared → Prop} {f : Value → Value → Sem Value}
    (hf : ∀ v u s2 x y H2, Inv X pins σ H2 s2 → RelV x v → RelV y u → R x y H2 → wpAny (model X.prog X.w) X.A (f v u) Q X.xe s2) :
    wpAny (model X.prog X.w) X.A (eval a X.env) (fun v s₁ => wpAny (model X.prog X.w) X.A (eval b X.env) (fun u s₂ => wpAny (model X.prog X.w) X.A (f v u) Q X.xe s₂) X.xe s₁) X.xe s := by
  refine thn (ha pins s σ H _ I h) fun v s1 ⟨x, H1, I1, r1, q1⟩ => ?_
  refine thn (hb pins s1 σ H1 _ I1 q1) fun u s2 ⟨y, H2, I2, r2, q2⟩ => ?_
  exact hf v u s2 x y H2 I2 r1 r2 q2

theorem pe_op {op : Operator} {r : R2} (ho : OpR X (binaryOp op) r) (ha : PE X a ta) (hb : PE X b tb) : PE X (.BinOp a op b pos) (tOp r ta tb) := by
  intro pins s σ H Q I h
  exact wpAny_BinOp (binT ha hb I h fun v u s2 x y H2 I2 rx ry q => ho pins s2 σ H2 x y v u Q I2 rx ry q)
theorem pe_un {op : UnaryOp} {r : V → Hp → VK → Prop} (ho : UnR X (unaryOp op) r) (ha : PE X a ta) : PE X (.UnaryOp op a pos) (tUn r ta) := by
  intro pins s σ H Q I h
  exact UnaryOp_ (thn (ha pins s σ H _ I h) fun v s1 ⟨x, H1, I1, r1, q1⟩ => ho pins s1 σ H1 x v Q I1 r1 q1)
/-! ### ints -/
theorem opI0 {f : Value → Value → Sem Value} {g : Int → Int → Int}
    (rule : ∀ (i j : Int) (t u : Tok) (s : Shared) (Q : Value → Shared → Prop) (E : Value → Shared → Prop), Q (.int (g i j) s.toks) { s with toks := s.toks + 1 } → wpAny (model X.prog X.w) X.A (f (.int i t) (.int j u)) Q E s) :
    OpR X f (rI0 fun i j => .int (g i j)) := by
  intro pins s σ H x y v u Q I rx ry h
  obtain ⟨i, j, rfl, rfl, q⟩ := h
  obtain ⟨t, rfl⟩ := rx
  obtain ⟨t', rfl⟩ := ry
  exact rule i j t t' s _ _ ⟨.int (g i j), H, I.tok _, ⟨_, rfl⟩, q⟩
theorem opB0 {f : Value → Value → Sem Value} {g : Int → Int → Bool}
    (rule : ∀ (i j : Int) (t u : Tok) (s : Shared) (Q : Value → Shared → Prop) (E : Value → Shared → Prop), Q (.bool (g i j)) s → wpAny (model X.prog X.w) X.A (f (.int i t) (.int j u)) Q E s) :
    OpR X f (rI0 fun i j => .bl (g i j)) := by
  intro pins s σ H x y v u Q I rx ry h
  obtain ⟨i, j, rfl, rfl, q⟩ := h
  obtain ⟨t, rfl⟩ := rx
  obtain ⟨t', rfl⟩ := ry
  exact rule i j t t' s _ _ ⟨.bl (g i j), H, I, rfl, q⟩

theorem op_add : OpR X (binaryOp .Add) (rI0 fun i j => .int (i + j)) := opI0 fun _ _ _ _ _ _ _ q => add_int q
theorem op_sub : OpR X (binaryOp .Sub) (rI0 fun i j => .int (i - j)) := opI0 fun _ _ _ _ _ _ _ q => sub_int q
theorem unI {f : Value → Sem Value} {g : Int → Int}
    (rule : ∀ (i : Int) (t : Tok) (s : Shared) (Q : Value → Shared → Prop) (E : Value → Shared → Prop), Q (.int (g i) s.toks) { s with toks := s.toks + 1 } → wpAny (model X.prog X.w) X.A (f (.int i t)) Q E s) :
    UnR X f (rU fun i => .int (g i)) := by
  intro pins s σ H x v Q I rx h
  obtain ⟨i, rfl, q⟩ := h
  obtain ⟨t, rfl⟩ := rx
  exact rule i t s _ _ ⟨.int (g i), H, I.tok _, ⟨_, rfl⟩, q⟩
theorem un_neg : UnR X (unaryOp .USub) (rU fun i => .int (-i)) := unI fun _ _ _ _ _ q => neg_int q
/-! ### bools among ints: n += (a < b) -/
end

/-! ### comparisons -/
/-- the scalars that == tells apart as data does -/
def scal : V → V → Bool
  | .non, .non => true | .non, .int _ => true | .int _, .non => true | .non, .bl _ => true | .bl _, .non => true | .non, .str _ => true | .str _, .non => true
  | .int _, .int _ => true | .bl _, .bl _ => true | .str _, .str _ => true | .byt _, .byt _ => true
  | .int _, .str _ => true | .str _, .int _ => true | .bl _, .str _ => true | .str _, .bl _ => true
  | _, _ => false
def rEq : R2 := fun x y H Q => scal x y = true ∧ Q (.bl (decide (x = y))) H
def rNe : R2 := fun x y H Q => scal x y = true ∧ Q (.bl (!decide (x = y))) H

theorem dec_int {i j : Int} : decide (V.int i = V.int j) = (i == j) := by
  rw [Bool.eq_iff_iff]
  simp
theorem dec_bl {i j : Bool} : decide (V.bl i = V.bl j) = (i == j) := by
  rw [Bool.eq_iff_iff]
  simp
theorem dec_str {i j : Str} : decide (V.str i = V.str j) = (i == j) := by
  rw [Bool.eq_iff_iff]
  simp
theorem dec_byt {i j : Array UInt8} : decide (V.byt i = V.byt j) = (i.toList == j.toList) := by
  rw [Bool.eq_iff_iff]
  cases i
  cases j
  simp

section
variable {X : Cx} {a b c : Expr} {ta tb tc : TE} {pos : Pos}
theorem fin_bl {pins : List (Addr × Obj)} {σ : St} {H : Hp} {s : Shared} {Q : VK} {k k' : Bool} (I : Inv X pins σ H s) (q : Q (.bl k) H) (e : k = k') : EP X pins σ Q (.bool k') s := by
  subst e
  exact ⟨.bl k, H, I, rfl, q⟩
theorem op_eq : OpR X (compareOp .Eq) rEq := by
  intro pins s σ H x y v u Q I rx ry h
  obtain ⟨hs, q⟩ := h
  cases x with
  | non =>
    cases rx
    cases y with
    | non => cases ry; exact PySem.EqNone.eq_none_none (fin_bl I q (by simp))
    | bl j => cases ry; exact PySem.EqNone.eq_none_bool (fin_bl I q (by simp))
    | int j => obtain ⟨t', rfl⟩ := ry; exact PySem.EqNone.eq_none_int (fin_bl I q (by simp))
    | str j => obtain ⟨t', rfl⟩ := ry; exact PySem.EqNone.eq_none_str (fin_bl I q (by simp))
    | _ => exact absurd (show false = true from hs) Bool.false_ne_true
  | bl i =>
    cases rx
    cases y with
    | non => cases ry; exact PySem.EqNone.eq_bool_none (fin_bl I q (by simp))
    | bl j => cases ry; exact eq_bool (fin_bl I q dec_bl)
    | str j => obtain ⟨t', rfl⟩ := ry; exact PySem.EqMixed.eq_bool_str (fin_bl I q (by simp))
    | _ => exact absurd (show false = true from hs) Bool.false_ne_true
  | int i =>
    obtain ⟨t, rfl⟩ := rx
    cases y with
    | non => cases ry; exact PySem.EqNone.eq_int_none (fin_bl I q (by simp))
    | int j => obtain ⟨t', rfl⟩ := ry; exact eq_int (fin_bl I q dec_int)
    | str j => obtain ⟨t', rfl⟩ := ry; exact PySem.EqMixed.eq_int_str (fin_bl I q (by simp))
    | _ => exact absurd (show false = true from hs) Bool.false_ne_true
  | str i =>
    obtain ⟨t, rfl⟩ := rx
    cases y with
    | non => cases ry; exact PySem.EqNone.eq_str_none (fin_bl I q (by simp))
    | bl j => cases ry; exact PySem.EqMixed.eq_str_bool (fin_bl I q (by simp))
    | int j => obtain ⟨t', rfl⟩ := ry; exact PySem.EqMixed.eq_str_int (fin_bl I q (by simp))
    | str j => obtain ⟨t', rfl⟩ := ry; exact eq_str (fin_bl I q dec_str)
    | _ => exact absurd (show false = true from hs) Bool.false_ne_true
  | byt i =>
    obtain ⟨t, rfl⟩ := rx
    cases y with
    | byt j => obtain ⟨t', rfl⟩ := ry; exact PySem.W.eq_bytes (fin_bl I q dec_byt)
    | _ => exact absurd (show false = true from hs) Bool.false_ne_true
  | _ => cases y <;> exact absurd (show false = true from hs) Bool.false_ne_true
theorem op_ne : OpR X (compareOp .NotEq) rNe := by
  intro pins s σ H x y v u Q I rx ry h
  obtain ⟨hs, q⟩ := h
  cases x with
  | non =>
    cases rx
    cases y with
    | non => cases ry; exact PySem.EqNone.ne_none_none (fin_bl I q (by simp))
    | bl j => cases ry; exact PySem.EqNone.ne_none_bool (fin_bl I q (by simp))
    | int j => obtain ⟨t', rfl⟩ := ry; exact PySem.EqNone.ne_none_int (fin_bl I q (by simp))
    | str j => obtain ⟨t', rfl⟩ := ry; exact PySem.EqNone.ne_none_str (fin_bl I q (by simp))
    | _ => exact absurd (show false = true from hs) Bool.false_ne_true
  | bl i =>
    cases rx
    cases y with
    | non => cases ry; exact PySem.EqNone.ne_bool_none (fin_bl I q (by simp))
    | bl j => cases ry; exact ne_bool (fin_bl I q (congrArg not dec_bl))
    | str j => obtain ⟨t', rfl⟩ := ry; exact PySem.EqMixed.ne_bool_str (fin_bl I q (by simp))
    | _ => exact absurd (show false = true from hs) Bool.false_ne_true
  | int i =>
    obtain ⟨t, rfl⟩ := rx
    cases y with
    | non => cases ry; exact PySem.EqNone.ne_int_none (fin_bl I q (by simp))
    | int j => obtain ⟨t', rfl⟩ := ry; exact ne_int (fin_bl I q (congrArg not dec_int))
    | str j => obtain ⟨t', rfl⟩ := ry; exact PySem.EqMixed.ne_int_str (fin_bl I q (by simp))
    | _ => exact absurd (show false = true from hs) Bool.false_ne_true
  | str i =>
    obtain ⟨t, rfl⟩ := rx
    cases y with
    | non => cases ry; exact PySem.EqNone.ne_str_none (fin_bl I q (by simp))
    | bl j => cases ry; exact PySem.EqMixed.ne_str_bool (fin_bl I q (by simp))
    | int j => obtain ⟨t', rfl⟩ := ry; exact PySem.EqMixed.ne_str_int (fin_bl I q (by simp))
    | str j => obtain ⟨t', rfl⟩ := ry; exact ne_str (fin_bl I q (congrArg not dec_str))
    | _ => exact absurd (show false = true from hs) Bool.false_ne_true
  | byt i =>
    obtain ⟨t, rfl⟩ := rx
    cases y with
    | byt j => obtain ⟨t', rfl⟩ := ry; exact PySem.W.ne_bytes (fin_bl I q (congrArg not dec_byt))
    | _ => exact absurd (show false = true from hs) Bool.false_ne_true
  | _ => cases y <;> exact absurd (show false = true from hs) Bool.false_ne_true

theorem op_lt : OpR X (compareOp .Lt) (rI0 fun i j => .bl (decide (i < j))) := opB0 fun _ _ _ _ _ _ _ q => lt_int q
theorem op_le : OpR X (compareOp .LtE) (rI0 fun i j => .bl (decide (i ≤ j))) := opB0 fun _ _ _ _ _ _ _ q => le_int q
theorem op_gt : OpR X (compareOp .Gt) (rI0 fun i j => .bl (decide (j < i))) := opB0 fun _ _ _ _ _ _ _ q => gt_int q
theorem op_ge : OpR X (compareOp .GtE) (rI0 fun i j => .bl (decide (j ≤ i))) := opB0 fun _ _ _ _ _ _ _ q => ge_int q
theorem nomark (b : Expr) {op : CmpOp} (h : op ≠ .In := by decide) (h2 : op ≠ .NotIn := by decide) : behindInMarks op b = false := by
  have e1 : (op == CmpOp.In) = false := by cases op <;> first | rfl | exact absurd rfl h
  have e2 : (op == CmpOp.NotIn) = false := by cases op <;> first | rfl | exact absurd rfl h2
  cases b <;> simp [behindInMarks, e1, e2]
/-- a comparison as a value; hm: nomark b, or (for in, not in) by with_unfolding_all rfl -/
theorem pe_cmpR {op : CmpOp} {r : R2} (ho : OpR X (compareOp op) r) (ha : PE X a ta) (hb : PE X b tb) (hm : behindInMarks op b = false) : PE X (.Compare a [op] [b] pos) (tOp r ta tb) := by
  intro pins s σ H Q I h
  exact wpAny_Compare1 (binT ha hb I h fun v u s2 x y H2 I2 rx ry q => ho pins s2 σ H2 x y v u Q I2 rx ry q) hm
/-- a reading of a value as a test -/
def tTest (t : TE) : TT := fun σ H Q => t σ H fun x H' => ∃ k, x = .bl k ∧ Q k H'
theorem pt_cmpR {op : CmpOp} {r : R2} (ho : OpR X (compareOp op) r) (ha : PE X a ta) (hb : PE X b tb) (hm : behindInMarks op b = false) : PT X (.Compare a [op] [b] pos) (tTest (tOp r ta tb)) := by
  intro pins s σ H Q I h
  refine wpAny_isTrue_Compare1 (thn (ha pins s σ H _ I h) fun v s1 ⟨x, H1, I1, r1, q1⟩ => thn (hb pins s1 σ H1 _ I1 q1) fun u s2 ⟨y, H2, I2, r2, q2⟩ =>
    thn (ho pins s2 σ H2 x y v u _ I2 r1 r2 q2) fun c s3 ⟨z, H3, I3, r3, k, e, q3⟩ => ?_) hm
  subst e
  cases r3
  exact wpAny_truthy_bool ⟨H3, I3, q3⟩
/-! ### truth -/
theorem line63 : (sizeLine : Nat) < 2 ^ 63 := by rw [sizeLine_eq]; decide
/-! ### strs and bytes -/
/-! ### scalar builtins, by CallR -/
theorem vals1 {x : V} {us : List Value} (r : Vals [x] us) : ∃ u, us = [u] ∧ RelV x u := by
  cases r with
  | cons r1 r2 => cases r2; exact ⟨_, rfl, r1⟩
end
end L2

namespace L2
open PySem PySem.Spec PyProof.Rows

/-! ### an instance, its attributes a map -/
structure ObjM (h : Heap) (x dx C : Addr) (mA : Str → Option Value) : Prop where
  obj : h.get? x = some (PySem.W.instObj C dx)
  ns : h.Ns1 dx mA
  ne : dx ≠ x

theorem lookIn_ns {h : Heap} {dx : Addr} {mA : Str → Option Value} (n : h.Ns1 dx mA) : ∃ od, h.get? dx = some od ∧ ∀ name, PySem.W.lookIn name od = some (mA name) := by
  obtain ⟨o, es, ep, ho, hd, hk, _, hm⟩ := n
  refine ⟨o, ho, fun name => ?_⟩
  have e := hm name
  unfold nsFind findBy at e
  rw [← Array.find?_toList] at e
  unfold PySem.W.lookIn
  rw [hd]
  dsimp only
  split
  · rename_i y q
    rw [q] at e
    exact congrArg some e
  · rename_i q
    rw [q] at e
    have a : es.toList.any (·.refKey) = false := by
      rw [List.any_eq_false]
      intro y hy
      obtain ⟨z, t, hkey⟩ := hk y (Array.mem_toList_iff.mp hy)
      simp [DictEntry.refKey, hkey]
    have a' : ¬ es.toList.any (·.refKey) = true := by rw [a]; exact Bool.false_ne_true
    rw [if_neg a']
    exact congrArg some e

theorem ObjM.look {h : Heap} {x dx C : Addr} {mA : Str → Option Value} (I : ObjM h x dx C mA) : ∃ od, PySem.W.InstAt h x (PySem.W.instObj C dx) C (some od) ∧ ∀ name, PySem.W.lookIn name od = some (mA name) :=
  let ⟨od, ho, hl⟩ := lookIn_ns I.ns
  ⟨od, ⟨I.obj, rfl, rfl, ho⟩, hl⟩

section
variable {prog : Program} {w : World} {A : Around} {E : Value → Shared → Prop} {s : Shared} {K : PySem.W.Frag} {x dx C f : Addr} {mA : Str → Option Value} {name : Str} {v : Value}

theorem get_map {expr : Bool} {Q : Value → Shared → Prop} (X : K.In s.heap) (I : ObjM s.heap x dx C mA) (hg : PySem.W.plainGet K C name = true) (hh : PySem.W.hasDictIn K C = true)
    (ha : PySem.W.findIn K (.ref C) name = some none) (hv : mA name = some v) (hv' : PySem.W.handedIn v = true) (h : Q v { s with toks := s.toks + 1 }) :
    wpAny (model prog w) A (getAttr (.ref x) name expr) Q E s := by
  obtain ⟨od, J, hl⟩ := I.look
  exact PySem.W.get_value X J (PySem.W.plainGet_of hg).1 (PySem.W.findObj_own hh ha rfl (by rw [hl, hv])) hv' h

theorem set_map {ns : List Str} {Q : Unit → Shared → Prop} (X : K.In s.heap) (I : ObjM s.heap x dx C mA)
    (hs : PySem.W.findIn K (.ref C) "__setattr__" = some (some (.builtin "object.__setattr__"))) (hp : PySem.W.plainOver K C = true) (ht : PySem.W.takerIn K C name = some none) (hh : PySem.W.hasDictIn K C = true)
    (hw : PySem.Within mA ns) (hsz : ns.length ≤ sizeLine)
    (h : ∀ h', ObjM h' x dx C (fun y => if y = name then some v else mA y) → Heap.SameBut dx s.heap h' → Q () { s with heap := h', toks := s.toks + 2 }) :
    wpAny (model prog w) A (setAttr (.ref x) name v) Q E s := by
  obtain ⟨od, J, hl⟩ := I.look
  refine PySem.W.set_plain X J hs (PySem.W.osa_open (s := { s with toks := s.toks + 1 }) (r := none) X J hp ht fun b => ?_)
  obtain ⟨cd, hc, hd'⟩ := PySem.W.any_some hh
  have hx : s.heap.get? x = some ⟨.ref C, some dx, .plain, #[]⟩ := I.obj
  refine wpAny_bind (wpAny_pure (wpAny_bind (wpAny_bind (wpAny_loadPart hx (wpAny_bind (PySem.W.Looks.here (s := { s with toks := s.toks + 1 }) (PySem.W.looks_clsIn X hc) ?_))))))
  rw [hd']
  refine wpAny_pure (a := some dx) (wpAny_bind (wpAny_pure (wpAny_bind ?_)))
  refine wpAny_nsSet1 (s := { s with toks := s.toks + 1 }) I.ns fun h' hn2 hs2 => ?_
  obtain ⟨oD, esD, epD, hoD, hdD, hcD⟩ := hn2.count (PySem.Within.cons name v hw)
  refine wpAny_bind (wpAny_lookBehind hoD (by rw [hdD]; exact pastItsLine_dict (Nat.le_trans hcD (by rw [List.length_cons]; omega))) ?_)
  exact wpAny_pure (h _ ⟨(hs2.2 _ (Ne.symm I.ne)).trans I.obj, hn2, I.ne⟩ hs2)

/-- C(..): the dict at the heap's end, the instance behind it; then its __init__ -/
theorem make_map {R : Result → Shared → Prop} {vs : List Value} {kw : List (Str × Value)} (X : K.In s.heap) (hm : PySem.W.makesIn K C = true)
    (hi : PySem.W.findIn K (.ref C) "__init__" = some (some (.ref f))) (hf : PySem.W.typeIn K (.ref f) = some (.type "function"))
    (h : codeAny (model prog w) (A.under (.builtin "type.__call__" ⟨.ref C :: vs, kw⟩)) (.call (.ref f) ⟨.ref (s.heap.objs.size + 1) :: vs, kw⟩) (PySem.W.InitBack (s.heap.objs.size + 1) R)
      { s with heap := (s.heap.push PySem.W.emptyDict).push (PySem.W.instObj C s.heap.objs.size) }) :
    codeAny (model prog w) A (.call (.ref C) ⟨vs, kw⟩) R s := by
  obtain ⟨hh, g, d, t, os⟩ := s
  exact PySem.W.make_core (PySem.W.makes_of X hm) (PySem.W.looks_findIn X hi) (fun self => PySem.W.bind_fn X self hf) (.inl rfl) h
end

/-! ### the attributes as a list of pairs -/
def putF (f : Str) (v : V) : List (Str × V) → List (Str × V)
  | [] => [(f, v)]
  | (g, x) :: r => if g = f then (g, v) :: r else (g, x) :: putF f v r
theorem lookup_putF (f g : Str) (v : V) : ∀ fs : List (Str × V), (putF f v fs).lookup g = if g = f then some v else fs.lookup g
  | [] => by
    show List.lookup g [(f, v)] = _
    by_cases h : g = f
    · have hb : (g == f) = true := beq_iff_eq.mpr h
      simp only [List.lookup, hb, if_pos h]
    · have hb : (g == f) = false := beq_eq_false_iff_ne.mpr h
      simp only [List.lookup, hb, if_neg h]
  | (k, x) :: r => by
    have ih := lookup_putF f g v r
    rw [show putF f v ((k, x) :: r) = (if k = f then (k, v) :: r else (k, x) :: putF f v r) from rfl]
    by_cases hk : k = f
    · rw [if_pos hk]
      by_cases h : g = k
      · have hb : (g == k) = true := beq_iff_eq.mpr h
        simp only [List.lookup, hb, if_pos (h.trans hk)]
      · have hb : (g == k) = false := beq_eq_false_iff_ne.mpr h
        simp only [List.lookup, hb, if_neg (fun e : g = f => h (e.trans hk.symm))]
    · rw [if_neg hk]
      by_cases h : g = k
      · have hb : (g == k) = true := beq_iff_eq.mpr h
        simp only [List.lookup, hb, if_neg (fun e : g = f => hk (h.symm.trans e))]
      · have hb : (g == k) = false := beq_eq_false_iff_ne.mpr h
        simp only [List.lookup, hb]
        exact ih
theorem keys_putF (f : Str) (v : V) : ∀ fs : List (Str × V), f ∈ (putF f v fs).map (·.1) ∧ ∀ g, g ∈ fs.map (·.1) → g ∈ (putF f v fs).map (·.1)
  | [] => ⟨by simp [putF], fun g h => by simp at h⟩
  | (k, x) :: r => by
    obtain ⟨i1, i2⟩ := keys_putF f v r
    rw [show putF f v ((k, x) :: r) = (if k = f then (k, v) :: r else (k, x) :: putF f v r) from rfl]
    by_cases hk : k = f
    · rw [if_pos hk]
      subst hk
      exact ⟨by simp, fun g h => by simpa using h⟩
    · rw [if_neg hk]
      refine ⟨?_, fun g h => ?_⟩
      · rw [List.map_cons]
        exact List.mem_cons_of_mem _ i1
      · rw [List.map_cons] at h ⊢
        rcases List.mem_cons.mp h with e | e
        · exact List.mem_cons.mpr (.inl e)
        · exact List.mem_cons_of_mem _ (i2 g e)
theorem length_putF (f : Str) (v : V) : ∀ fs : List (Str × V), (putF f v fs).length ≤ fs.length + 1
  | [] => by simp [putF]
  | (k, x) :: r => by
    have ih := length_putF f v r
    rw [show putF f v ((k, x) :: r) = (if k = f then (k, v) :: r else (k, x) :: putF f v r) from rfl]
    by_cases hk : k = f
    · rw [if_pos hk, List.length_cons, List.length_cons]; omega
    · rw [if_neg hk, List.length_cons, List.length_cons]; omega

theorem RelO.some_of {v : V} {o : Option Value} (r : RelO (some v) o) : ∃ u, o = some u ∧ RelV v u := by
  cases o with
  | none => exact (show False from r).elim
  | some u => exact ⟨u, rfl, r⟩
theorem handed_of {v : V} {u : Value} (r : RelV v u) : PySem.W.handedIn u = true := by
  cases v with
  | non => cases (show u = Value.none from r); rfl
  | bl b => cases (show u = Value.bool b from r); rfl
  | int i => obtain ⟨t, e⟩ := (show ∃ t, u = Value.int i t from r); cases e; rfl
  | str x => obtain ⟨t, e⟩ := (show ∃ t, u = Value.str x t from r); cases e; rfl
  | byt b => obtain ⟨t, e⟩ := (show ∃ t, u = Value.bytes b t from r); cases e; rfl
  | flt b => obtain ⟨t, e⟩ := (show ∃ t, u = Value.float b t from r); cases e; rfl
  | ref a => cases (show u = Value.ref a from r); rfl
  | ty n => cases (show u = Value.type n from r); rfl

section
variable {P : Program} {w : World} {H H' : Hp} {h h' : Heap} {a C dx : Addr} {fs fs' : List (Str × V)}
theorem ins_get (hok : HOk P w H h) (e : H a = some (.ins C dx fs)) : ∃ mA, ObjM h a dx C mA ∧ (∀ f, RelO (fs.lookup f) (mA f)) ∧ PySem.Within mA (fs.map (·.1)) ∧ fs.length ≤ 1000 ∧ H dx = some (.own a) := by
  obtain ⟨d, z, ne, ob, mA, n, r, q⟩ := (show ObjOk P w H h a (.ins C dx fs) from hok a _ e)
  exact ⟨mA, ⟨ob, n, ne⟩, r, q, z, d⟩
end

/-! ### what of the text a class must have -/
structure Cls (K : PySem.W.Frag) (C : Addr) : Prop where
  pg : PySem.W.plainGet K C Str.empty = true
  hd : PySem.W.hasDictIn K C = true
  po : PySem.W.plainOver K C = true
  sa : PySem.W.findIn K (.ref C) "__setattr__" = some (some (.builtin "object.__setattr__"))
theorem Cls.get {K : PySem.W.Frag} {C : Addr} (c : Cls K C) (f : Str) : PySem.W.plainGet K C f = true := c.pg
/-- no class of it has the name -/
def NoAttr (K : PySem.W.Frag) (C : Addr) (f : Str) : Prop := PySem.W.findIn K (.ref C) f = some none
theorem NoAttr.taker {K : PySem.W.Frag} {C : Addr} {f : Str} (n : NoAttr K C f) : PySem.W.takerIn K C f = some none := by
  unfold PySem.W.takerIn
  rw [show PySem.W.findIn K (.ref C) f = some none from n]
  rfl
section
variable {X : Cx} {pins : List (Addr × Obj)} {σ : St} {H : Hp} {s : Shared} {a C dx : Addr} {fs : List (Str × V)} {f : Str} {v : V} {A : Around} {E : Value → Shared → Prop}

theorem getattr_ok {b : Bool} {Q : Value → Shared → Prop} (I : Inv X pins σ H s) (e : H a = some (.ins C dx fs)) (c : Cls X.K C) (n : NoAttr X.K C f) (l : fs.lookup f = some v)
    (h : ∀ u s', Inv X pins σ H s' → RelV v u → Q u s') : wpAny (model X.prog X.w) A (getAttr (.ref a) f b) Q E s := by
  obtain ⟨mA, O, r, _, _, _⟩ := ins_get I.hok e
  obtain ⟨u, hu, ru⟩ := RelO.some_of (v := v) (o := mA f) (by rw [← l]; exact r f)
  exact get_map I.kIn O (c.get f) c.hd n hu (handed_of ru) (h u _ (I.tok _) ru)

theorem setattr_ok {y : V} {u : Value} {Q : Unit → Shared → Prop} (I : Inv X pins σ H s) (e : H a = some (.ins C dx fs)) (c : Cls X.K C) (n : NoAttr X.K C f) (hl : fs.length < 1000) (ry : RelV y u)
    (h : ∀ s', Inv X pins σ (upd H a (.ins C dx (putF f y fs))) s' → Q () s') : wpAny (model X.prog X.w) A (setAttr (.ref a) f u) Q E s := by
  obtain ⟨mA, O, r, wi, _, ho⟩ := ins_get I.hok e
  have hz : (fs.map (·.1)).length ≤ sizeLine := by rw [List.length_map, sizeLine_eq]; omega
  refine set_map I.kIn O c.sa c.po n.taker c.hd wi hz fun h' O' sb => h _ ?_
  have hd : ∃ o, h'.get? dx = some o := let ⟨o, _, _, e', _⟩ := O'.ns; ⟨o, e'⟩
  refine I.write (x := a) (e := dx) (by rw [e]; exact True.intro) (.inr ho) (fun b q hb z => (sb.2 b hb).trans z) hd ?_
  refine ⟨by rw [upd_ne O.ne]; exact ho, ?_, O.ne, O'.obj, _, O'.ns, fun g => ?_, fun g hg => ?_⟩
  · have := length_putF f y fs; omega
  · show RelO ((putF f y fs).lookup g) (if g = f then some u else mA g)
    rw [lookup_putF]
    by_cases q : g = f
    · rw [if_pos q, if_pos q]; exact ry
    · rw [if_neg q, if_neg q]; exact r g
  · by_cases q : g = f
    · rw [q]; exact (keys_putF f y fs).1
    · refine (keys_putF f y fs).2 g (wi g fun z => hg ?_)
      show (if g = f then some u else mA g) = none
      rw [if_neg q]; exact z

/-- a new instance, tracked, without attributes -/
theorem Inv.made (I : Inv X pins σ H s) : Inv X pins σ (upd (upd H s.heap.objs.size (.own (s.heap.objs.size + 1))) (s.heap.objs.size + 1) (.ins C s.heap.objs.size []))
    { s with heap := (s.heap.push PySem.W.emptyDict).push (PySem.W.instObj C s.heap.objs.size) } := by
  have e1 : (s.heap.push PySem.W.emptyDict).get? s.heap.objs.size = some PySem.W.emptyDict := Heap.get?_push_size s.heap rfl
  have e2 : ((s.heap.push PySem.W.emptyDict).push (PySem.W.instObj C s.heap.objs.size)).get? (s.heap.objs.size + 1) = some (PySem.W.instObj C s.heap.objs.size) := by
    have := Heap.get?_push_size (s.heap.push PySem.W.emptyDict) (o := PySem.W.instObj C s.heap.objs.size) rfl
    rwa [Heap.size_push] at this
  have e3 : (s.heap.push PySem.W.emptyDict).Ns s.heap.objs.size (fun _ => none) := ⟨PySem.W.emptyDict, #[], _, e1, rfl, (fun e he => absurd he (by simp)), fun _ => rfl⟩
  have I1 := I.laid (a := s.heap.objs.size) (o := .own (s.heap.objs.size + 1)) (h' := s.heap.push PySem.W.emptyDict) (t' := s.toks) (fun b u q => Heap.get?_push_of_some _ q) (Nat.le_refl _) ⟨_, e1⟩
  refine I1.laid (a := s.heap.objs.size + 1) (o := .ins C s.heap.objs.size []) (t' := s.toks) (fun b u q => Heap.get?_push_of_some _ q) (Nat.le_of_eq (Heap.size_push _ _)) ?_
  have ne : s.heap.objs.size ≠ s.heap.objs.size + 1 := Nat.ne_of_lt (Nat.lt_succ_self _)
  refine ⟨by rw [upd_ne ne, upd_same], Nat.zero_le _, ne, e2, fun _ => none, (Heap.Ns1.of_empty e3).at fun o q => Heap.get?_push_of_some _ q, fun _ => True.intro, fun y hy => absurd rfl hy⟩

/-- e.f where nothing but the object is asked: through attributeBase (super) and the last hold -/
theorem attr_of {prog : Program} {w : World} {env : Env} {e : Expr} {f : Str} {pos : Pos} {s : Shared} {Q : Value → Shared → Prop} (hb : attributeBase e f env (eval e env) = eval e env)
    (h : wpAny (model prog w) A (eval e env) (fun o s₁ => wpAny (model prog w) A (getAttr o f true) Q E s₁) E s) : wpAny (model prog w) A (eval (.Attribute e f pos) env) Q E s :=
  Attribute_any_ h (by rw [arm_eval_Attribute, hb])
end

/-! ### readings and rules -/
/-- e.f, an attribute of the instance -/
def tFld (K : PySem.W.Frag) (ta : TE) (f : Str) : TE := fun σ H Q => ta σ H fun x H1 => ∃ a C dx fs v, x = .ref a ∧ H1 a = some (.ins C dx fs) ∧ Cls K C ∧ NoAttr K C f ∧ fs.lookup f = some v ∧ Q v H1
/-- e.f = value -/
def sFld (K : PySem.W.Frag) (ta tv : TE) (f : Str) : TS := fun D σ H => tv σ H fun y H1 => ta σ H1 fun x H2 => ∃ a C dx fs, x = .ref a ∧ H2 a = some (.ins C dx fs) ∧ Cls K C ∧ NoAttr K C f ∧ fs.length < 1000 ∧
  D.nx σ (upd H2 a (.ins C dx (putF f y fs)))
section
variable {X : Cx} {o e value : Expr} {f : Str} {pos pos' tpos : Pos} {ta tv : TE}
theorem pe_fld (he : PE X e ta) (hb : attributeBase e f X.env (eval e X.env) = eval e X.env) : PE X (.Attribute e f pos) (tFld X.K ta f) := by
  intro pins s σ H Q I h
  refine attr_of hb (thn (he pins s σ H _ I h) fun u s1 ⟨x, H1, I1, rx, a, C, dx, fs, v, ex, ea, c, n, l, q⟩ => ?_)
  subst ex
  obtain rfl : u = Value.ref a := rx
  exact getattr_ok I1 ea c n l fun u' s2 I2 ru => ⟨v, H1, I2, ru, q⟩
theorem ps_fld (ha : PE X o ta) (hv : PE X value tv) (hs : swapsWith value (some (.Attribute o f pos')) pos.line X.env = pure false) : PS X (.Assign [.Attribute o f pos'] value pos) (sFld X.K ta tv f) := by
  intro pins s σ H D I h
  refine plainObj_wpAny_Assign_Attribute (thn (hv pins s σ H _ I h) fun u s1 ⟨y, H1, I1, ry, q⟩ => thn (ha pins s1 σ H1 _ I1 q) fun ov s2 ⟨x, H2, I2, rx, a, C, dx, fs, ex, ea, c, n, l, q2⟩ => ?_) hs
  subst ex
  obtain rfl : ov = Value.ref a := rx
  exact setattr_ok I2 ea c n l ry fun s3 I3 => ⟨σ, _, I3, q2⟩
end

/-! ### isinstance -/
section
variable {X : Cx} {pins : List (Addr × Obj)} {σ : St} {H : Hp} {s : Shared} {A : Around} {E : Value → Shared → Prop} {Q : Value → Shared → Prop} {c : Value} {b : Bool}
end
end L2

namespace L2
open PySem PySem.Spec PyProof.Rows

/-! ### room -/
structure Room (k : Nat) (A : Around) : Prop where
  hd : A.handled = none
  dp : A.depth + 3 * k + 5 < recursionLimit
  un : A.units + 16 * k + 200 < cLine
theorem Room.mono {j k : Nat} {A : Around} (r : Room k A) (h : j ≤ k) : Room j A := ⟨r.hd, by have := r.dp; omega, by have := r.un; omega⟩
theorem Room.deeper {k : Nat} {A : Around} (r : Room (k + 1) A) (env : Env) : Room k (A.deeper env) :=
  ⟨r.hd, by have := r.dp; show A.depth + 1 + 3 * k + 5 < _; omega, by have := r.un; show A.units + 3 + 16 * k + 200 < _; omega⟩
theorem make_depth {A : Around} {C : Addr} {us : List Value} {kw : List (Str × Value)} : (A.under (.builtin "type.__call__" ⟨.ref C :: us, kw⟩)).depth = A.depth + 1 := by
  first | rfl | simp [Around.under, Code.weight, Code.isCreation, Code.isGuard, Code.isCaller, Code.frames, Code.isFrame, guardIds]
theorem make_units {A : Around} {C : Addr} {us : List Value} {kw : List (Str × Value)} : (A.under (.builtin "type.__call__" ⟨.ref C :: us, kw⟩)).units = A.units + 1 := by
  first | rfl | simp [Around.under, Code.cUnits, Code.frames, Code.isFrame]
theorem Room.make {k : Nat} {A : Around} (r : Room (k + 1) A) (C : Addr) (us : List Value) (kw : List (Str × Value)) : Room k (A.under (.builtin "type.__call__" ⟨.ref C :: us, kw⟩)) :=
  ⟨r.hd, by have := r.dp; rw [make_depth]; omega, by have := r.un; rw [make_units]; omega⟩
theorem Room.depth {k : Nat} {A : Around} (r : Room k A) : A.depth < recursionLimit := by have := r.dp; omega
/-! ### argument lists and displays -/
def tNil : TA := fun _ H Q => Q [] H
def tCons (ta : TE) (tr : TA) : TA := fun σ H Q => ta σ H fun x H1 => tr σ H1 fun xs H2 => Q (x :: xs) H2
section
variable {X : Cx} {e : Expr} {es : List Expr} {te : TE} {t : TA} {pos : Pos}
theorem pa_nil : PA X [] tNil := fun _ _ _ _ H Q I h => Calls.spliced_nil ⟨[], H, I, .nil, h⟩
theorem pa_cons (ha : PE X e te) (hr : PA X es t) (hs : starEach (e :: es) X.env = (false, eval e X.env) :: starEach es X.env := by rfl) : PA X (e :: es) (tCons te t) := by
  intro pos pins s σ H Q I h
  rw [hs]
  show wpAny _ _ (spliced ((false, eval e X.env) :: backTo pos (starEach es X.env))) _ _ s
  refine Calls.spliced_cons (thn (ha pins s σ H _ I h) fun u s1 ⟨x, H1, I1, r1, q1⟩ => ?_)
  exact thn (hr pos pins s1 σ H1 _ I1 q1) fun us s2 ⟨xs, H2, I2, r2, q2⟩ => ⟨x :: xs, H2, I2, .cons r1 r2, q2⟩

def tLst (t : TA) : TE := fun σ H Q => t σ H fun xs H1 => xs.length ≤ sizeLine ∧ ∀ p, H1 p = none → Q (.ref p) (upd H1 p (.lst xs))
theorem pe_lst (h : PA X es t) : PE X (.List es pos) (tLst t) := by
  intro pins s σ H Q I hq
  refine wpAny_List_spliced (thn (h pos pins s σ H _ I hq) fun us s1 ⟨xs, H1, I1, r, z, q⟩ => ⟨by rw [← r.length]; exact z, ?_⟩)
  have hf : H1 s1.heap.objs.size = none := I1.hok.fresh (Nat.le_refl _)
  refine ⟨.ref s1.heap.objs.size, upd H1 s1.heap.objs.size (.lst xs), I1.laid (t' := s1.toks) (fun b u e => Heap.get?_push_of_some _ e) (Nat.le_refl _) ?_, rfl, q _ hf⟩
  exact ⟨z, us, 0, r, Heap.get?_push_size _ rfl⟩
end

/-! ### what a def promises -/
/-- a def's promise: the bound arguments in the parameters' order, the heap, the wanted end, the wanted exception -/
abbrev Sp := List V → Hp → VK → XK → Prop
/-- how an exception lies behind a call (file 08 gives it): the callers' frames, abstract heap and state ahead of the call, the wish, the exception, the state -/
abbrev CXT := List Env → Hp → Shared → XK → Value → Shared → Prop

/-- the state at a call -/
structure Env0 (P : Program) (w : World) (K : PySem.W.Frag) (mg : Str → Option Value) (base : Heap) (A : Around) (outer : List Env) (s : Shared) (H : Hp) : Prop where
  frames : A.frames = some outer
  mod : Mod K mg base
  bs : ∀ b o, base.get? b = some o → s.heap.get? b = some o ∧ H b = none
  bsz : base.objs.size ≤ s.heap.objs.size
  funs : s.heap.FunFrames base outer
  frf : ∀ b ∈ frs outer, H b = none
  hok : HOk P w H s.heap
  bare : AllBare s.gens
/-- a call's end -/
def CE (outer : List Env) (P : Program) (w : World) (H : Hp) (s : Shared) (Q : VK) (u : Value) (s' : Shared) : Prop :=
  ∃ v H', s'.os = s.os ∧ AllBare s'.gens ∧ Un (frs outer) [] H H' s.heap s'.heap ∧ HOk P w H' s'.heap ∧ RelV v u ∧ Q v H'
def CR (CX : CXT) (outer : List Env) (P : Program) (w : World) (H : Hp) (s : Shared) (Q : VK) (E : XK) (r : Result) (s' : Shared) : Prop :=
  match r with
  | .ok (.ret u) => CE outer P w H s Q u s'
  | .ok _ => False
  | .error e => CX outer H s E e s'
structure FnOk (P : Program) (w : World) (K : PySem.W.Frag) (mg : Str → Option Value) (base : Heap) (CX : CXT) (k : Nat) (f : Addr) (fd : FuncData) (ps : List Str) (sp : Sp) : Prop where
  len : ∀ vs H Q E, sp vs H Q E → vs.length = ps.length
  run : ∀ (A : Around) (outer : List Env) (s : Shared) (H : Hp) (args : Args) (us : List Value) (vs : List V) (Q : VK) (E : XK), Room k A → Env0 P w K mg base A outer s H → BindsTo s fd args (ps.zip us) → Vals vs us → sp vs H Q E →
    codeAny (model P w) A (.call (.ref f) args) (CR CX outer P w H s Q E) s
theorem FnOk.mono {P : Program} {w : World} {K : PySem.W.Frag} {mg : Str → Option Value} {base : Heap} {CX : CXT} {j k : Nat} {f : Addr} {fd : FuncData} {ps : List Str} {sp : Sp} (F : FnOk P w K mg base CX j f fd ps sp) (h : j ≤ k) :
    FnOk P w K mg base CX k f fd ps sp := ⟨F.len, fun A outer s H args us vs Q E hr => F.run A outer s H args us vs Q E (hr.mono h)⟩
theorem Env0.make {P : Program} {w : World} {K : PySem.W.Frag} {mg : Str → Option Value} {base : Heap} {A : Around} {outer : List Env} {s : Shared} {H : Hp} (e : Env0 P w K mg base A outer s H) (C : Addr) (us : List Value) (kw : List (Str × Value)) :
    Env0 P w K mg base (A.under (.builtin "type.__call__" ⟨.ref C :: us, kw⟩)) outer s H := ⟨by first | exact e.frames | (simpa [Around.under, Code.envs, Code.isFrame, pushEnvs] using e.frames), e.mod, e.bs, e.bsz, e.funs, e.frf, e.hok, e.bare⟩
section
variable {X : Cx} {pins : List (Addr × Obj)} {σ : St} {H : Hp} {s s' : Shared}
/-- from a body: what a callee wants -/
theorem Inv.env0 (I : Inv X pins σ H s) : Env0 X.prog X.w X.K X.mg X.base X.A X.stack s H :=
  ⟨I.ok.frames, I.ok.mod, I.bs, Nat.le_trans I.ok.bsz I.sz, I.stack, I.stkFree, I.hok, I.bare⟩
/-- behind a call -/
theorem Inv.after {Q : VK} {u : Value} (I : Inv X pins σ H s) (h : CE X.stack X.prog X.w H s Q u s') : EP X pins σ Q u s' := by
  obtain ⟨v, H', os, bare, un, hok, r, q⟩ := h
  obtain ⟨hh, g, d, t, os'⟩ := s'
  obtain rfl : os' = s.os := os
  exact ⟨v, H', I.call (h' := hh) (g' := g) (d' := d) (t' := t) (ch := []) un hok bare (fun b z => absurd z (by simp)), r, q⟩
end

/-! ### calls -/
/-- f(..): the written arguments, then the defaults dvs; E: what is wanted of an exception -/
def tCall (sp : Sp) (dvs : List V) (E : XK) (t : TA) : TE := fun σ H Q => t σ H fun vs H1 => sp (vs ++ dvs) H1 Q E
/-- C(..): a new instance and its dict, then __init__ -/
def tMake (C : Addr) (sp : Sp) (dvs : List V) (E : XK) (t : TA) : TE := fun σ H Q => t σ H fun vs H1 => ∀ x dx, H1 x = none → H1 dx = none → dx ≠ x →
  sp (.ref x :: (vs ++ dvs)) (upd (upd H1 dx (.own x)) x (.ins C dx [])) (fun v H2 => v = .non ∧ Q (.ref x) H2) E

/-- how the parameters are bound: us the positional arguments, kw the keywords' values by name, ds the defaults that fill up -/
def Binds (K : PySem.W.Frag) (fd : FuncData) (ps : List Str) (ds : List Value) : Prop :=
  ∀ (s : Shared) (us : List Value), K.In s.heap → (us ++ ds).length = ps.length → BindsTo s fd ⟨us, []⟩ (ps.zip (us ++ ds))
/-- every parameter is given -/
theorem Binds.all {K : PySem.W.Frag} {fd : FuncData} {ps : List Str} (h : ∀ us : List Value, us.length = ps.length → bindArgs fd ⟨us, []⟩ = pure (ps.zip us)) : Binds K fd ps [] := fun s us _ hl => by
  rw [List.append_nil] at hl ⊢
  exact .of_eq (h us hl)

/-- an exception of a callee reaches what this body wants of exceptions -/
def Passes (CX : CXT) (X : Cx) (E : XK) : Prop := ∀ (pins : List (Addr × Obj)) (σ : St) (H : Hp) (s : Shared) (e : Value) (s' : Shared), Inv X pins σ H s → CX X.stack H s E e s' → X.xe e s'

section
variable {X : Cx} {CX : CXT} {k : Nat} {f C : Addr} {fd : FuncData} {ps : List Str} {sp : Sp} {dvs : List V} {ds : List Value} {E : XK} {x m : Str} {p pos apos : Pos} {e o : Expr} {es : List Expr} {ta : TE} {t : TA}

/-- the callee runs -/
theorem run_fn {pins : List (Addr × Obj)} {σ : St} {H : Hp} {s : Shared} {Q : VK} {us : List Value} {vs : List V} (F : FnOk X.prog X.w X.K X.mg X.base CX k f fd ps sp) (hr : Room k X.A) (hb : Binds X.K fd ps ds) (hd : Vals dvs ds) (hx : Passes CX X E)
    (I : Inv X pins σ H s) (r : Vals vs us) (h : sp (vs ++ dvs) H Q E) : wpAny (model X.prog X.w) X.A (call (.ref f) us) (EP X pins σ Q) X.xe s := by
  have r2 : Vals (vs ++ dvs) (us ++ ds) := r.append hd
  have hl : (us ++ ds).length = ps.length := by rw [← r2.length]; exact F.len _ _ _ _ h
  refine wpAny_call (codeAny_mono (F.run X.A X.stack s H ⟨us, []⟩ (us ++ ds) (vs ++ dvs) Q E hr I.env0 (hb s us I.kIn hl) r2 h) fun r s' hq => ?_)
  cases r with
  | error e => exact hx pins σ H s e s' I hq
  | ok fl =>
    cases fl with
    | ret u => exact I.after hq
    | next => exact False.elim hq
    | brk => exact False.elim hq
    | cont => exact False.elim hq

theorem pe_call (F : FnOk X.prog X.w X.K X.mg X.base CX k f fd ps sp) (hr : Room k X.A) (hg : Gl X x) (hm : X.mg x = some (.ref f)) (hk : PySem.W.keepIn X.K (.ref f) = true) (hb : Binds X.K fd ps ds) (hd : Vals dvs ds) (hx : Passes CX X E)
    (ha : PA X (e :: es) t) (hdb : (x == ("__debug__" : Str)) = false := by decide) (he : starEach (e :: es) X.env = (false, eval e X.env) :: starEach es X.env := by rfl) (hpl : (backTo pos (starEach es X.env)).any (·.1) = false := by rfl) :
    PE X (.Call (.Name x p) (e :: es) [] pos) (tCall sp dvs E t) := by
  intro pins s σ H Q I h
  refine wpAny_Call_Name_kw (ld_glob I hg hm ?_ hdb)
  refine PySem.W.callWith_K (h₀ := X.base) I.ok.mod.kin hk (thn (ha pos pins s σ H _ I h) fun us s1 ⟨vs, H1, I1, r, q⟩ => ⟨I1.kIn, ?_⟩) he hpl
  exact run_fn F hr hb hd hx I1 r q
/-- what a class must have to be made -/
structure Mk (K : PySem.W.Frag) (C f : Addr) : Prop where
  makes : PySem.W.makesIn K C = true
  init : PySem.W.findIn K (.ref C) "__init__" = some (some (.ref f))
  fn : PySem.W.isFn K (.ref f) = true
  kp : PySem.W.keepIn K (.ref C) = true

theorem run_make {pins : List (Addr × Obj)} {σ : St} {H : Hp} {s : Shared} {Q : VK} {us : List Value} {vs : List V} (M : Mk X.K C f) (F : FnOk X.prog X.w X.K X.mg X.base CX k f fd ps sp) (hr : Room (k + 1) X.A) (hb : Binds X.K fd ps ds) (hd : Vals dvs ds)
    (hx : Passes CX X E) (I : Inv X pins σ H s) (r : Vals vs us)
    (h : ∀ x dx, H x = none → H dx = none → dx ≠ x → sp (.ref x :: (vs ++ dvs)) (upd (upd H dx (.own x)) x (.ins C dx [])) (fun v H2 => v = .non ∧ Q (.ref x) H2) E) :
    wpAny (model X.prog X.w) X.A (call (.ref C) us) (EP X pins σ Q) X.xe s := by
  have hq := h (s.heap.objs.size + 1) s.heap.objs.size (I.hok.fresh (Nat.le_succ _)) (I.hok.fresh (Nat.le_refl _)) (Nat.ne_of_lt (Nat.lt_succ_self _))
  have I2 := Inv.made (C := C) I
  have r2 : Vals (V.ref (s.heap.objs.size + 1) :: (vs ++ dvs)) (Value.ref (s.heap.objs.size + 1) :: (us ++ ds)) := .cons rfl (r.append hd)
  have hl : (Value.ref (s.heap.objs.size + 1) :: us ++ ds).length = ps.length := by
    have e := r2.length
    rw [F.len _ _ _ _ hq] at e
    exact e.symm
  refine wpAny_call (make_map (f := f) I.kIn M.makes M.init (beq_iff_eq.mp M.fn) (codeAny_mono (F.run _ X.stack _ _ ⟨Value.ref (s.heap.objs.size + 1) :: us, []⟩ (Value.ref (s.heap.objs.size + 1) :: (us ++ ds)) _ _ E (hr.make C us [])
    (I2.env0.make C us []) (hb _ (Value.ref (s.heap.objs.size + 1) :: us) I2.kIn hl) r2 hq) fun r s' hq' => ?_))
  cases r with
  | error e => exact hx pins σ _ _ e s' I2 hq'
  | ok fl =>
    cases fl with
    | ret u =>
      obtain ⟨v, H', I3, rv, ev, q3⟩ := I2.after hq'
      subst ev
      exact ⟨rv, ⟨V.ref (s.heap.objs.size + 1), H', I3, rfl, q3⟩⟩
    | next => exact False.elim hq'
    | brk => exact False.elim hq'
    | cont => exact False.elim hq'
theorem pe_make (M : Mk X.K C f) (F : FnOk X.prog X.w X.K X.mg X.base CX k f fd ps sp) (hr : Room (k + 1) X.A) (hg : Gl X x) (hm : X.mg x = some (.ref C)) (hb : Binds X.K fd ps ds) (hd : Vals dvs ds) (hx : Passes CX X E)
    (ha : PA X (e :: es) t) (hdb : (x == ("__debug__" : Str)) = false := by decide) (he : starEach (e :: es) X.env = (false, eval e X.env) :: starEach es X.env := by rfl) (hpl : (backTo pos (starEach es X.env)).any (·.1) = false := by rfl) :
    PE X (.Call (.Name x p) (e :: es) [] pos) (tMake C sp dvs E t) := by
  intro pins s σ H Q I h
  refine wpAny_Call_Name_kw (ld_glob I hg hm ?_ hdb)
  refine PySem.W.callWith_K (h₀ := X.base) I.ok.mod.kin M.kp (thn (ha pos pins s σ H _ I h) fun us s1 ⟨vs, H1, I1, r, q⟩ => ⟨I1.kIn, ?_⟩) he hpl
  exact run_make M F hr hb hd hx I1 r q
theorem pe_make0 (M : Mk X.K C f) (F : FnOk X.prog X.w X.K X.mg X.base CX k f fd ps sp) (hr : Room (k + 1) X.A) (hg : Gl X x) (hm : X.mg x = some (.ref C)) (hb : Binds X.K fd ps ds) (hd : Vals dvs ds) (hx : Passes CX X E)
    (hdb : (x == ("__debug__" : Str)) = false := by decide) : PE X (.Call (.Name x p) [] [] pos) (tMake C sp dvs E tNil) := by
  intro pins s σ H Q I h
  refine wpAny_Call_Name_kw (ld_glob I hg hm ?_ hdb)
  exact PySem.W.callWith_K0 I.kIn M.kp (run_make (us := []) M F hr hb hd hx I .nil h)
end

/-! ### keywords -/
section
variable {X : Cx} {CX : CXT} {k : Nat} {f C : Addr} {fd : FuncData} {ps ks : List Str} {sp : Sp} {E : XK} {x m : Str} {p pos apos kpos : Pos} {e o : Expr} {es : List Expr} {kws : List Keyword} {te ta : TE} {t tk : TA} {nm : Option Str}
variable {g : List Value → List Value → List Value} {gV : List V → List V → List V}
end

/-! ### a def's body keeps its promise -/
/-- names: the parameters first -/
structure FnScope (N P : List Str) (sc : Scope) : Prop where
  kind : sc.kind = .function
  co : sc.isCoroutine = false
  gen : sc.isGenerator = false
  nd : N.Nodup
  pre : N.take P.length = P
  par : ∀ x ∈ P, sc.names.lookup x = some .local ∨ sc.names.lookup x = some .cell
  nofree : ∀ y ∈ sc.names, y.2 ≠ .free

theorem bindL_out {kindOf : Str → Option NameKind} {x : Str} : ∀ {binds : List (Str × Value)} {m : Str → Option Value}, (∀ v, (x, v) ∉ binds) → bindL kindOf binds m x = m x
  | [], _, _ => rfl
  | (n, v) :: r, m, h => by
    unfold bindL
    rw [bindL_out fun w hw => h w (List.mem_cons_of_mem _ hw)]
    split
    · have : x ≠ n := by rintro rfl; exact h v List.mem_cons_self
      simp [this]
    · rfl
theorem bindC_out {kindOf : Str → Option NameKind} {x : Str} : ∀ {binds : List (Str × Value)} {m : Str → Option Value}, (∀ v, (x, v) ∉ binds) → bindC kindOf binds m x = m x
  | [], _, _ => rfl
  | (n, v) :: r, m, h => by
    unfold bindC
    rw [bindC_out fun w hw => h w (List.mem_cons_of_mem _ hw)]
    split
    · rfl
    · have : x ≠ n := by rintro rfl; exact h v List.mem_cons_self
      simp [this]
theorem bindL_get {kindOf : Str → Option NameKind} {x : Str} {v : Value} : ∀ {P : List Str} {vs : List Value} {i : Nat} {m : Str → Option Value}, P.Nodup → P[i]? = some x → vs[i]? = some v → kindOf x = some .local →
    bindL kindOf (P.zip vs) m x = some v
  | [], _, _, _, _, h, _, _ => by simp at h
  | _ :: _, [], _, _, _, _, h, _ => by simp at h
  | p :: P, w :: vs, 0, m, nd, h1, h2, hk => by
    simp at h1 h2; subst h1; subst h2
    show bindL kindOf ((p, w) :: P.zip vs) m p = _
    unfold bindL
    rw [bindL_out fun v hv => (List.nodup_cons.mp nd).1 (List.of_mem_zip hv).1, if_pos hk]
    simp
  | p :: P, w :: vs, i + 1, m, nd, h1, h2, hk => by
    show bindL kindOf ((p, w) :: P.zip vs) m x = _
    unfold bindL
    exact bindL_get (i := i) (List.nodup_cons.mp nd).2 (by simpa using h1) (by simpa using h2) hk
theorem bindC_get {kindOf : Str → Option NameKind} {x : Str} {v : Value} : ∀ {P : List Str} {vs : List Value} {i : Nat} {m : Str → Option Value}, P.Nodup → P[i]? = some x → vs[i]? = some v → kindOf x ≠ some .local →
    bindC kindOf (P.zip vs) m x = some v
  | [], _, _, _, _, h, _, _ => by simp at h
  | _ :: _, [], _, _, _, _, h, _ => by simp at h
  | p :: P, w :: vs, 0, m, nd, h1, h2, hk => by
    simp at h1 h2; subst h1; subst h2
    show bindC kindOf ((p, w) :: P.zip vs) m p = _
    unfold bindC
    rw [bindC_out fun v hv => (List.nodup_cons.mp nd).1 (List.of_mem_zip hv).1, if_neg hk]
    simp
  | p :: P, w :: vs, i + 1, m, nd, h1, h2, hk => by
    show bindC kindOf ((p, w) :: P.zip vs) m x = _
    unfold bindC
    exact bindC_get (i := i) (List.nodup_cons.mp nd).2 (by simpa using h1) (by simpa using h2) hk

/-- the names' values at the entry -/
def start (N : List Str) (vs : List V) : St := vs.map some ++ List.replicate (N.length - vs.length) none

/-- the context of a def's body, at its entry; an exception leaves the frame, then lies as CX says -/
def cxOf (CX : CXT) (P : Program) (w : World) (K : PySem.W.Frag) (mg : Str → Option Value) (base : Heap) (N : List Str) (qual : Str) (scope : Scope) (f : Addr) (cd : Value) (A : Around) (outer : List Env) (s : Shared) (H : Hp) (E : XK) : Cx where
  prog := P
  w := w
  K := K
  mg := mg
  base := base
  A := A.deeper (envOfC qual scope s.heap.objs.size f cd)
  N := N
  s_0 := s
  H_0 := H
  env := envOfC qual scope s.heap.objs.size f cd
  outer := outer
  stack := envOfC qual scope s.heap.objs.size f cd :: outer
  ex := []
  calm := true
  fn := fun _ => true
  pn := []
  xe := fun e s' => wpAny (model P w) (A.deeper (envOfC qual scope s.heap.objs.size f cd)) (leaving (envOfC qual scope s.heap.objs.size f cd) e) (fun _ s'' => CX outer H s E e s'') (fun e' s'' => CX outer H s E e' s'') s'

theorem cell_has {sc : Scope} {n : Nat} {x : Str} (h : sc.names.lookup x = some .cell) : ∃ c, (cellsFrom n sc.names []).lookup x = some c := by
  have q := PySem.W.cellsFrom_some sc.names n [] (.inl h)
  exact Option.isSome_iff_exists.mp q

theorem inv_start {CX : CXT} {P : Program} {w : World} {K : PySem.W.Frag} {mg : Str → Option Value} {base : Heap} {N ps : List Str} {qual : Str} {scope : Scope} {f : Addr} {cd : Value} {A : Around} {outer : List Env} {s s1 : Shared} {H : Hp} {E : XK} {us : List Value} {vs : List V}
    (S : FnScope N ps scope) (hd : A.handled = none) (e0 : Env0 P w K mg base A outer s H) (hl : vs.length = ps.length) (r : Vals vs us)
    (x : InCallC s s.heap.objs.size (bindL (envOfC qual scope s.heap.objs.size f cd).kindOf (ps.zip us) fun _ => none) (cellsFrom (s.heap.objs.size + 1) scope.names []) (bindC (envOfC qual scope s.heap.objs.size f cd).kindOf (ps.zip us) fun _ => none) s1) :
    Inv (cxOf CX P w K mg base N qual scope f cd A outer s H E) [] (start N vs) H s1 := by
  have hpl : ps.length ≤ N.length := by have := congrArg List.length S.pre; rw [List.length_take] at this; omega
  obtain ⟨h1, tk, rfl, hk⟩ := x.done
  have noA : ∀ b : Addr, b ∉ (cxOf CX P w K mg base N qual scope f cd A outer s H E).ex := fun b z => absurd (show b ∈ ([] : List Addr) from z) (by simp)
  refine ⟨⟨e0.mod, S.kind, rfl, rfl, Nat.le_refl _, fun y z c h1 h2 => ?_, fun y hy => ?_, fun y c _ h => ?_, fun _ => hd, Around.frames_deeper e0.frames, .inr ⟨rfl, rfl⟩, fun b z => absurd z (noA b), e0.bs, e0.bsz, fun b _ _ => noA b, fun b z => absurd z (noA b), e0.funs, e0.frf⟩,
    rfl, e0.bare, Un.kept hk, ⟨_, x.toInCall.ns, fun i y v h1 h2 h3 => ?_⟩, fun y c h => ⟨_, x.cell y c h⟩, e0.hok.fresh (Nat.le_refl _), fun y c h => ?_, fun p hp => absurd (show p ∈ ([] : List (Addr × Obj)) from hp) (by simp), e0.hok.kept hk, ?_⟩
  · exact name_of_addr x.apart (PySem.mem_of_lookup h1) (PySem.mem_of_lookup h2)
  · have hy : scope.names.lookup y = some .cell ∨ scope.names.lookup y = some .free := hy
    rcases hy with hy | hy
    · exact cell_has hy
    · exact absurd rfl (S.nofree _ (PySem.mem_of_lookup hy))
  · exact Nat.le_of_lt (x.above y c (PySem.mem_of_lookup h))
  · have hi : i < vs.length := by
      unfold start at h2
      by_cases hi : i < vs.length
      · exact hi
      · rw [List.getElem?_append_right (by simpa using hi)] at h2
        rw [List.getElem?_replicate] at h2
        split at h2 <;> cases h2
    have ha : vs[i]? = some v := by
      unfold start at h2
      rw [List.getElem?_append_left (by simpa using hi), List.getElem?_map] at h2
      cases e : vs[i]? with
      | none => rw [e] at h2; cases h2
      | some a => rw [e] at h2; cases h2; rfl
    obtain ⟨u, hu, rv⟩ := r.get ha
    have hp : ps[i]? = some y := by
      rw [← S.pre, List.getElem?_take_of_lt (by omega)]; exact h1
    have ndP : ps.Nodup := by rw [← S.pre]; exact S.nd.sublist (List.take_sublist _ _)
    refine ⟨u, rv, ?_⟩
    rcases S.par y (List.mem_of_getElem? hp) with k | k
    · exact .inl ⟨k, bindL_get ndP hp hu k⟩
    · obtain ⟨c, e⟩ := cell_has (n := s.heap.objs.size + 1) k
      refine .inr ⟨.inl k, c, e, ?_⟩
      have q := x.cell y c e
      rw [bindC_get ndP hp hu (by show scope.names.lookup y ≠ _; rw [k]; decide)] at q
      exact q
  · exact e0.hok.fresh (Nat.le_of_lt (x.above y c (PySem.mem_of_lookup h)))
  · unfold start
    show _ = N.length
    rw [List.length_append, List.length_map, List.length_replicate]
    omega

/-- THE RULE: a def (or a method) of the text, by its body. The body's reading t is chosen for each entry; it is run at the parameters' values -/
theorem fn_of {CX : CXT} {P : Program} {w : World} {K : PySem.W.Frag} {mg : Str → Option Value} {base : Heap} {k : Nat} {f : Addr} {name qual : Str} {params : Arguments} {body : List Stmt} {scope : Scope} {dV kV doc pm cdv ct oc : Value} {an od : Option Addr}
    {osl : Array (Option Value)} {N ps : List Str} {sp : Sp} (lk : K.lookup f = some ⟨oc, od, .func (PySem.W.fnOf name qual params body scope dV kV doc pm an cdv ct), osl⟩) (hcd : PySem.W.codeIn K cdv qual = true) (S : FnScope N ps scope)
    (len : ∀ vs H Q E, sp vs H Q E → vs.length = ps.length)
    (hbody : ∀ (A : Around) (outer : List Env) (s : Shared) (H : Hp) (vs : List V) (Q : VK) (E : XK), Room k (A.deeper (envOfC qual scope s.heap.objs.size f cdv)) → sp vs H Q E →
      ∃ t, PSs (cxOf CX P w K mg base N qual scope f cdv A outer s H E) body t ∧ t { nx := fun _ H' => Q .non H', rt := Q } (start N vs) H) :
    FnOk P w K mg base CX (k + 1) f (PySem.W.fnOf name qual params body scope dV kV doc pm an cdv ct) ps sp := by
  refine ⟨len, fun A outer s H args us vs Q E hr e0 hb r hsp => ?_⟩
  have hl := len _ _ _ _ hsp
  have KX : K.In s.heap := e0.mod.kin.keeps fun b o e => (e0.bs b o e).1
  have lim : s.heap.NoLimit := e0.mod.nolimit.keeps fun b o e => (e0.bs b o e).1
  have hkind : ∀ y ∈ ps.zip us, scope.names.lookup y.1 = some .local ∨ (scope.names.lookup y.1 = some .cell ∧ ((cellsFrom (s.heap.objs.size + 1) scope.names []).lookup y.1).isSome = true) := fun ⟨n, v⟩ hy => by
    rcases S.par n (List.of_mem_zip hy).1 with q | q
    · exact .inl q
    · exact .inr ⟨q, PySem.W.cellsFrom_some _ _ _ (.inl q)⟩
  refine codeAny_call_function hr.depth (KX _ _ lk) rfl S.co S.gen rfl (PySem.W.codeRec_of KX hcd) (hb _ _ _ _ ?_)
  refine wpAny_newFunctionEnv_cells S.kind hkind fun env he s1 x => ?_
  subst he
  refine ⟨lim.keeps x.toInCall.keep, codeAny_func ?_⟩
  obtain ⟨t, ht, hq⟩ := hbody A outer s H vs Q E (hr.deeper _) hsp
  have I : Inv (cxOf CX P w K mg base N qual scope f cdv A outer s H E) [] (start N vs) H s1 := inv_start S hr.hd e0 hl r x
  refine wpAny_mono (ht [] s1 (start N vs) H _ I hq) (fun fl s' hs => ?_) fun e s' hs => hs
  have fin : ∀ {σ' : St} {H' : Hp} {v : V} {u : Value}, Inv (cxOf CX P w K mg base N qual scope f cdv A outer s H E) [] σ' H' s' → RelV v u → Q v H' → CE outer P w H s Q u s' :=
    fun {σ' H' v u} J rv q => ⟨v, H', J.os, J.bare, J.base, J.hok, rv, q⟩
  cases fl with
  | ret u =>
    obtain ⟨v, σ', H', J, rv, q⟩ := hs
    exact fin J rv q
  | next =>
    obtain ⟨σ', H', J, q⟩ := hs
    exact fin (v := V.non) (u := Value.none) J rfl q
  | brk =>
    obtain ⟨_, _, _, q⟩ := hs
    exact False.elim q
  | cont =>
    obtain ⟨_, _, _, q⟩ := hs
    exact False.elim q
end L2

namespace L2
open PySem PySem.Spec PyProof.Rows
section
variable {X : Cx} {x : Str} {p pos : Pos} {e : Expr} {es : List Expr} {t : TA} {id T : String} {r : List V → Hp → VK → Prop}

def tCB (r : List V → Hp → VK → Prop) (t : TA) : TE := fun σ H Q => t σ H fun vs H1 => r vs H1 Q
/-- f(e, ..), f a built-in function -/
theorem pe_callB (hc : CallR X (.builtin id) r) (hg : Gl X x) (hm : X.mg x = none) (hv : bootBuiltins x = some (.builtin id)) (ha : PA X (e :: es) t) (hn : x ≠ "__name__" := by decide) (hdb : (x == ("__debug__" : Str)) = false := by decide)
    (he : starEach (e :: es) X.env = (false, eval e X.env) :: starEach es X.env := by rfl) (hpl : (backTo pos (starEach es X.env)).any (·.1) = false := by rfl) : PE X (.Call (.Name x p) (e :: es) [] pos) (tCB r t) := by
  intro pins s σ H Q I h
  refine wpAny_Call_Name_kw (ld_blt I hg hm hv ?_ hn hdb)
  exact PyProof.Rows.callWith_builtin1 (thn (ha pos pins s σ H _ I h) fun us s1 ⟨vs, H1, I1, r1, q1⟩ => hc pins s1 σ H1 vs us Q I1 r1 q1) he hpl
/-- T(e, ..), T a built-in type -/
theorem pe_callTy (hc : CallR X (.type T) r) (hg : Gl X x) (hm : X.mg x = none) (hv : bootBuiltins x = some (.type T)) (ha : PA X (e :: es) t) (hn : x ≠ "__name__" := by decide) (hdb : (x == ("__debug__" : Str)) = false := by decide)
    (he : starEach (e :: es) X.env = (false, eval e X.env) :: starEach es X.env := by rfl) (hpl : (backTo pos (starEach es X.env)).any (·.1) = false := by rfl) : PE X (.Call (.Name x p) (e :: es) [] pos) (tCB r t) := by
  intro pins s σ H Q I h
  refine wpAny_Call_Name_kw (ld_blt I hg hm hv ?_ hn hdb)
  exact PyProof.Rows.callWith_type1 (thn (ha pos pins s σ H _ I h) fun us s1 ⟨vs, H1, I1, r1, q1⟩ => hc pins s1 σ H1 vs us Q I1 r1 q1) he hpl
end
end L2

namespace HT
open PySem PyProof.Rows

section
open PySem.SeqAt
open PySem.AutoSeq1 (wpAny_loadPart')
open PySem.MeetsSeq PySem.MeetsSeq2 PySem.MeetsSeq3

end

section
variable {prog : Program} {w : World} {A : Around} {E : Value → Shared → Prop} {s : Shared}

/-! ### t[a:b], not the whole -/
/-- a slice's bound as a place among n (d where it is left out) -/
def sIx (n d : Nat) : Option Int → Nat
  | none => d
  | some v => if v < 0 then (v + (n : Int)).toNat else min v.toNat n
theorem sIx_none (n d : Nat) : sIx n d none = d := rfl
theorem sIx_nat (n d k : Nat) : sIx n d (some (k : Int)) = min k n := by
  show (if (k : Int) < 0 then ((k : Int) + (n : Int)).toNat else min (k : Int).toNat n) = min k n
  rw [if_neg (by omega), Int.toNat_natCast]
end
end HT

namespace L2
open PySem PySem.Spec PyProof.Rows

/-! ### the parts of a slice -/
abbrev TO := St → Hp → (Option Int → Hp → Prop) → Prop
/-- a slice's part (left out, or an int) -/
def PO (X : Cx) (e : Option Expr) (t : TO) : Prop :=
  ∀ (pins : List (Addr × Obj)) (s : Shared) (σ : St) (H : Hp) (Q : Option Int → Hp → Prop), Inv X pins σ H s → t σ H Q →
    wpAny (model X.prog X.w) X.A (evalPart e X.env) (fun u s' => ∃ o H', Inv X pins σ H' s' ∧ IsPart u o ∧ Q o H') X.xe s
def tNoPart : TO := fun _ H Q => Q none H
def tPart (t : TE) : TO := fun σ H Q => t σ H fun x H1 => ∃ i, x = .int i ∧ Q (some i) H1

section
variable {X : Cx} {e : Expr} {te : TE} {lo hi : Option Expr} {tl th : TO} {pos p2 : Pos}

theorem po_none : PO X none tNoPart := by
  intro pins s σ H Q I h
  rw [evalPart_none]
  exact wpAny_pure ⟨none, H, I, .none, h⟩
theorem po_some (h : PE X e te) : PO X (some e) (tPart te) := by
  intro pins s σ H Q I hw
  rw [evalPart_some]
  refine thn (h pins s σ H _ I hw) fun u s1 ⟨x, H1, I1, r1, q1⟩ => ?_
  obtain ⟨i, rfl, q⟩ := q1
  obtain ⟨t, rfl⟩ := r1
  exact ⟨some i, H1, I1, .int i t, q⟩

/-- what a slice of a value is, by values: the slice object stands at sl -/
def SlR (X : Cx) (r : V → Option Int → Option Int → Hp → VK → Prop) : Prop :=
  ∀ (pins : List (Addr × Obj)) (s : Shared) (σ : St) (H : Hp) (x : V) (v vl vu : Value) (lo hi : Option Int) (sl : Addr) (Q : VK), Inv X pins σ H s → RelV x v → s.heap.IsSliceOf sl vl vu .none → IsPart vl lo → IsPart vu hi → r x lo hi H Q →
    ∃ T id, typeLookup (.type T) "__getitem__" = pure (some (.builtin id)) ∧ s.TypeIs v T ∧ wpAny (model X.prog X.w) X.A (getItem v (.ref sl)) (EP X pins σ Q) X.xe s
def tSl (r : V → Option Int → Option Int → Hp → VK → Prop) (te : TE) (tl th : TO) : TE := fun σ H Q => te σ H fun x H1 => tl σ H1 fun l H2 => th σ H2 fun u H3 => r x l u H3 Q
/-- a[lo:hi], any a -/
theorem pe_slice {r : V → Option Int → Option Int → Hp → VK → Prop} (hr : SlR X r) (he : PE X e te) (hl : PO X lo tl) (hu : PO X hi th) : PE X (.Subscript e (.Slice lo hi none p2) pos) (tSl r te tl th) := by
  intro pins s σ H Q I h
  refine Subscript_ (thn (he pins s σ H _ I h) fun v s1 ⟨x, H1, I1, r1, q1⟩ => ?_)
  refine wpAny_Slice (thn (hl pins s1 σ H1 _ I1 q1) fun vl s2 ⟨l, H2, I2, pl, q2⟩ => thn (hu pins s2 σ H2 _ I2 q2) fun vu s3 ⟨u, H3, I3, pu, q3⟩ => ?_)
  rw [evalPart_none]
  refine wpAny_pure ?_
  have I4 : Inv X pins σ H3 { s3 with heap := s3.heap.push { cls := .type "slice", data := .fields #[vl, vu, .none] } } := I3.kept (t' := s3.toks) fun b ob q => Heap.get?_push_of_some _ q
  obtain ⟨T, id, hT, ht, hg⟩ := hr pins { s3 with heap := s3.heap.push { cls := .type "slice", data := .fields #[vl, vu, .none] } } σ H3 x v vl vu l u s3.heap.objs.size Q I4 r1 (Heap.IsSliceOf.new ..) pl pu q3
  show wpAny (model X.prog X.w) X.A (subscriptTail e (.Slice lo hi none p2) v (.ref s3.heap.objs.size)) (EP X pins σ Q) X.xe { s3 with heap := s3.heap.push { cls := .type "slice", data := .fields #[vl, vu, .none] } }
  exact tail_any (ops := [.ref s3.heap.objs.size, v]) ht hT hg (by with_unfolding_all rfl)

/-- the items of xs[lo:hi] -/
def cutV (xs : List V) (lo hi : Option Int) : List V := (xs.drop (HT.sIx xs.length 0 lo)).take (HT.sIx xs.length xs.length hi - HT.sIx xs.length 0 lo)
theorem cutV_length (xs : List V) (lo hi : Option Int) : (cutV xs lo hi).length ≤ xs.length := by
  unfold cutV
  rw [List.length_take, List.length_drop]
  omega
/-! ### t < u, t + u -/
end
end L2

namespace L2
open PySem PySem.Spec PyProof.Rows

/-! ### places -/
/-- the place that an index of any sign means -/
def ixN (n : Nat) (i : Int) : Option Nat := if 0 ≤ i then (if i < n then some i.toNat else none) else if -(n : Int) ≤ i then some (i + n).toNat else none
def atI {α : Type} (xs : List α) (i : Int) : Option α := (ixN xs.length i).bind fun j => xs[j]?
theorem ixN_seq {n : Nat} {i : Int} {j : Nat} (h : ixN n i = some j) : seqIndex? i n = some j ∧ j < n ∧ -(n : Int) ≤ i ∧ i < n := by
  unfold ixN at h
  by_cases h0 : 0 ≤ i
  · rw [if_pos h0] at h
    by_cases h1 : i < n
    · rw [if_pos h1] at h
      have e : i.toNat = j := Option.some.inj h
      exact ⟨by rw [seqIndex_of h0 h1, e], by omega, by omega, h1⟩
    · rw [if_neg h1] at h; cases h
  · rw [if_neg h0] at h
    by_cases h1 : -(n : Int) ≤ i
    · rw [if_pos h1] at h
      have e : (i + n).toNat = j := Option.some.inj h
      exact ⟨by rw [seqIndex_neg (by omega) h1, e], by omega, h1, by omega⟩
    · rw [if_neg h1] at h; cases h
theorem atI_get {α : Type} {xs : List α} {i : Int} {v : α} (h : atI xs i = some v) : ∃ j, seqIndex? i xs.length = some j ∧ xs[j]? = some v ∧ j < xs.length ∧ -(xs.length : Int) ≤ i ∧ i < xs.length := by
  unfold atI at h
  cases e : ixN xs.length i with
  | none => rw [e] at h; cases h
  | some j =>
    rw [e] at h
    obtain ⟨h1, h2, h3, h4⟩ := ixN_seq e
    exact ⟨j, h1, h, h2, h3, h4⟩
theorem atI_nat {α : Type} {xs : List α} {j : Nat} {v : α} (h : xs[j]? = some v) : atI xs (j : Int) = some v := by
  have hj : j < xs.length := (List.getElem?_eq_some_iff.mp h).1
  have e : ixN xs.length (j : Int) = some j := by
    unfold ixN
    rw [if_pos (by omega), if_pos (by omega)]; simp
  unfold atI; rw [e]; exact h
/-! ### what may be subscripted -/
/-- what stands as an index of a plain subscript -/
def PlainIx (b : Expr) : Prop := ∀ o i, subscripted b false o i = operate [o, i] (getItem o i)
/-- a subscript by values -/
def IxR (X : Cx) (r : R2) : Prop :=
  ∀ (value slice : Expr) (pins : List (Addr × Obj)) (s : Shared) (σ : St) (H : Hp) (x y : V) (v u : Value) (Q : VK), Inv X pins σ H s → RelV x v → RelV y u → r x y H Q →
    subscripted slice false v u = operate [v, u] (getItem v u) → wpAny (model X.prog X.w) X.A (subscriptTail value slice v u) (EP X pins σ Q) X.xe s
/-- a call of a builtin's method by values: the receiver, the arguments -/
def MtR (X : Cx) (id : String) (r : V → List V → Hp → VK → Prop) : Prop :=
  ∀ (pins : List (Addr × Obj)) (s : Shared) (σ : St) (H : Hp) (x : V) (xs : List V) (v : Value) (us : List Value) (Q : VK), Inv X pins σ H s → RelV x v → Vals xs us → r x xs H Q →
    wpAny (model X.prog X.w) X.A (call (.builtin id) (v :: us)) (EP X pins σ Q) X.xe s
section
variable {X : Cx} {a b : Expr} {ta tb : TE} {pos : Pos}
/-- a[b] -/
theorem pe_ix {r : R2} (hr : IxR X r) (ha : PE X a ta) (hb : PE X b tb) (hs : PlainIx b) : PE X (.Subscript a b pos) (tOp r ta tb) := by
  intro pins s σ H Q I h
  exact Subscript_ (binT ha hb I h fun v u s2 x y H2 I2 rx ry q => hr a b pins s2 σ H2 x y v u Q I2 rx ry q (hs _ _))

def rIxL (K : PySem.W.Frag) : R2 := fun x y H Q => ∃ p xs i v, x = .ref p ∧ y = .int i ∧ SqL K H p xs ∧ atI xs i = some v ∧ Q v H
def rIxT (K : PySem.W.Frag) : R2 := fun x y H Q => ∃ p xs i v, x = .ref p ∧ y = .int i ∧ SqT K H p xs ∧ atI xs i = some v ∧ Q v H
theorem ix_list : IxR X (rIxL X.K) := by
  intro value slice pins s σ H x y v u Q I rx ry h hs
  obtain ⟨p, xs, i, z, rfl, rfl, hq, he, q⟩ := h
  cases rx
  obtain ⟨t, rfl⟩ := ry
  obtain ⟨its, r, pl, hz⟩ := I.list hq
  obtain ⟨j, h1, h2, h3, h4, h5⟩ := atI_get he
  obtain ⟨w, ew, rw'⟩ := r.get h2
  have hl := r.length
  have hn := line63
  have fin : EP X pins σ Q w s := ⟨z, H, I, rw', q⟩
  by_cases h0 : 0 ≤ i
  · have hj : i.toNat = j := by
      rw [seqIndex_of h0 h5] at h1
      exact Option.some.inj h1
    exact item_listR pl.isList h0 (by omega) (by rw [hj]; simpa using ew) fin hs
  · have hj : (i + (its.toArray.size : Int)).toNat = j := by
      rw [seqIndex_neg (by omega) h4] at h1
      rw [List.size_toArray, ← hl]
      exact Option.some.inj h1
    exact subscriptTail_builtinR (x := w) pl.isList.typeIs slot_list_getitem.lookup
      (wpAny_getItem_list_neg (Q := fun r s' => r = w ∧ EP X pins σ Q r s') pl.isList (by omega) (by rw [List.size_toArray] <;> omega) (by omega) (by rw [hj]; simpa using ew) ⟨rfl, fin⟩) hs
theorem ix_tup : IxR X (rIxT X.K) := by
  intro value slice pins s σ H x y v u Q I rx ry h hs
  obtain ⟨p, xs, i, z, rfl, rfl, hq, he, q⟩ := h
  cases rx
  obtain ⟨t, rfl⟩ := ry
  obtain ⟨its, r, pl, hz⟩ := I.tuple hq
  obtain ⟨j, h1, h2, h3, h4, h5⟩ := atI_get he
  obtain ⟨w, ew, rw'⟩ := r.get h2
  have hl := r.length
  have hn := line63
  have fin : EP X pins σ Q w s := ⟨z, H, I, rw', q⟩
  exact subscriptTail_builtinR (x := w) pl.typeIs slot_tuple_getitem.lookup
    (getItem_tuple (j := j) (Q := fun r s' => r = w ∧ EP X pins σ Q r s') pl (by omega) (by omega) (by rw [List.size_toArray, ← hl]; exact h1) (by simpa using ew) ⟨rfl, fin⟩) hs
/-! ### xs[i] = v, any sign -/
/-! ### slices -/
theorem slice_bounds (lo hi : Option Int) (n : Nat) : (sliceBounds lo hi none n).1 = ((HT.sIx n 0 lo : Nat) : Int) ∧ (sliceBounds lo hi none n).2.1 = ((HT.sIx n n hi : Nat) : Int) ∧ (sliceBounds lo hi none n).2.2 = 1 := by
  refine ⟨?_, ?_, rfl⟩
  · cases lo with
    | none => simp [sliceBounds, HT.sIx]
    | some i =>
      simp only [sliceBounds, HT.sIx, Option.getD_none, show (1 : Int) > 0 by decide, if_true]
      by_cases h : i < 0
      · simp only [h, if_true] <;> omega
      · simp only [h, if_false] <;> omega
  · cases hi with
    | none => simp [sliceBounds, HT.sIx]
    | some i =>
      simp only [sliceBounds, HT.sIx, Option.getD_none, show (1 : Int) > 0 by decide, if_true]
      by_cases h : i < 0
      · simp only [h, if_true] <;> omega
      · simp only [h, if_false] <;> omega
theorem slicePick_cut (its : List Value) (lo hi : Option Int) : slicePick its.toArray lo hi none = ((its.drop (HT.sIx its.length 0 lo)).take (HT.sIx its.length its.length hi - HT.sIx its.length 0 lo)).toArray := by
  obtain ⟨h1, h2, h3⟩ := slice_bounds lo hi its.toArray.size
  unfold slicePick
  rw [h1, h2, h3]
  simp only [sliceRange_one, pick_run, List.size_toArray] <;> rfl
/-- xs[lo:hi] of a list: a new list -/
def rSlL (K : PySem.W.Frag) : V → Option Int → Option Int → Hp → VK → Prop := fun x lo hi H Q => ∃ a xs, x = .ref a ∧ SqL K H a xs ∧ ∀ p, H p = none → Q (.ref p) (upd H p (.lst (cutV xs lo hi)))
theorem sl_list : SlR X (rSlL X.K) := by
  intro pins s σ H x v vl vu lo hi sl Q I rx hs pl pu h
  obtain ⟨a, xs, rfl, hx, q⟩ := h
  cases rx
  obtain ⟨its, r, ht, hz⟩ := I.list hx
  have hlen := r.length
  refine ⟨"list", _, slot_list_getitem.lookup, ht.isList.typeIs, ?_⟩
  refine wpAny_getItem_list_slice ht.isList hs pl pu .none (by simp) ?_ (by rw [List.size_toArray] <;> omega)
  rw [slicePick_cut, ← hlen]
  refine ⟨.ref s.heap.objs.size, _, I.laid (t' := s.toks) (o := .lst (cutV xs lo hi)) (fun b ob q => Heap.get?_push_of_some _ q) (Nat.le_refl _) ?_, rfl, q _ (I.hok.fresh (Nat.le_refl _))⟩
  exact ⟨Nat.le_trans (cutV_length xs lo hi) hz, _, 0, (r.drop (HT.sIx xs.length 0 lo)).take (HT.sIx xs.length xs.length hi - HT.sIx xs.length 0 lo), Heap.get?_push_size _ rfl⟩

/-! ### in, not in: flat items -/
def flatV : V → Bool
  | .non => true
  | .bl _ => true
  | .int _ => true
  | .str _ => true
  | _ => false
/-- == of flat values -/
def eqV : V → V → Bool
  | .non, .non => true
  | .bl a, .bl b => a == b
  | .bl a, .int b => (if a then 1 else 0) == b
  | .int a, .bl b => a == (if b then 1 else 0)
  | .int a, .int b => a == b
  | .str a, .str b => a == b
  | _, _ => false
theorem eqAt_V {A : Around} {s : Shared} {y x : V} {u v : Value} (ry : RelV y u) (rx : RelV x v) (fy : flatV y = true) (fx : flatV x = true) : SeqAt.EqAt A s u v (eqV y x) := by
  cases y with
  | non =>
    cases ry
    cases x with
    | non => cases rx; exact SeqAt.EqAt.same _
    | bl b => cases rx; exact SeqAt.EqAt.none_bool b
    | int b => obtain ⟨t, rfl⟩ := rx; exact SeqAt.EqAt.none_int b t
    | str b => obtain ⟨t, rfl⟩ := rx; exact SeqAt.EqAt.none_str b t
    | _ => exact absurd (show false = true from fx) Bool.false_ne_true
  | bl a =>
    cases ry
    cases x with
    | non => cases rx; exact SeqAt.EqAt.bool_none a
    | bl b => cases rx; exact SeqAt.EqAt.bool_bool a b
    | int b => obtain ⟨t, rfl⟩ := rx; exact SeqAt.EqAt.bool_int a b t
    | str b => obtain ⟨t, rfl⟩ := rx; exact SeqAt.EqAt.bool_str a b t
    | _ => exact absurd (show false = true from fx) Bool.false_ne_true
  | int a =>
    obtain ⟨t', rfl⟩ := ry
    cases x with
    | non => cases rx; exact SeqAt.EqAt.int_none a t'
    | bl b => cases rx; exact SeqAt.EqAt.int_bool a t' b
    | int b => obtain ⟨t, rfl⟩ := rx; exact SeqAt.EqAt.int_int a t' b t
    | str b => obtain ⟨t, rfl⟩ := rx; exact SeqAt.EqAt.int_str a t' b t
    | _ => exact absurd (show false = true from fx) Bool.false_ne_true
  | str a =>
    obtain ⟨t', rfl⟩ := ry
    cases x with
    | non => cases rx; exact SeqAt.EqAt.str_none a t'
    | bl b => cases rx; exact SeqAt.EqAt.str_bool a t' b
    | int b => obtain ⟨t, rfl⟩ := rx; exact SeqAt.EqAt.str_int a t' b t
    | str b => obtain ⟨t, rfl⟩ := rx; exact SeqAt.EqAt.str_str a t' b t
    | _ => exact absurd (show false = true from fx) Bool.false_ne_true
  | _ => exact absurd (show false = true from fy) Bool.false_ne_true
/-- the items' answers, read off the values (a value's own answer does not lean on its token) -/
def eqU (x : V) (u : Value) : Bool := match u with
  | .none => eqV .non x
  | .bool b => eqV (.bl b) x
  | .int i _ => eqV (.int i) x
  | .str z _ => eqV (.str z) x
  | _ => false
theorem eqU_of {x y : V} {u : Value} (r : RelV y u) (f : flatV y = true) : eqU x u = eqV y x := by
  cases y with
  | non => cases r; rfl
  | bl b => cases r; rfl
  | int i => obtain ⟨t, rfl⟩ := r; rfl
  | str z => obtain ⟨t, rfl⟩ := r; rfl
  | _ => exact absurd (show false = true from f) Bool.false_ne_true
theorem any_eqU {x : V} : ∀ {xs : List V} {us : List Value}, Vals xs us → xs.all flatV = true → us.any (eqU x) = xs.any fun y => eqV y x
  | _, _, .nil, _ => rfl
  | y :: xs, u :: us, .cons r t, f => by
    rw [List.all_cons, Bool.and_eq_true] at f
    rw [List.any_cons, List.any_cons, eqU_of r f.1, any_eqU t f.2]
theorem mem_eqAt {A : Around} {s : Shared} {x : V} {v : Value} (rx : RelV x v) (fx : flatV x = true) : ∀ {xs : List V} {us : List Value}, Vals xs us → xs.all flatV = true → ∀ u ∈ us, SeqAt.EqAt A s u v (eqU x u)
  | _, _, .nil, _ => fun u hu => by cases hu
  | y :: xs, u :: us, .cons r t, f => fun u' hu => by
    rw [List.all_cons, Bool.and_eq_true] at f
    rcases List.mem_cons.mp hu with rfl | hu
    · rw [eqU_of r f.1]; exact eqAt_V r rx f.1 fx
    · exact mem_eqAt rx fx t f.2 u' hu
def inV (x : V) (xs : List V) : Bool := xs.any fun y => eqV y x
/-- x in a list or tuple of flat items -/
def rIn (K : PySem.W.Frag) (neg : Bool) : R2 := fun x y H Q => ∃ p xs, y = .ref p ∧ (SqL K H p xs ∨ SqT K H p xs) ∧ flatV x = true ∧ xs.all flatV = true ∧ Q (.bl (if neg then !inV x xs else inV x xs)) H
theorem op_in_seq : OpR X (compareOp .In) (rIn X.K false) := by
  intro pins s σ H x y v u Q I rx ry h
  obtain ⟨p, xs, rfl, hq, fx, fs, q⟩ := h
  cases ry
  rcases hq with hq | hq
  · obtain ⟨its, r, pl, hz⟩ := I.list hq
    refine SeqAt.in_listAt (eqU x) pl.isList (fun w hw => mem_eqAt rx fx r fs w (by simpa using hw)) ⟨.bl _, H, I, rfl, ?_⟩
    rw [show its.toArray.any (eqU x) = its.any (eqU x) by simp, any_eqU r fs]
    exact q
  · obtain ⟨its, r, pl, hz⟩ := I.tuple hq
    refine SeqAt.in_tupleAt (eqU x) pl (fun w hw => mem_eqAt rx fx r fs w (by simpa using hw)) ⟨.bl _, H, I, rfl, ?_⟩
    rw [show its.toArray.any (eqU x) = its.any (eqU x) by simp, any_eqU r fs]
    exact q
theorem op_notIn_seq : OpR X (compareOp .NotIn) (rIn X.K true) := by
  intro pins s σ H x y v u Q I rx ry h
  obtain ⟨p, xs, rfl, hq, fx, fs, q⟩ := h
  cases ry
  rcases hq with hq | hq
  · obtain ⟨its, r, pl, hz⟩ := I.list hq
    refine SeqAt.notIn_listAt (eqU x) pl.isList (fun w hw => mem_eqAt rx fx r fs w (by simpa using hw)) ⟨.bl _, H, I, rfl, ?_⟩
    rw [show its.toArray.any (eqU x) = its.any (eqU x) by simp, any_eqU r fs]
    exact q
  · obtain ⟨its, r, pl, hz⟩ := I.tuple hq
    refine SeqAt.notIn_tupleAt (eqU x) pl (fun w hw => mem_eqAt rx fx r fs w (by simpa using hw)) ⟨.bl _, H, I, rfl, ?_⟩
    rw [show its.toArray.any (eqU x) = its.any (eqU x) by simp, any_eqU r fs]
    exact q
/-! ### len, list(x), tuple(x) of any list or tuple that is read -/
theorem call_len_seq : CallR X (.builtin "len") (fun xs H Q => ∃ p ys, xs = [.ref p] ∧ (SqL X.K H p ys ∨ SqT X.K H p ys) ∧ Q (.int ys.length) H) := by
  intro pins s σ H xs us Q I r h
  obtain ⟨p, ys, rfl, hq, q⟩ := h
  obtain ⟨u, rfl, rx⟩ := vals1 r
  cases rx
  have hn := line63
  rcases hq with hq | hq
  · obtain ⟨its, r', pl, hz⟩ := I.list hq
    have hlen := r'.length
    exact Calls.call_len_list pl.isList (by simp only [List.size_toArray] <;> omega) ⟨.int ys.length, H, I.tok _, ⟨s.toks + 1, by rw [List.size_toArray, hlen]⟩, q⟩
  · obtain ⟨its, r', pl, hz⟩ := I.tuple hq
    have hlen := r'.length
    exact len_tuple pl (by simp only [List.size_toArray] <;> omega) ⟨.int ys.length, H, I.tok _, ⟨s.toks + 1, by rw [List.size_toArray, hlen]⟩, q⟩
theorem call_list_of : CallR X (.type "list") (fun xs H Q => ∃ p ys, xs = [.ref p] ∧ (SqL X.K H p ys ∨ SqT X.K H p ys) ∧ ∀ l, H l = none → Q (.ref l) (upd H l (.lst ys))) := by
  intro pins s σ H xs us Q I r h
  obtain ⟨p, ys, rfl, hq, q⟩ := h
  obtain ⟨u, rfl, rx⟩ := vals1 r
  cases rx
  have fin : ∀ (its : List Value), Vals ys its → ys.length ≤ sizeLine → ∀ (h' : Heap) (c' : Nat), (∀ b o', s.heap.get? b = some o' → h'.get? b = some o') →
      h'.get? s.heap.objs.size = some { cls := .type "list", dict := none, data := .seq its.toArray c', slots := #[] } → EP X pins σ Q (.ref s.heap.objs.size) { s with heap := h' } := fun its r' hz h' c' kp e =>
    ⟨.ref s.heap.objs.size, _, I.laid (t' := s.toks) kp (Nat.le_refl _) (show ObjOk X.prog X.w _ h' _ (.lst ys) from ⟨hz, its, c', r', e⟩), rfl, q _ (I.hok.fresh (Nat.le_refl _))⟩
  rcases hq with hq | hq
  · obtain ⟨its, r', pl, hz⟩ := I.list hq
    have hlen := r'.length
    obtain ⟨o, ho, hc, n, hd⟩ := pl.isList
    exact call_list_seq p (.inl rfl) ho hc hd (fun h' c' kp e => fin its r' hz h' c' kp e) (by simp only [List.size_toArray] <;> omega)
  · obtain ⟨its, r', pl, hz⟩ := I.tuple hq
    have hlen := r'.length
    obtain ⟨o, ho, hc, n, hd⟩ := pl
    exact call_list_seq p (.inr rfl) ho hc hd (fun h' c' kp e => fin its r' hz h' c' kp e) (by simp only [List.size_toArray] <;> omega)
/-! ### the call of a builtin's method: o.m(..) -/
/-- the value is of that builtin type -/
def tyV (K : PySem.W.Frag) (T : String) (x : V) (H : Hp) : Prop := match x with
  | .str _ => T = "str"
  | .int _ => T = "int"
  | .ref p => (T = "list" ∧ ∃ xs, SqL K H p xs) ∨ (T = "tuple" ∧ ∃ o, K.lookup p = some o ∧ o.cls = .type "tuple" ∧ o.dict = none) ∨
      (T = "dict" ∧ ((∃ kvs, H p = some (.dK kvs)) ∨ ∃ kvs, H p = some (.dT kvs))) ∨ (T = "set" ∧ ∃ S n, H p = some (.set S n))
  | _ => False
theorem tyV_is {pins : List (Addr × Obj)} {σ : St} {H : Hp} {s : Shared} {T : String} {x : V} {v : Value} (I : Inv X pins σ H s) (r : RelV x v) (ty : tyV X.K T x H) :
    s.TypeIs v T ∧ ∀ a, v = .ref a → ∃ ob, s.heap.get? a = some ob ∧ ob.dict = none := by
  cases x with
  | str z =>
    obtain ⟨t, rfl⟩ := r
    cases (show T = "str" from ty)
    exact ⟨typeIs_str s z t, fun _ e => nomatch e⟩
  | int i =>
    obtain ⟨t, rfl⟩ := r
    cases (show T = "int" from ty)
    exact ⟨typeIs_int s i t, fun _ e => nomatch e⟩
  | ref p =>
    cases r
    rcases ty with ⟨rfl, xs, hq⟩ | ⟨rfl, o, hk, hc, hd⟩ | ⟨rfl, hk⟩ | ⟨rfl, S, n, hk⟩
    · obtain ⟨its, _, pl, _⟩ := I.list hq
      refine ⟨pl.isList.typeIs, fun a e => ?_⟩
      cases e
      obtain ⟨o, n, e, c, hd, _⟩ := pl
      exact ⟨o, e, hd⟩
    · refine ⟨⟨o, I.kIn p o hk, hc⟩, fun a e => ?_⟩
      cases e
      exact ⟨o, I.kIn _ o hk, hd⟩
    · have z : ∃ o, s.heap.get? p = some o ∧ o.ExactDict := by
        rcases hk with ⟨kvs, hk⟩ | ⟨kvs, hk⟩
        · obtain ⟨_, _, _, _, o, _, _, e, ex, _⟩ := I.hok p _ hk
          exact ⟨o, e, ex⟩
        · obtain ⟨_, _, _, _, o, _, _, e, ex, _⟩ := I.hok p _ hk
          exact ⟨o, e, ex⟩
      obtain ⟨o, e, ex⟩ := z
      refine ⟨⟨o, e, ex.1⟩, fun a e2 => ?_⟩
      cases e2
      exact ⟨o, e, ex.2.1⟩
    · obtain ⟨o, _, _, _, e, ex, _⟩ := I.hok p _ hk
      refine ⟨⟨o, e, ex.1⟩, fun a e2 => ?_⟩
      cases e2
      exact ⟨o, e, ex.2.1⟩
  | _ => exact False.elim ty
def tBM (K : PySem.W.Frag) (T : String) (r : V → List V → Hp → VK → Prop) (to : TE) (t : TA) : TE := fun σ H Q => to σ H fun x H1 => tyV K T x H1 ∧ t σ H1 fun xs H2 => r x xs H2 Q
variable {o e : Expr} {es : List Expr} {to : TE} {t : TA} {name : Str} {apos cpos : Pos} {T id : String} {r : V → List V → Hp → VK → Prop}
theorem pe_bm (pa : PlainAttrs T) (slot : Slot T name id) (hty : typeOf (.builtin id) = pure (.type "method_descriptor")) (hm : MtR X id r) (ho : PE X o to) (ha : PA X (e :: es) t)
    (hbase : attributeBase o name X.env (eval o X.env) = eval o X.env := by rfl)
    (hfew : ((backTo cpos (starEach (e :: es) X.env)).all (fun x => !x.1) && (backToKw cpos (keywordEach [] X.env)).all (fun x => x.1.isSome)
      && decide ((e :: es).length + ([] : List Keyword).length + (if ([] : List Keyword).isEmpty then 0 else 1) < 30)) = true := by rfl)
    (hline : (apos.endLine == cpos.line) = true := by rfl) (hs : starEach (e :: es) X.env = (false, eval e X.env) :: starEach es X.env := by rfl) (hplain : (backTo cpos (starEach es X.env)).any (·.1) = false := by rfl) :
    PE X (.Call (.Attribute o name apos) (e :: es) [] cpos) (tBM X.K T r to t) := by
  intro pins s σ H Q I h
  refine wpAny_Call_method_late hbase hfew hline rfl (thn (ho pins s σ H _ I h) fun v s1 ⟨x, H1, I1, r1, ty, q1⟩ => ?_)
  obtain ⟨h1, h2⟩ := tyV_is I1 r1 ty
  refine ⟨T, id, pa, slot, hty, h1, h2, ?_⟩
  have hA := ha cpos pins s1 σ H1 _ I1 q1
  rw [hs] at hA ⊢
  refine Calls.callWith_builtin (by show (false || (backTo cpos (starEach es X.env)).any (·.1)) = false; rw [hplain] <;> rfl) (Calls.evalArgs_plain ?_)
  exact thn hA fun us s2 ⟨vs, H2, I2, r2, q2⟩ => hm pins s2 σ H2 x vs v us Q I2 r1 r2 q2
/- xs.append(e), list.index on a module's tuple .. are MtR facts of 06m -/
end
end L2

namespace L2
open PySem PySem.Spec PyProof.Rows

def MtM (X : Cx) (id : String) (r : V → List V → Hp → VK → Prop) : Prop :=
  ∀ (pins : List (Addr × Obj)) (s : Shared) (σ : St) (H : Hp) (x : V) (xs : List V) (v : Value) (us : List Value) (Q : VK), Inv X pins σ H s → RelV x v → Vals xs us → r x xs H Q →
    wpAny (model X.prog X.w) X.A (call (.builtin id) (v :: us)) (EP X pins σ Q) X.xe s

/-! ### lists of values -/
theorem Vals.one : ∀ {x : V} {us : List Value}, Vals [x] us → ∃ u, us = [u] ∧ RelV x u
  | _, _, .cons r .nil => ⟨_, rfl, r⟩
section
variable {X : Cx} {pins : List (Addr × Obj)} {σ : St} {H : Hp} {s : Shared} {l b : Addr} {xs ys zs : List V}

/-! ### the two steps: a tracked list is rewritten, a new list is laid -/
theorem Inv.lset {its its' : List Value} {n : Nat} {f : Array Value → Array Value} {t' : Nat} (I : Inv X pins σ H s) (hH : H l = some (.lst xs))
    (e : s.heap.get? l = some { cls := .type "list", data := .seq its.toArray n }) (hf : f its.toArray = its'.toArray) (hv : Vals ys its') (hz : ys.length ≤ sizeLine) :
    Inv X pins σ (upd H l (.lst ys)) { s with heap := s.heap.update l (Obj.mapSeq f), toks := t' } := by
  have q := PySem.IsL.update e f
  rw [hf] at q
  refine I.write (x := l) (e := l) (by rw [hH]; exact trivial) (.inl rfl) (fun b' u hb hu => (Heap.get?_update_other s.heap (Obj.mapSeq f) (Ne.symm hb)).trans hu) ⟨_, q⟩ ?_
  exact ⟨hz, its', _, hv, q⟩
theorem Inv.lnew {its : List Value} {t' : Nat} (I : Inv X pins σ H s) (hv : Vals ys its) (hz : ys.length ≤ sizeLine) :
    Inv X pins σ (upd H s.heap.objs.size (.lst ys)) { s with heap := s.heap.push { cls := .type "list", data := .seq its.toArray }, toks := t' } :=
  I.laid (fun _ _ q => Heap.get?_push_of_some _ q) (Nat.le_refl _) ⟨hz, its, 0, hv, Heap.get?_push_size _ rfl⟩
theorem Inv.fresh (I : Inv X pins σ H s) : H s.heap.objs.size = none := I.hok.fresh (Nat.le_refl _)
theorem Inv.lstM (I : Inv X pins σ H s) (hH : H l = some (.lst xs)) : xs.length ≤ sizeLine ∧ ∃ (its : List Value) (n : Nat), Vals xs its ∧ xs.length = its.length ∧ s.heap.get? l = some { cls := .type "list", data := .seq its.toArray n } := by
  obtain ⟨z, its, n, r, e⟩ := I.hok l _ hH
  exact ⟨z, its, n, r, r.length, e⟩

theorem notLongL {n : Nat} (h : n ≤ sizeLine) : Builtin.List.listTooLong n = false := by
  unfold Builtin.List.listTooLong
  exact decide_eq_false (by omega)
end

section
variable {X : Cx}

/-! ### methods -/
def rAppend : V → List V → Hp → VK → Prop := fun x vs H Q => ∃ l xs y, x = .ref l ∧ vs = [y] ∧ H l = some (.lst xs) ∧ xs.length < sizeLine ∧ Q .non (upd H l (.lst (xs ++ [y])))
theorem mt_append : MtM X "list.append" rAppend := by
  intro pins s σ H x vs v us Q I rx rv h
  obtain ⟨l, xs, y, rfl, rfl, hH, hz, q⟩ := h
  cases rx
  obtain ⟨u, rfl, ru⟩ := rv.one
  obtain ⟨z, its, n, r, hl, e⟩ := I.lstM hH
  refine call_meets F.slot_list_append ⟨_, e, rfl⟩ F.entry_list_append (F.args_list_append_2 _ _) (PySem.list_append l its.toArray n u (by rw [List.size_toArray]; omega)) ⟨e, ?_⟩
  refine ⟨.non, _, I.lset (its' := its ++ [u]) hH e (by simp) (r.append (.cons ru .nil)) ?_, rfl, q⟩
  rw [List.length_append, List.length_singleton]
  omega

def rExtend : V → List V → Hp → VK → Prop := fun x vs H Q => ∃ l b xs zs, x = .ref l ∧ vs = [.ref b] ∧ H l = some (.lst xs) ∧ H b = some (.lst zs) ∧ xs.length + zs.length ≤ sizeLine ∧ Q .non (upd H l (.lst (xs ++ zs)))
theorem mt_extend : MtM X "list.extend" rExtend := by
  intro pins s σ H x vs v us Q I rx rv h
  obtain ⟨l, b, xs, zs, rfl, rfl, hH, hB, hz, q⟩ := h
  cases rx
  obtain ⟨u, rfl, ru⟩ := rv.one
  cases ru
  obtain ⟨z, its, n, r, hl, e⟩ := I.lstM hH
  obtain ⟨z2, its2, n2, r2, hl2, e2⟩ := I.lstM hB
  have hsz : its.toArray.size + its2.toArray.size ≤ sizeLine := by rw [List.size_toArray, List.size_toArray]; omega
  have hlong : ¬ (!its.toArray.isEmpty && Builtin.List.listTooLong (its.toArray.size + its2.toArray.size)) = true := by
    rw [notLongL hsz, Bool.and_false]
    exact Bool.false_ne_true
  refine call_meets F.slot_list_extend ⟨_, e, rfl⟩ F.entry_list_extend (F.args_list_extend_2 _ _)
    (AutoSeq1.list_extend_list_list_0 l its.toArray n b its2.toArray n2 hlong (by rw [List.size_toArray]; omega) (by omega)) ⟨e, e2, ?_⟩
  refine ⟨.non, _, I.lset (its' := its ++ its2) hH e (by simp) (r.append r2) ?_, rfl, q⟩
  rw [List.length_append]
  omega

/-! ### list + list, list += list, list * int -/
def rCat : R2 := fun x y H Q => ∃ l b xs zs, x = .ref l ∧ y = .ref b ∧ H l = some (.lst xs) ∧ H b = some (.lst zs) ∧ xs.length + zs.length ≤ sizeLine ∧ ∀ p, H p = none → Q (.ref p) (upd H p (.lst (xs ++ zs)))
theorem op_cat : OpR X (binaryOp .Add) rCat := by
  intro pins s σ H x y v u Q I rx ry h
  obtain ⟨l, b, xs, zs, rfl, rfl, hH, hB, hz, q⟩ := h
  cases rx
  cases ry
  obtain ⟨z, its, n, r, hl, e⟩ := I.lstM hH
  obtain ⟨z2, its2, n2, r2, hl2, e2⟩ := I.lstM hB
  refine PySem.P.add_list e e2 ?_ (by rw [List.size_toArray, List.size_toArray]; omega)
  have ea : its.toArray ++ its2.toArray = (its ++ its2).toArray := by simp
  rw [ea]
  exact ⟨.ref _, _, I.lnew (t' := s.toks) (r.append r2) (by rw [List.length_append]; omega), rfl, q _ I.fresh⟩
/-! ### del xs[i] -/
end

/-! ### xs[a:b] = ys -/
section
variable {prog : Program} {w : World} {A : Around} {E : Value → Shared → Prop} {s : Shared}
end

section
variable {X : Cx}
end
end L2

namespace L2
open PySem PySem.Spec PyProof.Rows

theorem Vals.bls : ∀ {bs : List Bool} {us : List Value}, Vals (bs.map V.bl) us → us = bs.map Value.bool
  | [], us, h => by
    rw [List.map_nil] at h
    cases h
    rfl
  | b :: bs, us, h => by
    rw [List.map_cons] at h
    cases h with
    | cons r t =>
      cases r
      rw [Vals.bls t, List.map_cons]
theorem Vals.ref1 {a : Addr} {us : List Value} (r : Vals [V.ref a] us) : us = [Value.ref a] := by
  cases r with
  | cons r t =>
    cases t
    cases r
    rfl
/-! ### the library's walks over a list of ints, kept objects alone -/
section
variable {prog : Program} {w : World} {A : Around} {E : Value → Shared → Prop} {s : Shared} {l : Addr} {its : List Value} {ns : List Int} {Q : Value → Shared → Prop}
end

/-! ### the calls, by values (CallR of 03t; MtR of 06l) -/
section
variable {X : Cx}
/-! sorted, sort (fewer than 64 items: the library's own bound) -/
end

/-! ### list.index, flat items -/
section
variable {X : Cx}
end

/-! ### type(x) of an own instance; is, is not of a module's class -/
section
variable {X : Cx}
end

/-! ### any(xs), all(xs) of a list of bools -/
theorem iter_any {prog : Program} {w : World} {A : Around} {E : Value → Shared → Prop} {s : Shared} {l : Addr} {items : Array Value} {Q : Value → Shared → Prop} (hl : s.heap.IsList l items)
    (h : ∀ s₂ : Shared, s₂ = { s with heap := s.heap.push { cls := .type "list_iterator", data := .fields #[.ref l, .int 0 0] } } →
      (s₂.heap.IsListIter s.heap.objs.size l 0 ∧ s₂.heap.IsList l items) → l ≠ s.heap.objs.size → Q (.ref s.heap.objs.size) s₂) : wpAny (model prog w) A (pyIter (.ref l)) Q E s := by
  have hlt : l < s.heap.objs.size := by obtain ⟨_, e, _⟩ := hl; exact Heap.lt_size e
  exact wpAny_pyIter_list hl (h _ rfl ⟨⟨_, Heap.get?_push_size _ rfl, rfl, rfl⟩, hl.push _⟩ (Nat.ne_of_lt hlt))
theorem truth_bools {prog : Program} {w : World} {A : Around} {bs : List Bool} {its : List Value} (e : its = bs.map Value.bool) :
    TruthOf prog w A (fun i v => its.toArray[i]? = some v) (fun i => bs.getD i false) := fun i v s Q E hv hq => by
  have hv' : its[i]? = some v := by simpa using hv
  rw [e, List.getElem?_map] at hv'
  obtain ⟨b, hb, rfl⟩ := Option.map_eq_some_iff.mp hv'
  have hg : bs.getD i false = b := by rw [List.getD_eq_getElem?_getD, hb] <;> rfl
  have hq' : Q (bs.getD i false) s := hq
  rw [hg] at hq'
  exact wpAny_truthy_bool hq'
theorem all_range : ∀ bs : List Bool, (List.range bs.length).all (fun i => bs.getD i false) = bs.all id
  | [] => rfl
  | b :: bs => by
    rw [List.length_cons, List.range_succ_eq_map, List.all_cons, List.all_map, List.all_cons, ← all_range bs]
    all_goals rfl
section
variable {X : Cx}
def rAll (K : PySem.W.Frag) : List V → Hp → VK → Prop := fun vs H Q => ∃ (a : Addr) (bs : List Bool), vs = [V.ref a] ∧ SqL K H a (bs.map V.bl) ∧ Q (.bl (bs.all id)) H
theorem cr_all (hc : X.calm = true) : CallR X (.builtin "all") (rAll X.K) := by
  intro pins s σ H vs us Q I r h
  obtain ⟨a, bs, rfl, hs, q⟩ := h
  obtain ⟨its, rv, hl, _⟩ := I.list hs
  rw [Vals.ref1 r]
  have hb := rv.bls
  refine call_all_walk (iter_any hl.isList fun s₂ e2 st hne => ?_)
  subst e2
  refine ⟨_, _, _, _, _, _, _, rfl, Walks.list (A := X.A.in1) (I.ok.hd hc) _ a hne its.toArray, st, truth_bools hb, fun h' tk hk => ?_⟩
  refine ⟨.bl _, H, I.kept fun b o eo => hk b o (fun hmem => ?_) (Heap.get?_push_of_some _ eo), ?_, q⟩
  · rcases List.mem_cons.mp hmem with e1 | hmem
    · exact absurd (e1 ▸ Heap.lt_size eo) (Nat.lt_irrefl _)
    · cases hmem
  · show Value.bool _ = Value.bool _
    rw [← all_range, hb, List.size_toArray, List.length_map]
end

/-! ### == and != of data at any depth: none, bools, ints, texts, lists, tuples -/
section
variable {X : Cx} {pins : List (Addr × Obj)} {σ : St} {H : Hp} {s : Shared}
end
section
variable {X : Cx}
end
end L2

namespace L2
open PySem PySem.Spec PyProof.Rows
abbrev CellAt (h : Heap) (c : Addr) (v : Option Value) : Prop := h.IsCell c v
def relS (scope sc : Scope) : Scope :=
  { scope with names := scope.names.map fun (n, k) => if (k == .free && sc.kind == .function && sc.names.lookup n == some .cell) then (n, .cell) else (n, k) }

def cloFrom (cells : List (Str × Addr)) : List (Str × NameKind) → List (Str × Addr) → List (Str × Addr)
  | [], acc => acc
  | (n, k) :: r, acc => if k == .free then cloFrom cells r ((n, (cells.lookup n).getD 0) :: acc) else cloFrom cells r acc

theorem closure_loop (env : Env) (f : Str × NameKind → List (Str × Addr) → Sem (ForInStep (List (Str × Addr))))
    (hf : ∀ n k c, f (n, k) c = if k == .free then (do let a ← cellOf env n; pure (.yield ((n, a) :: c))) else pure (.yield c)) :
    ∀ (names : List (Str × NameKind)) (acc : List (Str × Addr)), (∀ y ∈ names, y.2 = .free → ∃ c, env.cells.lookup y.1 = some c) → forIn names acc f = pure (cloFrom env.cells names acc)
  | [], acc, _ => by rw [List.forIn_nil]; rfl
  | (n, k) :: r, acc, h => by
    rw [List.forIn_cons, hf]
    have ih := fun acc => closure_loop env f hf r acc fun y hy => h y (List.mem_cons_of_mem _ hy)
    unfold cloFrom
    by_cases hk : (k == NameKind.free) = true
    · rw [if_pos hk, if_pos hk]
      obtain ⟨c, hc⟩ := h (n, k) List.mem_cons_self (by simpa using hk)
      have e : cellOf env n = pure c := by unfold cellOf; rw [hc]
      rw [e]
      have e2 : (env.cells.lookup n).getD 0 = c := by rw [hc]; rfl
      rw [e2]
      exact ih _
    · rw [if_neg hk, if_neg hk]
      exact ih _
theorem closure_ok {scope : Scope} {env : Env} (h : ∀ y ∈ scope.names, y.2 = .free → ∃ c, env.cells.lookup y.1 = some c) : closureFor scope env = pure (cloFrom env.cells scope.names []) := by
  simp only [closureFor]
  rw [closure_loop env _ (fun n k c => rfl) scope.names [] h]
  rfl

theorem mem_lookup {α : Type} : ∀ {l : List (Str × α)} {n : Str} {c : α}, (n, c) ∈ l → ∃ c', l.lookup n = some c'
  | (k, v) :: r, n, c, h => by
    rw [List.lookup_cons]
    cases hb : n == k with
    | true => exact ⟨_, rfl⟩
    | false =>
      rcases List.mem_cons.mp h with e | h
      · cases e; simp at hb
      · exact mem_lookup h

theorem cloFrom_mem {cells : List (Str × Addr)} : ∀ {names : List (Str × NameKind)} {acc : List (Str × Addr)} {n : Str} {c : Addr}, (n, c) ∈ cloFrom cells names acc → (n, c) ∈ acc ∨ ((n, .free) ∈ names ∧ c = (cells.lookup n).getD 0)
  | [], _, _, _, h => .inl h
  | (m, k) :: r, acc, n, c, h => by
    unfold cloFrom at h
    split at h
    · rename_i hk
      have hk : k = .free := by simpa using hk
      rcases cloFrom_mem h with h | ⟨h1, h2⟩
      · rcases List.mem_cons.mp h with e | h
        · cases e; exact .inr ⟨hk ▸ List.mem_cons_self, rfl⟩
        · exact .inl h
      · exact .inr ⟨List.mem_cons_of_mem _ h1, h2⟩
    · rcases cloFrom_mem h with h | ⟨h1, h2⟩
      · exact .inl h
      · exact .inr ⟨List.mem_cons_of_mem _ h1, h2⟩
theorem cloFrom_acc {cells : List (Str × Addr)} : ∀ {names : List (Str × NameKind)} {acc : List (Str × Addr)} {p : Str × Addr}, p ∈ acc → p ∈ cloFrom cells names acc
  | [], _, _, h => h
  | (m, k) :: r, acc, p, h => by
    unfold cloFrom
    split
    · exact cloFrom_acc (List.mem_cons_of_mem _ h)
    · exact cloFrom_acc h
theorem cloFrom_has {cells : List (Str × Addr)} : ∀ {names : List (Str × NameKind)} {acc : List (Str × Addr)} {n : Str}, (n, .free) ∈ names → (n, (cells.lookup n).getD 0) ∈ cloFrom cells names acc
  | (m, k) :: r, acc, n, h => by
    unfold cloFrom
    rcases List.mem_cons.mp h with e | h
    · cases e
      exact cloFrom_acc List.mem_cons_self
    · split
      · exact cloFrom_has h
      · exact cloFrom_has h

theorem cells_mem : ∀ {names : List (Str × NameKind)} {h : Heap} {acc : List (Str × Addr)} {x : Str} {c : Addr}, (x, c) ∈ cellsFrom h.objs.size names acc →
    (x, c) ∈ acc ∨ ((x, .cell) ∈ names ∧ h.objs.size ≤ c ∧ CellAt (pushCells h names) c none)
  | [], _, _, _, _, h => .inl h
  | (n, k) :: r, h, acc, x, c, hm => by
    unfold cellsFrom at hm
    unfold pushCells
    split at hm
    · rename_i hk
      rw [if_pos hk]
      have hk : k = .cell := by simpa using hk
      rw [← Heap.size_push h { cls := .type "cell", data := .cell none }] at hm
      rcases cells_mem hm with hm | ⟨h1, h2, h3⟩
      · rcases List.mem_cons.mp hm with e | hm
        · cases e
          exact .inr ⟨hk ▸ List.mem_cons_self, Nat.le_refl _, _, pushCells_keeps r _ _ _ (Heap.get?_push_size _ rfl), rfl⟩
        · exact .inl hm
      · rw [Heap.size_push] at h2
        exact .inr ⟨List.mem_cons_of_mem _ h1, Nat.le_of_succ_le h2, h3⟩
    · rename_i hk
      rw [if_neg hk]
      rcases cells_mem hm with hm | ⟨h1, h2, h3⟩
      · exact .inl hm
      · exact .inr ⟨List.mem_cons_of_mem _ h1, h2, h3⟩
theorem cells_acc : ∀ {names : List (Str × NameKind)} {n : Nat} {acc : List (Str × Addr)} {p : Str × Addr}, p ∈ acc → p ∈ cellsFrom n names acc
  | [], _, _, _, h => h
  | (m, k) :: r, n, acc, p, h => by
    unfold cellsFrom
    split
    · exact cells_acc (List.mem_cons_of_mem _ h)
    · exact cells_acc h
theorem cells_has : ∀ {names : List (Str × NameKind)} {n : Nat} {acc : List (Str × Addr)} {x : Str}, (x, .cell) ∈ names → ∃ c, (x, c) ∈ cellsFrom n names acc
  | (m, k) :: r, n, acc, x, h => by
    unfold cellsFrom
    rcases List.mem_cons.mp h with e | h
    · cases e
      exact ⟨n, cells_acc List.mem_cons_self⟩
    · split
      · exact cells_has h
      · exact cells_has h
theorem cells_inj : ∀ {names : List (Str × NameKind)} {h : Heap} {acc : List (Str × Addr)} {x y : Str} {c : Addr}, (∀ p ∈ acc, p.2 < h.objs.size) → (∀ x y c, (x, c) ∈ acc → (y, c) ∈ acc → x = y) →
    (x, c) ∈ cellsFrom h.objs.size names acc → (y, c) ∈ cellsFrom h.objs.size names acc → x = y
  | [], _, _, _, _, _, _, hi, h1, h2 => hi _ _ _ h1 h2
  | (n, k) :: r, h, acc, x, y, c, hl, hi, h1, h2 => by
    unfold cellsFrom at h1 h2
    split at h1
    · rename_i hk
      rw [if_pos hk] at h2
      rw [← Heap.size_push h { cls := .type "cell", data := .cell none }] at h1 h2
      refine cells_inj (h := h.push _) (fun p hp => ?_) (fun x y c a b => ?_) h1 h2
      · rw [Heap.size_push]
        rcases List.mem_cons.mp hp with rfl | hp
        · exact Nat.lt_succ_self _
        · exact Nat.lt_succ_of_lt (hl p hp)
      · rcases List.mem_cons.mp a with e | a <;> rcases List.mem_cons.mp b with e' | b
        · cases e; cases e'; rfl
        · cases e; exact absurd (hl _ b) (Nat.lt_irrefl _)
        · cases e'; exact absurd (hl _ a) (Nat.lt_irrefl _)
        · exact hi _ _ _ a b
    · rename_i hk
      rw [if_neg hk] at h2
      exact cells_inj hl hi h1 h2

theorem newEnv_comp {M : Model} {A : Around} {E : Value → Shared → Prop} {s : Shared} {scope : Scope} {globals : Addr} {closure : List (Str × Addr)} {qual : Str} {func : Option Addr} {code : Value} {around : Env} {builtins : Addr} {Q : Env → Shared → Prop}
    (h : Q (newEnv scope s.heap.objs.size globals (cellsFrom (s.heap.objs.size + 1) scope.names closure) qual func code (some around) builtins)
      { s with heap := pushCells (s.heap.push { cls := .type "dict", data := .dict #[] }) scope.names }) :
    wpAny M A (newFunctionEnv scope globals closure [] qual func code (some around) builtins) Q E s := by
  simp only [newFunctionEnv, Option.isSome_some, if_true]
  refine wpAny_bind (wpAny_alloc ?_)
  refine wpAny_bind (wpAny_layCells _ (fun n k c => rfl) scope.names closure _ _ ?_)
  rw [show ({ s with heap := s.heap.push { cls := .type "dict", data := .dict #[] } } : Shared).heap.objs.size = s.heap.objs.size + 1 from Heap.size_push ..]
  rw [List.forIn_nil]
  exact wpAny_bind (wpAny_pure (wpAny_pure h))

/-- every name of the written scope, in the scope that runs -/
theorem lookup_relS {sc : Scope} : ∀ {names : List (Str × NameKind)} {x : Str} {k : NameKind},
    (names.map fun (n, k) => if (k == NameKind.free && sc.kind == .function && sc.names.lookup n == some .cell) then (n, NameKind.cell) else (n, k)).lookup x = some k →
    ∃ k', names.lookup x = some k' ∧ (k = k' ∨ (k' = .free ∧ k = .cell))
  | [], _, _, h => by simp at h
  | (n, k₀) :: r, x, k, h => by
    have ih := @lookup_relS sc r x k
    have h' : List.lookup x ((if (k₀ == NameKind.free && sc.kind == .function && sc.names.lookup n == some .cell) = true then (n, NameKind.cell) else (n, k₀)) :: (r.map _)) = some k := h
    cases hx : x == n with
    | true =>
      simp only [List.lookup_cons, hx]
      by_cases hc : (k₀ == NameKind.free && sc.kind == .function && sc.names.lookup n == some .cell) = true
      · rw [if_pos hc] at h'
        simp only [List.lookup_cons, hx] at h'
        cases h'
        simp only [Bool.and_eq_true, beq_iff_eq] at hc
        exact ⟨k₀, rfl, .inr ⟨hc.1.1, rfl⟩⟩
      · rw [if_neg hc] at h'
        simp only [List.lookup_cons, hx] at h'
        cases h'
        exact ⟨_, rfl, .inl rfl⟩
    | false =>
      simp only [List.lookup_cons, hx]
      by_cases hc : (k₀ == NameKind.free && sc.kind == .function && sc.names.lookup n == some .cell) = true
      · rw [if_pos hc] at h'
        simp only [List.lookup_cons, hx] at h'
        exact ih h'
      · rw [if_neg hc] at h'
        simp only [List.lookup_cons, hx] at h'
        exact ih h'
/-- the names of a comprehension's block: its own (with their places in N), or captured -/
structure BlkOk (N : List Str) (sc scope : Scope) (own : List (Str × Nat)) : Prop where
  kind : scope.kind = .function
  uniq : ∀ y ∈ scope.names, scope.names.lookup y.1 = some y.2
  ix : ∀ p ∈ own, N[p.2]? = some p.1
  free : ∀ y ∈ scope.names, y.2 = .free → sc.names.lookup y.1 = some .cell ∨ sc.names.lookup y.1 = some .free
  own : ∀ y ∈ scope.names, y.2 = .local ∨ y.2 = .cell → y.1 ∈ own.map (·.1) ∨ y.1 ∉ N
/-- the slots of the block's own names forgotten -/
def wipe (σ : St) : List Nat → St
  | [] => σ
  | v :: vs => (wipe σ vs).set v none
theorem wipe_length (σ : St) : ∀ vs : List Nat, (wipe σ vs).length = σ.length
  | [] => rfl
  | v :: vs => by unfold wipe; rw [List.length_set, wipe_length σ vs]
theorem wipe_some {σ : St} {i : Nat} {x : V} : ∀ {vs : List Nat}, (wipe σ vs)[i]? = some (some x) → σ[i]? = some (some x) ∧ i ∉ vs
  | [], h => ⟨h, by simp⟩
  | v :: vs, h => by
    unfold wipe at h
    by_cases hi : v = i
    · subst hi
      by_cases hv : v < (wipe σ vs).length
      · rw [List.getElem?_set_self hv] at h; cases h
      · rw [List.getElem?_eq_none (by simpa using hv)] at h; cases h
    · rw [List.getElem?_set_ne hi] at h
      obtain ⟨h1, h2⟩ := wipe_some h
      exact ⟨h1, by simp only [List.mem_cons, not_or]; exact ⟨fun e => hi e.symm, h2⟩⟩

/-- the context of a block that starts at s, its iterator's objects at fp -/
abbrev Cx.blk (X : Cx) (s : Shared) (H : Hp) (scope : Scope) (cenv : Env) (fp : List Addr) : Cx := { X with s_0 := s, H_0 := H, env := cenv, outer := X.stack, ex := fp, fn := fun x => scope.names.lookup x == some .cell, pn := [], xe := fun _ _ => False }
section
variable {X : Cx} {pins : List (Addr × Obj)} {σ : St} {H : Hp} {s : Shared}
theorem block_start {scope : Scope} {own : List (Str × Nat)} {fp : List Addr} (I : Inv X pins σ H s) (ok : BlkOk X.N X.env.scope scope own) (hN : X.N.Nodup) (hfp : ∀ b ∈ fp, FpOk X pins H b ∧ b < s.heap.objs.size) :
    Inv (X.blk s H scope (compEnvC scope (cellsFrom (s.heap.objs.size + 1) scope.names (cloFrom X.env.cells scope.names [])) s.heap.objs.size X.env) fp) [] (wipe σ (own.map (·.2))) H { s with heap := pushCells (s.heap.push { cls := .type "dict", data := .dict #[] }) scope.names } := by
  have hfree : ∀ y ∈ scope.names, y.2 = .free → ∃ c, X.env.cells.lookup y.1 = some c := fun y hy e => by
    rcases ok.free y hy e with k | k
    · exact I.ok.has _ (.inl k)
    · exact I.ok.has _ (.inr k)
  generalize hcenv : compEnvC scope (cellsFrom (s.heap.objs.size + 1) scope.names (cloFrom X.env.cells scope.names [])) s.heap.objs.size X.env = cenv
  have kp : ∀ b o, s.heap.get? b = some o → (pushCells (s.heap.push { cls := .type "dict", data := .dict #[] }) scope.names).get? b = some o := fun b o e => pushCells_keeps _ _ _ _ (Heap.get?_push_of_some _ e)
  have hL : cenv.locals = s.heap.objs.size := by rw [← hcenv]; rfl
  have hcl : cenv.cells = cellsFrom (s.heap.objs.size + 1) scope.names (cloFrom X.env.cells scope.names []) := by rw [← hcenv]; rfl
  have hsc : cenv.scope = relS scope X.env.scope := by rw [← hcenv]; rfl
  rw [← Heap.size_push s.heap { cls := .type "dict", data := .dict #[] }] at hcl
  have cm : ∀ {y c}, (y, c) ∈ cloFrom X.env.cells scope.names [] → X.env.cells.lookup y = some c ∧ c < s.heap.objs.size := fun {y c} hm => by
    rcases cloFrom_mem hm with hm | ⟨h1, rfl⟩
    · cases hm
    · obtain ⟨c, hc⟩ := hfree _ h1 rfl
      rw [hc]
      obtain ⟨w, z⟩ := I.cell _ _ hc
      exact ⟨rfl, z.lt⟩
  have mem : ∀ {y c}, cenv.cells.lookup y = some c → (X.env.cells.lookup y = some c ∧ c < s.heap.objs.size) ∨ (s.heap.objs.size + 1 ≤ c ∧ CellAt (pushCells (s.heap.push { cls := .type "dict", data := .dict #[] }) scope.names) c none) := fun {y c} e => by
    rw [hcl] at e
    rcases cells_mem (PySem.mem_of_lookup e) with hm | ⟨_, h2, h3⟩
    · exact .inl (cm hm)
    · rw [Heap.size_push] at h2; exact .inr ⟨h2, h3⟩
  have look : ∀ {y}, scope.names.lookup y = some .free → ∃ c, cenv.cells.lookup y = some c ∧ X.env.cells.lookup y = some c := fun {y} hl => by
    have hy : (y, NameKind.free) ∈ scope.names := PySem.mem_of_lookup hl
    obtain ⟨c', e'⟩ := mem_lookup (cells_acc (names := scope.names) (n := (s.heap.push { cls := .type "dict", data := .dict #[] }).objs.size) (cloFrom_has (cells := X.env.cells) (acc := []) hy))
    rw [← hcl] at e'
    refine ⟨c', e', ?_⟩
    rw [hcl] at e'
    rcases cells_mem (PySem.mem_of_lookup e') with hm | ⟨h1, _, _⟩
    · exact (cm hm).1
    · have := ok.uniq _ h1
      rw [hl] at this; cases this
  have okB : (X.blk s H scope cenv fp).Ok := by
    refine ⟨I.ok.mod, by show cenv.scope.kind = _; rw [hsc]; exact ok.kind, by show cenv.globals = _; rw [← hcenv]; exact I.ok.glob, by show cenv.builtins = _; rw [← hcenv]; exact I.ok.blt, by show s.heap.objs.size ≤ cenv.locals; rw [hL]; exact Nat.le_refl _,
      fun y z c e1 e2 => ?_, fun y hy => ?_, fun y c z e => ?_, I.ok.hd, I.ok.frames, .inl rfl, fun b hb => ⟨?_, fun y c e z => ?_⟩, I.bs, Nat.le_trans I.ok.bsz I.sz, fun b o e hb => ?_, fun b hb z => ?_, I.stack, I.stkFree⟩
    · have e1 : cenv.cells.lookup y = some c := e1
      have e2 : cenv.cells.lookup z = some c := e2
      rw [hcl] at e1 e2
      refine cells_inj (fun p hp => ?_) (fun y z c a b => I.ok.inj y z c (cm a).1 (cm b).1) (PySem.mem_of_lookup e1) (PySem.mem_of_lookup e2)
      rw [Heap.size_push]
      exact Nat.lt_succ_of_lt (cm (y := p.1) (c := p.2) hp).2
    · show ∃ c, cenv.cells.lookup y = some c
      have key : ∀ k, cenv.kindOf y = some k → (k = .cell ∨ k = .free) → ∃ c, cenv.cells.lookup y = some c := fun k hk hk' => by
        unfold Env.kindOf at hk
        rw [hsc] at hk
        obtain ⟨k', e, r⟩ := lookup_relS hk
        have : k' = .cell ∨ k' = .free := by
          rcases r with rfl | ⟨rfl, _⟩
          · exact hk'
          · exact .inr rfl
        rcases this with rfl | rfl
        · obtain ⟨c, hm⟩ := cells_has (n := (s.heap.push { cls := .type "dict", data := .dict #[] }).objs.size) (acc := cloFrom X.env.cells scope.names []) (PySem.mem_of_lookup e)
          obtain ⟨c', e'⟩ := mem_lookup hm
          exact ⟨c', by rw [hcl]; exact e'⟩
        · obtain ⟨c, h1, _⟩ := look e
          exact ⟨c, h1⟩
      rcases hy with hy | hy
      · exact key _ hy (.inl rfl)
      · exact key _ hy (.inr rfl)
    · have z : (scope.names.lookup y == some NameKind.cell) = true := z
      have z : scope.names.lookup y = some .cell := by simpa using z
      have e : cenv.cells.lookup y = some c := e
      rw [hcl] at e
      rcases cells_mem (PySem.mem_of_lookup e) with hm | ⟨_, h2, _⟩
      · rcases cloFrom_mem hm with hm | ⟨h1, _⟩
        · cases hm
        · have q := ok.uniq _ h1
          rw [z] at q; cases q
      · rw [Heap.size_push] at h2
        exact Nat.le_of_succ_le h2
    · show b ≠ cenv.locals
      rw [hL]; exact Nat.ne_of_lt (hfp b hb).2
    · have e : cenv.cells.lookup y = some c := e
      rcases mem e with ⟨h1, _⟩ | ⟨h1, _⟩
      · exact (hfp b hb).1.2.2.2.2.1 y c h1 z
      · have h2 : s.heap.objs.size + 1 ≤ b := by rw [← z]; exact h1
        exact absurd (Nat.lt_of_lt_of_le (hfp b hb).2 (Nat.le_of_succ_le h2)) (Nat.lt_irrefl _)
    · rcases (hfp b hb).1.2.2.2.1 with z | z
      · exact I.ok.noex b o e z
      · exact absurd (Nat.lt_of_lt_of_le (Heap.lt_size e) (Nat.le_trans I.ok.bsz z)) (Nat.lt_irrefl _)
    · rcases List.mem_cons.mp (I.stkSub b z) with z | z
      · exact (hfp b hb).1.2.1 z
      · exact (hfp b hb).1.2.2.1 z
  refine ⟨okB, rfl, I.bare, Un.kept kp, ⟨fun _ => none, ?_, fun i y av e1 e2 e3 => ?_⟩, fun y c e => ?_, ?_, fun y c e => ?_, fun p hp => ?_, I.hok.kept kp, by rw [wipe_length]; exact I.len⟩
  · show Heap.Ns _ cenv.locals _
    rw [hL]
    exact Heap.Ns.keeps (Heap.Ns.new ..) fun b o e => pushCells_keeps _ _ _ _ e
  · obtain ⟨e2, hne⟩ := wipe_some e2
    have hfr : scope.names.lookup y = some .free ∧ (cenv.kindOf y = some .cell ∨ cenv.kindOf y = some .free) := by
      have key : ∀ k, cenv.scope.names.lookup y = some k → k = .local ∨ k = .cell ∨ k = .free → scope.names.lookup y = some .free ∧ (cenv.kindOf y = some .cell ∨ cenv.kindOf y = some .free) := fun k hk hk' => by
        have hk0 := hk
        rw [hsc] at hk
        obtain ⟨k', e, r⟩ := lookup_relS hk
        have no : ¬ (k' = .local ∨ k' = .cell) := fun hh => by
          rcases ok.own _ (PySem.mem_of_lookup e) hh with e' | e'
          · obtain ⟨p, hp, hpy⟩ := List.mem_map.mp e'
            have e3 := ok.ix p hp
            have : p.1 = y := hpy
            rw [this] at e3
            exact hne (List.mem_map.mpr ⟨p, hp, nodup_ix hN e3 e1⟩)
          · exact e' (List.mem_of_getElem? e1)
        rcases r with rfl | ⟨rfl, rfl⟩
        · rcases hk' with rfl | rfl | rfl
          · exact absurd (.inl rfl) no
          · exact absurd (.inr rfl) no
          · exact ⟨e, .inr hk0⟩
        · exact ⟨e, .inl hk0⟩
      have e3 : Vis cenv.scope y := e3
      rcases e3 with e3 | e3 | e3
      · exact key _ e3 (.inl rfl)
      · exact key _ e3 (.inr (.inl rfl))
      · exact key _ e3 (.inr (.inr rfl))
    obtain ⟨m, hn, hl⟩ := I.loc
    have hvis : Vis X.env.scope y := (ok.free _ (PySem.mem_of_lookup hfr.1) rfl).elim (fun k => .inr (.inl k)) (fun k => .inr (.inr k))
    obtain ⟨w, r, q⟩ := hl i y av e1 e2 hvis
    refine ⟨w, r, .inr ⟨hfr.2, ?_⟩⟩
    obtain ⟨c, h1, h2⟩ := look hfr.1
    rcases q with ⟨k, _⟩ | ⟨_, c', e', z⟩
    · have k : X.env.scope.names.lookup y = some .local := k
      rcases ok.free _ (PySem.mem_of_lookup hfr.1) rfl with k' | k' <;> rw [show X.env.scope.names.lookup y = _ from k'] at k <;> cases k
    · rw [h2] at e'; cases e'
      exact ⟨c, h1, z.keeps kp⟩
  · have e : cenv.cells.lookup y = some c := e
    rcases mem e with ⟨h1, _⟩ | ⟨_, z⟩
    · obtain ⟨w, z⟩ := I.cell y c h1
      exact ⟨w, z.keeps kp⟩
    · exact ⟨_, z⟩
  · show H cenv.locals = none
    rw [hL]; exact I.hok.fresh (Nat.le_refl _)
  · have e : cenv.cells.lookup y = some c := e
    rcases mem e with ⟨h1, _⟩ | ⟨h1, _⟩
    · exact I.freeC y c h1
    · exact I.hok.fresh (Nat.le_of_succ_le h1)
  · exact absurd (show p ∈ ([] : List (Addr × Obj)) ++ [] from hp) (by simp)

/-- an item appended to a tracked list -/
theorem app_ok {E : Value → Shared → Prop} {D : Addr} {xs : List V} {y : V} {v : Value} {Q : Value → Shared → Prop} (I : Inv X pins σ H s) (hD : H D = some (.lst xs)) (hz : xs.length < sizeLine) (r : RelV y v)
    (h : ∀ s', Inv X pins σ (upd H D (.lst (xs ++ [y]))) s' → Q .none s') : wpAny (model X.prog X.w) X.A (call (.builtin "list.append") [.ref D, v]) Q E s := by
  obtain ⟨hz', its, n, ri, e⟩ := I.hok D _ hD
  have hl := ri.length
  refine append_at (hsz := by rw [List.size_toArray]; omega) e fun h' sb ho' => ?_
  refine h { s with heap := h' } (I.write (t' := s.toks) (by rw [hD]; trivial) (.inl rfl) (fun b u hb q => (sb.2 b hb).trans q) ⟨_, ho'⟩ ⟨by rw [List.length_append]; exact hz, its ++ [v], n + 1, ri.append (.cons r .nil), ?_⟩)
  rw [ho']
  simp

/-- a clause's tests -/
def PTs (X : Cx) (ifs : List Expr) (t : TT) : Prop :=
  ∀ (pins : List (Addr × Obj)) (s : Shared) (σ : St) (H : Hp) (Q : Bool → Hp → Prop), Inv X pins σ H s → t σ H Q →
    wpAny (model X.prog X.w) X.A (forIn ifs true fun c r => if r = true then do let ok ← isTrue c X.env (eval c X.env); pure (ForInStep.yield ok) else pure (ForInStep.yield r)) (TP X pins σ Q) X.xe s
def tYes : TT := fun _ H Q => Q true H
theorem pts_nil : PTs X [] tYes := fun _ _ _ H _ I h => wpAny_tests_nil ⟨H, I, h⟩
theorem pts_one {c : Expr} {t : TT} (h : PT X c t) : PTs X [c] t := fun pins s σ H Q I hw => wpAny_tests_one (h pins s σ H Q I hw)
end

theorem thnF {α : Type} {t : Sem α} {Q Q' : α → Shared → Prop} {M : Model} {A : Around} {E : Value → Shared → Prop} {s : Shared} (h : wpAny M A t Q (fun _ _ => False) s) (hQ : ∀ a s, Q a s → Q' a s) : wpAny M A t Q' E s := wpAny_mono h hQ fun _ _ z => False.elim z

/-- the loop of a list comprehension's block, the target of any form (codeAny_compLoop_tests asks a target that no tuple goes to; statement and proof follow it, PyProof/CompMap.lean:41-61, with the step letOwnedTupleGo kept) -/
theorem compLoop_any {prog : Program} {w : World} {A : Around} {R : Result → Shared → Prop} {s : Shared} {elt target iter : Expr} {ifs : List Expr} {scope : Scope} {pos : Pos} {it acc : Value} {env : Env} (I : Nat → Shared → Prop)
    (turn : ∀ n s, I n s → wpAny (model prog w) A (pyNext it) (fun r s₁ => match r with
      | none => R (.ok .next) s₁
      | some v => wpAny (model prog w) A (letOwnedTupleGo target it v) (fun _ s₁' => wpAny (model prog w) A (assign target env v) (fun _ s₂ =>
          wpAny (model prog w) A (forIn ifs true fun c r => if r = true then do let ok ← isTrue c env (eval c env); pure (ForInStep.yield ok) else pure (ForInStep.yield r)) (fun ok s₃ =>
            if ok = true then wpAny (model prog w) A (eval elt env) (fun x s₄ =>
              wpAny (model prog w) A (call (.builtin "list.append") [acc, x]) (fun _ s₅ => ∃ m, m < n ∧ I m s₅) (notedBy (model prog w) A env fun e s' => R (.error e) s') s₄) (notedBy (model prog w) A env fun e s' => R (.error e) s') s₃
            else ∃ m, m < n ∧ I m s₃) (notedBy (model prog w) A env fun e s' => R (.error e) s') s₂) (notedBy (model prog w) A env fun e s' => R (.error e) s') s₁') (notedBy (model prog w) A env fun e s' => R (.error e) s') s₁) (notedBy (model prog w) A env fun e s' => R (.error e) s') s)
    (n : Nat) (h : I n s) :
    codeAny (model prog w) A (.compLoop (.ListComp elt [⟨target, iter, ifs, 0⟩] scope pos) 0 it acc env) R s := by
  refine codeAny_loop rfl I (fun n s hI => ?_) n h
  show wpAny _ A ((compTurn (.ListComp elt [⟨target, iter, ifs, 0⟩] scope pos) 0 it acc env).onRaise (fun x => do noteFrame x env; theTreesLotGoes x)) _ _ s
  refine wpAny_noted ?_
  rw [compTurn_list]
  refine wpAny_bind (wpAny_standAt (wpAny_bind (wpAny_mono (turn n s hI) (fun r s₁ h₁ => ?_) fun _ _ h' => h')))
  cases r with
  | none => exact wpAny_pure h₁
  | some v =>
    refine wpAny_bind (wpAny_mono h₁ (fun _ s₁' h₁' => ?_) fun _ _ h' => h')
    refine wpAny_bind (wpAny_mono h₁' (fun _ s₂ h₂ => wpAny_bind (wpAny_mono h₂ (fun ok s₃ h₃ => ?_) fun _ _ h' => h')) fun _ _ h' => h')
    cases ok with
    | false => exact wpAny_pure ⟨rfl, h₃⟩
    | true =>
      exact wpAny_bind (wpAny_bind (wpAny_mono h₃ (fun x s₄ h₄ => wpAny_bind (wpAny_mono h₄ (fun _ s₅ h₅ => wpAny_pure (wpAny_pure ⟨rfl, h₅⟩)) fun _ _ h' => h')) fun _ _ h' => h'))

section
variable {X : Cx}
/-- [elt for target in iter if ..]: D the new list; W by the turn and a measure, Nx what a turn is to reach -/
def tLc (wi : TI) (g : TG) (tt : TT) (te : TE) (vs : List Nat) : TE := fun σ H Q => wi σ H fun J H1 => ∀ D, H1 D = none → ∃ W : Nat → Nat → Hp → Prop, (∃ m, W 0 m (upd H1 D (.lst []))) ∧ ∀ i m H, W i m H →
  (J.stop i H ∧ Q (.ref D) H) ∨ (J.go i H ∧ ∃ Nx : Hp → Prop, (∀ H', Nx H' → ∃ m', m' < m ∧ W (i + 1) m' H') ∧ ∀ x H', J.yld i H x H' → g x (wipe σ vs) H' fun σ2 H2 => wipe σ2 vs = wipe σ vs ∧ tt σ2 H2 fun b H3 =>
    if b = true then te σ2 H3 fun y H4 => ∃ acc, H4 D = some (.lst acc) ∧ acc.length < sizeLine ∧ Nx (upd H4 D (.lst (acc ++ [y]))) else Nx H3)
theorem lc_core {pins : List (Addr × Obj)} {s : Shared} {σ : St} {H : Hp} {Q : VK} {elt tg iter : Expr} {ifs : List Expr} {scope : Scope} {own : List (Str × Nat)} {pos pos' : Pos} {wi : TI} {g : TG} {tt : TT} {te : TE} {use : Option (Value → Sem Unit)} {Qf : Value → Shared → Prop}
    (hc : X.calm = true) (hN : X.N.Nodup) (I : Inv X pins σ H s) (hi : PI X tg iter wi) (ok : BlkOk X.N X.env.scope scope own)
    (hg : ∀ (s : Shared) (H : Hp) (C : Addr) (cl : List (Str × Addr)) (fp : List Addr), PG (X.blk s H scope (compEnvC scope cl C X.env) fp) tg g) (ht : ∀ (s : Shared) (H : Hp) (C : Addr) (cl : List (Str × Addr)) (fp : List Addr), PTs (X.blk s H scope (compEnvC scope cl C X.env) fp) ifs tt)
    (he : ∀ (s : Shared) (H : Hp) (C : Addr) (cl : List (Str × Addr)) (fp : List Addr), PE (X.blk s H scope (compEnvC scope cl C X.env) fp) elt te) (hs : ∀ x, foldedSetIterable iter X.env x = pure x)
    (h : tLc wi g tt te (own.map (·.2)) σ H Q)
    (hRR : ∀ D C s' m H', Inv X pins σ H' s' → Q (.ref D) H' → s'.heap.Ns C m → FpOk X pins H' C → compPost (model X.prog X.w) X.A X.xe use Qf (.ref D) C (.ok .next) s') :
    wpAny (model X.prog X.w) X.A (comprehension (.ListComp elt [⟨tg, iter, ifs, 0⟩] scope pos) scope X.env pos' (newList []) false (eval iter X.env) use) Qf X.xe s := by
  have hfree : ∀ y ∈ scope.names, y.2 = .free → ∃ c, X.env.cells.lookup y.1 = some c := fun y hy e => by
    rcases ok.free y hy e with k | k
    · exact I.ok.has _ (.inl k)
    · exact I.ok.has _ (.inr k)
  refine wpAny_comprehension_free (use := use) rfl hs (closure_ok hfree) ok.kind (fun y hy e => by rw [ok.uniq y hy, e])
    (thn (hi pins s σ H _ I h) fun xv s1 hx => thn hx fun itv s2 h2 => ?_)
  obtain ⟨it, fp, tn, J, H2, e, I2, T, st2, f2, q⟩ := h2
  subst e
  refine wpAny_newObj_type (newEnv_comp ?_) (by show 0 ≤ sizeLine; decide)
  generalize hD : s2.heap.objs.size = D
  have hDn : H2 D = none := I2.hok.fresh (Nat.le_of_eq hD)
  obtain ⟨W, ⟨m0, w0⟩, turn⟩ := q D hDn
  -- the new list
  generalize hs3 : ({ s2 with heap := s2.heap.push { cls := .type "list", data := .seq ([] : List Value).toArray } } : Shared) = s3
  have I3 : Inv X pins σ (upd H2 D (.lst [])) s3 := by
    rw [← hs3]
    refine I2.laid (t' := s2.toks) (fun b o e => Heap.get?_push_of_some _ e) (Nat.le_of_eq hD) ⟨Nat.zero_le _, [], 0, .nil, ?_⟩
    rw [← hD]
    exact Heap.get?_push_size _ rfl
  have h3 : s3.heap = s2.heap.push { cls := .type "list", data := .seq ([] : List Value).toArray } := by rw [← hs3]
  have sz : ∀ b ∈ fp, b < s2.heap.objs.size := fun b hb => by
    obtain ⟨o, e, _⟩ := T.obj _ _ st2 b hb
    exact Heap.lt_size e
  have f3 : ∀ b ∈ fp, FpOk X pins (upd H2 D (.lst [])) b ∧ b < s3.heap.objs.size := fun b hb => by
    have hlt := sz b hb
    refine ⟨⟨?_, (f2 b hb).2⟩, by rw [h3, Heap.size_push]; exact Nat.lt_succ_of_lt hlt⟩
    rw [upd_ne (by rw [← hD]; exact Nat.ne_of_lt hlt)]
    exact (f2 b hb).1
  have st3 : tn 0 s3.heap := T.keep _ _ _ st2 fun b _ o e => by rw [h3]; exact Heap.get?_push_of_some _ e
  have I4 := block_start I3 ok hN f3
  have pg := hg s3 (upd H2 D (.lst [])) s3.heap.objs.size (cellsFrom (s3.heap.objs.size + 1) scope.names (cloFrom X.env.cells scope.names [])) fp
  have pt := ht s3 (upd H2 D (.lst [])) s3.heap.objs.size (cellsFrom (s3.heap.objs.size + 1) scope.names (cloFrom X.env.cells scope.names [])) fp
  have pe := he s3 (upd H2 D (.lst [])) s3.heap.objs.size (cellsFrom (s3.heap.objs.size + 1) scope.names (cloFrom X.env.cells scope.names [])) fp
  show codeAny _ _ (.compStart (.ListComp elt [⟨tg, iter, ifs, 0⟩] scope pos) 0 (.ref it) (.ref D) (compEnvC scope (cellsFrom (s3.heap.objs.size + 1) scope.names (cloFrom X.env.cells scope.names [])) s3.heap.objs.size X.env)) (compPost (model X.prog X.w) X.A X.xe use Qf (.ref D) s3.heap.objs.size) { s3 with heap := pushCells (s3.heap.push { cls := .type "dict", data := .dict #[] }) scope.names }
  have nfp : ∀ b ∈ fp, (upd H2 D (.lst [])) b = none := fun b hb => (f3 b hb).1.1
  generalize hce : compEnvC scope (cellsFrom (s3.heap.objs.size + 1) scope.names (cloFrom X.env.cells scope.names [])) s3.heap.objs.size X.env = ce at I4 pg pt pe ⊢
  have cL : ce.locals = s3.heap.objs.size := by subst hce; rfl
  generalize hH3 : upd H2 D (.lst []) = H3 at I3 I4 pg pt pe w0 nfp f3
  generalize hs4 : ({ s3 with heap := pushCells (s3.heap.push { cls := .type "dict", data := .dict #[] }) scope.names } : Shared) = s4 at I4 ⊢
  have st4 : tn 0 s4.heap := T.keep _ _ _ st3 fun b _ o e => by rw [← hs4]; exact pushCells_keeps _ _ _ _ (Heap.get?_push_of_some _ e)
  have stat : ∀ {σ' : St} {H' : Hp} {s' : Shared}, Inv (X.blk s3 H3 scope ce fp) [] σ' H' s' → (∀ b ∈ fp, H' b = none) → ∀ b ∈ fp, FpOk (X.blk s3 H3 scope ce fp) [] H' b := fun {σ' H' s'} I' hn b hb =>
    ⟨hn b hb, (I'.ok.exf b hb).1, I'.ok.exfs b hb, .inl hb, fun x c e => (I'.ok.exf b hb).2 x c e, fun p hp => absurd (show p ∈ ([] : List (Addr × Obj)) ++ [] from hp) (by simp)⟩
  have loop : codeAny (model X.prog X.w) X.A (.compLoop (.ListComp elt [⟨tg, iter, ifs, 0⟩] scope pos) 0 (.ref it) (.ref D) ce) (compPost (model X.prog X.w) X.A X.xe use Qf (.ref D) s3.heap.objs.size) s4 := by
    refine compLoop_any (fun n s' => ∃ i H', Inv (X.blk s3 H3 scope ce fp) [] (wipe σ (own.map (·.2))) H' s' ∧ tn i s'.heap ∧ (∀ b ∈ fp, H' b = none) ∧ W i n H') ?_ m0 ⟨0, H3, I4, st4, nfp, w0⟩
    rintro n s5 ⟨i, H5, I5, st5, n5, w5⟩
    rcases turn i n H5 w5 with ⟨stop, qq⟩ | ⟨go, Nx, hNx, step⟩
    · have td := T.done (X.blk s3 H3 scope ce fp) rfl rfl rfl hc i [] s5 _ H5 (fun _ _ => False) I5 (stat I5 n5) st5 stop
      refine thnF td fun r s6 ⟨hr, I6⟩ => ?_
      subst hr
      -- back in the def's context
      have I7 : Inv X pins σ H5 s6 := I3.call' (ch := fp) I6.os I6.base I6.hok I6.bare fun b hb => ⟨(f3 b hb).1.2.2.2.1, (f3 b hb).1.2.1, (f3 b hb).1.2.2.2.2.1, (f3 b hb).1.2.2.2.2.2⟩
      have nC : H5 s3.heap.objs.size = none := by
        have z : H5 ce.locals = none := I6.free
        rw [cL] at z
        exact z
      obtain ⟨m, hn, _⟩ := I6.loc
      have hn : s6.heap.Ns ce.locals m := hn
      rw [cL] at hn
      exact hRR D s3.heap.objs.size s6 m H5 I7 qq hn (I3.fpOk (Nat.le_refl _) nC)
    · have ti := T.item (X.blk s3 H3 scope ce fp) rfl rfl rfl hc i [] s5 _ H5 (fun _ _ => False) I5 (stat I5 n5) st5 go
      refine thnF ti fun r s6 ⟨u, hr, h6⟩ => ?_
      subst hr
      refine thnF h6 fun _ s7 ⟨x, H7, I7, r7, y7, st7, n7⟩ => ?_
      have I7' := I7.pinned (stat I7 n7) (T.obj _ _ st7)
      refine thnF (pg _ s7 _ H7 x u _ I7' r7 (step x H7 y7)) fun _ s8 ⟨σ8, H8, I8, hw8, q8⟩ => ?_
      refine thnF (pt _ s8 σ8 H8 _ I8 q8) fun b s9 ⟨H9, I9, q9⟩ => ?_
      -- the turn's end
      have fin : ∀ {s' : Shared} {H' : Hp}, Inv (X.blk s3 H3 scope ce fp) ([] ++ pinsAt fp s7.heap) σ8 H' s' → Nx H' → ∃ m, m < n ∧ ∃ i H', Inv (X.blk s3 H3 scope ce fp) [] (wipe σ (own.map (·.2))) H' s' ∧ tn i s'.heap ∧ (∀ b ∈ fp, H' b = none) ∧ W i m H' := fun {s' H'} I' nx => by
        obtain ⟨m', hm, w'⟩ := hNx H' nx
        have pin' : ∀ b ∈ fp, ∀ o, s7.heap.get? b = some o → s'.heap.get? b = some o ∧ H' b = none := fun b hb o e =>
          let z := I'.pin (b, o) (List.mem_append_right _ (List.mem_append_right _ (mem_pinsAt hb e)))
          ⟨z.1, z.2.1⟩
        have hl : (wipe σ (own.map (·.2))).length = σ8.length := by rw [← hw8, wipe_length]
        refine ⟨m', hm, i + 1, H', (I'.unpinned (pins := [])).weak hl (fun j v e => ?_), T.keep _ _ _ st7 fun b hb o e => (pin' b hb o e).1, fun b hb => ?_, w'⟩
        · rw [← hw8] at e
          exact (wipe_some e).1
        · obtain ⟨o, e, _⟩ := T.obj _ _ st7 b hb
          exact (pin' b hb o e).2
      cases b with
      | false =>
        simp only [Bool.false_eq_true, if_false] at q9 ⊢
        exact fin I9 q9
      | true =>
        simp only [if_true] at q9 ⊢
        refine thnF (pe _ s9 σ8 H9 _ I9 q9) fun z s10 ⟨yv, H10, I10, r10, acc, hD10, hz10, nx⟩ => ?_
        exact app_ok (X := X.blk s3 H3 scope ce fp) I10 hD10 hz10 r10 fun s11 I11 => fin I11 nx
  exact codeAny_compStart_list loop (T.self X.A 0 _ _ _ st4 loop)
/-- as a value -/
theorem pe_lc {elt tg iter : Expr} {ifs : List Expr} {scope : Scope} {own : List (Str × Nat)} {pos : Pos} {wi : TI} {g : TG} {tt : TT} {te : TE} (hc : X.calm = true) (hN : X.N.Nodup) (hi : PI X tg iter wi) (ok : BlkOk X.N X.env.scope scope own)
    (hg : ∀ (s : Shared) (H : Hp) (C : Addr) (cl : List (Str × Addr)) (fp : List Addr), PG (X.blk s H scope (compEnvC scope cl C X.env) fp) tg g) (ht : ∀ (s : Shared) (H : Hp) (C : Addr) (cl : List (Str × Addr)) (fp : List Addr), PTs (X.blk s H scope (compEnvC scope cl C X.env) fp) ifs tt)
    (he : ∀ (s : Shared) (H : Hp) (C : Addr) (cl : List (Str × Addr)) (fp : List Addr), PE (X.blk s H scope (compEnvC scope cl C X.env) fp) elt te) (hs : ∀ x, foldedSetIterable iter X.env x = pure x := by intro _; rfl) :
    PE X (.ListComp elt [⟨tg, iter, ifs, 0⟩] scope pos) (tLc wi g tt te (own.map (·.2))) := by
  intro pins s σ H Q I h
  rw [eval_ListComp]
  refine lc_core hc hN I hi ok hg ht he hs h fun D C s' m H' I' q hn f => ⟨m, hn, fun h'' sb => ?_⟩
  obtain ⟨f0, f1, f2, f3, f4, f5⟩ := f
  exact ⟨.ref D, H', I'.turned (t' := s'.toks) (fun b o hb e => (sb.2 b hb).trans e) f0 f1 f3 f4 f5, rfl, q⟩
/-- name = [..] on one line, the name a local -/
theorem ps_setLc {i : Nat} {y : Str} {py : Pos} {elt tg iter : Expr} {ifs : List Expr} {scope : Scope} {own : List (Str × Nat)} {pos spos : Pos} {wi : TI} {g : TG} {tt : TT} {te : TE} (hc : X.calm = true) (hN : X.N.Nodup) (hy : X.N[i]? = some y) (hyl : X.env.scope.names.lookup y = some .local)
    (hsw : swapsWith (.ListComp elt [⟨tg, iter, ifs, 0⟩] scope pos) (some (.Name y py)) spos.line X.env = pure true) (hi : PI X tg iter wi) (ok : BlkOk X.N X.env.scope scope own)
    (hg : ∀ (s : Shared) (H : Hp) (C : Addr) (cl : List (Str × Addr)) (fp : List Addr), PG (X.blk s H scope (compEnvC scope cl C X.env) fp) tg g) (ht : ∀ (s : Shared) (H : Hp) (C : Addr) (cl : List (Str × Addr)) (fp : List Addr), PTs (X.blk s H scope (compEnvC scope cl C X.env) fp) ifs tt)
    (he : ∀ (s : Shared) (H : Hp) (C : Addr) (cl : List (Str × Addr)) (fp : List Addr), PE (X.blk s H scope (compEnvC scope cl C X.env) fp) elt te) (hs : ∀ x, foldedSetIterable iter X.env x = pure x := by intro _; rfl) :
    PS X (.Assign [.Name y py] (.ListComp elt [⟨tg, iter, ifs, 0⟩] scope pos) spos) (tAsg (tLc wi g tt te (own.map (·.2))) (gName i)) := by
  intro pins s σ H D I h
  rw [exec_Assign_Name_used _ _ _ _ hsw]
  refine wpAny_bind (wpAny_standAt (wpAny_bind ?_))
  show wpAny _ X.A (do let _ ← comprehension (.ListComp elt [⟨tg, iter, ifs, 0⟩] scope pos) scope X.env (firstIterPos [⟨tg, iter, ifs, 0⟩] pos) (newList []) false (eval iter X.env) (some (assign (.Name y py) X.env))) _ _ s
  have h : tLc wi g tt te (own.map (·.2)) σ H (fun x H1 => gName i x σ H1 D.nx) := h
  refine wpAny_bind (thn (lc_core (Qf := fun _ s' => SP X pins D .next s') hc hN I hi ok hg ht he hs h fun L C s' m H' I' q hn f => ?_) fun _ s' hq => wpAny_pure (wpAny_pure hq))
  show wpAny _ _ (assign (.Name y py) X.env (.ref L)) _ _ _
  refine wpAny_assign_Name (store_ok2 (v := V.ref L) I' hN hy (.inl hyl) rfl (fun s2 I2 ⟨a, sb, ha⟩ => ?_) (.inr hyl))
  obtain ⟨f0, f1, f2, f3, f4, f5⟩ := f
  have haC : C ≠ a := by
    rcases ha with z | z
    · rw [z]; exact f1
    · exact fun e => f4 y a z e.symm
  refine ⟨m, hn.sameBut sb haC, fun h3 sb3 => ?_⟩
  exact ⟨_, H', I2.turned (t' := s2.toks) (fun b o hb e => (sb3.2 b hb).trans e) f0 f1 f3 f4 f5, q⟩
theorem sw_true {elt : Expr} {gs : List Comprehension} {scope : Scope} {pos py : Pos} {y : Str} {l : Nat} {env : Env} (hk : env.scope.kind = .function) (hy : env.scope.names.lookup y = some .local) (hl : (py.line == pos.line) = true)
    (ha : (scope.names.any fun (n, k) => n == y && (k == .local || k == .cell)) = false) : swapsWith (.ListComp elt gs scope pos) (some (.Name y py)) l env = pure true := by
  have ky : env.kindOf y = some .local := hy
  have hb : env.blockKind = .function := by unfold Env.blockKind; rw [hk]; rfl
  unfold swapsWith
  simp only [hb, ky, ha, Expr.pos, hl]
  rfl
end

/-! ### the forms one uses -/
/-- over a range: Pv by the turn and the heap (the new list at D within) -/
theorem lc_range {lo : Int} {n : Nat} {g : TG} {tt : TT} {te : TE} {vs : List Nat} {σ : St} {H1 : Hp} {D : Addr} {Qd : Hp → Prop} (Pv : Nat → Hp → Prop) (h0 : Pv 0 (upd H1 D (.lst [])))
    (hs : ∀ i H, i < n → Pv i H → g (.int (lo + i)) (wipe σ vs) H fun σ2 H2 => wipe σ2 vs = wipe σ vs ∧ tt σ2 H2 fun b H3 =>
      if b = true then te σ2 H3 fun y H4 => ∃ acc, H4 D = some (.lst acc) ∧ acc.length < sizeLine ∧ Pv (i + 1) (upd H4 D (.lst (acc ++ [y]))) else Pv (i + 1) H3) (hd : ∀ H, Pv n H → Qd H) :
    ∃ W : Nat → Nat → Hp → Prop, (∃ m, W 0 m (upd H1 D (.lst []))) ∧ ∀ i m H, W i m H →
      ((Itr lo n).stop i H ∧ Qd H) ∨ ((Itr lo n).go i H ∧ ∃ Nx : Hp → Prop, (∀ H', Nx H' → ∃ m', m' < m ∧ W (i + 1) m' H') ∧ ∀ x H', (Itr lo n).yld i H x H' → g x (wipe σ vs) H' fun σ2 H2 => wipe σ2 vs = wipe σ vs ∧ tt σ2 H2 fun b H3 =>
        if b = true then te σ2 H3 fun y H4 => ∃ acc, H4 D = some (.lst acc) ∧ acc.length < sizeLine ∧ Nx (upd H4 D (.lst (acc ++ [y]))) else Nx H3) := by
  refine ⟨fun i m H => m = n - i ∧ i ≤ n ∧ Pv i H, ⟨n, by simp, Nat.zero_le _, h0⟩, ?_⟩
  rintro i m H ⟨rfl, hi, p⟩
  by_cases hlt : i < n
  · refine .inr ⟨hlt, Pv (i + 1), fun H' p' => ⟨n - (i + 1), by omega, rfl, hlt, p'⟩, fun x H' y => ?_⟩
    obtain ⟨e, y⟩ := y
    subst e y
    exact hs i _ hlt p
  · have e : i = n := by omega
    subst e
    exact .inl ⟨Nat.le_refl _, hd H p⟩
/-- over a list that the block leaves as it is -/
theorem lc_list {K : PySem.W.Frag} {a : Addr} {xs : List V} {g : TG} {tt : TT} {te : TE} {vs : List Nat} {σ : St} {H1 : Hp} {D : Addr} {Qd : Hp → Prop} (Pv : Nat → Hp → Prop) (h0 : Pv 0 (upd H1 D (.lst []))) (hl : ∀ i H, i ≤ xs.length → Pv i H → SqL K H a xs)
    (hs : ∀ i x H, xs[i]? = some x → Pv i H → g x (wipe σ vs) H fun σ2 H2 => wipe σ2 vs = wipe σ vs ∧ tt σ2 H2 fun b H3 =>
      if b = true then te σ2 H3 fun y H4 => ∃ acc, H4 D = some (.lst acc) ∧ acc.length < sizeLine ∧ Pv (i + 1) (upd H4 D (.lst (acc ++ [y]))) else Pv (i + 1) H3) (hd : ∀ H, Pv xs.length H → Qd H) :
    ∃ W : Nat → Nat → Hp → Prop, (∃ m, W 0 m (upd H1 D (.lst []))) ∧ ∀ i m H, W i m H →
      ((Itl K a).stop i H ∧ Qd H) ∨ ((Itl K a).go i H ∧ ∃ Nx : Hp → Prop, (∀ H', Nx H' → ∃ m', m' < m ∧ W (i + 1) m' H') ∧ ∀ x H', (Itl K a).yld i H x H' → g x (wipe σ vs) H' fun σ2 H2 => wipe σ2 vs = wipe σ vs ∧ tt σ2 H2 fun b H3 =>
        if b = true then te σ2 H3 fun y H4 => ∃ acc, H4 D = some (.lst acc) ∧ acc.length < sizeLine ∧ Nx (upd H4 D (.lst (acc ++ [y]))) else Nx H3) := by
  refine ⟨fun i m H => m = xs.length - i ∧ i ≤ xs.length ∧ Pv i H, ⟨xs.length, by simp, Nat.zero_le _, h0⟩, ?_⟩
  rintro i m H ⟨rfl, hi, p⟩
  have q := hl i H hi p
  by_cases hlt : i < xs.length
  · refine .inr ⟨⟨xs, xs[i], q, by simp [hlt]⟩, Pv (i + 1), fun H' p' => ⟨xs.length - (i + 1), by omega, rfl, hlt, p'⟩, fun x H' y => ?_⟩
    obtain ⟨e, y⟩ := y
    subst e
    exact hs i x _ (y xs q) p
  · have e : i = xs.length := by omega
    subst e
    exact .inl ⟨⟨xs, q, Nat.le_refl _⟩, hd H p⟩
def blkC (N : List Str) (sc scope : Scope) (own : List (Str × Nat)) : Bool :=
  (match scope.kind with | .function => true | _ => false) && (scope.names.all fun y => decide (scope.names.lookup y.1 = some y.2)) && (own.all fun p => decide (N[p.2]? = some p.1)) &&
    (scope.names.all fun y => match y.2 with
      | .free => (match sc.names.lookup y.1 with | some .cell => true | some .free => true | _ => false)
      | .local => decide (y.1 ∈ own.map (·.1)) || decide (y.1 ∉ N)
      | .cell => decide (y.1 ∈ own.map (·.1)) || decide (y.1 ∉ N)
      | _ => true)
theorem blkOk_by {N : List Str} {sc scope : Scope} {own : List (Str × Nat)} (h : blkC N sc scope own = true) : BlkOk N sc scope own := by
  unfold blkC at h
  simp only [Bool.and_eq_true, List.all_eq_true, decide_eq_true_eq] at h
  obtain ⟨⟨⟨h1, h2⟩, h3⟩, h4⟩ := h
  refine ⟨?_, h2, h3, fun y hy e => ?_, fun y hy e => ?_⟩
  · split at h1
    · assumption
    · cases h1
  · have q := h4 y hy
    simp only [e] at q
    split at q <;> first | exact .inl (by assumption) | exact .inr (by assumption) | cases q
  · have q := h4 y hy
    rcases e with e | e <;> (simp only [e, Bool.or_eq_true, decide_eq_true_eq] at q; exact q)
end L2

namespace L2
open PySem PySem.Spec PyProof.Rows

section
variable {prog : Program} {w : World} {A : Around} {R : Result → Shared → Prop} {s : Shared} {elt t0 i0 t1 i1 : Expr} {ifs0 ifs1 : List Expr} {scope : Scope} {pos : Pos} {it acc : Value} {env : Env}
end

section
variable {X : Cx}
end
end L2

namespace L2
open PySem PySem.Spec PyProof.Rows

/-! ### lists of pairs as tables -/
section
variable {κ : Type} [DecidableEq κ]
end


/-! ### a tracked dict, its keys ints and texts or tuples of these -/
section
variable {P : Program} {w : World} {H : Hp} {h : Heap} {a : Addr}
end

section
variable {X : Cx} {pins : List (Addr × Obj)} {σ : St} {H : Hp} {s : Shared} {a : Addr} {y v : V} {u r : Value} {o : Option V} {A : Around} {E : Value → Shared → Prop}

end

section
variable {X : Cx} {pins : List (Addr × Obj)} {σ : St} {H : Hp} {s : Shared} {a : Addr} {kvs : List (Key × V)} {k : Key} {u : Value} {A : Around} {E : Value → Shared → Prop}
end


/-! ### readings and rules -/
section
variable {X : Cx} {o i e value : Expr} {pos pos' tpos : Pos} {td ty tv : TE}
end


/-! ### displays -/
section
variable {X : Cx} {pos : Pos}
end

/-! ### methods -/
section
variable {X : Cx} {pins : List (Addr × Obj)} {σ : St} {H : Hp} {s : Shared} {a : Addr} {y d : V} {u r : Value} {o : Option V} {A : Around} {E : Value → Shared → Prop}
end

section
variable {X : Cx} {o e f : Expr} {apos cpos : Pos} {td ty tx : TE}
end

/-! ### dict(d): a copy -/
section
variable {X : Cx} {pins : List (Addr × Obj)} {σ : St} {H : Hp} {s : Shared} {a : Addr} {kvs : List (Key × V)} {A : Around} {E : Value → Shared → Prop}
end


section
variable {X : Cx} {pins : List (Addr × Obj)} {σ : St} {H : Hp} {s : Shared} {a : Addr} {y : V} {u : Value} {A : Around} {E : Value → Shared → Prop}
end
end L2

namespace L2
open PySem PySem.Spec PyProof.Rows

section
variable {prog : Program} {w : World} {A : Around} {E : Value → Shared → Prop}
end

section
variable {X : Cx}
end
end L2

namespace L2
open PySem PySem.Spec PyProof.Rows

section
variable {X : Cx} {pins : List (Addr × Obj)} {σ : St} {H : Hp} {s : Shared} {h' : Heap}
/-! ### locking a thing while a statement runs -/
end
section
variable {X : Cx}
/-! ### one iterator just laid -/
end

/-! ### range with a step -/
section
variable {X : Cx} {tg : Expr}
end
/-! ### reversed(list) -/
section
variable {X : Cx} {tg : Expr}
end

/-! ### a str -/
/-! ### a dict's keys: any dict's entries -/
section
variable {prog : Program} {w : World} {A : Around} {E : Value → Shared → Prop} {s : Shared}
end

/-! ### a locked dict -/
section
variable {X : Cx} {pins : List (Addr × Obj)} {σ : St} {H : Hp} {s : Shared} {d : Addr} {o : Obj}
end

section
variable {P : Program} {w : World} {K : PySem.W.Frag} {tg : Expr} {d : Addr} {o : Obj} {es : Array DictEntry} {ep : Nat}
end

/-! ### for k in d, d.keys(), d.values(), d.items() -/
section
variable {X : Cx} {tg e : Expr} {td : TE} {apos cpos : Pos}
end

/-! ### enumerate(list) -/
/-! ### zip(list, list) -/
end L2

section 
namespace Bits
open PySem PyProof.Rows

end Bits
end 

section 
namespace TL
open PySem PySem.Builtin PySem.Builtin.Str PySem.StrLaws

/-! ### the list functions -/
/-! ### the model's split and partition are these -/
/-! ### computing spl and par -/
/-! ### digits -/
/-! ### words: x.split() -/
end TL
end 

namespace L2
open PySem PySem.Spec PyProof.Rows

section
variable {X : Cx} {pins : List (Addr × Obj)} {σ : St} {H : Hp} {s : Shared} {Q : VK}
end

section
variable {X : Cx}

/-! ### of a text alone -/
/-! ### of a text and a text -/
end

section
variable {X : Cx} {o e : Expr} {to te : TE}
end
end L2

namespace L2
open PySem PySem.Spec PyProof.Rows

section
variable {X : Cx}
end

/-! ### slices of a text -/
end L2

namespace Att
open PySem PySem.W PySem.Calls PyProof.Rows

/-! ### the script -/
/-! ### the attachment: holds_open's last premise (the goal 'hc' behind k_head) from a wpAny of the law's body -/
/-! ### rules over ANY heap (no ledger) from facts about the written part K: the library's own take a ledger (News) for what they write -/
section
variable {prog : Program} {w : World} {A : Around} {E : Value → Shared → Prop} {s : Shared} {K : Frag}

/-! the whole heap as the ledger: makes every rule that writes through a ledger a rule over any heap -/
end
end Att

namespace L2
open PySem PySem.Spec PyProof.Rows

end L2

namespace L2
open PySem PySem.Spec PyProof.Rows

end L2

/- THE LAST THEOREM (shape; LID, My.* are yours):
   My.Adr: a structure of the addresses that your layer names (classes, functions); My.Txt K t: a structure (Prop) of the equations over K;
   My.txt_mk : {K} {implicit addresses ..} (e1 : nsIn K mainGlobals "law" = some (some (.ref f))) (e2 : K.lookup f = some ⟨oc, od, .func (fnOf "law" "law" params body scope dV kV doc pm an cdv ct), sl⟩) (e3 : codeIn K cdv "law" = true) .. : ∃ t, My.Txt K t

set_option maxRecDepth 100000 in
set_option maxHeartbeats 0 in
theorem PySem.Challenge.cw_LID_holds : PySem.Challenge.rw_LID.Holds := by
  w_on; o_law; k_head; (case hw => w_witness2)
  k_fill
  refine L2.walk_of (l := PySem.Challenge.rw_LID) (n := 63) (k := 40) (x := "script") (CX := fun w => ..) (sp := fun _ => My.sp_law) rfl (by decide) rfl ⟨rfl, by decide, by decide⟩ (fun w h Y => PySem.W.kIn_of Y) ?F ?S ?C
  case F =>
    intro w mg fa h KX G hmg
    have T : ∃ t, My.Txt (L2.KOf KX) t := by
      dsimp only [L2.KOf]                          -- K must stand as «<heap const> w.params» for k_is
      refine' My.txt_mk ?e1 ?e2 ?e3 ..
      (case e1 => PySem.W.k_is)                    -- in the order: a name -> its address -> its object -> its parts
      (case e2 => PySem.W.k_is)
      ..
    obtain ⟨t, T⟩ := T
    have e0 := hmg.symm.trans (PySem.W.mg_of KX G T.law)
    cases e0                                       -- fa is the law's own address
    exact ⟨_, fun s u => .of_eq rfl, fun base kb nb => My.law_fn T kb nb⟩     -- if «.of_eq rfl» comes too early: refine' ⟨_, ?b, fun base kb nb => My.law_fn T kb nb⟩; exact fun s u => .of_eq rfl
  case S => exact fun w H a ns hl hO hS => ..
  case C => exact ..
(the tactic k_is has no namespace: write k_is) -/

/-! SHORT WORDS over the layer: a def of the text, its body, what a loop and a test want. -/
namespace L2
open PySem PySem.Spec PyProof.Rows

/-! ### the text by places -/
/-- the j-th statement of a class's body -/
def inClass (s : Stmt) (j : Nat) : Stmt := match s with
  | .ClassDef _ _ _ body _ _ _ _ _ _ _ => body.getD j (.Pass ⟨0, 0, 0, 0⟩)
  | _ => .Pass ⟨0, 0, 0, 0⟩
def defArgs (s : Stmt) : Arguments := match s with
  | .FunctionDef _ a _ _ _ _ _ _ _ _ => a
  | _ => { posonlyargs := [], args := [], vararg := none, kwonlyargs := [], kw_defaults := [], kwarg := none, defaults := [] }
def defBody (s : Stmt) : List Stmt := match s with
  | .FunctionDef _ _ b _ _ _ _ _ _ _ => b
  | _ => []
def defScope (s : Stmt) : Scope := match s with
  | .FunctionDef _ _ _ _ _ _ sc _ _ _ => sc
  | _ => { kind := .function, names := [], isGenerator := false, isCoroutine := false }

/-! ### no exception leaves a def -/
abbrev CX0 : CXT := fun _ _ _ _ _ _ => False
abbrev E0 : XK := fun _ _ _ => False
theorem pass0 {X : Cx} : Passes CX0 X E0 := fun _ _ _ _ _ _ _ h => h.elim

/-! ### a def (or method) of the text as it stands behind the top -/
structure Fun (K : PySem.W.Frag) (x qual : Str) (st : Stmt) (f : Addr) (fd : FuncData) : Prop where
  ex : ∃ (oc : Value) (od : Option Addr) (kV doc pm : Value) (an : Option Addr) (cdv ct : Value) (osl : Array (Option Value)),
    fd = PySem.W.fnOf x qual (defArgs st) (defBody st) (defScope st) .none kV doc pm an cdv ct ∧ K.lookup f = some ⟨oc, od, .func fd, osl⟩ ∧ PySem.W.codeIn K cdv qual = true
  kp : PySem.W.keepIn K (.ref f) = true
section
variable {P : Program} {w : World} {K : PySem.W.Frag} {mg : Str → Option Value} {base : Heap}
/-- THE RULE for a def: its body as a term of rules, and the reading of that term -/
theorem Fun.ok {x qual : Str} {st : Stmt} {f : Addr} {fd : FuncData} {N ps : List Str} {k : Nat} {sp : Sp} (F : Fun K x qual st f fd) (S : FnScope N ps (defScope st)) (len : ∀ vs H Q E, sp vs H Q E → vs.length = ps.length)
    (hbody : ∀ (cdv : Value) (A : Around) (outer : List Env) (s : Shared) (H : Hp) (vs : List V) (Q : VK) (E : XK), Room k (A.deeper (envOfC qual (defScope st) s.heap.objs.size f cdv)) → sp vs H Q E →
      ∃ t, PSs (cxOf CX0 P w K mg base N qual (defScope st) f cdv A outer s H E).nox (defBody st) t ∧ t { nx := fun _ H' => Q .non H', rt := Q } (start N vs) H) : FnOk P w K mg base CX0 (k + 1) f fd ps sp := by
  obtain ⟨oc, od, kV, doc, pm, an, cdv, ct, osl, rfl, lk, hcd⟩ := F.ex
  refine fn_of lk hcd S len fun A outer s H vs Q E hr hsp => ?_
  obtain ⟨t, h, q⟩ := hbody cdv A outer s H vs Q E hr hsp
  exact ⟨t, h.nox, q⟩
/-- how its arguments bind (no defaults): h is «fun _ _ _ _ _ _ us hl => match us, hl with | [_, _], _ => rfl», one _ a parameter -/
theorem Fun.binds {x qual : Str} {st : Stmt} {f : Addr} {fd : FuncData} {ps : List Str} (F : Fun K x qual st f fd)
    (h : ∀ (kV doc pm : Value) (an : Option Addr) (cdv ct : Value) (us : List Value), us.length = ps.length → bindArgs (PySem.W.fnOf x qual (defArgs st) (defBody st) (defScope st) .none kV doc pm an cdv ct) ⟨us, []⟩ = pure (ps.zip us)) : Binds K fd ps [] := by
  obtain ⟨oc, od, kV, doc, pm, an, cdv, ct, osl, rfl, lk, hcd⟩ := F.ex
  exact .all (h kV doc pm an cdv ct)
theorem fun_mk {x qual : Str} {st : Stmt} {f : Addr} {oc : Value} {od an : Option Addr} {osl : Array (Option Value)} {kV doc pm cdv ct : Value} (l : K.lookup f = some ⟨oc, od, .func (PySem.W.fnOf x qual (defArgs st) (defBody st) (defScope st) .none kV doc pm an cdv ct), osl⟩)
    (c : PySem.W.codeIn K cdv qual = true) (k : PySem.W.keepIn K (.ref f) = true) : Fun K x qual st f (PySem.W.fnOf x qual (defArgs st) (defBody st) (defScope st) .none kV doc pm an cdv ct) := ⟨⟨oc, od, kV, doc, pm, an, cdv, ct, osl, rfl, l, c⟩, k⟩
end
/-! ### expressions in short: the name that stands in the i-th slot -/
section
variable {X : Cx}
theorem pv (i : Nat) {x : Str} {pos : Pos} (hN : X.N[i]? = some x := by rfl) (hv : Vis X.env.scope x := by first | exact Or.inl rfl | exact Or.inr (Or.inl rfl) | exact Or.inr (Or.inr rfl)) (hd : (x == ("__debug__" : Str)) = false := by decide)
    (hcd : (x == ("__classdict__" : Str)) = false := by decide) : PE X (.Name x pos) (tVar i) := pe_var hN hv hd hcd
end

/-! ### tests -/
theorem iteF {A B : Prop} (h : B) : if false = true then A else B := by
  rw [if_neg Bool.false_ne_true]
  exact h
theorem iteT {A B : Prop} (h : A) : if true = true then A else B := by
  rw [if_pos rfl]
  exact h
theorem ite2 {c A B : Prop} [Decidable c] (h1 : c → A) (h2 : ¬ c → B) : if c then A else B := by
  by_cases h : c
  · rw [if_pos h]
    exact h1 h
  · rw [if_neg h]
    exact h2 h
/-! ### heaps -/
/-- all that was tracked is as it was -/
def Same (H H' : Hp) : Prop := ∀ b o, H b = some o → H' b = some o
theorem Same.refl (H : Hp) : Same H H := fun _ _ h => h
theorem Same.trans {H H1 H2 : Hp} (a : Same H H1) (b : Same H1 H2) : Same H H2 := fun c o h => b c o (a c o h)
theorem Same.free {H H' : Hp} (e : Same H H') {l : Addr} (h : H' l = Option.none) : H l = Option.none := by
  cases q : H l with
  | none => rfl
  | some o =>
    rw [e l o q] at h
    cases h
theorem Same.seq {K : PySem.W.Frag} {H H' : Hp} {a : Addr} {xs : List V} (e : Same H H') (h : SqL K H a xs) : SqL K H' a xs := by
  rcases h with (h | ⟨o, h⟩) | h
  · exact .inl (.inl (e _ _ h))
  · exact .inl (.inr ⟨o, e _ _ h⟩)
  · exact .inr h

/-! ### a dict's pairs: keys that differ -/
section
variable {κ : Type} [DecidableEq κ]
end
/-! ### lists -/
theorem at_of {xs : List V} {z : Int} {j : Nat} {v : V} (e : z = (j : Int)) (h : xs[j]? = some v) : atI xs z = some v := by
  rw [e]
  exact atI_nat h
theorem nd_ix {α : Type} {l : List α} (hN : l.Nodup) {i j : Nat} {x : α} (a : l[i]? = some x) (b : l[j]? = some x) : i = j := by
  obtain ⟨h1, e1⟩ := List.getElem?_eq_some_iff.mp a
  obtain ⟨h2, e2⟩ := List.getElem?_eq_some_iff.mp b
  exact (List.getElem_inj hN).mp (e1.trans e2.symm)
/-- a new instance and its __init__ leave all that was tracked as it was -/
theorem Same.made {H H1 : Hp} {x dx C : Addr} (nx : H x = Option.none) (nd : H dx = Option.none) (k : ∀ b o, (upd (upd H dx (.own x)) x (.ins C dx [])) b = some o → b ≠ x → H1 b = some o) : Same H H1 := fun b o e =>
  k b o (by rw [upd_ne (ne_of_none e nx), upd_ne (ne_of_none e nd)]; exact e) (ne_of_none e nx)
end L2
section
set_option Elab.async false
set_option linter.all false
set_option maxRecDepth 100000
set_option maxHeartbeats 2000000
namespace L2
open PySem PySem.Spec PyProof.Rows
open PySem.W (WData Codec OpenSpec Well WellAll ReadsW ReadsAllW)
/-! ### an answer as data -/
mutual
/-- x stands for the datum d, lists and tuples all the way -/
inductive Dw (K : PySem.W.Frag) (H : Hp) : V → WData → Prop
  | non : Dw K H .non .none
  | bl (b : Bool) : Dw K H (.bl b) (.bool b)
  | int (i : Int) : Dw K H (.int i) (.int i)
  | str (x : Str) : Dw K H (.str x) (.str x)
  | byt (b : Array UInt8) : Dw K H (.byt b) (.bytes b.toList)
  | lst {a : Addr} {xs : List V} {ds : List WData} : SqL K H a xs → DwAll K H xs ds → Dw K H (.ref a) (.list ds)
  | tup {a : Addr} {xs : List V} {ds : List WData} : SqT K H a xs → DwAll K H xs ds → Dw K H (.ref a) (.tuple ds)
inductive DwAll (K : PySem.W.Frag) (H : Hp) : List V → List WData → Prop
  | nil : DwAll K H [] []
  | cons {v : V} {vs : List V} {d : WData} {ds : List WData} : Dw K H v d → DwAll K H vs ds → DwAll K H (v :: vs) (d :: ds)
end
theorem dw_ints {K : PySem.W.Frag} {H : Hp} : ∀ ns : List Int, DwAll K H (ns.map V.int) (ns.map WData.int)
  | [] => .nil
  | n :: r => .cons (.int n) (dw_ints r)
theorem ints_dw {K : PySem.W.Frag} {H : Hp} : ∀ (ns : List Int) (xs : List V), DwAll K H xs (ns.map WData.int) → xs = ns.map V.int
  | [], xs, h => by
    cases h
    rfl
  | n :: r, xs, h => by
    cases h with
    | cons h1 h2 =>
      cases h1
      rw [ints_dw r _ h2] <;> rfl
section
variable {P : Program} {w : World} {K : PySem.W.Frag} {H : Hp} {h : Heap} {R : PySem.W.WRecords} {cl : Str → Option Addr}
theorem sqL_at {a : Addr} {xs : List V} (hok : HOk P w H h) (KX : K.In h) (q : SqL K H a xs) : ∃ (its : List Value) (o : Obj) (n : Nat), Vals xs its ∧ h.get? a = some o ∧ o.cls = .type "list" ∧ o.data = .seq its.toArray n := by
  rcases q with q | ⟨o, its, n, e, hc, _, hd, _, hv⟩
  · obtain ⟨_, its, n, hv, e⟩ := (show ObjOk P w H h a (.lst xs) from q.ok hok)
    exact ⟨its, _, n, hv, e, rfl, rfl⟩
  · exact ⟨its.toList, o, n, hv, KX _ _ e, hc, by simp [hd]⟩
theorem sqT_at {a : Addr} {xs : List V} (hok : HOk P w H h) (KX : K.In h) (q : SqT K H a xs) : ∃ (its : List Value) (o : Obj) (n : Nat), Vals xs its ∧ h.get? a = some o ∧ o.cls = .type "tuple" ∧ o.data = .seq its.toArray n := by
  rcases q with q | ⟨o, its, n, e, hc, hd, _, hv⟩
  · obtain ⟨_, its, hv, o, e, hc, n, hd⟩ := (show ObjOk P w H h a (.tup xs) from q.ok hok)
    exact ⟨its, o, n, hv, e, hc, hd⟩
  · exact ⟨its.toList, o, n, hv, KX _ _ e, hc, by simp [hd]⟩
mutual
theorem Dw.reads (hok : HOk P w H h) (KX : K.In h) : ∀ (d : WData) (v : V) (u : Value), Dw K H v d → RelV v u → ∃ as, ReadsW R cl h u d as
  | .none, _, _, x, r => by
    cases x
    cases r
    exact ⟨_, ReadsW.none⟩
  | .bool b, _, _, x, r => by
    cases x
    cases r
    exact ⟨_, ReadsW.bool b⟩
  | .int i, _, _, x, r => by
    cases x
    obtain ⟨t, rfl⟩ := r
    exact ⟨_, ReadsW.int i t⟩
  | .str s, _, _, x, r => by
    cases x
    obtain ⟨t, rfl⟩ := r
    exact ⟨_, ReadsW.str s t⟩
  | .bytes b, _, _, x, r => by
    cases x
    obtain ⟨t, rfl⟩ := r
    exact ⟨_, ReadsW.bytes _ t⟩
  | .list ds, _, _, x, r => by
    cases x with
    | lst hs ha =>
      cases r
      obtain ⟨its, o, n, rv, ho, hc, hd⟩ := sqL_at hok KX hs
      obtain ⟨as, hr⟩ := Dw.readsAll hok KX ds _ its ha rv
      exact ⟨_, ReadsW.list ho hc hd hr⟩
  | .tuple ds, _, _, x, r => by
    cases x with
    | tup hs ha =>
      cases r
      obtain ⟨its, o, n, rv, ho, hc, hd⟩ := sqT_at hok KX hs
      obtain ⟨as, hr⟩ := Dw.readsAll hok KX ds _ its ha rv
      exact ⟨_, ReadsW.tuple ho hc hd hr⟩
  | .float _, _, _, x, _ => by cases x
  | .dict _, _, _, x, _ => by cases x
  | .bytearray _, _, _, x, _ => by cases x
  | .set _, _, _, x, _ => by cases x
  | .frozenset _, _, _, x, _ => by cases x
  | .obj _ _, _, _, x, _ => by cases x
theorem Dw.readsAll (hok : HOk P w H h) (KX : K.In h) : ∀ (ds : List WData) (vs : List V) (us : List Value), DwAll K H vs ds → Vals vs us → ∃ as, ReadsAllW R cl h us ds as
  | [], _, _, x, r => by
    cases x
    cases r
    exact ⟨_, ReadsAllW.nil⟩
  | d :: ds, _, _, x, r => by
    cases x with
    | cons h1 h2 =>
      cases r with
      | cons r1 r2 =>
        obtain ⟨as, q1⟩ := Dw.reads hok KX d _ _ h1 r1
        obtain ⟨bs, q2⟩ := Dw.readsAll hok KX ds _ _ h2 r2
        exact ⟨_, ReadsAllW.cons q1 q2⟩
end
end
/-! ### the arguments -/
mutual
/-- data that a codec tells -/
def plW : WData → Bool
  | .none => true
  | .bool _ => true
  | .int _ => true
  | .str _ => true
  | .bytes _ => true
  | .list xs => plWs xs
  | .tuple xs => plWs xs
  | _ => false
def plWs : List WData → Bool
  | [] => true
  | x :: r => plW x && plWs r
end
theorem plWs_map {α : Type} {f : α → WData} (h : ∀ a, plW (f a) = true) : ∀ l : List α, plWs (l.map f) = true
  | [] => rfl
  | x :: r => by
    show (plW (f x) && plWs (r.map f)) = true
    rw [h x, plWs_map h r] <;> rfl
theorem pl_enc : ∀ (c : Codec) (a : c.denote), plW (c.enc a) = true
  | .unit, _ => rfl
  | .bool, _ => rfl
  | .int _ _, _ => rfl
  | .nat _ _, _ => rfl
  | .u8, _ => rfl
  | .bytes _ _, _ => rfl
  | .text _ _ _ _, _ => rfl
  | .list _ _ c, a => plWs_map (fun x => pl_enc c x) a
  | .pair c d, a => by
    show (plW (c.enc a.1) && (plW (d.enc a.2) && true)) = true
    rw [pl_enc c a.1, pl_enc d a.2] <;> rfl
  | .triple c d e, a => by
    show (plW (c.enc a.1) && (plW (d.enc a.2.1) && (plW (e.enc a.2.2) && true))) = true
    rw [pl_enc c a.1, pl_enc d a.2.1, pl_enc e a.2.2] <;> rfl
  | .option c, none => rfl
  | .option c, some x => pl_enc c x
theorem pl_encAll : ∀ (cs : List Codec) (a : Codec.denoteAll cs), plWs (Codec.encAll cs a) = true
  | [], _ => rfl
  | c :: cs, a => by
    show (plW (c.enc a.1) && plWs (Codec.encAll cs a.2)) = true
    rw [pl_enc c a.1, pl_encAll cs a.2] <;> rfl
theorem weight_mem : ∀ {xs : List WData} {d : WData}, d ∈ xs → d.weight ≤ WData.weightAll xs
  | [], d, h => absurd h (by simp)
  | x :: r, d, h => by
    show d.weight ≤ x.weight + 1 + WData.weightAll r
    rcases List.mem_cons.mp h with e | m
    · rw [e]
      omega
    · have z := weight_mem m
      omega
def toV : Value → V
  | .none => .non
  | .bool b => .bl b
  | .int i _ => .int i
  | .str x _ => .str x
  | .bytes b _ => .byt b
  | .ref a => .ref a
  | _ => .non
/-- a value of the arguments, its objects among A -/
def OkU (A : List Addr) : Value → Prop
  | .none => True
  | .bool _ => True
  | .int _ _ => True
  | .str _ _ => True
  | .bytes _ _ => True
  | .ref a => a ∈ A
  | _ => False
theorem OkU.mono {A B : List Addr} (h : ∀ a ∈ A, a ∈ B) : ∀ {u : Value}, OkU A u → OkU B u := fun {u} x => by
  cases u with
  | ref a => exact h a x
  | none => trivial
  | bool b => trivial
  | int i t => trivial
  | str s t => trivial
  | bytes b t => trivial
  | _ => exact False.elim x
theorem relV_toV {A : List Addr} {u : Value} (x : OkU A u) : RelV (toV u) u := by
  cases u with
  | ref a => rfl
  | none => rfl
  | bool b => rfl
  | int i t => exact ⟨t, rfl⟩
  | str s t => exact ⟨t, rfl⟩
  | bytes b t => exact ⟨t, rfl⟩
  | _ => exact False.elim x
theorem vals_toV {A : List Addr} : ∀ {vs : List Value}, (∀ u ∈ vs, OkU A u) → Vals (vs.map toV) vs
  | [], _ => .nil
  | u :: r, h => .cons (relV_toV (h u (List.mem_cons_self ..))) (vals_toV fun x hx => h x (List.mem_cons_of_mem _ hx))
/-- an object of the arguments -/
def ArgOb (h : Heap) (A : List Addr) (a : Addr) : Prop := ∃ vs : List Value, vs.length ≤ sizeLine ∧ (∀ u ∈ vs, OkU A u) ∧
  (h.get? a = some { cls := .type "list", data := .seq vs.toArray } ∨ h.get? a = some { cls := .type "tuple", data := .seq vs.toArray })
theorem ArgOb.mono {h : Heap} {A B : List Addr} {a : Addr} (k : ∀ a ∈ A, a ∈ B) (x : ArgOb h A a) : ArgOb h B a := by
  obtain ⟨vs, h1, h2, h3⟩ := x
  exact ⟨vs, h1, fun u hu => (h2 u hu).mono k, h3⟩
theorem wellAll_len {P : Params} {h : Heap} : ∀ {vs : List Value} {ds : List WData}, WellAll P h vs ds → vs.length = ds.length
  | _, _, .nil => rfl
  | _, _, .cons _ b => by
    show _ + 1 = _ + 1
    rw [wellAll_len b]
theorem well_list {P : Params} {h : Heap} {v : Value} {ds : List WData} (x : Well P h v (.list ds)) : ∃ (a : Addr) (vs : List Value), v = .ref a ∧ h.get? a = some { cls := .type "list", data := .seq vs.toArray } ∧ WellAll P h vs ds := by
  cases x with
  | list ho hall => exact ⟨_, _, rfl, ho, hall⟩
theorem well_tuple {P : Params} {h : Heap} {v : Value} {ds : List WData} (x : Well P h v (.tuple ds)) : ∃ (a : Addr) (vs : List Value), v = .ref a ∧ h.get? a = some { cls := .type "tuple", data := .seq vs.toArray } ∧ WellAll P h vs ds := by
  cases x with
  | tuple ho hall => exact ⟨_, _, rfl, ho, hall⟩
theorem well_cons {P : Params} {h : Heap} {us : List Value} {d : WData} {ds : List WData} (x : WellAll P h us (d :: ds)) : ∃ (v : Value) (vs : List Value), us = v :: vs ∧ Well P h v d ∧ WellAll P h vs ds := by
  cases x with
  | cons a b => exact ⟨_, _, rfl, a, b⟩
theorem line_of {n : Nat} (h : n ≤ 1048576) : n ≤ sizeLine := Nat.le_trans h (by decide)
section
variable {P : Params} {h : Heap}
mutual
theorem area_one : ∀ (d : WData) (v : Value), Well P h v d → plW d = true → d.weight ≤ 1048576 → ∃ A : List Addr, OkU A v ∧ ∀ a ∈ A, ArgOb h A a
  | .none, _, x, _, _ => by
    cases x
    exact ⟨[], trivial, fun a m => absurd m (by simp)⟩
  | .bool b, _, x, _, _ => by
    cases x
    exact ⟨[], trivial, fun a m => absurd m (by simp)⟩
  | .int i, _, x, _, _ => by
    cases x
    exact ⟨[], trivial, fun a m => absurd m (by simp)⟩
  | .str s, _, x, _, _ => by
    cases x
    exact ⟨[], trivial, fun a m => absurd m (by simp)⟩
  | .bytes b, _, x, _, _ => by
    cases x
    exact ⟨[], trivial, fun a m => absurd m (by simp)⟩
  | .list ds, _, x, p, z => by
    obtain ⟨a, vs, rfl, ho, hall⟩ := well_list x
    have z2 : WData.weightAll ds ≤ 1048576 := z
    obtain ⟨A, h1, h2⟩ := area_all ds _ hall p fun d hd => Nat.le_trans (weight_mem hd) z2
    have k : ∀ b ∈ A, b ∈ a :: A := fun b hb => List.mem_cons_of_mem _ hb
    refine ⟨a :: A, List.mem_cons_self .., fun b hb => ?_⟩
    rcases List.mem_cons.mp hb with e | m
    · rw [e]
      exact ⟨vs, line_of (by rw [wellAll_len hall]; exact Nat.le_trans (PySem.W.length_le_weightAllW ds) z2), fun u hu => (h1 u hu).mono k, .inl ho⟩
    · exact (h2 b m).mono k
  | .tuple ds, _, x, p, z => by
    obtain ⟨a, vs, rfl, ho, hall⟩ := well_tuple x
    have z2 : WData.weightAll ds ≤ 1048576 := z
    obtain ⟨A, h1, h2⟩ := area_all ds _ hall p fun d hd => Nat.le_trans (weight_mem hd) z2
    have k : ∀ b ∈ A, b ∈ a :: A := fun b hb => List.mem_cons_of_mem _ hb
    refine ⟨a :: A, List.mem_cons_self .., fun b hb => ?_⟩
    rcases List.mem_cons.mp hb with e | m
    · rw [e]
      exact ⟨vs, line_of (by rw [wellAll_len hall]; exact Nat.le_trans (PySem.W.length_le_weightAllW ds) z2), fun u hu => (h1 u hu).mono k, .inr ho⟩
    · exact (h2 b m).mono k
  | .float _, _, _, p, _ => Bool.noConfusion (show false = true from p)
  | .dict _, _, _, p, _ => Bool.noConfusion (show false = true from p)
  | .bytearray _, _, _, p, _ => Bool.noConfusion (show false = true from p)
  | .set _, _, _, p, _ => Bool.noConfusion (show false = true from p)
  | .frozenset _, _, _, p, _ => Bool.noConfusion (show false = true from p)
  | .obj _ _, _, _, p, _ => Bool.noConfusion (show false = true from p)
theorem area_all : ∀ (ds : List WData) (vs : List Value), WellAll P h vs ds → plWs ds = true → (∀ d ∈ ds, d.weight ≤ 1048576) → ∃ A : List Addr, (∀ u ∈ vs, OkU A u) ∧ ∀ a ∈ A, ArgOb h A a
  | [], _, x, _, _ => by
    cases x
    exact ⟨[], fun u m => absurd m (by simp), fun a m => absurd m (by simp)⟩
  | d :: ds, _, x, p, z => by
    obtain ⟨v, vs, rfl, x1, x2⟩ := well_cons x
    have q : plW d = true ∧ plWs ds = true := Bool.and_eq_true_iff.mp p
    obtain ⟨A, a1, a2⟩ := area_one d v x1 q.1 (z d (List.mem_cons_self ..))
    obtain ⟨B, b1, b2⟩ := area_all ds vs x2 q.2 fun e he => z e (List.mem_cons_of_mem _ he)
    have kA : ∀ b ∈ A, b ∈ A ++ B := fun b hb => List.mem_append.mpr (.inl hb)
    have kB : ∀ b ∈ B, b ∈ A ++ B := fun b hb => List.mem_append.mpr (.inr hb)
    refine ⟨A ++ B, fun u hu => ?_, fun b hb => ?_⟩
    · rcases List.mem_cons.mp hu with e | m
      · rw [e]
        exact a1.mono kA
      · exact (b1 u m).mono kB
    · rcases List.mem_append.mp hb with m | m
      · exact (a2 b m).mono kA
      · exact (b2 b m).mono kB
end
end
/-- what is tracked of an argument's object -/
def hoOf (o : Obj) : Option HO := match o.data with
  | .seq vs _ => if (o.cls == Value.type "list") = true then some (.frz o (.lst (vs.toList.map toV))) else some (.frz o (.tup (vs.toList.map toV)))
  | _ => none
def argH (K : PySem.W.Frag) (h : Heap) (A : List Addr) : Hp := fun b => if b ∈ A then (if (K.lookup b).isNone = true then (h.get? b).bind hoOf else none) else none
/-- nothing is tracked but what is known to the object -/
def OnlyF (H : Hp) : Prop := ∀ b, H b = none ∨ ∃ o u, H b = some (.frz o u)
theorem hoOf_lst (vs : List Value) : hoOf { cls := .type "list", data := .seq vs.toArray } = some (.frz { cls := .type "list", data := .seq vs.toArray } (.lst (vs.map toV))) := by
  show (if (Value.type "list" == Value.type "list") = true then some (HO.frz { cls := .type "list", data := .seq vs.toArray } (.lst (vs.toArray.toList.map toV))) else some (HO.frz { cls := .type "list", data := .seq vs.toArray } (.tup (vs.toArray.toList.map toV)))) = _
  rw [if_pos (beq_self_eq_true _)]
theorem hoOf_tup (vs : List Value) : hoOf { cls := .type "tuple", data := .seq vs.toArray } = some (.frz { cls := .type "tuple", data := .seq vs.toArray } (.tup (vs.map toV))) := by
  show (if (Value.type "tuple" == Value.type "list") = true then some (HO.frz { cls := .type "tuple", data := .seq vs.toArray } (.lst (vs.toArray.toList.map toV))) else some (HO.frz { cls := .type "tuple", data := .seq vs.toArray } (.tup (vs.toArray.toList.map toV)))) = _
  rw [if_neg (by decide)]
section
variable {P : Program} {w : World} {K : PySem.W.Frag} {h : Heap} {A : List Addr}
theorem argH_at {b : Addr} {o : Obj} (hb : b ∈ A) (hk : K.lookup b = none) (e : h.get? b = some o) : argH K h A b = hoOf o := by
  unfold argH
  rw [if_pos hb, hk, if_pos (show (none : Option Obj).isNone = true from rfl), e] <;> rfl
theorem of_argH {b : Addr} {u : HO} (q : argH K h A b = some u) : b ∈ A ∧ K.lookup b = none := by
  unfold argH at q
  by_cases hb : b ∈ A
  · rw [if_pos hb] at q
    cases hk : K.lookup b with
    | none => exact ⟨hb, rfl⟩
    | some o =>
      rw [hk, if_neg (by simp)] at q
      cases q
  · rw [if_neg hb] at q
    cases q
/-- what stands tracked -/
theorem argH_is (ar : ∀ a ∈ A, ArgOb h A a) {b : Addr} {u : HO} (q : argH K h A b = some u) : K.lookup b = none ∧ ∃ vs : List Value, vs.length ≤ sizeLine ∧ (∀ u ∈ vs, OkU A u) ∧
    ((h.get? b = some { cls := .type "list", data := .seq vs.toArray } ∧ u = .frz { cls := .type "list", data := .seq vs.toArray } (.lst (vs.map toV))) ∨
     (h.get? b = some { cls := .type "tuple", data := .seq vs.toArray } ∧ u = .frz { cls := .type "tuple", data := .seq vs.toArray } (.tup (vs.map toV)))) := by
  obtain ⟨hb, hk⟩ := of_argH q
  obtain ⟨vs, h1, h2, h3⟩ := ar b hb
  refine ⟨hk, vs, h1, h2, ?_⟩
  rcases h3 with e | e
  · rw [argH_at hb hk e, hoOf_lst] at q
    exact .inl ⟨e, (Option.some.inj q).symm⟩
  · rw [argH_at hb hk e, hoOf_tup] at q
    exact .inr ⟨e, (Option.some.inj q).symm⟩
theorem argH_only (ar : ∀ a ∈ A, ArgOb h A a) : OnlyF (argH K h A) := fun b => by
  cases q : argH K h A b with
  | none => exact .inl rfl
  | some u =>
    obtain ⟨_, vs, _, _, ⟨_, e⟩ | ⟨_, e⟩⟩ := argH_is ar q
    · exact .inr ⟨_, _, by rw [e]⟩
    · exact .inr ⟨_, _, by rw [e]⟩
theorem argH_ok (ar : ∀ a ∈ A, ArgOb h A a) : HOk P w (argH K h A) h := fun b u q => by
  obtain ⟨_, vs, h1, h2, ⟨e, rfl⟩ | ⟨e, rfl⟩⟩ := argH_is ar q
  · exact ⟨e, by rw [List.length_map]; exact h1, vs, _, vals_toV h2, e⟩
  · exact ⟨e, by rw [List.length_map]; exact h1, vs, vals_toV h2, _, e, rfl, _, rfl⟩
theorem seq_inj {c c' : Value} {vs us : List Value} (e : (some { cls := c, data := .seq vs.toArray } : Option Obj) = some { cls := c', data := .seq us.toArray }) : c = c' ∧ vs = us := by
  have e1 := Option.some.inj e
  have e2 : c = c' := congrArg Obj.cls e1
  have e3 : Data.seq vs.toArray = Data.seq us.toArray := congrArg Obj.data e1
  injection e3 with e4
  refine ⟨e2, ?_⟩
  have e5 := congrArg Array.toList e4
  simpa using e5
/-- a list argument -/
theorem argL (KX : K.In h) (ar : ∀ a ∈ A, ArgOb h A a) {a : Addr} {vs : List Value} (ha : a ∈ A) (e : h.get? a = some { cls := .type "list", data := .seq vs.toArray }) : (∀ u ∈ vs, OkU A u) ∧ SqL K (argH K h A) a (vs.map toV) := by
  obtain ⟨us, h1, h2, h3⟩ := ar a ha
  have hu : us = vs := by
    rcases h3 with q | q
    · rw [e] at q
      exact (seq_inj q).2.symm
    · rw [e] at q
      exact absurd (Value.type.inj (seq_inj q).1) (by decide)
  subst hu
  refine ⟨h2, ?_⟩
  cases hk : K.lookup a with
  | none => exact .inl (.inr ⟨_, by rw [argH_at ha hk e, hoOf_lst]⟩)
  | some o =>
    have e2 := KX a o hk
    rw [e] at e2
    obtain rfl := Option.some.inj e2
    exact .inr ⟨_, us.toArray, _, hk, rfl, rfl, rfl, by rw [List.size_toArray]; exact h1, by simpa using vals_toV h2⟩
theorem argT (KX : K.In h) (ar : ∀ a ∈ A, ArgOb h A a) {a : Addr} {vs : List Value} (ha : a ∈ A) (e : h.get? a = some { cls := .type "tuple", data := .seq vs.toArray }) : (∀ u ∈ vs, OkU A u) ∧ SqT K (argH K h A) a (vs.map toV) := by
  obtain ⟨us, h1, h2, h3⟩ := ar a ha
  have hu : us = vs := by
    rcases h3 with q | q
    · rw [e] at q
      exact absurd (Value.type.inj (seq_inj q).1) (by decide)
    · rw [e] at q
      exact (seq_inj q).2.symm
  subst hu
  refine ⟨h2, ?_⟩
  cases hk : K.lookup a with
  | none => exact .inl (.inr ⟨_, by rw [argH_at ha hk e, hoOf_tup]⟩)
  | some o =>
    have e2 := KX a o hk
    rw [e] at e2
    obtain rfl := Option.some.inj e2
    exact .inr ⟨_, us.toArray, _, hk, rfl, rfl, by rw [List.size_toArray]; exact h1, by simpa using vals_toV h2⟩
mutual
theorem dw_one {Pm : Params} (KX : K.In h) (ar : ∀ a ∈ A, ArgOb h A a) : ∀ (d : WData) (v : Value), Well Pm h v d → plW d = true → OkU A v → Dw K (argH K h A) (toV v) d
  | .none, _, x, _, _ => by
    cases x
    exact .non
  | .bool b, _, x, _, _ => by
    cases x
    exact .bl b
  | .int i, _, x, _, _ => by
    cases x
    exact .int i
  | .str s, _, x, _, _ => by
    cases x
    exact .str s
  | .bytes b, _, x, _, _ => by
    cases x
    have z := Dw.byt (K := K) (H := argH K h A) b.toArray
    exact z
  | .list ds, _, x, p, hu => by
    obtain ⟨a, vs, rfl, ho, hall⟩ := well_list x
    obtain ⟨h2, hs⟩ := argL KX ar hu ho
    exact .lst hs (dw_all KX ar ds _ hall p h2)
  | .tuple ds, _, x, p, hu => by
    obtain ⟨a, vs, rfl, ho, hall⟩ := well_tuple x
    obtain ⟨h2, hs⟩ := argT KX ar hu ho
    exact .tup hs (dw_all KX ar ds _ hall p h2)
  | .float _, _, _, p, _ => Bool.noConfusion (show false = true from p)
  | .dict _, _, _, p, _ => Bool.noConfusion (show false = true from p)
  | .bytearray _, _, _, p, _ => Bool.noConfusion (show false = true from p)
  | .set _, _, _, p, _ => Bool.noConfusion (show false = true from p)
  | .frozenset _, _, _, p, _ => Bool.noConfusion (show false = true from p)
  | .obj _ _, _, _, p, _ => Bool.noConfusion (show false = true from p)
theorem dw_all {Pm : Params} (KX : K.In h) (ar : ∀ a ∈ A, ArgOb h A a) : ∀ (ds : List WData) (vs : List Value), WellAll Pm h vs ds → plWs ds = true → (∀ u ∈ vs, OkU A u) → DwAll K (argH K h A) (vs.map toV) ds
  | [], _, x, _, _ => by
    cases x
    exact .nil
  | d :: ds, _, x, p, hu => by
    obtain ⟨v, vs, rfl, x1, x2⟩ := well_cons x
    have q : plW d = true ∧ plWs ds = true := Bool.and_eq_true_iff.mp p
    exact .cons (dw_one KX ar d v x1 q.1 (hu _ (List.mem_cons_self ..))) (dw_all KX ar ds vs x2 q.2 fun u m => hu u (List.mem_cons_of_mem _ m))
end
end
/-! ### the call -/
theorem spec_call {P : Program} {w : World} {K : PySem.W.Frag} {mg mb : Str → Option Value} {CX : CXT} {k : Nat} {fa : Addr} {fd : FuncData} {ps : List Str} {sp : Sp} {s₁ : Shared} {vals : List Value} {ds : List WData} {R : PySem.W.WRecords} {cl : Str → Option Addr} {d0 : WData}
    (KX : K.In s₁.heap) (hns : s₁.heap.Ns mainGlobals mg) (hb : s₁.heap.Ns builtinsNs mb) (hbb : ∀ x : Str, x ≠ "__name__" → mb x = bootBuiltins x) (hlim : s₁.heap.NoLimit) (hg : s₁.gens = #[])
    (hwl : WellAll w.params s₁.heap vals ds) (hpl : plWs ds = true) (hwt : ∀ d ∈ ds, d.weight ≤ 1048576) (hr : Room k callerA)
    (F : ∀ base : Heap, K.In base → base.Ns mainGlobals mg → FnOk P w K mg base CX k fa fd ps sp) (hbind : ∀ (s : Shared) (us : List Value), us.length = ps.length → BindsTo s fd ⟨us, []⟩ (ps.zip us)) (hlen : ds.length = ps.length)
    (hsp : ∀ (H : Hp) (xs : List V), OnlyF H → DwAll K H xs ds → sp xs H (fun v H' => Dw K H' v d0) fun _ _ _ => False)
    (hCX : ∀ H e s', CX [] H s₁ (fun _ _ _ => False) e s' → False) :
    codeAny (model P w) callerA (.call (.ref fa) ⟨vals, []⟩) (fun r s' => ∃ u as, r = .ok (.ret u) ∧ ReadsW R cl s'.heap u d0 as ∧ OldK s₁.heap s'.heap ∧ s'.os = s₁.os ∧ AllBare s'.gens) s₁ := by
  obtain ⟨A, ho, ar⟩ := area_all ds vals hwl hpl hwt
  have hO : OnlyF (argH K s₁.heap A) := argH_only ar
  have hok : HOk P w (argH K s₁.heap A) s₁.heap := argH_ok ar
  have hS := dw_all KX ar ds vals hwl hpl ho
  have hV := vals_toV ho
  have hK : ∀ b u, argH K s₁.heap A b = some u → K.lookup b = none := fun b u q => (argH_is ar q).1
  have noA : ∀ {b : Addr} {o : Obj} {es : Array DictEntry} {ep : Nat}, s₁.heap.get? b = some o → o.data = .dict es ep → argH K s₁.heap A b = none := fun {b o es ep} e d => by
    cases q : argH K s₁.heap A b with
    | none => rfl
    | some u =>
      obtain ⟨_, vs, _, _, ⟨e2, _⟩ | ⟨e2, _⟩⟩ := argH_is ar q
      · rw [e2] at e
        cases e
        have d' : Data.seq vs.toArray _ = Data.dict es ep := d
        cases d'
      · rw [e2] at e
        cases e
        have d' : Data.seq vs.toArray _ = Data.dict es ep := d
        cases d'
  generalize argH K s₁.heap A = H at hO hok hS hK noA
  have base_of : ∀ {b : Addr} {o : Obj}, s₁.heap.get? b = some o → H b = none → (hidT s₁.heap H).get? b = some o := fun e n => hidT_get e n
  have nsK : ∀ {b : Addr} {m : Str → Option Value}, s₁.heap.Ns b m → (hidT s₁.heap H).Ns b m := fun {b m} ⟨o, es, ep, e, d, r⟩ => ⟨o, es, ep, base_of e (noA e d), d, r⟩
  have nK : ∀ b o, K.lookup b = some o → H b = none := fun b o e => by
    cases q : H b with
    | none => rfl
    | some u =>
      rw [hK b u q] at e
      cases e
  have hKb : K.In (hidT s₁.heap H) := fun b o e => base_of (KX b o e) (nK b o e)
  have hM : Mod K mg (hidT s₁.heap H) := ⟨hKb, nsK hns, ⟨mb, nsK hb, hbb⟩, let ⟨mc, h1, h2⟩ := hlim; ⟨mc, nsK h1, h2⟩⟩
  have e0 : Env0 P w K mg (hidT s₁.heap H) callerA [] s₁ H := ⟨rfl, hM, fun b o e => of_hidT e, Nat.le_of_eq (hidT_size _ _), trivial, fun b hb => absurd (show b ∈ ([] : List Addr) from hb) (by simp), hok, .of_eq hg⟩
  have hl : vals.length = ps.length := by rw [wellAll_len hwl]; exact hlen
  refine codeAny_mono ((F _ hKb (nsK hns)).run callerA [] s₁ H ⟨vals, []⟩ vals (vals.map toV) _ _ hr e0 (hbind s₁ vals hl) hV (hsp H _ hO hS)) fun r s' x => ?_
  cases r with
  | error e => exact (hCX H e s' x).elim
  | ok fl =>
    cases fl with
    | next => exact False.elim x
    | brk => exact False.elim x
    | cont => exact False.elim x
    | ret u =>
      obtain ⟨v, H', os, bare, un, hok', r', q⟩ := x
      have kept : ∀ b o, s₁.heap.get? b = some o → s'.heap.get? b = some o := fun b o e => by
        cases q2 : H b with
        | none => exact un.keep b o e q2 (by intro z; exact absurd (show b ∈ ([] : List Addr) from z) (by simp)) (by simp)
        | some u2 =>
          rcases hO b with z | ⟨ob, u3, z⟩
          · rw [q2] at z
            cases z
          · have z2 := un.frzs b ob _ z
            obtain ⟨e1, _⟩ := hok b _ z
            obtain ⟨e2, _⟩ := hok' b _ z2
            rw [e] at e1
            cases e1
            exact e2
      have KX' : K.In s'.heap := fun b o e => kept b o (KX b o e)
      obtain ⟨as, hrd⟩ := Dw.reads (R := R) (cl := cl) hok' KX' d0 v u q r'
      exact ⟨u, as, rfl, hrd, OldK.of_keep kept, os, bare⟩
/-! ### the row -/
theorem layable_weight {ds : List WData} (h : WData.layableAll ds = true) : ∀ d ∈ ds, d.weight ≤ 1048576 := fun d hd =>
  (PySem.W.layableW_iff.mp (List.all_eq_true.mp h d hd)).2.2
theorem encAll_len : ∀ (cs : List Codec) (a : Codec.denoteAll cs), (Codec.encAll cs a).length = cs.length
  | [], _ => rfl
  | c :: cs, a => by
    show (Codec.encAll cs a.2).length + 1 = cs.length + 1
    rw [encAll_len cs a.2]
/-- the goal that k_headS leaves (case hc), from the promise of the row's def: whatever the arguments that the codecs let and the row asks for, the def gives what stands for enc (f ..) -/
theorem walk_spec {r : OpenSpec} {k : Nat} {q : Program} {loose : List Str} {XP : (Str → Option Value) → Heap → Prop} {YP : World → Heap → Prop} {d : DefRec} {K : Params → PySem.W.Frag} {CX : World → CXT} {ps : List Str} {sp : World → Sp}
    (hwell : r.wellSaid = true) (hdf : d.params.defaults = []) (hlen : r.args.length = ps.length) (hr : Room k callerA)
    (hY : ∀ (w : World) (h : Heap), YP w h → (K w.params).In h)
    (F : ∀ (w : World) (mg : Str → Option Value) (fa : Addr) (h : Heap), YP w h → (K w.params).In h → h.Ns mainGlobals mg → mg d.name = some (.ref fa) →
      ∃ fd : FuncData, (∀ (s : Shared) (us : List Value), us.length = ps.length → BindsTo s fd ⟨us, []⟩ (ps.zip us)) ∧
        ∀ base : Heap, (K w.params).In base → base.Ns mainGlobals mg → FnOk r.prog w (K w.params) mg base (CX w) k fa fd ps (sp w))
    (hsp : ∀ (w : World) (H : Hp) (xs : List V) (a : Codec.denoteAll r.args), OnlyF H → Codec.withinAll r.args a = true → Codec.app r.args r.asked a = true → DwAll (K w.params) H xs (Codec.encAll r.args a) →
      sp w xs H (fun v H' => Dw (K w.params) H' v (r.ret.enc (Codec.app r.args r.f a))) fun _ _ _ => False)
    (hCX : ∀ (w : World) (H : Hp) (s : Shared) (e : Value) (s' : Shared), CX w [] H s (fun _ _ _ => False) e s' → False) :
    PySem.W.WalkOS q loose XP YP r d [] (fun f vs => PySem.call f vs) := by
  intro w s_0 s₁ mg mb G Y fa o pm cd doc dV kV ho hd hcd hD hmg hg args vals as hpre hlay hrd hwl hlo
  obtain ⟨a, e1, e2⟩ := PySem.W.os_pre_some hpre
  obtain ⟨e3, hwi⟩ := Codec.encAll_of_decAll r.args args a e1
  subst e3
  have KX := hY w _ Y
  obtain ⟨fd, hb, hF⟩ := F w mg fa _ Y KX G.T.g hmg
  refine PySem.W.enter_call (codeAny_mono (spec_call (R := []) (cl := classAt s_0.heap) (d0 := r.ret.enc (Codec.app r.args r.f a)) KX G.T.g G.T.b G.T.builtins G.T.nolimit hg hwl (pl_encAll _ _) (layable_weight hlay) hr hF hb (by rw [encAll_len]; exact hlen)
    (fun H xs hO hS => hsp w H xs a hO hwi e2 hS) fun H e s' => hCX w H s₁ e s') fun r' s' hq => ?_)
  obtain ⟨u, as', rfl, h1, h2, h3, h4⟩ := hq
  exact ⟨.inl ⟨u, _, as', rfl, fun _ => rfl, h1, (OpenSpec.post_iff hwell hwi _ _).mpr rfl, fun z => Bool.noConfusion (show false = true from z)⟩, h2, h3, h4⟩
/-- the same where the promise hangs on the written part alone -/
theorem walk_specK {r : OpenSpec} {k : Nat} {q : Program} {loose : List Str} {XP : (Str → Option Value) → Heap → Prop} {YP : World → Heap → Prop} {d : DefRec} {K : Params → PySem.W.Frag} {CX : CXT} {ps : List Str} {sp : PySem.W.Frag → Sp}
    (hwell : r.wellSaid = true) (hdf : d.params.defaults = []) (hlen : r.args.length = ps.length) (hr : Room k callerA)
    (hY : ∀ (w : World) (h : Heap), YP w h → (K w.params).In h)
    (F : ∀ (w : World) (mg : Str → Option Value) (fa : Addr) (h : Heap), YP w h → (K w.params).In h → h.Ns mainGlobals mg → mg d.name = some (.ref fa) →
      ∃ fd : FuncData, (∀ (s : Shared) (us : List Value), us.length = ps.length → BindsTo s fd ⟨us, []⟩ (ps.zip us)) ∧
        ∀ base : Heap, (K w.params).In base → base.Ns mainGlobals mg → FnOk r.prog w (K w.params) mg base CX k fa fd ps (sp (K w.params)))
    (hsp : ∀ (K : PySem.W.Frag) (H : Hp) (xs : List V) (a : Codec.denoteAll r.args), OnlyF H → Codec.withinAll r.args a = true → Codec.app r.args r.asked a = true → DwAll K H xs (Codec.encAll r.args a) →
      sp K xs H (fun v H' => Dw K H' v (r.ret.enc (Codec.app r.args r.f a))) fun _ _ _ => False)
    (hCX : ∀ (H : Hp) (s : Shared) (e : Value) (s' : Shared), CX [] H s (fun _ _ _ => False) e s' → False) :
    PySem.W.WalkOS q loose XP YP r d [] (fun f vs => PySem.call f vs) :=
  walk_spec (K := K) (CX := fun _ => CX) (sp := fun w => sp (K w.params)) hwell hdf hlen hr hY F (fun w H xs a h1 h2 h3 h4 => hsp (K w.params) H xs a h1 h2 h3 h4) fun _ H s e s' => hCX H s e s'
end L2
end
namespace CC
open Si53
/-! ### lists -/
theorem range_filter_cut {p q : Nat → Bool} {k : Nat} : ∀ (n : Nat), k ≤ n → (∀ i, i < k → p i = q i) → (∀ i, k ≤ i → i < n → p i = false) → (List.range n).filter p = (List.range k).filter q
  | 0, hk, _, _ => by
    have : k = 0 := by omega
    subst this; rfl
  | n + 1, hk, h1, h2 => by
    rcases Nat.lt_or_ge n k with h | h
    · have e : k = n + 1 := by omega
      subst e
      apply List.filter_congr
      intro x hx
      exact h1 x (List.mem_range.mp hx)
    · rw [List.range_succ, List.filter_append, range_filter_cut n h h1 (fun i a b => h2 i a (by omega))]
      simp [h2 n h (by omega)]
theorem takeWhile_range {p : Nat → Bool} (n : Nat) : ∃ k, k ≤ n ∧ (List.range n).takeWhile p = List.range k ∧ (∀ i, i < k → p i = true) ∧ (k < n → p k = false) := by
  induction n with
  | zero => exact ⟨0, Nat.le_refl _, rfl, fun i h => by omega, fun h => by omega⟩
  | succ n ih =>
    obtain ⟨k, hk, e, h1, h2⟩ := ih
    rcases Nat.lt_or_ge k n with h | h
    · refine ⟨k, by omega, ?_, h1, fun _ => h2 h⟩
      rw [List.range_succ, List.takeWhile_append]
      have : ((List.range n).takeWhile p).length ≠ (List.range n).length := by
        rw [e]; simp; omega
      rw [if_neg this, e]
    · have ek : k = n := by omega
      subst ek
      have full : ((List.range k).takeWhile p).length = (List.range k).length := by rw [e]
      cases hp : p k with
      | true =>
        refine ⟨k + 1, Nat.le_refl _, ?_, fun i hi => ?_, fun h => by omega⟩
        · rw [List.range_succ, List.takeWhile_append, if_pos full]
          simp [hp]
        · rcases Nat.lt_or_ge i k with h | h
          · exact h1 i h
          · have : i = k := by omega
            subst this; exact hp
      | false =>
        refine ⟨k, by omega, ?_, h1, fun _ => hp⟩
        rw [List.range_succ, List.takeWhile_append, if_pos full]
        simp [hp]
/-! ### courts -/
structure Up (l : Land) : Prop where
  up : ∀ (c u : Nat), l.courts[c]? = some (some u) → u < c
theorem getD_some {α : Type} {xs : List (Option α)} {c : Nat} {u : α} (h : xs.getD c none = some u) : xs[c]? = some (some u) := by
  rw [List.getD_eq_getElem?_getD] at h
  cases e : xs[c]? with
  | none => rw [e] at h; cases h
  | some o => rw [e] at h; exact congrArg some h
theorem chain_fuel {l : Land} (W : Up l) : ∀ (c f g : Nat), c < f → c < g → chainFrom l f c = chainFrom l g c := by
  intro c
  induction c using Nat.strongRecOn with
  | _ c ih =>
    intro f g hf hg
    match f, g, hf, hg with
    | f + 1, g + 1, hf, hg =>
      unfold chainFrom
      cases e : l.courts.getD c none with
      | none => rfl
      | some u =>
        have hu := W.up c u (getD_some e)
        simp only
        rw [ih u hu f g (by omega) (by omega)]
/-- what is above, by the number that was told: 0, or one more than the court above -/
def aboveOf (l : Land) : Nat → List Nat
  | 0 => []
  | u + 1 => chain l u
/-- the number that was told for a court -/
def upOf : Option Nat → Nat
  | none => 0
  | some u => u + 1
theorem chain_eq {l : Land} (W : Up l) {c : Nat} (hc : c < l.courts.length) : chain l c = c :: aboveOf l (upOf (l.courts.getD c none)) := by
  unfold chain
  obtain ⟨n, hn⟩ : ∃ n, l.courts.length = n + 1 := ⟨l.courts.length - 1, by omega⟩
  rw [hn]
  conv => lhs; unfold chainFrom
  cases e : l.courts.getD c none with
  | none => rfl
  | some u =>
    have hu := W.up c u (getD_some e)
    show c :: chainFrom l n u = c :: chain l u
    unfold chain
    rw [chain_fuel W u n l.courts.length (by omega) (by omega)]
theorem chain_le {l : Land} (W : Up l) : ∀ (c x : Nat), c < l.courts.length → x ∈ chain l c → x ≤ c := by
  intro c
  induction c using Nat.strongRecOn with
  | _ c ih =>
    intro x hc hx
    rw [chain_eq W hc] at hx
    rcases List.mem_cons.mp hx with h | h
    · omega
    · cases e : l.courts.getD c none with
      | none => rw [e] at h; simp [aboveOf, upOf] at h
      | some u =>
        have hu := W.up c u (getD_some e)
        rw [e] at h
        have := ih u hu x (by omega) h
        omega
theorem above_lt {l : Land} (W : Up l) {c x : Nat} (hc : c < l.courts.length) (hx : x ∈ aboveOf l (upOf (l.courts.getD c none))) : x < c := by
  cases e : l.courts.getD c none with
  | none => rw [e] at hx; simp [aboveOf, upOf] at hx
  | some u =>
    have hu := W.up c u (getD_some e)
    rw [e] at hx
    have := chain_le W u x (by omega) hx
    omega
theorem chainFrom_courts {l m : Land} (h : l.courts = m.courts) : ∀ (f c : Nat), chainFrom l f c = chainFrom m f c
  | 0, _ => rfl
  | f + 1, c => by
    unfold chainFrom
    rw [h]
    cases m.courts.getD c none with
    | none => rfl
    | some u => simp only [chainFrom_courts h f u]
theorem chain_courts {l m : Land} (h : l.courts = m.courts) (c : Nat) : chain l c = chain m c := by
  unfold chain
  rw [h]
  exact chainFrom_courts h _ _
theorem chain_more {l : Land} (W : Up l) (o : Option Nat) : ∀ (c : Nat), c < l.courts.length → chain { l with courts := l.courts ++ [o] } c = chain l c := by
  have key : ∀ (f c : Nat), c < l.courts.length → c < f → chainFrom { l with courts := l.courts ++ [o] } f c = chainFrom l f c := by
    intro f
    induction f with
    | zero => intro c _ h; omega
    | succ f ih =>
      intro c hc hf
      unfold chainFrom
      have e : (l.courts ++ [o]).getD c none = l.courts.getD c none := by
        rw [List.getD_eq_getElem?_getD, List.getD_eq_getElem?_getD, List.getElem?_append_left hc]
      show c :: (match (l.courts ++ [o]).getD c none with | some u => _ | none => _) = _
      rw [e]
      cases e2 : l.courts.getD c none with
      | none => rfl
      | some u =>
        have hu := W.up c u (getD_some e2)
        simp only
        rw [ih u (by omega) (by omega)]
  intro c hc
  unfold chain
  rw [key _ c hc (by simp; omega)]
  exact chain_fuel W c _ _ (by simp; omega) hc
theorem up_more {l : Land} (W : Up l) {u : Nat} (hu : u ≤ l.courts.length) : Up { l with courts := l.courts ++ [if u = 0 then none else some (u - 1)] } := by
  refine ⟨fun c v h => ?_⟩
  rcases Nat.lt_or_ge c l.courts.length with hc | hc
  · rw [List.getElem?_append_left hc] at h
    exact W.up c v h
  · rw [List.getElem?_append_right hc] at h
    have : c - l.courts.length = 0 := by
      rcases Nat.eq_zero_or_pos (c - l.courts.length) with z | z
      · exact z
      · have : (([if u = 0 then none else some (u - 1)] : List (Option Nat))[c - l.courts.length]?) = none := by
          apply List.getElem?_eq_none; simp; omega
        rw [this] at h; cases h
    rw [this] at h
    simp at h
    omega
end CC
namespace CC
open Si53
/-! ### what stands, decision by decision -/
def fld (l : Land) (k : Nat) : List Nat := (List.range k).foldl (next l) []
theorem fld_succ (l : Land) (k : Nat) : fld l (k + 1) = next l (fld l k) k := by
  unfold fld
  rw [List.range_succ, List.foldl_append]
  rfl
def onAt (bs : List Bool) (ts : List (Option Nat)) (k i : Nat) : Bool :=
  !(bs.getD i true) && (match ts.getD i none with | none => true | some j => decide (k ≤ j))
structure Hist (l : Land) (bs : List Bool) (ts : List (Option Nat)) : Prop where
  bl : bs.length = l.decisions.length
  tl : ts.length = l.decisions.length
  lt : ∀ (i j : Nat), ts[i]? = some (some j) → i < j ∧ j < l.decisions.length
  eq : ∀ (k : Nat), k ≤ l.decisions.length → fld l k = (List.range k).filter (onAt bs ts k)
def Days (l : Land) : Prop := ∀ (i j : Nat), i ≤ j → j < l.decisions.length → (decision l i).day ≤ (decision l j).day
/-- as the program asks it -/
def onDay (l : Land) (bs : List Bool) (ts : List (Option Nat)) (D i : Nat) : Bool :=
  !(bs.getD i true || decide (D < (decision l i).day)) && (match ts.getD i none with | none => true | some j => decide (D < (decision l j).day))
theorem stands_fld {l : Land} (hd : Days l) (D : Nat) : ∃ k, k ≤ l.decisions.length ∧ Si53.stands l D = fld l k ∧ (∀ i, i < k → (decision l i).day ≤ D) ∧ (∀ i, k ≤ i → i < l.decisions.length → D < (decision l i).day) := by
  obtain ⟨k, hk, e, h1, h2⟩ := takeWhile_range (p := fun i => decide ((decision l i).day ≤ D)) l.decisions.length
  refine ⟨k, hk, ?_, fun i hi => of_decide_eq_true (h1 i hi), fun i hi hn => ?_⟩
  · unfold Si53.stands fld
    rw [e]
  · have a : D < (decision l k).day := by
      have := of_decide_eq_false (h2 (by omega))
      omega
    have b := hd k i hi hn
    omega
theorem stands_eq {l : Land} {bs : List Bool} {ts : List (Option Nat)} (hd : Days l) (h : Hist l bs ts) (D : Nat) : Si53.stands l D = (List.range l.decisions.length).filter (onDay l bs ts D) := by
  obtain ⟨k, hk, e, h1, h2⟩ := stands_fld hd D
  rw [e, h.eq k hk]
  symm
  refine range_filter_cut _ hk (fun i hi => ?_) (fun i a b => ?_)
  · unfold onDay onAt
    have c1 : decide (D < (decision l i).day) = false := decide_eq_false (by have := h1 i hi; omega)
    rw [c1, Bool.or_false]
    congr 1
    cases e2 : ts.getD i none with
    | none => rfl
    | some j =>
      have hj := h.lt i j (getD_some e2)
      show decide (D < (decision l j).day) = decide (k ≤ j)
      rcases Nat.lt_or_ge j k with z | z
      · rw [decide_eq_false (by have := h1 j z; omega), decide_eq_false (by omega)]
      · rw [decide_eq_true (h2 j z hj.2), decide_eq_true z]
  · unfold onDay
    rw [decide_eq_true (h2 i a b)]
    simp
/-- behind the last day -/
theorem stands_last {l : Land} (D : Nat) (h : ∀ i, i < l.decisions.length → (decision l i).day ≤ D) : Si53.stands l D = fld l l.decisions.length := by
  unfold Si53.stands fld
  have : (List.range l.decisions.length).takeWhile (fun i => decide ((decision l i).day ≤ D)) = List.range l.decisions.length := by
    obtain ⟨k, hk, e, h1, h2⟩ := takeWhile_range (p := fun i => decide ((decision l i).day ≤ D)) l.decisions.length
    rw [e]
    rcases Nat.lt_or_ge k l.decisions.length with z | z
    · have := of_decide_eq_false (h2 z)
      exact absurd (h k z) this
    · have : k = l.decisions.length := by omega
      rw [this]
  rw [this]
/-! ### one more decision -/
def plus (l : Land) (d : Decision) : Land := { l with decisions := l.decisions ++ [d] }
theorem plus_len (l : Land) (d : Decision) : (plus l d).decisions.length = l.decisions.length + 1 := by simp [plus]
theorem plus_old {l : Land} (d : Decision) {i : Nat} (h : i < l.decisions.length) : decision (plus l d) i = decision l i := by
  unfold decision plus
  rw [List.getD_eq_getElem?_getD, List.getD_eq_getElem?_getD, List.getElem?_append_left h]
theorem plus_new (l : Land) (d : Decision) : decision (plus l d) l.decisions.length = d := by
  unfold decision plus
  rw [List.getD_eq_getElem?_getD, List.getElem?_append_right (Nat.le_refl _)]
  simp
theorem plus_over (l : Land) (d : Decision) (a b : Nat) : over (plus l d) a b = over l a b := by
  unfold over
  rw [chain_courts (show (plus l d).courts = l.courts from rfl)]
theorem fld_lt (l : Land) : ∀ (k x : Nat), x ∈ fld l k → x < k
  | 0, x, h => by simp [fld] at h
  | k + 1, x, h => by
    rw [fld_succ] at h
    unfold next at h
    simp only at h
    split at h
    · have := fld_lt l k x h; omega
    · rcases List.mem_append.mp h with z | z
      · have := fld_lt l k x (List.mem_filter.mp z).1; omega
      · simp at z; omega
theorem any_congr' {α : Type} {xs : List α} {p q : α → Bool} (h : ∀ x ∈ xs, p x = q x) : xs.any p = xs.any q := by
  induction xs with
  | nil => rfl
  | cons a r ih =>
    simp only [List.any_cons]
    rw [h a (by simp), ih (fun x hx => h x (by simp [hx]))]
theorem barred_plus {l : Land} (d e : Decision) {s : List Nat} (hs : ∀ x ∈ s, x < l.decisions.length) : barred (plus l d) s e = barred l s e := by
  unfold barred
  refine any_congr' fun i hi => ?_
  simp only
  rw [plus_old d (hs i hi), plus_over]
theorem takes_plus {l : Land} (d e : Decision) {i : Nat} (hi : i < l.decisions.length) : takes (plus l d) e i = takes l e i := by
  unfold takes
  simp only
  rw [plus_old d hi, plus_over]
theorem next_plus {l : Land} (d : Decision) {s : List Nat} {i : Nat} (hs : ∀ x ∈ s, x < l.decisions.length) (hi : i < l.decisions.length) : next (plus l d) s i = next l s i := by
  unfold next
  simp only
  rw [plus_old d hi, barred_plus d _ hs]
  split
  · rfl
  · congr 1
    refine List.filter_congr fun j hj => ?_
    rw [takes_plus d _ (hs j hj)]
theorem fld_plus {l : Land} (d : Decision) : ∀ (k : Nat), k ≤ l.decisions.length → fld (plus l d) k = fld l k
  | 0, _ => rfl
  | k + 1, h => by
    rw [fld_succ, fld_succ, fld_plus d k (by omega)]
    exact next_plus d (fun x hx => by have := fld_lt l k x hx; omega) (by omega)
/-- what one more decision takes away -/
def taken (l : Land) (d : Decision) : List Nat := (fld l l.decisions.length).filter (takes l d)
theorem fld_new {l : Land} (d : Decision) : fld (plus l d) (l.decisions.length + 1) = if barred l (fld l l.decisions.length) d = true then fld l l.decisions.length else ((fld l l.decisions.length).filter fun j => !takes l d j) ++ [l.decisions.length] := by
  rw [fld_succ, fld_plus d _ (Nat.le_refl _)]
  unfold next
  simp only
  have hs : ∀ x ∈ fld l l.decisions.length, x < l.decisions.length := fun x hx => fld_lt l _ x hx
  rw [plus_new, barred_plus d _ hs]
  split
  · rfl
  · congr 1
    refine List.filter_congr fun j hj => ?_
    rw [takes_plus d _ (hs j hj)]
theorem getD_append_left' {α : Type} {xs ys : List α} {i : Nat} {a : α} (h : i < xs.length) : (xs ++ ys).getD i a = xs.getD i a := by
  rw [List.getD_eq_getElem?_getD, List.getD_eq_getElem?_getD, List.getElem?_append_left h]
theorem getD_snoc {α : Type} {xs : List α} {y : α} {i : Nat} {a : α} (h : i = xs.length) : (xs ++ [y]).getD i a = y := by
  subst h
  rw [List.getD_eq_getElem?_getD, List.getElem?_append_right (Nat.le_refl _)]
  simp
theorem hist_barred {l : Land} {bs : List Bool} {ts : List (Option Nat)} (h : Hist l bs ts) {d : Decision} (hb : barred l (fld l l.decisions.length) d = true) : Hist (plus l d) (bs ++ [true]) (ts ++ [none]) := by
  have hn := plus_len l d
  refine ⟨by rw [hn, List.length_append, h.bl]; rfl, by rw [hn, List.length_append, h.tl]; rfl, fun i j e => ?_, fun k hk => ?_⟩
  · rw [hn]
    rcases Nat.lt_or_ge i ts.length with z | z
    · rw [List.getElem?_append_left z] at e
      have := h.lt i j e
      omega
    · rw [List.getElem?_append_right z] at e
      cases q : i - ts.length with
      | zero => rw [q] at e; simp at e
      | succ m => rw [q] at e; simp at e
  · rw [hn] at hk
    rcases Nat.lt_or_ge k (l.decisions.length + 1) with z | z
    · rw [fld_plus d k (by omega), h.eq k (by omega)]
      refine List.filter_congr fun i hi => ?_
      have hi := List.mem_range.mp hi
      unfold onAt
      rw [getD_append_left' (by rw [h.bl]; omega), getD_append_left' (by rw [h.tl]; omega)]
    · have ek : k = l.decisions.length + 1 := by omega
      subst ek
      rw [fld_new, if_pos hb, h.eq _ (Nat.le_refl _)]
      symm
      refine range_filter_cut _ (by omega) (fun i hi => ?_) (fun i a b => ?_)
      · unfold onAt
        rw [getD_append_left' (by rw [h.bl]; omega), getD_append_left' (by rw [h.tl]; omega)]
        congr 1
        cases e2 : ts.getD i none with
        | none => rfl
        | some j =>
          have hj := h.lt i j (getD_some e2)
          show decide _ = decide _
          rw [decide_eq_false (by omega), decide_eq_false (by omega)]
      · unfold onAt
        rw [getD_snoc (by rw [h.bl]; omega)]
        rfl
theorem hist_stands {l : Land} {bs : List Bool} {ts us : List (Option Nat)} (h : Hist l bs ts) {d : Decision} (hb : ¬ barred l (fld l l.decisions.length) d = true) (hl : us.length = l.decisions.length)
    (hu : ∀ i, i < l.decisions.length → us.getD i none = if i ∈ taken l d then some l.decisions.length else ts.getD i none) : Hist (plus l d) (bs ++ [false]) (us ++ [none]) := by
  have hn := plus_len l d
  refine ⟨by rw [hn, List.length_append, h.bl]; rfl, by rw [hn, List.length_append, hl]; rfl, fun i j e => ?_, fun k hk => ?_⟩
  · rw [hn]
    rcases Nat.lt_or_ge i us.length with z | z
    · rw [List.getElem?_append_left z] at e
      have q := hu i (by omega)
      rw [List.getD_eq_getElem?_getD, e] at q
      split at q
      · have : j = l.decisions.length := Option.some.inj q
        omega
      · have := h.lt i j (getD_some q.symm)
        omega
    · rw [List.getElem?_append_right z] at e
      cases q : i - us.length with
      | zero => rw [q] at e; simp at e
      | succ m => rw [q] at e; simp at e
  · rw [hn] at hk
    rcases Nat.lt_or_ge k (l.decisions.length + 1) with z | z
    · rw [fld_plus d k (by omega), h.eq k (by omega)]
      refine List.filter_congr fun i hi => ?_
      have hi := List.mem_range.mp hi
      unfold onAt
      rw [getD_append_left' (by rw [h.bl]; omega), getD_append_left' (by omega), hu i (by omega)]
      by_cases ht : i ∈ taken l d
      · rw [if_pos ht]
        have hin := (List.mem_filter.mp ht).1
        rw [h.eq _ (Nat.le_refl _)] at hin
        have hon := (List.mem_filter.mp hin).2
        unfold onAt at hon
        rw [Bool.and_eq_true] at hon
        congr 1
        show _ = decide (k ≤ l.decisions.length)
        rw [decide_eq_true (show k ≤ l.decisions.length by omega)]
        cases e2 : ts.getD i none with
        | none => rfl
        | some j =>
          have hj := h.lt i j (getD_some e2)
          rw [e2] at hon
          have := of_decide_eq_true hon.2
          omega
      · rw [if_neg ht]
    · have ek : k = l.decisions.length + 1 := by omega
      subst ek
      rw [fld_new, if_neg hb, List.range_succ, List.filter_append]
      have hmem : ∀ i, i < l.decisions.length → (i ∈ taken l d ↔ (onAt bs ts l.decisions.length i = true ∧ takes l d i = true)) := fun i hi => by
        unfold taken
        rw [List.mem_filter, h.eq _ (Nat.le_refl _), List.mem_filter, List.mem_range]
        exact ⟨fun z => ⟨z.1.2, z.2⟩, fun z => ⟨⟨hi, z.1⟩, z.2⟩⟩
      congr 1
      · rw [h.eq _ (Nat.le_refl _), List.filter_filter]
        refine List.filter_congr fun i hi => ?_
        have hi := List.mem_range.mp hi
        have hm := hmem i hi
        conv => rhs; unfold onAt
        rw [getD_append_left' (by rw [h.bl]; omega), getD_append_left' (by omega), hu i (by omega)]
        by_cases ht : i ∈ taken l d
        · have := hm.mp ht
          rw [this.2, if_pos ht]
          simp
        · rw [if_neg ht]
          unfold onAt at hm ⊢
          cases eb : bs.getD i true with
          | true => simp
          | false =>
            cases e2 : ts.getD i none with
            | none =>
              rw [e2, eb] at hm
              have : ¬ takes l d i = true := fun q => ht (hm.mpr ⟨rfl, q⟩)
              simp [this]
            | some j =>
              have hj := h.lt i j (getD_some e2)
              have z1 : ¬ (l.decisions.length ≤ j) := by omega
              have z2 : ¬ (l.decisions.length + 1 ≤ j) := by omega
              simp [z1, z2]
      · unfold onAt
        rw [List.filter_cons, getD_snoc (by rw [h.bl]), getD_snoc (by rw [hl])]
        rfl
theorem hist_nil (s : List Bool) (c : List (Option Nat)) : Hist ⟨s, c, []⟩ [] [] := by
  refine ⟨rfl, rfl, fun i j e => by simp at e, fun k hk => ?_⟩
  have : k = 0 := by simpa using hk
  subst this
  rfl
end CC
namespace CC
open Si53
/-! ### lands that calls lead to -/
structure WF (l : Land) : Prop where
  up : Up l
  dc : ∀ (i : Nat), i < l.decisions.length → (decision l i).court < l.courts.length
  days : Days l
  fk : ∀ (i : Nat), i < l.decisions.length → factsOk l (decision l i).facts = true
  rk : ∀ (i : Nat), i < l.decisions.length → reasonOk l (decision l i).side (decision l i).facts (decision l i).reason = true
  ns : l.speaks.length ≤ 10
  nc : l.courts.length ≤ 8
  nd : l.decisions.length ≤ 30
theorem wf_begins (s : List Bool) (h : s.length ≤ 10) : WF ⟨s, [], []⟩ :=
  ⟨⟨fun c u e => by simp at e⟩, fun i h => by simp at h, fun i j _ h => by simp at h, fun i h => by simp at h, fun i h => by simp at h, h, by simp, by simp⟩
def court1 (l : Land) (u : Nat) : Land := { l with courts := l.courts ++ [if u = 0 then none else some (u - 1)] }
theorem wf_court {l : Land} (W : WF l) {u : Nat} (hu : u ≤ l.courts.length) (h8 : l.courts.length < 8) : WF (court1 l u) := by
  refine ⟨up_more W.up hu, fun i h => ?_, W.days, W.fk, W.rk, W.ns, ?_, W.nd⟩
  · have := W.dc i h
    show (decision l i).court < (l.courts ++ [_]).length
    rw [List.length_append]
    exact Nat.lt_of_lt_of_le this (Nat.le_add_right _ _)
  · show (l.courts ++ [_]).length ≤ 8
    rw [List.length_append]
    exact h8
theorem over_more {l : Land} (W : WF l) (u : Nat) {a b : Nat} (hb : b < l.courts.length) : over (court1 l u) a b = over l a b := by
  unfold over court1
  rw [chain_more W.up _ b hb]
theorem next_more {l : Land} (W : WF l) (u : Nat) {s : List Nat} {i : Nat} (hs : ∀ x ∈ s, x < l.decisions.length) (hi : i < l.decisions.length) : next (court1 l u) s i = next l s i := by
  have d : ∀ j, decision (court1 l u) j = decision l j := fun _ => rfl
  have b : barred (court1 l u) s (decision l i) = barred l s (decision l i) := by
    unfold barred
    refine any_congr' fun j hj => ?_
    simp only [d]
    rw [over_more W u (W.dc i hi)]
  unfold next
  simp only [d, b]
  split
  · rfl
  · congr 1
    refine List.filter_congr fun j hj => ?_
    unfold takes
    simp only [d]
    rw [over_more W u (W.dc j (hs j hj))]
theorem fld_more {l : Land} (W : WF l) (u : Nat) : ∀ (k : Nat), k ≤ l.decisions.length → fld (court1 l u) k = fld l k
  | 0, _ => rfl
  | k + 1, h => by
    rw [fld_succ, fld_succ, fld_more W u k (by omega)]
    exact next_more W u (fun x hx => by have := fld_lt l k x hx; omega) (by omega)
theorem hist_court {l : Land} {bs : List Bool} {ts : List (Option Nat)} (W : WF l) (h : Hist l bs ts) (u : Nat) : Hist (court1 l u) bs ts :=
  ⟨h.bl, h.tl, h.lt, fun k hk => (fld_more W u k hk).trans (h.eq k hk)⟩
/-! ### a decision told -/
theorem today_le {l : Land} (W : WF l) {D : Nat} (h : ¬ D < today l) : ∀ i, i < l.decisions.length → (decision l i).day ≤ D := by
  intro i hi
  have e : today l = (decision l (l.decisions.length - 1)).day := by
    unfold today decision
    rw [List.getLast?_eq_getElem?, List.getD_eq_getElem?_getD, List.getElem?_eq_getElem (by omega)]
    rfl
  have := W.days i (l.decisions.length - 1) (by omega) (by omega)
  omega
structure Told (l : Land) (d : Decision) : Prop where
  ct : d.court < l.courts.length
  fk : factsOk l d.facts = true
  rk : reasonOk l d.side d.facts d.reason = true
  dy : ¬ d.day < today l
  few : l.decisions.length < 30
theorem wf_plus {l : Land} (W : WF l) {d : Decision} (T : Told l d) : WF (plus l d) := by
  have hn := plus_len l d
  have split : ∀ (i : Nat), i < (plus l d).decisions.length → (i < l.decisions.length ∧ decision (plus l d) i = decision l i) ∨ (i = l.decisions.length ∧ decision (plus l d) i = d) := fun i hi => by
    rw [hn] at hi
    rcases Nat.lt_or_ge i l.decisions.length with z | z
    · exact .inl ⟨z, plus_old d z⟩
    · have : i = l.decisions.length := by omega
      subst this
      exact .inr ⟨rfl, plus_new l d⟩
  refine ⟨⟨W.up.up⟩, fun i hi => ?_, fun i j hij hj => ?_, fun i hi => ?_, fun i hi => ?_, W.ns, W.nc, ?_⟩
  · rcases split i hi with ⟨z, e⟩ | ⟨z, e⟩
    · rw [e]; exact W.dc i z
    · rw [e]; exact T.ct
  · rcases split j hj with ⟨z, e⟩ | ⟨z, e⟩
    · rw [e, plus_old d (show i < l.decisions.length by omega)]
      exact W.days i j hij z
    · rw [e]
      rcases split i (by omega) with ⟨z', e'⟩ | ⟨z', e'⟩
      · rw [e']; exact today_le W T.dy i z'
      · rw [e']; exact Nat.le_refl _
  · rcases split i hi with ⟨z, e⟩ | ⟨z, e⟩
    · rw [e]; exact W.fk i z
    · rw [e]; exact T.fk
  · rcases split i hi with ⟨z, e⟩ | ⟨z, e⟩
    · rw [e]; exact W.rk i z
    · rw [e]; exact T.rk
  · rw [hn]; exact T.few
theorem stands_before {l : Land} (W : WF l) {D : Nat} (h : ¬ D < today l) : Si53.stands l D = fld l l.decisions.length := stands_last D (today_le W h)
theorem stands_after {l : Land} (W : WF l) {d : Decision} (T : Told l d) : Si53.stands (plus l d) d.day = fld (plus l d) (l.decisions.length + 1) := by
  rw [stands_last, plus_len]
  intro i hi
  have W' := wf_plus W T
  have := W'.days i l.decisions.length (by rw [plus_len] at hi; omega) (by rw [plus_len]; omega)
  rw [plus_new] at this
  exact this
theorem contains_false {xs : List Nat} {n : Nat} (h : ∀ x ∈ xs, x < n) : xs.contains n = false := by
  cases e : xs.contains n with
  | false => rfl
  | true =>
    have := h n (by simpa using e)
    omega
theorem told_stands {l : Land} (W : WF l) {d : Decision} (T : Told l d) : (Si53.stands (plus l d) d.day).contains l.decisions.length = !barred l (fld l l.decisions.length) d := by
  rw [stands_after W T, fld_new]
  cases e : barred l (fld l l.decisions.length) d with
  | true =>
    rw [if_pos rfl]
    exact contains_false (fld_lt l _)
  | false =>
    rw [if_neg (by simp)]
    simp
theorem told_taken {l : Land} (W : WF l) {d : Decision} (T : Told l d) : ((Si53.stands l d.day).filter fun i => !(Si53.stands (plus l d) d.day).contains i) = if barred l (fld l l.decisions.length) d = true then [] else taken l d := by
  rw [stands_after W T, fld_new, stands_before W T.dy]
  cases e : barred l (fld l l.decisions.length) d with
  | true =>
    rw [if_pos rfl, if_pos rfl]
    rw [List.filter_eq_nil_iff]
    intro a ha
    simp [ha]
  | false =>
    rw [if_neg (by simp), if_neg (by simp)]
    unfold taken
    refine List.filter_congr fun j hj => ?_
    have hlt := fld_lt l _ j hj
    cases et : takes l d j with
    | true =>
      have : ((List.filter (fun j => !takes l d j) (fld l l.decisions.length)) ++ [l.decisions.length]).contains j = false := by
        cases q : ((List.filter (fun j => !takes l d j) (fld l l.decisions.length)) ++ [l.decisions.length]).contains j with
        | false => rfl
        | true =>
          have m : j ∈ (List.filter (fun j => !takes l d j) (fld l l.decisions.length)) ++ [l.decisions.length] := by simpa using q
          rcases List.mem_append.mp m with z | z
          · have := (List.mem_filter.mp z).2
            rw [et] at this
            cases this
          · have : j = l.decisions.length := by simpa using z
            omega
      rw [this]; rfl
    | false =>
      have : ((List.filter (fun j => !takes l d j) (fld l l.decisions.length)) ++ [l.decisions.length]).contains j = true := by
        simp [hj, et]
      rw [this]; rfl
/-! ### life -/
theorem life_on {l : Land} {bs : List Bool} {ts : List (Option Nat)} (h : Hist l bs ts) {i : Nat} (hi : i < l.decisions.length) : ((List.range (i + 1)).foldl (next l) []).contains i = !bs.getD i true := by
  have e : (List.range (i + 1)).foldl (next l) [] = fld l (i + 1) := rfl
  rw [e, h.eq (i + 1) (by omega), List.range_succ, List.filter_append]
  have a : ((List.range i).filter (onAt bs ts (i + 1))).contains i = false := contains_false fun x hx => List.mem_range.mp (List.mem_filter.mp hx).1
  have b : onAt bs ts (i + 1) i = !bs.getD i true := by
    unfold onAt
    cases e2 : ts.getD i none with
    | none => simp
    | some j =>
      have hj := h.lt i j (getD_some e2)
      show (!bs.getD i true && decide (i + 1 ≤ j)) = _
      rw [decide_eq_true (by omega), Bool.and_true]
  rw [List.contains_eq_any_beq, List.any_append, ← List.contains_eq_any_beq, a, Bool.false_or, List.filter_cons, b]
  cases bs.getD i true <;> simp
theorem contains_at {l : Land} {bs : List Bool} {ts : List (Option Nat)} (h : Hist l bs ts) {i k : Nat} (hk : k ≤ l.decisions.length) : (fld l k).contains i = (decide (i < k) && onAt bs ts k i) := by
  rw [h.eq k hk]
  rw [Bool.eq_iff_iff]
  simp [List.mem_filter, List.mem_range]
theorem find_range {p : Nat → Bool} {n t : Nat} (ht : t < n) (h1 : ∀ j, j < t → p j = false) (h2 : p t = true) : (List.range n).find? p = some t := by
  rw [List.find?_range_eq_some]
  exact ⟨h2, List.mem_range.mpr ht, fun j hj => by simp [h1 j hj]⟩
theorem endOf_eq {l : Land} {bs : List Bool} {ts : List (Option Nat)} (h : Hist l bs ts) {i : Nat} (hb : bs.getD i true = false) : endOf l i = ts.getD i none := by
  have key : ∀ j, j < l.decisions.length → (decide (i < j) && !(((List.range (j + 1)).foldl (next l) []).contains i)) = (decide (i < j) && (match ts.getD i none with | none => false | some t => decide (t ≤ j))) := fun j hj => by
    have e : (List.range (j + 1)).foldl (next l) [] = fld l (j + 1) := rfl
    rw [e, contains_at h (by omega)]
    cases q : decide (i < j) with
    | false => rfl
    | true =>
      have hij := of_decide_eq_true q
      rw [decide_eq_true (show i < j + 1 by omega)]
      unfold onAt
      rw [hb]
      cases ts.getD i none with
      | none => rfl
      | some t =>
        simp only [Bool.true_and, Bool.not_false]
        rw [Bool.eq_iff_iff]
        simp
        omega
  unfold endOf
  cases e2 : ts.getD i none with
  | none =>
    rw [List.find?_eq_none]
    intro j hj
    rw [key j (List.mem_range.mp hj), e2]
    simp
  | some t =>
    have ht := h.lt i t (getD_some e2)
    refine find_range ht.2 (fun j hj => ?_) ?_
    · rw [key j (by omega), e2]
      simp
      omega
    · rw [key t ht.2, e2]
      simp
      omega
end CC
namespace CC
open Si53
/-! ### the list of calls, taken apart -/
/-- one call of the list: its place, how many numbers, these, a 0 -/
theorem call_form {p : Int} {r : List Int} {c : List (List Int)} {t : List Int} (h : PyWide.call (p :: r) = some (c, t)) (h1 : c.length = 1) :
    ∃ ns : List Int, p :: r = p :: (ns.length : Int) :: (ns ++ 0 :: t) ∧ c = [p :: ns] := by
  unfold PyWide.call at h
  simp only at h
  cases e : PyFlat.row r with
  | none => rw [e] at h; cases h
  | some x =>
    obtain ⟨ns, rest⟩ := x
    rw [e] at h
    unfold PyFlat.row at e
    match r, e with
    | [], e => cases e
    | n :: r', e =>
      simp only at e
      split at e
      · rename_i hn
        have e' := Option.some.inj e
        obtain ⟨e1, e2⟩ := Prod.mk.inj e'
        match rest, e2, h with
        | [], _, h => cases h
        | k :: u, e2, h =>
          simp only at h
          split at h
          · rename_i hk
            cases q : PyFlat.rows k.toNat u with
            | none => rw [q] at h; cases h
            | some y =>
              obtain ⟨xs, v⟩ := y
              rw [q] at h
              have h' := Option.some.inj h
              obtain ⟨c1, c2⟩ := Prod.mk.inj h'
              have hx : xs = [] := by
                rw [← c1] at h1
                simpa using h1
              have hk0 : k.toNat = 0 := by
                match hkk : k.toNat, q with
                | 0, _ => rfl
                | m + 1, q =>
                  unfold PyFlat.rows at q
                  cases q1 : PyFlat.row u with
                  | none => rw [q1] at q; cases q
                  | some z =>
                    rw [q1] at q
                    simp only at q
                    cases q2 : PyFlat.rows m z.2 with
                    | none => rw [q2] at q; cases q
                    | some y2 =>
                      rw [q2] at q
                      have := (Prod.mk.inj (Option.some.inj q)).1
                      rw [hx] at this
                      cases this
              rw [hk0] at q
              have qv : v = u := by
                unfold PyFlat.rows at q
                exact ((Prod.mk.inj (Option.some.inj q)).2).symm
              refine ⟨ns, ?_, by rw [← c1, hx]⟩
              have k0 : k = 0 := by omega
              have hl : ns.length = n.toNat := by rw [← e1, List.length_take]; omega
              have hn' : n = (ns.length : Int) := by omega
              have hr : r' = ns ++ k :: u := by
                rw [← e1, ← e2, List.take_append_drop]
              rw [hr, k0, ← c2, qv, ← hn']
          · cases h
      · cases e
theorem calls_turn {f : Nat} {l : List Int} {cs : List (List (List Int))} (h : PyWide.calls f l = some cs) (hl : l ≠ []) (h1 : ∀ c ∈ cs, c.length = 1) :
    ∃ (g : Nat) (p : Int) (ns t : List Int) (cs' : List (List (List Int))), l = p :: (ns.length : Int) :: (ns ++ 0 :: t) ∧ cs = [p :: ns] :: cs' ∧ PyWide.calls g t = some cs' := by
  match f, l, hl, h with
  | 0, p :: r, _, h => cases h
  | f + 1, p :: r, _, h =>
    unfold PyWide.calls at h
    cases e : PyWide.call (p :: r) with
    | none => rw [e] at h; cases h
    | some x =>
      obtain ⟨c, t⟩ := x
      rw [e] at h
      simp only at h
      cases e2 : PyWide.calls f t with
      | none => rw [e2] at h; cases h
      | some cs' =>
        rw [e2] at h
        have h' := Option.some.inj h
        obtain ⟨ns, a, b⟩ := call_form e (h1 c (by rw [← h']; simp))
        exact ⟨f, p, ns, t, cs', a, by rw [← h', b], e2⟩
theorem calls_nil {f : Nat} {cs : List (List (List Int))} (h : PyWide.calls f [] = some cs) : cs = [] := by
  unfold PyWide.calls at h
  exact (Option.some.inj h).symm
/-- what is told of calls played from a land -/
def telling (s : Land) (cs : List (List (List Int))) : List Int := PyFlat.told (PyFlat.played Si53Neutral.step s cs)
theorem telling_nil (s : Land) : telling s [] = [] := rfl
theorem telling_cons (s : Land) (c : List (List Int)) (cs : List (List (List Int))) : telling s (c :: cs) = (((Si53Neutral.step s c).2.length : Int) :: (Si53Neutral.step s c).2) ++ telling (Si53Neutral.step s c).1 cs := by
  unfold telling PyFlat.told
  conv => lhs; unfold PyFlat.played
  rw [List.flatMap_cons]
/-- an answer that a call gets -/
theorem step_call {s : Land} {p : Int} {ns : List Int} {q : Call} (h : Si53Neutral.callOf (p :: ns) = some q) : Si53Neutral.step s [p :: ns] = ((Si53.step s q).1, (Si53.step s q).2.v :: (Si53.step s q).2.l) := by
  unfold Si53Neutral.step
  show (match Si53Neutral.callOf (p :: ns) with | none => _ | some q => _) = _
  rw [h]
/-! ### each sort of call, by its numbers -/
def nats (l : List Int) : List Nat := l.map Int.toNat
theorem ints_nats {l : List Int} (h : ∀ x ∈ l, 0 ≤ x) : Si53.ints (nats l) = l := by
  unfold Si53.ints nats
  rw [List.map_map]
  conv => rhs; rw [← List.map_id l]
  refine List.map_congr_left fun x hx => ?_
  have := h x hx
  show ((x.toNat : Nat) : Int) = x
  omega
end CC
namespace CC
open Si53
theorem nats_ints (l : List Nat) : (Si53.ints l).map Int.toNat = l := by
  unfold Si53.ints
  rw [List.map_map]
  conv => rhs; rw [← List.map_id l]
  exact List.map_congr_left fun x _ => rfl
/-- the sorts of calls by their numbers -/
inductive Kind : List Nat → Call → Prop
  | begins (r : List Nat) : r.length ≤ 20 → (∀ x ∈ r, x ≤ 1) → Kind (0 :: r) (.begins (r.map fun x => x == 1))
  | court (u : Nat) : Kind [1, u] (.court u)
  | decide_ (c t s : Nat) (F R O : List Nat) : s ≤ 1 → F.length ≤ 15 → R.length ≤ 15 → O.length ≤ 15 → Kind (2 :: c :: t :: s :: F.length :: (F ++ R.length :: (R ++ O))) (.decide_ ⟨c, t, F, s == 1, R, O⟩)
  | stands (i t : Nat) : Kind [3, i, t] (.stands i t)
  | binds (c t : Nat) : Kind [4, c, t] (.binds c t)
  | forced (c t : Nat) (F : List Nat) : F.length ≤ 15 → Kind (5 :: c :: t :: F) (.forced c t F)
  | distinguish (i : Nat) (F : List Nat) : F.length ≤ 15 → Kind (6 :: i :: F) (.distinguish i F)
  | may (c t s : Nat) (F R : List Nat) : s ≤ 1 → F.length ≤ 15 → R.length ≤ 15 → Kind (7 :: c :: t :: s :: F.length :: (F ++ R)) (.may c t (s == 1) F R)
  | free (c t s : Nat) (F : List Nat) : s ≤ 1 → F.length ≤ 15 → Kind (8 :: c :: t :: s :: F) (.free c t (s == 1) F)
  | life (i : Nat) : Kind [9, i] (.life i)
theorem some_inv {r a b : List Nat} (h : Si53Neutral.some_ r = some (a, b)) : r = a.length :: (a ++ b) ∧ a.length ≤ 15 := by
  unfold Si53Neutral.some_ at h
  match r, h with
  | [], h => cases h
  | n :: r', h =>
    simp only at h
    split at h
    · rename_i hn
      obtain ⟨e1, e2⟩ := Prod.mk.inj (Option.some.inj h)
      have hl : a.length = n := by rw [← e1, List.length_take]; omega
      refine ⟨?_, by omega⟩
      rw [hl, ← e1, ← e2, List.take_append_drop]
    · cases h
theorem kind_of {ms : List Nat} {q : Call} (h : Si53Neutral.callOf (Si53.ints ms) = some q) : Kind ms q := by
  unfold Si53Neutral.callOf at h
  rw [nats_ints] at h
  split at h
  · rename_i r
    split at h
    · rename_i hr
      cases h
      refine .begins r hr.1 fun x hx => ?_
      have := List.all_eq_true.mp hr.2 x hx
      exact of_decide_eq_true this
    · cases h
  · cases h; exact .court _
  · rename_i c t s r
    split at h
    · rename_i hs
      cases e : Si53Neutral.some_ r with
      | none => rw [e] at h; cases h
      | some x =>
        obtain ⟨F, r1⟩ := x
        rw [e] at h
        simp only [Option.bind_some] at h
        cases e2 : Si53Neutral.some_ r1 with
        | none => rw [e2] at h; cases h
        | some y =>
          obtain ⟨R, O⟩ := y
          rw [e2] at h
          simp only [Option.bind_some] at h
          split at h
          · rename_i hO
            cases h
            obtain ⟨a, a'⟩ := some_inv e
            obtain ⟨b, b'⟩ := some_inv e2
            rw [a, b]
            exact .decide_ c t s F R O hs a' b' hO
          · cases h
    · cases h
  · cases h; exact .stands _ _
  · cases h; exact .binds _ _
  · split at h
    · rename_i hr; cases h; exact .forced _ _ _ hr
    · cases h
  · split at h
    · rename_i hr; cases h; exact .distinguish _ _ hr
    · cases h
  · rename_i c t s r
    split at h
    · rename_i hs
      cases e : Si53Neutral.some_ r with
      | none => rw [e] at h; cases h
      | some x =>
        obtain ⟨F, R⟩ := x
        rw [e] at h
        simp only [Option.bind_some] at h
        split at h
        · rename_i hR
          cases h
          obtain ⟨a, a'⟩ := some_inv e
          rw [a]
          exact .may c t s F R hs a' hR
        · cases h
    · cases h
  · split at h
    · rename_i hr; cases h; exact .free _ _ _ _ hr.1 hr.2
    · cases h
  · cases h; exact .life _
  · cases h
end CC
namespace CC
open Si53
theorem ints_inj : ∀ {a b : List Nat}, Si53.ints a = Si53.ints b → a = b := fun {a b} h => by
  have := congrArg (List.map Int.toNat) h
  rwa [nats_ints, nats_ints] at this
theorem ints_split {L : List Nat} {a b : List Int} (h : Si53.ints L = a ++ b) : ∃ x y, L = x ++ y ∧ Si53.ints x = a ∧ Si53.ints y = b := by
  refine ⟨L.take a.length, L.drop a.length, (List.take_append_drop _ _).symm, ?_, ?_⟩
  · unfold Si53.ints at h ⊢
    rw [List.map_take, h, List.take_left]
  · unfold Si53.ints at h ⊢
    rw [List.map_drop, h, List.drop_left]
theorem ints_cons_inv {L : List Nat} {z : Int} {r : List Int} (h : Si53.ints L = z :: r) : ∃ n s, L = n :: s ∧ (n : Int) = z ∧ Si53.ints s = r := by
  match L, h with
  | [], h => cases h
  | n :: s, h =>
    obtain ⟨a, b⟩ := List.cons.inj (show (n : Int) :: Si53.ints s = z :: r from h)
    exact ⟨n, s, rfl, a, b⟩
theorem ints_len (l : List Nat) : (Si53.ints l).length = l.length := by unfold Si53.ints; rw [List.length_map]
theorem turn_nat {f : Nat} {L : List Nat} {cs : List (List (List Int))} (h : PyWide.calls f (Si53.ints L) = some cs) (hl : L ≠ []) (h1 : ∀ c ∈ cs, c.length = 1) :
    ∃ (g p : Nat) (ms t : List Nat) (cs' : List (List (List Int))), L = p :: ms.length :: (ms ++ 0 :: t) ∧ cs = [Si53.ints (p :: ms)] :: cs' ∧ PyWide.calls g (Si53.ints t) = some cs' := by
  have hl' : Si53.ints L ≠ [] := fun e => hl (ints_inj (b := []) e)
  obtain ⟨g, p, ns, t, cs', e, ec, e2⟩ := calls_turn h hl' h1
  obtain ⟨p', r1, e3, e4, e5⟩ := ints_cons_inv e
  obtain ⟨n', r2, e6, e7, e8⟩ := ints_cons_inv e5
  obtain ⟨x, y, e9, e10, e11⟩ := ints_split e8
  obtain ⟨z, u, e12, e13, e14⟩ := ints_cons_inv e11
  have hz : z = 0 := by omega
  have hx : n' = x.length := by
    have : x.length = ns.length := by rw [← e10, ints_len]
    omega
  refine ⟨g, p', x, u, cs', ?_, ?_, ?_⟩
  · rw [e3, e6, e9, e12, hx, hz]
  · rw [ec, ← e10, ← e4]
    rfl
  · rw [e14]
    exact e2
theorem drop_form {L : List Nat} {at_ p : Nat} {ms t : List Nat} (h : L.drop at_ = p :: ms.length :: (ms ++ 0 :: t)) :
    L[at_]? = some p ∧ L[at_ + 1]? = some ms.length ∧ (L.drop (at_ + 2)).take ms.length = ms ∧ L.drop (at_ + 2 + ms.length + 1) = t ∧ at_ + 2 + ms.length + 1 + t.length = L.length := by
  have hl := congrArg List.length h
  simp at hl
  refine ⟨?_, ?_, ?_, ?_, ?_⟩
  · have : (L.drop at_)[0]? = some p := by rw [h]; rfl
    rw [List.getElem?_drop] at this
    exact this
  · have : (L.drop at_)[1]? = some ms.length := by rw [h]; rfl
    rw [List.getElem?_drop] at this
    exact this
  · have : L.drop (at_ + 2) = ms ++ 0 :: t := by
      rw [← List.drop_drop, h]
      rfl
    rw [this, List.take_left]
  · have : L.drop (at_ + 2) = ms ++ 0 :: t := by
      rw [← List.drop_drop, h]
      rfl
    rw [show at_ + 2 + ms.length + 1 = at_ + 2 + (ms.length + 1) by omega, ← List.drop_drop, this]
    rw [show ms ++ 0 :: t = (ms ++ [0]) ++ t by simp, show ms.length + 1 = (ms ++ [0]).length by simp, List.drop_left]
  · omega
end CC
namespace CC
open Si53
theorem telling_len {n : Nat} : ∀ {s : Land} {m : Nat} {cs : List (List (List Int))}, Si53Neutral.short s m cs = true → cs.length ≤ n → (telling s cs).length ≤ m + n
  | s, m, [], _, _ => by simp [telling_nil]
  | s, m, c :: cs, h, hn => by
    unfold Si53Neutral.short at h
    simp only [Bool.and_eq_true] at h
    obtain ⟨h1, h2⟩ := h
    have h1 := of_decide_eq_true h1
    match n, hn with
    | n + 1, hn =>
      have ih := telling_len (n := n) h2 (by simpa using hn)
      rw [telling_cons, List.length_append, List.length_cons]
      omega
theorem asked_parts {l : List Int} (h : PySi53.answers_asked l = true) : ∃ cs, PyWide.calls l.length l = some cs ∧ (∀ c ∈ cs, Si53Neutral.asked1 c = true) ∧ (telling Si53.init cs).length ≤ 1000060 ∧ PySi53.answers l = telling Si53.init cs := by
  unfold PySi53.answers_asked at h
  cases e : PySi53.calls l with
  | none => rw [e] at h; cases h
  | some cs =>
    rw [e] at h
    simp only [Bool.and_eq_true] at h
    obtain ⟨h1, h2⟩ := h
    unfold Si53Neutral.asked at h2
    simp only [Bool.and_eq_true] at h2
    refine ⟨cs, e, fun c hc => List.all_eq_true.mp h2.1 c hc, ?_, ?_⟩
    · have z : (telling Si53.init cs).length ≤ 999999 + 60 := telling_len (n := 60) h2.2.2.2.2 (of_decide_eq_true h2.2.2.1)
      omega
    · unfold PySi53.answers
      rw [e]
      rfl
theorem asked1_len {c : List (List Int)} (h : Si53Neutral.asked1 c = true) : c.length = 1 := by
  unfold Si53Neutral.asked1 at h
  rw [Bool.and_eq_true] at h
  simpa using h.1
theorem asked1_call {p : Nat} {ms : List Nat} (h : Si53Neutral.asked1 [Si53.ints (p :: ms)] = true) : ∃ q, Si53Neutral.callOf (Si53.ints (p :: ms)) = some q ∧ Kind (p :: ms) q := by
  unfold Si53Neutral.asked1 at h
  simp only [Bool.and_eq_true] at h
  have h3 := h.2.2
  cases e : Si53Neutral.callOf (Si53.ints (p :: ms)) with
  | none =>
    have : (Si53Neutral.callOf (Si53.ints (p :: ms))).isSome = true := h3
    rw [e] at this
    cases this
  | some q => exact ⟨q, rfl, kind_of e⟩
theorem kind_lt {p : Nat} {ms : List Nat} {q : Call} (h : Kind (p :: ms) q) : p < 10 := by
  cases h <;> omega
end CC
namespace CC
open Si53
/-! ### no court is bound both ways -/
theorem over_refl {l : Land} (W : Up l) {c : Nat} (h : c < l.courts.length) : over l c c = true := by
  unfold over
  rw [chain_eq W h]
  simp
theorem chain_lin {l : Land} (W : Up l) : ∀ (c x y : Nat), c < l.courts.length → x ∈ chain l c → y ∈ chain l c → x ∈ chain l y ∨ y ∈ chain l x := by
  intro c
  induction c using Nat.strongRecOn with
  | _ c ih =>
    intro x y hc hx hy
    have hx0 := hx
    have hy0 := hy
    rw [chain_eq W hc] at hx hy
    rcases List.mem_cons.mp hx with ex | hx
    · subst ex
      exact .inr hy0
    · rcases List.mem_cons.mp hy with ey | hy
      · subst ey
        exact .inl hx0
      · cases e : l.courts.getD c none with
        | none => rw [e] at hx; simp [aboveOf, upOf] at hx
        | some u =>
          have hu := W.up c u (getD_some e)
          rw [e] at hx hy
          exact ih u hu x y (by omega) hx hy
theorem gainsay_sym (d e : Decision) : gainsay d e = gainsay e d := by
  unfold gainsay
  rw [Bool.and_comm (within d.reason e.facts)]
  congr 1
  cases d.side <;> cases e.side <;> rfl
theorem no_gainsay {l : Land} (W : WF l) : ∀ (k : Nat), k ≤ l.decisions.length → ∀ i j, i ∈ fld l k → j ∈ fld l k → i < j → (over l (decision l i).court (decision l j).court = true ∨ over l (decision l j).court (decision l i).court = true) → gainsay (decision l i) (decision l j) = false
  | 0, _ => by
    intro i j hi
    simp [fld] at hi
  | k + 1, hk => by
    intro i j hi hj hij hov
    have ih := no_gainsay W k (by omega)
    rw [fld_succ] at hi hj
    unfold next at hi hj
    simp only at hi hj
    by_cases hb : barred l (fld l k) (decision l k) = true
    · rw [if_pos hb] at hi hj
      exact ih i j hi hj hij hov
    · rw [if_neg hb] at hi hj
      rcases List.mem_append.mp hj with hj | hj
      · rcases List.mem_append.mp hi with hi | hi
        · exact ih i j (List.mem_filter.mp hi).1 (List.mem_filter.mp hj).1 hij hov
        · have e1 : i = k := by simpa using hi
          have := fld_lt l k j (List.mem_filter.mp hj).1
          omega
      · have ej : j = k := by simpa using hj
        subst ej
        rcases List.mem_append.mp hi with hi | hi
        · obtain ⟨hif, ht⟩ := List.mem_filter.mp hi
          have ht : takes l (decision l j) i = false := by simpa using ht
          have hil := fld_lt l j i hif
          cases q : gainsay (decision l i) (decision l j) with
          | false => rfl
          | true =>
            exfalso
            have down : over l (decision l j).court (decision l i).court = true → False := fun o => by
              unfold takes at ht
              simp only [o, gainsay_sym (decision l j), q] at ht
              simp at ht
            rcases hov with o | o
            · by_cases ec : (decision l i).court = (decision l j).court
              · apply down
                rw [← ec]
                exact over_refl W.up (W.dc i (by omega))
              · apply hb
                unfold barred
                rw [List.any_eq_true]
                refine ⟨i, hif, ?_⟩
                simp only [o, q]
                simpa using ec
            · exact down o
        · have : i = j := by simpa using hi
          omega
theorem within_app {s t : List Nat} : within s t = true ↔ ∀ x ∈ s, x ∈ t := by
  unfold within
  rw [List.all_eq_true]
  exact ⟨fun h x hx => by simpa using h x hx, fun h x hx => by simpa using h x hx⟩
theorem forces_gainsay {l : Land} {d e : Decision} {f : List Nat} (hd : reasonOk l d.side d.facts d.reason = true) (he : reasonOk l e.side e.facts e.reason = true) (hs : d.side ≠ e.side) (fd : forces l d f = true) (fe : forces l e f = true) : gainsay d e = true := by
  unfold forces at fd fe
  rw [Bool.and_eq_true] at fd fe
  obtain ⟨a1, a2⟩ := fd
  obtain ⟨b1, b2⟩ := fe
  rw [within_app] at a1 a2 b1 b2
  unfold reasonOk at hd he
  simp only [Bool.and_eq_true] at hd he
  have hd3 := List.all_eq_true.mp hd.2.2
  have he3 := List.all_eq_true.mp he.2.2
  have s1 : (!e.side) = d.side := by
    cases h1 : d.side <;> cases h2 : e.side <;> simp_all
  have s2 : (!d.side) = e.side := by
    cases h1 : d.side <;> cases h2 : e.side <;> simp_all
  unfold gainsay
  rw [Bool.and_eq_true, Bool.and_eq_true]
  refine ⟨by simpa using hs, within_app.mpr fun x hx => ?_, within_app.mpr fun x hx => ?_⟩
  · refine b2 x ?_
    unfold for_
    rw [List.mem_filter, s1]
    exact ⟨a1 x hx, hd3 x hx⟩
  · refine a2 x ?_
    unfold for_
    rw [List.mem_filter, s2]
    exact ⟨b1 x hx, he3 x hx⟩
/-- two decisions that bind a court and force on one case are for one side -/
theorem one_side {l : Land} (W : WF l) {c D i j : Nat} {f : List Nat} (hc : c < l.courts.length) (hi : i ∈ binds l c D) (hj : j ∈ binds l c D) (fi : forces l (decision l i) f = true) (fj : forces l (decision l j) f = true) : (decision l i).side = (decision l j).side := by
  unfold binds at hi hj
  obtain ⟨hi, oi⟩ := List.mem_filter.mp hi
  obtain ⟨hj, oj⟩ := List.mem_filter.mp hj
  obtain ⟨k, hk, e, _⟩ := stands_fld W.days D
  rw [e] at hi hj
  have li := fld_lt l k i hi
  have lj := fld_lt l k j hj
  by_cases hs : (decision l i).side = (decision l j).side
  · exact hs
  exfalso
  have g := forces_gainsay (W.rk i (by omega)) (W.rk j (by omega)) hs fi fj
  have lin : over l (decision l i).court (decision l j).court = true ∨ over l (decision l j).court (decision l i).court = true := by
    unfold over at oi oj ⊢
    have := chain_lin W.up c _ _ hc (by simpa using oi) (by simpa using oj)
    simpa using this
  rcases Nat.lt_trichotomy i j with h | h | h
  · rw [no_gainsay W k hk i j hi hj h lin] at g
    cases g
  · subst h
    exact hs rfl
  · rw [gainsay_sym, no_gainsay W k hk j i hj hi h lin.symm] at g
    cases g
theorem forced_one {l : Land} (W : WF l) {c D : Nat} {f : List Nat} {s : Bool} (hc : c < l.courts.length) (h : forced l c D s f ≠ []) : forced l c D (!s) f = [] := by
  unfold forced at h ⊢
  rw [List.filter_eq_nil_iff]
  intro j hj hf
  rw [Bool.and_eq_true] at hf
  obtain ⟨i, hi⟩ := List.exists_mem_of_ne_nil _ h
  obtain ⟨hi, fi⟩ := List.mem_filter.mp hi
  rw [Bool.and_eq_true] at fi
  have := one_side W hc hi hj fi.2 hf.2
  have a : (decision l i).side = s := by simpa using fi.1
  have b : (decision l j).side = !s := by simpa using hf.1
  rw [a, b] at this
  cases s <;> cases this
end CC
namespace CC
open Si53
/-! ### forced -/
theorem forced_all {l : Land} (W : WF l) {c D i : Nat} {f : List Nat} (hc : c < l.courts.length) (hi : i ∈ (binds l c D).filter fun k => forces l (decision l k) f) : forced l c D (decision l i).side f = (binds l c D).filter fun k => forces l (decision l k) f := by
  unfold forced
  obtain ⟨hb, hf⟩ := List.mem_filter.mp hi
  refine List.filter_congr fun j hj => ?_
  cases e : forces l (decision l j) f with
  | false => simp
  | true =>
    have := one_side W hc hb hj hf e
    simp [this]
theorem forced_none {l : Land} {c D : Nat} {f : List Nat} (h : ((binds l c D).filter fun k => forces l (decision l k) f) = []) (s : Bool) : forced l c D s f = [] := by
  unfold forced
  rw [List.filter_eq_nil_iff] at h ⊢
  intro j hj hf
  rw [Bool.and_eq_true] at hf
  exact h j hj hf.2
theorem step_forced0 {l : Land} {c D : Nat} {f : List Nat} (hc : there l c = true) (hf : factsOk l f = true) (h : ((binds l c D).filter fun k => forces l (decision l k) f) = []) : step l (.forced c D f) = (l, ok 0) := by
  unfold step
  simp only
  rw [if_neg (by rw [hc]; simp), if_neg (by rw [hf]; simp), forced_none h, forced_none h]
  simp
theorem step_forced1 {l : Land} (W : WF l) {c D i : Nat} {f : List Nat} (hc : there l c = true) (hf : factsOk l f = true) (hi : i ∈ (binds l c D).filter fun k => forces l (decision l k) f) :
    step l (.forced c D f) = (l, ⟨if (decision l i).side = true then 1 else 2, Si53.ints ((binds l c D).filter fun k => forces l (decision l k) f)⟩) := by
  have hcl : c < l.courts.length := of_decide_eq_true hc
  have e := forced_all W hcl hi
  have ne : ((binds l c D).filter fun k => forces l (decision l k) f) ≠ [] := fun z => by rw [z] at hi; cases hi
  unfold step
  simp only
  rw [if_neg (by rw [hc]; simp), if_neg (by rw [hf]; simp)]
  cases hs : (decision l i).side with
  | true =>
    rw [hs] at e
    rw [e, if_pos ne]
    rfl
  | false =>
    rw [hs] at e
    have e2 : forced l c D true f = [] := forced_one (s := false) W hcl (by rw [e]; exact ne)
    rw [e, e2, if_neg (by simp), if_pos ne]
    rfl
/-! ### distinguish -/
theorem unlike_eq (l : Land) (d : Decision) (f : List Nat) : unlike l d f = f.filter fun x => (!(l.speaks.getD x true == d.side)) && !d.facts.contains x := by
  unfold unlike for_
  rw [List.filter_filter]
  refine List.filter_congr fun x _ => ?_
  rw [Bool.and_comm]
  congr 1
  cases l.speaks.getD x true <;> cases d.side <;> rfl
theorem forces_eq (l : Land) (d : Decision) (f : List Nat) : forces l d f = ((missing d f).isEmpty && (unlike l d f).isEmpty) := by
  unfold forces missing unlike within
  congr 1
  · rw [Bool.eq_iff_iff, List.isEmpty_iff, List.filter_eq_nil_iff]
    simp
  · rw [Bool.eq_iff_iff, List.isEmpty_iff, List.filter_eq_nil_iff]
    simp
theorem decision_get {l : Land} {i : Nat} (h : i < l.decisions.length) : l.decisions[i]? = some (decision l i) := by
  unfold decision
  rw [List.getD_eq_getElem?_getD, List.getElem?_eq_getElem h]
  rfl
/-! ### free: findings more -/
/-- one may be put behind a rising list -/
def nextOk (s : List Nat) (k : Nat) : Bool := match s.getLast? with
  | none => true
  | some y => decide (y < k)
def ext (ks : List Nat) (s : List Nat) : List (List Nat) := (ks.filter (nextOk s)).map fun k => s ++ [k]
def longer (ls : List (List Nat)) (ks : List Nat) : List (List Nat) := ls.flatMap (ext ks)
def Rises : List Nat → Prop
  | [] => True
  | x :: l => (∀ y ∈ l, x < y) ∧ Rises l
theorem choose_mem : ∀ (k : Nat) (m s : List Nat), s ∈ choose k m → s.length = k ∧ ∀ x ∈ s, x ∈ m
  | 0, m, s, h => by
    have : s = [] := by simpa [choose] using h
    subst this
    exact ⟨rfl, fun x hx => by cases hx⟩
  | k + 1, [], s, h => by simp [choose] at h
  | k + 1, x :: l, s, h => by
    unfold choose at h
    rcases List.mem_append.mp h with z | z
    · obtain ⟨r, hr, rfl⟩ := List.mem_map.mp z
      obtain ⟨a, b⟩ := choose_mem k l r hr
      refine ⟨by simp [a], fun y hy => ?_⟩
      rcases List.mem_cons.mp hy with e | e
      · simp [e]
      · exact List.mem_cons_of_mem _ (b y e)
    · obtain ⟨a, b⟩ := choose_mem (k + 1) l s z
      exact ⟨a, fun y hy => List.mem_cons_of_mem _ (b y hy)⟩
theorem nextOk_last {s : List Nat} {k : Nat} (h : s ≠ []) : nextOk s k = decide (s.getLast h < k) := by
  unfold nextOk
  rw [List.getLast?_eq_some_getLast h]
theorem ext_skip {x : Nat} {l s : List Nat} (hx : ∀ y ∈ l, x < y) (hs : s ≠ []) (hm : ∀ y ∈ s, y ∈ l) : ext (x :: l) s = ext l s := by
  unfold ext
  rw [List.filter_cons, nextOk_last hs, if_neg]
  have := hx _ (hm _ (List.getLast_mem hs))
  simp
  omega
theorem ext_cons {x : Nat} {l s : List Nat} (hx : ∀ y ∈ l, x < y) (hm : ∀ y ∈ s, y ∈ l) : ext (x :: l) (x :: s) = (ext l s).map fun r => x :: r := by
  cases s with
  | nil =>
    unfold ext
    rw [List.filter_cons, if_neg (by simp [nextOk]), List.map_map]
    have e1 : l.filter (nextOk [x]) = l := by
      rw [List.filter_eq_self]
      intro y hy
      simp [nextOk, hx y hy]
    have e2 : l.filter (nextOk []) = l := by
      rw [List.filter_eq_self]
      intro y hy
      rfl
    rw [e1, e2]
    rfl
  | cons a r =>
    have e : ∀ k, nextOk (x :: a :: r) k = nextOk (a :: r) k := fun k => by
      rw [nextOk_last (by simp), nextOk_last (by simp), List.getLast_cons (by simp)]
    have h1 : ext (x :: l) (x :: a :: r) = (l.filter (nextOk (a :: r))).map fun k => (x :: a :: r) ++ [k] := by
      unfold ext
      rw [List.filter_cons, e, nextOk_last (by simp), if_neg]
      · exact congrArg _ (List.filter_congr fun k _ => e k)
      · have := hx _ (hm _ (List.getLast_mem (l := a :: r) (by simp)))
        rw [decide_eq_true_iff]
        omega
    rw [h1]
    unfold ext
    rw [List.map_map]
    rfl
theorem flatMap_same {f g : List Nat → List (List Nat)} : ∀ {xs : List (List Nat)}, (∀ s ∈ xs, f s = g s) → xs.flatMap f = xs.flatMap g
  | [], _ => rfl
  | a :: r, h => by
    rw [List.flatMap_cons, List.flatMap_cons, h a (by simp), flatMap_same fun s hs => h s (by simp [hs])]
theorem choose_longer : ∀ (m : List Nat), Rises m → ∀ k, longer (choose k m) m = choose (k + 1) m
  | [], _, 0 => rfl
  | [], _, k + 1 => rfl
  | x :: l, ⟨hx, hl⟩, 0 => by
    have ih := choose_longer l hl 0
    have e0 : choose 0 l = [[]] := by cases l <;> rfl
    have e0' : choose 0 (x :: l) = [[]] := rfl
    have e1 : choose 1 (x :: l) = ((choose 0 l).map fun r => x :: r) ++ choose 1 l := rfl
    rw [e0] at ih e1
    rw [e0', e1, ← ih]
    unfold longer
    simp only [List.flatMap_cons, List.flatMap_nil, List.append_nil]
    rfl
  | x :: l, ⟨hx, hl⟩, k + 1 => by
    have e1 : choose (k + 1) (x :: l) = ((choose k l).map fun r => x :: r) ++ choose (k + 1) l := rfl
    have e2 : choose (k + 1 + 1) (x :: l) = ((choose (k + 1) l).map fun r => x :: r) ++ choose (k + 1 + 1) l := rfl
    rw [e1, e2]
    conv => lhs; unfold longer
    rw [List.flatMap_append]
    congr 1
    · rw [← choose_longer l hl k]
      unfold longer
      rw [List.flatMap_map, List.map_flatMap]
      exact flatMap_same fun s hs => ext_cons hx (choose_mem k l s hs).2
    · rw [← choose_longer l hl (k + 1)]
      unfold longer
      refine flatMap_same fun s hs => ?_
      obtain ⟨a, b⟩ := choose_mem (k + 1) l s hs
      exact ext_skip hx (fun z => by rw [z] at a; cases a) b
theorem choose_size : ∀ (k : Nat) (m : List Nat), (choose k m).length ≤ 2 ^ m.length
  | 0, m => by
    have : choose 0 m = [[]] := by cases m <;> rfl
    rw [this]
    exact Nat.one_le_two_pow
  | k + 1, [] => by simp [choose]
  | k + 1, x :: l => by
    have a := choose_size k l
    have b := choose_size (k + 1) l
    show (((choose k l).map fun r => x :: r) ++ choose (k + 1) l).length ≤ _
    rw [List.length_append, List.length_map, List.length_cons, Nat.pow_succ]
    omega
theorem choose_none : ∀ (k : Nat) (m : List Nat), m.length < k → choose k m = []
  | 0, m, h => by omega
  | k + 1, [], _ => rfl
  | k + 1, x :: l, h => by
    have h : l.length < k := by simpa using h
    show ((choose k l).map fun r => x :: r) ++ choose (k + 1) l = []
    rw [choose_none k l h, choose_none (k + 1) l (by omega)]
    rfl
theorem choose_some : ∀ (k : Nat) (m : List Nat), k ≤ m.length → choose k m ≠ []
  | 0, m, _ => by
    have : choose 0 m = [[]] := by cases m <;> rfl
    rw [this]
    simp
  | k + 1, [], h => by simp at h
  | k + 1, x :: l, h => by
    have h : k ≤ l.length := by simpa using h
    show ((choose k l).map fun r => x :: r) ++ choose (k + 1) l ≠ []
    intro z
    have := (List.append_eq_nil_iff.mp z).1
    exact choose_some k l h (List.map_eq_nil_iff.mp this)
theorem findSome_none {g : Nat → Option (List Nat)} {n : Nat} (h : ∀ j, j < n → g j = none) : (List.range n).findSome? g = none := by
  rw [List.findSome?_eq_none_iff]
  intro x hx
  exact h x (List.mem_range.mp hx)
theorem findSome_some {g : Nat → Option (List Nat)} {k : Nat} {x : List Nat} : ∀ {n : Nat}, k < n → (∀ j, j < k → g j = none) → g k = some x → (List.range n).findSome? g = some x
  | 0, h, _, _ => by omega
  | n + 1, h, h1, h2 => by
    rw [List.range_succ, List.findSome?_append]
    rcases Nat.lt_or_ge k n with z | z
    · rw [findSome_some z h1 h2]
      rfl
    · have : k = n := by omega
      subst this
      rw [findSome_none h1]
      simp [h2]
/-- the decisions that bind and are for a side -/
def sided (l : Land) (c D : Nat) (s : Bool) : List Nat := (binds l c D).filter fun k => (decision l k).side == s
def anyF (l : Land) (ns fs : List Nat) : Bool := ns.any fun k => forces l (decision l k) fs
theorem forced_empty (l : Land) (c D : Nat) (s : Bool) (fs : List Nat) : (forced l c D s fs).isEmpty = !anyF l (sided l c D s) fs := by
  unfold forced anyF sided
  rw [Bool.eq_iff_iff, List.isEmpty_iff, List.filter_eq_nil_iff]
  simp only [Bool.not_eq_true', List.any_eq_false, List.mem_filter, Bool.and_eq_true, not_and, and_imp]
theorem more_eq (l : Land) (s : Bool) (fs : List Nat) : more l (!s) fs = (List.range l.speaks.length).filter fun x => (!(l.speaks.getD x true == s)) && !fs.contains x := by
  unfold more for_
  rw [List.filter_filter]
  refine List.filter_congr fun x _ => ?_
  rw [Bool.and_comm]
  congr 1
  cases l.speaks.getD x true <;> cases s <;> rfl
theorem rises_filter {p : Nat → Bool} : ∀ {m : List Nat}, Rises m → Rises (m.filter p)
  | [], _ => trivial
  | x :: l, ⟨h1, h2⟩ => by
    rw [List.filter_cons]
    split
    · exact ⟨fun y hy => h1 y (List.mem_filter.mp hy).1, rises_filter h2⟩
    · exact rises_filter h2
theorem rises_pairwise : ∀ {m : List Nat}, m.Pairwise (· < ·) → Rises m
  | [], _ => trivial
  | x :: l, h => by
    obtain ⟨a, b⟩ := List.pairwise_cons.mp h
    exact ⟨a, rises_pairwise b⟩
theorem rises_more (l : Land) (s : Bool) (fs : List Nat) : Rises (more l s fs) := by
  unfold more for_
  exact rises_filter (rises_filter (rises_pairwise List.pairwise_lt_range))
theorem more_lt {l : Land} {s : Bool} {fs : List Nat} {x : Nat} (h : x ∈ more l s fs) : x < l.speaks.length := by
  unfold more for_ at h
  exact List.mem_range.mp (List.mem_filter.mp (List.mem_filter.mp h).1).1
theorem more_len (l : Land) (s : Bool) (fs : List Nat) : (more l s fs).length ≤ l.speaks.length := by
  unfold more for_
  have a := List.length_filter_le (fun x => !fs.contains x) ((List.range l.speaks.length).filter fun x => l.speaks.getD x true == s)
  have b := List.length_filter_le (fun x => l.speaks.getD x true == s) (List.range l.speaks.length)
  rw [List.length_range] at b
  omega
/-- what the program asks of findings more -/
def frees (l : Land) (ns fs more : List Nat) : Bool := !anyF l ns (fs ++ more)
def fewest (l : Land) (ns fs m : List Nat) : Option (List Nat) := (List.range (m.length + 1)).findSome? fun k => (choose k m).find? (frees l ns fs)
theorem free_eq (l : Land) (c D : Nat) (s : Bool) (fs : List Nat) : free l c D s fs = fewest l (sided l c D s) fs (more l (!s) fs) := by
  unfold free fewest
  simp only
  congr 1
  funext k
  congr 1
  funext f
  exact forced_empty l c D s (fs ++ f)
theorem fewest_some {l : Land} {ns fs m x : List Nat} {k : Nat} (hk : choose k m ≠ []) (h1 : ∀ j, j < k → (choose j m).find? (frees l ns fs) = none) (h2 : (choose k m).find? (frees l ns fs) = some x) : fewest l ns fs m = some x := by
  have : k ≤ m.length := by
    rcases Nat.lt_or_ge m.length k with z | z
    · exact absurd (choose_none k m z) hk
    · exact z
  exact findSome_some (show k < m.length + 1 by omega) h1 h2
theorem fewest_none {l : Land} {ns fs m : List Nat} {k : Nat} (hk : choose k m = []) (h1 : ∀ j, j < k → (choose j m).find? (frees l ns fs) = none) : fewest l ns fs m = none := by
  have : m.length < k := by
    rcases Nat.lt_or_ge m.length k with z | z
    · exact z
    · exact absurd hk (choose_some k m z)
  exact findSome_none fun j hj => h1 j (by omega)
end CC
set_option maxHeartbeats 2000000
namespace CC
open PySem PySem.Spec PyProof.Rows L2
open PySem.W (Codec)
/-! ### the text by places -/
def top (i : Nat) : Stmt := PySem.Challenge.pw_citedcases_s01_answers.main.body.getD i (.Pass ⟨0, 0, 0, 0⟩)
abbrev sLandI : Stmt := inClass (top 12) 0
abbrev sDecI : Stmt := inClass (top 13) 0
abbrev s_rises : Stmt := top 14
abbrev s_all_among : Stmt := top 15
abbrev s_is_court : Stmt := top 16
abbrev s_is_decision : Stmt := top 17
abbrev s_are_findings : Stmt := top 18
abbrev s_is_reason : Stmt := top 19
abbrev s_courts_above : Stmt := top 20
abbrev s_is_within_reach : Stmt := top 21
abbrev s_gainsay : Stmt := top 22
abbrev s_stands_on : Stmt := top 23
abbrev s_standing : Stmt := top 24
abbrev s_binding : Stmt := top 25
abbrev s_is_barred : Stmt := top 26
abbrev s_taken_away_by : Stmt := top 27
abbrev s_missing_of_reason : Stmt := top 28
abbrev s_new_against : Stmt := top 29
abbrev s_forces : Stmt := top 30
abbrev s_forcing : Stmt := top 31
abbrev s_is_any_forcing : Stmt := top 32
abbrev s_each_one_longer : Stmt := top 33
abbrev s_fewest_that_free : Stmt := top 34
abbrev s_is_well_told : Stmt := top 35
abbrev s_is_too_early : Stmt := top 36
abbrev s_may_be_overruled : Stmt := top 37
abbrev s_refusal_to_decide : Stmt := top 38
abbrev s_decision_told : Stmt := top 39
abbrev s_answer_begins : Stmt := top 40
abbrev s_answer_court : Stmt := top 41
abbrev s_answer_decide : Stmt := top 42
abbrev s_answer_stands : Stmt := top 43
abbrev s_answer_binds : Stmt := top 44
abbrev s_answer_forced : Stmt := top 45
abbrev s_answer_distinguish : Stmt := top 46
abbrev s_answer_may : Stmt := top 47
abbrev s_answer_free : Stmt := top 48
abbrev s_answer_life : Stmt := top 49
abbrev s_answers : Stmt := top 51
/-! ### data -/
def vN (l : List Nat) : List V := l.map fun (n : Nat) => V.int (n : Int)
def bitI (b : Bool) : Int := if b then 1 else 0
def vS (l : List Bool) : List V := l.map fun b => V.int (bitI b)
def vU (l : List (Option Nat)) : List V := l.map fun o => V.int (upOf o : Int)
def vT : Option Nat → V
  | none => .non
  | some j => .int (j : Int)
theorem vN_len (l : List Nat) : (vN l).length = l.length := by unfold vN; rw [List.length_map]
theorem vN_get {l : List Nat} {i n : Nat} (h : l[i]? = some n) : (vN l)[i]? = some (V.int (n : Int)) := by
  unfold vN
  rw [List.getElem?_map, h]
  rfl
theorem vN_got {l : List Nat} {i : Nat} {x : V} (h : (vN l)[i]? = some x) : ∃ n, l[i]? = some n ∧ x = V.int (n : Int) := by
  unfold vN at h
  rw [List.getElem?_map] at h
  cases e : l[i]? with
  | none => rw [e] at h; cases h
  | some n => rw [e] at h; exact ⟨n, rfl, (Option.some.inj h).symm⟩
theorem vN_flat : ∀ (l : List Nat), (vN l).all flatV = true
  | [] => rfl
  | _ :: r => vN_flat r
theorem vN_in (n : Nat) : ∀ (l : List Nat), inV (V.int (n : Int)) (vN l) = l.contains n
  | [] => rfl
  | a :: r => by
    have ih := vN_in n r
    show (((a : Int) == (n : Int)) || inV (V.int (n : Int)) (vN r)) = _
    rw [ih, List.contains_cons]
    congr 1
    rw [Bool.eq_iff_iff]
    simp
    omega
theorem vN_snoc (l : List Nat) (n : Nat) : vN l ++ [V.int (n : Int)] = vN (l ++ [n]) := by
  unfold vN
  rw [List.map_append]
  rfl
/-- a land's attributes, a decision's -/
def landF (s u d : Addr) : List (Str × V) := [("sides", .ref s), ("uppers", .ref u), ("decisions", .ref d)]
def decF (d : Si53.Decision) (f r o : Addr) (b : Bool) (t : Option Nat) : List (Str × V) :=
  [("court", .int (d.court : Int)), ("day", .int (d.day : Int)), ("side", .int (bitI d.side)), ("findings", .ref f), ("reason", .ref r), ("overruled", .ref o), ("barred", .bl b), ("taker", vT t)]
theorem lf_sides (s u d : Addr) : (landF s u d).lookup ("sides" : Str) = some (.ref s) := rfl
theorem lf_uppers (s u d : Addr) : (landF s u d).lookup ("uppers" : Str) = some (.ref u) := rfl
theorem lf_decisions (s u d : Addr) : (landF s u d).lookup ("decisions" : Str) = some (.ref d) := rfl
section
variable (d : Si53.Decision) (f r o : Addr) (b : Bool) (t : Option Nat)
theorem df_court : (decF d f r o b t).lookup ("court" : Str) = some (.int (d.court : Int)) := rfl
theorem df_day : (decF d f r o b t).lookup ("day" : Str) = some (.int (d.day : Int)) := rfl
theorem df_side : (decF d f r o b t).lookup ("side" : Str) = some (.int (bitI d.side)) := rfl
theorem df_findings : (decF d f r o b t).lookup ("findings" : Str) = some (.ref f) := rfl
theorem df_reason : (decF d f r o b t).lookup ("reason" : Str) = some (.ref r) := rfl
theorem df_overruled : (decF d f r o b t).lookup ("overruled" : Str) = some (.ref o) := rfl
theorem df_barred : (decF d f r o b t).lookup ("barred" : Str) = some (.bl b) := rfl
theorem df_taker : (decF d f r o b t).lookup ("taker" : Str) = some (vT t) := rfl
theorem df_put_barred (c : Bool) : putF "barred" (.bl c) (decF d f r o b t) = decF d f r o c t := rfl
theorem df_put_taker (n : Nat) : putF "taker" (.int (n : Int)) (decF d f r o b t) = decF d f r o b (some n) := rfl
end
/-! ### what stands in the heap -/
/-- a list of whole numbers -/
abbrev NatsAt (H : Hp) (a : Addr) (l : List Nat) : Prop := H a = some (.lst (vN l))
/-- a decision's object and its lists -/
structure DecO (CD : Addr) (H : Hp) (a : Addr) (d : Si53.Decision) (b : Bool) (t : Option Nat) (f r o : Addr) : Prop where
  ins : ∃ dx, H a = some (.ins CD dx (decF d f r o b t))
  hf : NatsAt H f d.facts
  hr : NatsAt H r d.reason
  ho : NatsAt H o d.over
  lf : d.facts.length ≤ 15
  lr : d.reason.length ≤ 15
  lo : d.over.length ≤ 15
structure DecAt (CD : Addr) (G H : Hp) (lu ld a : Addr) (d : Si53.Decision) (b : Bool) (t : Option Nat) : Prop where
  ex : ∃ f r o, DecO CD H a d b t f r o ∧ (f ≠ lu ∧ f ≠ ld ∧ r ≠ lu ∧ r ≠ ld ∧ o ≠ lu ∧ o ≠ ld) ∧ (G f = Option.none ∧ G r = Option.none ∧ G o = Option.none)
/-- a land as it lies in the heap H, apart from all that G has -/
structure LandRaw (CL CD : Addr) (G H : Hp) (a : Addr) (l : Si53.Land) (bs : List Bool) (ts : List (Option Nat)) (ls lu ld : Addr) (as : List Addr) : Prop where
  ins : ∃ dx, H a = some (.ins CL dx (landF ls lu ld))
  sd : H ls = some (.lst (vS l.speaks))
  up : H lu = some (.lst (vU l.courts))
  dl : H ld = some (.lst (as.map V.ref))
  len : as.length = l.decisions.length
  nd : as.Nodup
  at_ : ∀ (i : Nat) (c : Addr), as[i]? = some c → DecAt CD G H lu ld c (Si53.decision l i) (bs.getD i true) (ts.getD i none)
  ne : lu ≠ ls ∧ ld ≠ ls ∧ lu ≠ ld
  own : G a = Option.none ∧ G ls = Option.none ∧ G lu = Option.none ∧ G ld = Option.none ∧ ∀ c ∈ as, G c = Option.none
structure LandAt (CL CD : Addr) (G H : Hp) (a : Addr) (l : Si53.Land) (bs : List Bool) (ts : List (Option Nat)) (ls lu ld : Addr) (as : List Addr) : Prop extends LandRaw CL CD G H a l bs ts ls lu ld as where
  wf : WF l
  hi : Hist l bs ts
theorem DecO.same {CD : Addr} {H H' : Hp} {a : Addr} {d : Si53.Decision} {b : Bool} {t : Option Nat} {f r o : Addr} (h : DecO CD H a d b t f r o) (e : Same H H') : DecO CD H' a d b t f r o := by
  obtain ⟨dx, h1⟩ := h.ins
  exact ⟨⟨dx, e _ _ h1⟩, e _ _ h.hf, e _ _ h.hr, e _ _ h.ho, h.lf, h.lr, h.lo⟩
theorem DecAt.same {CD : Addr} {G H H' : Hp} {lu ld a : Addr} {d : Si53.Decision} {b : Bool} {t : Option Nat} (h : DecAt CD G H lu ld a d b t) (e : Same H H') : DecAt CD G H' lu ld a d b t := by
  obtain ⟨f, r, o, h1, h2⟩ := h.ex
  exact ⟨f, r, o, h1.same e, h2⟩
theorem LandRaw.same {CL CD : Addr} {G H H' : Hp} {a : Addr} {l : Si53.Land} {bs : List Bool} {ts : List (Option Nat)} {ls lu ld : Addr} {as : List Addr} (h : LandRaw CL CD G H a l bs ts ls lu ld as) (e : Same H H') : LandRaw CL CD G H' a l bs ts ls lu ld as := by
  obtain ⟨dx, h1⟩ := h.ins
  exact ⟨⟨dx, e _ _ h1⟩, e _ _ h.sd, e _ _ h.up, e _ _ h.dl, h.len, h.nd, fun i c hc => (h.at_ i c hc).same e, h.ne, h.own⟩
theorem LandAt.same {CL CD : Addr} {G H H' : Hp} {a : Addr} {l : Si53.Land} {bs : List Bool} {ts : List (Option Nat)} {ls lu ld : Addr} {as : List Addr} (h : LandAt CL CD G H a l bs ts ls lu ld as) (e : Same H H') : LandAt CL CD G H' a l bs ts ls lu ld as :=
  ⟨h.toLandRaw.same e, h.wf, h.hi⟩
/-! ### promises: what only reads -/
/-- hands back a bool; all that was tracked is as it was -/
def spB (P : List V → Hp → Bool → Prop) : Sp := fun vs H Q _ => ∃ b, P vs H b ∧ ∀ H' : Hp, Same H H' → Q (.bl b) H'
/-- hands back a new list of whole numbers -/
def spN (P : List V → Hp → List Nat → Prop) : Sp := fun vs H Q _ => ∃ ns, P vs H ns ∧ ∀ (H' : Hp) (p : Addr), Same H H' → H p = Option.none → NatsAt H' p ns → Q (.ref p) H'
/-! ### what the text's top has -/
structure Txt (K : PySem.W.Frag) (mg : Str → Option Value) (CL CD : Addr) : Prop where
  clL : Cls K CL
  clD : Cls K CD
  l1 : NoAttr K CL "sides"
  l2 : NoAttr K CL "uppers"
  l3 : NoAttr K CL "decisions"
  d1 : NoAttr K CD "court"
  d2 : NoAttr K CD "day"
  d3 : NoAttr K CD "side"
  d4 : NoAttr K CD "findings"
  d5 : NoAttr K CD "reason"
  d6 : NoAttr K CD "overruled"
  d7 : NoAttr K CD "barred"
  d8 : NoAttr K CD "taker"
  mgL : mg "Land" = some (.ref CL)
  mgD : mg "Decision" = some (.ref CD)
  c1 : ∃ t, mg "MOST_KINDS" = some (.int 10 t)
  c2 : ∃ t, mg "MOST_COURTS" = some (.int 8 t)
  c3 : ∃ t, mg "MOST_DECISIONS" = some (.int 30 t)
  c4 : ∃ t, mg "LAST_DAY" = some (.int 99999 t)
  c5 : ∃ t, mg "NOT_REFUSED" = some (.int 0 t)
  c6 : ∃ t, mg "WRONGLY_TOLD" = some (.int (-1) t)
  c7 : ∃ t, mg "NO_SUCH" = some (.int (-2) t)
  c8 : ∃ t, mg "TOO_EARLY" = some (.int (-4) t)
  c9 : ∃ t, mg "NO_ROOM" = some (.int (-5) t)
  c10 : ∃ t, mg "NOT_TO_OVERRULE" = some (.int (-6) t)
  c11 : ∃ t, mg "NOTHING_FREES" = some (.int (-6) t)
  len : mg "len" = none
  range : mg "range" = none
  all : mg "all" = none
  list : mg "list" = none
end CC
set_option maxHeartbeats 2000000
namespace CC
open PySem PySem.Spec PyProof.Rows L2
section
variable {P : Program} {w : World} {K : PySem.W.Frag} {mg : Str → Option Value} {base : Heap}
/-! ### rises -/
theorem rising_get : ∀ (l : List Nat), Si53.rising l = true ↔ ∀ (k a b : Nat), l[k]? = some a → l[k + 1]? = some b → a < b
  | [] => by simp [Si53.rising]
  | [a] => by simp [Si53.rising]
  | a :: b :: l => by
    have ih := rising_get (b :: l)
    unfold Si53.rising
    rw [Bool.and_eq_true, ih]
    constructor
    · rintro ⟨h1, h2⟩ k x y hx hy
      cases k with
      | zero =>
        simp at hx hy
        have := of_decide_eq_true h1
        omega
      | succ k => exact h2 k x y (by simpa using hx) (by simpa using hy)
    · intro h
      refine ⟨decide_eq_true (h 0 a b rfl rfl), fun k x y hx hy => h (k + 1) x y (by simpa using hx) (by simpa using hy)⟩
def spRises : Sp := spB fun vs H b => ∃ a ns, vs = [.ref a] ∧ NatsAt H a ns ∧ ns.length ≤ 1000 ∧ b = Si53.rising ns
theorem sc_rises : FnScope ["numbers", "k"] ["numbers"] (defScope s_rises) := ⟨rfl, rfl, rfl, by decide +kernel, rfl, by decide +kernel, by decide +kernel⟩
theorem ok_rises {f CL CD : Addr} {fd : FuncData} (F : Fun K "rises" "rises" s_rises f fd) (T : Txt K mg CL CD) : FnOk P w K mg base CX0 1 f fd ["numbers"] spRises := by
  refine F.ok sc_rises (fun vs H Q E h => ?_) (fun cdv A outer s H vs Q E hr h => ?_)
  · obtain ⟨b, ⟨a, ns, rfl, _⟩, _⟩ := h
    rfl
  · obtain ⟨b, ⟨a, ns, rfl, ha, hl, rfl⟩, k⟩ := h
    refine ⟨_, pss_cons (ps_for PassesOwn.never rfl (pi_range2 rfl T.range (pa_cons pe_int (pa_cons (pe_callB call_len_seq (by rfl) T.len PySem.boot_len (pa_cons (pv 0) pa_nil)) pa_nil)))
        (pg_name (i := 1) sc_rises.nd rfl (Or.inl rfl))
        (pss_one (ps_if (pt_cmpR op_le (pe_ix ix_list (pv 0) (pv 1) (fun _ _ => rfl)) (pe_ix ix_list (pv 0) (pe_op op_sub (pv 1) pe_int) (fun _ _ => rfl)) (nomark _)) (pss_one (ps_ret pe_bl)) pss_nil)))
      (pss_one (ps_ret pe_bl)), ?_⟩
    refine ⟨_, rfl, a, _, rfl, .inl (SqL.of ha), 1, _, rfl, ⟨by decide, by decide, ?_, ?_⟩, for_range (n := (((vN ns).length : Int) - 1).toNat) (fun i σ H' => ∃ v : Option V, σ = [some (.ref a), v] ∧ Same H H' ∧ ∀ (j x y : Nat), j < i → ns[j]? = some x → ns[j + 1]? = some y → x < y)
      ⟨none, rfl, Same.refl _, fun j x y h => absurd h (Nat.not_lt_zero _)⟩ ?_ ?_⟩
    · rw [vN_len]; omega
    · rw [vN_len]; omega
    · rintro i σ H' hi ⟨v, rfl, s1, inv⟩
      rw [vN_len] at hi
      obtain ⟨x, hx⟩ : ∃ x, ns[i]? = some x := ⟨_, List.getElem?_eq_getElem (by omega)⟩
      obtain ⟨y, hy⟩ : ∃ y, ns[i + 1]? = some y := ⟨_, List.getElem?_eq_getElem (by omega)⟩
      refine ⟨_, rfl, _, rfl, a, _, _, _, rfl, rfl, SqL.of (s1 _ _ ha), at_of (j := i + 1) (by omega) (vN_get hy), _, rfl, _, rfl, _, _, rfl, rfl, a, _, _, _, rfl, rfl, SqL.of (s1 _ _ ha), at_of (j := i) (by omega) (vN_get hx), _, _, rfl, rfl, _, rfl, ?_⟩
      refine ite2 (fun hc => ?_) (fun hc => ?_)
      · have hc := of_decide_eq_true hc
        have e : Si53.rising ns = false := by
          cases q : Si53.rising ns with
          | false => rfl
          | true =>
            have := (rising_get ns).mp q i x y hx hy
            omega
        rw [e] at k
        exact k H' s1
      · have hc : ¬ ((y : Int) ≤ (x : Int)) := fun z => hc (decide_eq_true z)
        refine ⟨_, rfl, s1, fun j x' y' hj hx' hy' => ?_⟩
        rcases Nat.lt_or_ge j i with z | z
        · exact inv j x' y' z hx' hy'
        · have : j = i := by omega
          subst this
          rw [hx] at hx'
          rw [hy] at hy'
          cases hx'
          cases hy'
          omega
    · rintro σ H' ⟨v, rfl, s1, inv⟩
      rw [vN_len] at inv
      have e : Si53.rising ns = true := (rising_get ns).mpr fun j x y hx hy => by
        have := (List.getElem?_eq_some_iff.mp hy).1
        exact inv j x y (by omega) hx hy
      rw [e] at k
      exact k H' s1
end
end CC
set_option maxHeartbeats 2000000
namespace CC
open PySem PySem.Spec PyProof.Rows L2
theorem boot_all' : bootBuiltins "all" = some (.builtin "all") := by decide +kernel
theorem boot_list' : bootBuiltins "list" = some (.type "list") := by decide +kernel
/-! ### parts of a comprehension, by the fragment's own name -/
section
variable {X : Cx} {K : PySem.W.Frag}
theorem pe_fldK {e : Expr} {f : Str} {pos : Pos} {ta : TE} (hK : X.K = K) (he : PE X e ta) (hb : attributeBase e f X.env (eval e X.env) = eval e X.env) : PE X (.Attribute e f pos) (tFld K ta f) := by
  subst hK
  exact pe_fld he hb
theorem ix_listK (hK : X.K = K) : IxR X (rIxL K) := by
  subst hK
  exact ix_list
theorem call_len_seqK (hK : X.K = K) : CallR X (.builtin "len") (fun xs H Q => ∃ p ys, xs = [.ref p] ∧ (SqL K H p ys ∨ SqT K H p ys) ∧ Q (.int ys.length) H) := by
  subst hK
  exact call_len_seq
theorem op_inK (hK : X.K = K) : OpR X (compareOp .In) (rIn K false) := by
  subst hK
  exact op_in_seq
theorem op_notInK (hK : X.K = K) : OpR X (compareOp .NotIn) (rIn K true) := by
  subst hK
  exact op_notIn_seq
end
/-! ### heaps -/
theorem same_new {H H' : Hp} {D : Addr} {o : HO} (hD : H D = Option.none) (s : Same H H') : Same H (upd H' D o) := fun b u e => by
  rw [upd_ne (ne_of_none e hD)]
  exact s b u e
/-! ### comprehensions whose parts only read -/
theorem lt_line {n : Nat} (h : n ≤ 1000) : n < sizeLine := Nat.lt_of_le_of_lt h (by decide)
theorem hi_of {σ : L2.St} {vs : List Nat} {i0 n : Nat} (e : σ.length = n) (h : i0 < n) : i0 < (wipe σ vs).length := by
  rw [wipe_length, e]
  exact h
/-- [f(x) for x in ss], a bool each -/
theorem lc_bools {K : PySem.W.Frag} {a D : Addr} {ss : List Nat} {i0 : Nat} {te : TE} {vs : List Nat} {σ : L2.St} {H : Hp} {Qd : Hp → Prop} (f : Nat → Bool) (hD : H D = Option.none) (ha : SqL K H a (vN ss)) (hl : ss.length ≤ 1000)
    (hw : ∀ x, wipe ((wipe σ vs).set i0 (some x)) vs = wipe σ vs)
    (ht : ∀ (i n : Nat) (H' : Hp) (Q' : VK), ss[i]? = some n → Same H H' → (∀ H'' : Hp, Same H' H'' → Q' (.bl (f n)) H'') → te ((wipe σ vs).set i0 (some (.int (n : Int)))) H' Q')
    (hd : ∀ H' : Hp, Same H H' → H' D = some (.lst ((ss.map f).map V.bl)) → Qd H') :
    ∃ W : Nat → Nat → Hp → Prop, (∃ m, W 0 m (upd H D (.lst []))) ∧ ∀ i m H, W i m H →
      ((Itl K a).stop i H ∧ Qd H) ∨ ((Itl K a).go i H ∧ ∃ Nx : Hp → Prop, (∀ H', Nx H' → ∃ m', m' < m ∧ W (i + 1) m' H') ∧ ∀ x H', (Itl K a).yld i H x H' → gName i0 x (wipe σ vs) H' fun σ2 H2 => wipe σ2 vs = wipe σ vs ∧ tYes σ2 H2 fun b H3 =>
        if b = true then te σ2 H3 fun y H4 => ∃ acc, H4 D = some (.lst acc) ∧ acc.length < sizeLine ∧ Nx (upd H4 D (.lst (acc ++ [y]))) else Nx H3) := by
  refine lc_list (K := K) (a := a) (xs := vN ss) (fun i H' => Same H H' ∧ H' D = some (.lst (((ss.take i).map f).map V.bl))) ⟨same_new hD (Same.refl _), upd_same⟩ (fun i H' _ h => h.1.seq ha) ?_ ?_
  · rintro i x H' hi ⟨s1, hDi⟩
    obtain ⟨n, hn, rfl⟩ := vN_got hi
    refine ⟨hw _, ?_⟩
    unfold tYes
    simp only [if_true]
    refine ht i n H' _ hn s1 fun H'' s2 => ⟨_, s2 _ _ hDi, lt_line ?_, same_new hD (s1.trans s2), ?_⟩
    · rw [List.length_map, List.length_map, List.length_take]
      omega
    · rw [upd_same, List.take_add_one, hn]
      simp
  · rintro H' ⟨s1, hDi⟩
    rw [vN_len, List.take_length] at hDi
    exact hd H' s1 hDi
/-- [x for x in ss if p(x)] -/
theorem lc_keep {K : PySem.W.Frag} {a D : Addr} {ss : List Nat} {i0 : Nat} {tt : TT} {vs : List Nat} {σ : L2.St} {H : Hp} {Qd : Hp → Prop} (p : Nat → Bool) (hD : H D = Option.none) (ha : SqL K H a (vN ss)) (hl : ss.length ≤ 1000)
    (hw : ∀ x, wipe ((wipe σ vs).set i0 (some x)) vs = wipe σ vs) (hi0 : i0 < (wipe σ vs).length)
    (ht : ∀ (i n : Nat) (H' : Hp) (Q' : Bool → Hp → Prop), ss[i]? = some n → Same H H' → (∀ H'' : Hp, Same H' H'' → Q' (p n) H'') → tt ((wipe σ vs).set i0 (some (.int (n : Int)))) H' Q')
    (hd : ∀ H' : Hp, Same H H' → NatsAt H' D (ss.filter p) → Qd H') :
    ∃ W : Nat → Nat → Hp → Prop, (∃ m, W 0 m (upd H D (.lst []))) ∧ ∀ i m H, W i m H →
      ((Itl K a).stop i H ∧ Qd H) ∨ ((Itl K a).go i H ∧ ∃ Nx : Hp → Prop, (∀ H', Nx H' → ∃ m', m' < m ∧ W (i + 1) m' H') ∧ ∀ x H', (Itl K a).yld i H x H' → gName i0 x (wipe σ vs) H' fun σ2 H2 => wipe σ2 vs = wipe σ vs ∧ tt σ2 H2 fun b H3 =>
        if b = true then tVar i0 σ2 H3 fun y H4 => ∃ acc, H4 D = some (.lst acc) ∧ acc.length < sizeLine ∧ Nx (upd H4 D (.lst (acc ++ [y]))) else Nx H3) := by
  refine lc_list (K := K) (a := a) (xs := vN ss) (fun i H' => Same H H' ∧ NatsAt H' D ((ss.take i).filter p)) ⟨same_new hD (Same.refl _), upd_same⟩ (fun i H' _ h => h.1.seq ha) ?_ ?_
  · rintro i x H' hi ⟨s1, hDi⟩
    obtain ⟨n, hn, rfl⟩ := vN_got hi
    refine ⟨hw _, ?_⟩
    refine ht i n H' _ hn s1 fun H'' s2 => ?_
    have e : (ss.take (i + 1)).filter p = (ss.take i).filter p ++ (if p n = true then [n] else []) := by
      rw [List.take_add_one, hn, List.filter_append]
      congr 1
      cases q : p n <;> simp [q]
    refine ite2 (fun hp => ?_) (fun hp => ?_)
    · refine ⟨V.int (n : Int), ?_, _, s2 _ _ hDi, lt_line ?_, same_new hD (s1.trans s2), ?_⟩
      · rw [List.getElem?_set_self hi0]
      · rw [vN_len]
        have := List.length_filter_le p (ss.take i)
        rw [List.length_take] at this
        omega
      · show upd _ D _ D = _
        rw [upd_same, vN_snoc, e, if_pos hp]
    · refine ⟨s1.trans s2, ?_⟩
      rw [e, if_neg hp, List.append_nil]
      exact s2 _ _ hDi
  · rintro H' ⟨s1, hDi⟩
    rw [vN_len, List.take_length] at hDi
    exact hd H' s1 hDi
/-- [k for k in range(n) if p(k)] -/
theorem lc_rkeep {D : Addr} {n i0 : Nat} {tt : TT} {vs : List Nat} {σ : L2.St} {H : Hp} {Qd : Hp → Prop} (p : Nat → Bool) (hD : H D = Option.none) (hl : n ≤ 1000)
    (hw : ∀ x, wipe ((wipe σ vs).set i0 (some x)) vs = wipe σ vs) (hi0 : i0 < (wipe σ vs).length)
    (ht : ∀ (i : Nat) (H' : Hp) (Q' : Bool → Hp → Prop), i < n → Same H H' → (∀ H'' : Hp, Same H' H'' → Q' (p i) H'') → tt ((wipe σ vs).set i0 (some (.int (i : Int)))) H' Q')
    (hd : ∀ H' : Hp, Same H H' → NatsAt H' D ((List.range n).filter p) → Qd H') :
    ∃ W : Nat → Nat → Hp → Prop, (∃ m, W 0 m (upd H D (.lst []))) ∧ ∀ i m H, W i m H →
      ((Itr 0 n).stop i H ∧ Qd H) ∨ ((Itr 0 n).go i H ∧ ∃ Nx : Hp → Prop, (∀ H', Nx H' → ∃ m', m' < m ∧ W (i + 1) m' H') ∧ ∀ x H', (Itr 0 n).yld i H x H' → gName i0 x (wipe σ vs) H' fun σ2 H2 => wipe σ2 vs = wipe σ vs ∧ tt σ2 H2 fun b H3 =>
        if b = true then tVar i0 σ2 H3 fun y H4 => ∃ acc, H4 D = some (.lst acc) ∧ acc.length < sizeLine ∧ Nx (upd H4 D (.lst (acc ++ [y]))) else Nx H3) := by
  refine lc_range (lo := 0) (n := n) (fun i H' => Same H H' ∧ NatsAt H' D ((List.range i).filter p)) ⟨same_new hD (Same.refl _), upd_same⟩ ?_ ?_
  · rintro i H' hi ⟨s1, hDi⟩
    have ei : (0 : Int) + (i : Int) = (i : Int) := Int.zero_add _
    rw [ei]
    refine ⟨hw _, ?_⟩
    refine ht i H' _ hi s1 fun H'' s2 => ?_
    have e : (List.range (i + 1)).filter p = (List.range i).filter p ++ (if p i = true then [i] else []) := by
      rw [List.range_succ, List.filter_append]
      congr 1
      cases q : p i <;> simp [q]
    refine ite2 (fun hp => ?_) (fun hp => ?_)
    · refine ⟨V.int (i : Int), ?_, _, s2 _ _ hDi, lt_line ?_, same_new hD (s1.trans s2), ?_⟩
      · rw [List.getElem?_set_self hi0]
      · rw [vN_len]
        have := List.length_filter_le p (List.range i)
        rw [List.length_range] at this
        omega
      · show upd _ D _ D = _
        rw [upd_same, vN_snoc, e, if_pos hp]
    · refine ⟨s1.trans s2, ?_⟩
      rw [e, if_neg hp, List.append_nil]
      exact s2 _ _ hDi
  · rintro H' ⟨s1, hDi⟩
    exact hd H' s1 hDi
section
variable {P : Program} {w : World} {K : PySem.W.Frag} {mg : Str → Option Value} {base : Heap}
/-! ### all_among -/
def spAmong : Sp := spB fun vs H b => ∃ (a c : Addr) (ss os : List Nat), vs = [.ref a, .ref c] ∧ NatsAt H a ss ∧ NatsAt H c os ∧ ss.length ≤ 1000 ∧ b = Si53.within ss os
theorem sc_among : FnScope ["some", "others", "one"] ["some", "others"] (defScope s_all_among) := ⟨rfl, rfl, rfl, by decide +kernel, rfl, by decide +kernel, by decide +kernel⟩
theorem all_map_id (f : Nat → Bool) (l : List Nat) : (l.map f).all id = l.all f := by
  rw [List.all_map]
  rfl
theorem ok_among {f CL CD : Addr} {fd : FuncData} (F : Fun K "all_among" "all_among" s_all_among f fd) (T : Txt K mg CL CD) : FnOk P w K mg base CX0 1 f fd ["some", "others"] spAmong := by
  refine F.ok sc_among (fun vs H Q E h => ?_) (fun cdv A outer s H vs Q E hr h => ?_)
  · obtain ⟨b, ⟨a, c, ss, os, rfl, _⟩, _⟩ := h
    rfl
  · obtain ⟨b, ⟨a, c, ss, os, rfl, ha, hc, hl, rfl⟩, k⟩ := h
    refine ⟨_, pss_one (ps_ret (pe_callB (cr_all rfl) (by rfl) T.all boot_all' (pa_cons (pe_lc (own := [("one", 2)]) rfl sc_among.nd (pi_list (pv 0)) (blkOk_by (N := ["some", "others", "one"]) (sc := defScope s_all_among) (by decide +kernel))
      (fun _ _ _ _ _ => pg_name (i := 2) sc_among.nd rfl (Or.inl rfl)) (fun _ _ _ _ _ => pts_nil) (fun _ _ _ _ _ => pe_cmpR (op_inK (K := K) rfl) (pv 2) (pv 1) rfl)) pa_nil))), ?_⟩
    refine ⟨_, rfl, a, rfl, ⟨_, SqL.of ha⟩, fun D hD => lc_bools (K := K) (fun n => os.contains n) hD (SqL.of ha) hl (fun _ => rfl) (fun i n H' Q' hn s1 q => ?_) (fun H' s1 hDl => ?_)⟩
    · refine ⟨_, rfl, _, rfl, c, _, rfl, .inl (SqL.of (s1 _ _ hc)), rfl, vN_flat _, ?_⟩
      show Q' (.bl (inV (V.int (n : Int)) (vN os))) H'
      rw [vN_in]
      exact q H' (Same.refl _)
    · refine ⟨D, _, rfl, SqL.of hDl, ?_⟩
      rw [all_map_id]
      exact k H' s1
/-! ### is_court -/
/-- the land at a is l -/
def LandIs (CL CD : Addr) (H : Hp) (a : Addr) (l : Si53.Land) : Prop := ∃ G bs ts ls lu ld as, LandAt CL CD G H a l bs ts ls lu ld as
theorem LandIs.same {CL CD : Addr} {H H' : Hp} {a : Addr} {l : Si53.Land} (h : LandIs CL CD H a l) (e : Same H H') : LandIs CL CD H' a l := by
  obtain ⟨GG, bs, ts, ls, lu, ld, as, L⟩ := h
  exact ⟨GG, bs, ts, ls, lu, ld, as, L.same e⟩
def spIsCourt (CL CD : Addr) : Sp := spB fun vs H b => ∃ (a : Addr) (l : Si53.Land) (c : Nat), vs = [.ref a, .int (c : Int)] ∧ LandIs CL CD H a l ∧ b = Si53.there l c
theorem sc_is_court : FnScope ["land", "court"] ["land", "court"] (defScope s_is_court) := ⟨rfl, rfl, rfl, by decide +kernel, rfl, by decide +kernel, by decide +kernel⟩
theorem ok_is_court {f CL CD : Addr} {fd : FuncData} (F : Fun K "is_court" "is_court" s_is_court f fd) (T : Txt K mg CL CD) : FnOk P w K mg base CX0 1 f fd ["land", "court"] (spIsCourt CL CD) := by
  refine F.ok sc_is_court (fun vs H Q E h => ?_) (fun cdv A outer s H vs Q E hr h => ?_)
  · obtain ⟨b, ⟨a, l, c, rfl, _⟩, _⟩ := h
    rfl
  · obtain ⟨b, ⟨a, l, c, rfl, ⟨GG, bs, ts, ls, lu, ld, as, L⟩, rfl⟩, k⟩ := h
    obtain ⟨dx, hI⟩ := L.ins
    refine ⟨_, pss_one (ps_ret (pe_cmpR op_lt (pv 1) (pe_callB call_len_seq (by rfl) T.len PySem.boot_len (pa_cons (pe_fld (pv 0) rfl) pa_nil)) (nomark _))), ?_⟩
    refine ⟨_, rfl, _, rfl, a, CL, dx, _, _, rfl, hI, T.clL, T.l2, lf_uppers _ _ _, lu, _, rfl, .inl (SqL.of L.up), _, _, rfl, rfl, ?_⟩
    have e : decide ((c : Int) < ((vU l.courts).length : Int)) = Si53.there l c := by
      unfold Si53.there vU
      rw [List.length_map, Bool.eq_iff_iff]
      simp
    show Q (.bl (decide ((c : Int) < ((vU l.courts).length : Int)))) H
    rw [e]
    exact k H (Same.refl _)
/-! ### is_decision -/
def spIsDec (CL CD : Addr) : Sp := spB fun vs H b => ∃ (a : Addr) (l : Si53.Land) (i : Nat), vs = [.ref a, .int (i : Int)] ∧ LandIs CL CD H a l ∧ b = decide (i < l.decisions.length)
theorem sc_is_decision : FnScope ["land", "number"] ["land", "number"] (defScope s_is_decision) := ⟨rfl, rfl, rfl, by decide +kernel, rfl, by decide +kernel, by decide +kernel⟩
theorem ok_is_decision {f CL CD : Addr} {fd : FuncData} (F : Fun K "is_decision" "is_decision" s_is_decision f fd) (T : Txt K mg CL CD) : FnOk P w K mg base CX0 1 f fd ["land", "number"] (spIsDec CL CD) := by
  refine F.ok sc_is_decision (fun vs H Q E h => ?_) (fun cdv A outer s H vs Q E hr h => ?_)
  · obtain ⟨b, ⟨a, l, c, rfl, _⟩, _⟩ := h
    rfl
  · obtain ⟨b, ⟨a, l, c, rfl, ⟨GG, bs, ts, ls, lu, ld, as, L⟩, rfl⟩, k⟩ := h
    obtain ⟨dx, hI⟩ := L.ins
    refine ⟨_, pss_one (ps_ret (pe_cmpR op_lt (pv 1) (pe_callB call_len_seq (by rfl) T.len PySem.boot_len (pa_cons (pe_fld (pv 0) rfl) pa_nil)) (nomark _))), ?_⟩
    refine ⟨_, rfl, _, rfl, a, CL, dx, _, _, rfl, hI, T.clL, T.l3, lf_decisions _ _ _, ld, _, rfl, .inl (SqL.of L.dl), _, _, rfl, rfl, ?_⟩
    have e : decide ((c : Int) < ((as.map V.ref).length : Int)) = decide (c < l.decisions.length) := by
      rw [List.length_map, L.len, Bool.eq_iff_iff]
      simp
    show Q (.bl (decide ((c : Int) < ((as.map V.ref).length : Int)))) H
    rw [e]
    exact k H (Same.refl _)
end
end CC
set_option maxHeartbeats 2000000
namespace CC
open PySem PySem.Spec PyProof.Rows L2
/-! ### calls of the text's own defs -/
def Callee (P : Program) (w : World) (K : PySem.W.Frag) (mg : Str → Option Value) (base : Heap) (k : Nat) (x : Str) (ps : List Str) (sp : Sp) : Prop :=
  ∃ f fd, FnOk P w K mg base CX0 k f fd ps sp ∧ mg x = some (.ref f) ∧ PySem.W.keepIn K (.ref f) = true ∧ Binds K fd ps []
theorem pe_callC {X : Cx} {k : Nat} {x : Str} {ps : List Str} {sp : Sp} {e : Expr} {es : List Expr} {t : TA} {p pos : Pos} (c : Callee X.prog X.w X.K X.mg X.base k x ps sp) (hr : Room k X.A) (ha : PA X (e :: es) t) (hg : Gl X x := by rfl)
    (hdb : (x == ("__debug__" : Str)) = false := by decide) (he : starEach (e :: es) X.env = (false, eval e X.env) :: starEach es X.env := by rfl) (hpl : (backTo pos (starEach es X.env)).any (·.1) = false := by rfl) :
    PE X (.Call (.Name x p) (e :: es) [] pos) (tCall sp [] E0 t) := by
  obtain ⟨f, fd, G, m, kp, b⟩ := c
  exact pe_call G hr hg m kp b .nil pass0 ha hdb he hpl
section
variable {P : Program} {w : World} {K : PySem.W.Frag} {mg : Str → Option Value} {base : Heap} {CL CD : Addr}
/-! ### are_findings -/
def spFindings (CL CD : Addr) : Sp := spB fun vs H b => ∃ (a c : Addr) (l : Si53.Land) (fs : List Nat), vs = [.ref a, .ref c] ∧ LandIs CL CD H a l ∧ NatsAt H c fs ∧ fs.length ≤ 15 ∧ b = Si53.factsOk l fs
theorem sc_are_findings : FnScope ["land", "findings", "kind"] ["land", "findings"] (defScope s_are_findings) := ⟨rfl, rfl, rfl, by decide +kernel, rfl, by decide +kernel, by decide +kernel⟩
theorem ok_are_findings {f : Addr} {fd : FuncData} (F : Fun K "are_findings" "are_findings" s_are_findings f fd) (T : Txt K mg CL CD) (cR : Callee P w K mg base 1 "rises" ["numbers"] spRises) : FnOk P w K mg base CX0 2 f fd ["land", "findings"] (spFindings CL CD) := by
  refine F.ok sc_are_findings (fun vs H Q E h => ?_) (fun cdv A outer s H vs Q E hr h => ?_)
  · obtain ⟨b, ⟨a, c, l, fs, rfl, _⟩, _⟩ := h
    rfl
  · obtain ⟨b, ⟨a, c, l, fs, rfl, hL, hc, hl, rfl⟩, k⟩ := h
    refine ⟨_, pss_one (ps_ret (pe_and (pe_callC cR hr (pa_cons (pv 1) pa_nil)) (pe_one (pe_callB (cr_all rfl) (by rfl) T.all boot_all' (pa_cons (pe_lc (own := [("kind", 2)]) rfl sc_are_findings.nd (pi_list (pv 1)) (blkOk_by (N := ["land", "findings", "kind"]) (sc := defScope s_are_findings) (by decide +kernel))
      (fun _ _ _ _ _ => pg_name (i := 2) sc_are_findings.nd rfl (Or.inl rfl)) (fun _ _ _ _ _ => pts_nil) (fun _ _ _ _ _ => pe_cmpR op_lt (pv 2) (pe_callB (call_len_seqK (K := K) rfl) (by rfl) T.len PySem.boot_len (pa_cons (pe_fldK (K := K) rfl (pv 0) rfl) pa_nil)) (nomark _))) pa_nil))))), ?_⟩
    refine ⟨_, rfl, _, ⟨c, fs, rfl, hc, by omega, rfl⟩, fun H1 s1 => ⟨_, rfl, ?_⟩⟩
    refine ite2 (fun hb => ?_) (fun hb => ?_)
    · refine ⟨_, rfl, c, rfl, ⟨_, SqL.of (s1 _ _ hc)⟩, fun D hD => lc_bools (K := K) (fun n => decide (n < l.speaks.length)) hD (SqL.of (s1 _ _ hc)) (by omega) (fun _ => rfl) (fun i n H' Q' hn s2 q => ?_) (fun H' s2 hDl => ?_)⟩
      · obtain ⟨GG, bs, ts, ls, lu, ld, as, L⟩ := (hL.same (s1.trans s2))
        obtain ⟨dx, hI⟩ := L.ins
        refine ⟨_, rfl, _, rfl, a, CL, dx, _, _, rfl, hI, T.clL, T.l1, lf_sides _ _ _, ls, _, rfl, .inl (SqL.of L.sd), _, _, rfl, rfl, ?_⟩
        have e : decide ((n : Int) < ((vS l.speaks).length : Int)) = decide (n < l.speaks.length) := by
          unfold vS
          rw [List.length_map, Bool.eq_iff_iff]
          simp
        show Q' (.bl (decide ((n : Int) < ((vS l.speaks).length : Int)))) H'
        rw [e]
        exact q H' (Same.refl _)
      · refine ⟨D, _, rfl, SqL.of hDl, ?_⟩
        rw [all_map_id]
        have e : Si53.factsOk l fs = fs.all (fun n => decide (n < l.speaks.length)) := by
          unfold Si53.factsOk
          rw [hb, Bool.true_and]
        rw [e] at k
        exact k H' (s1.trans s2)
    · have e : Si53.factsOk l fs = false := by
        unfold Si53.factsOk
        cases q : Si53.rising fs with
        | true => exact absurd q hb
        | false => rfl
      rw [e] at k
      exact k H1 s1
/-! ### is_reason -/
theorem factsOk_lt {l : Si53.Land} {fs : List Nat} (h : Si53.factsOk l fs = true) : ∀ x ∈ fs, x < l.speaks.length := fun x hx => by
  unfold Si53.factsOk at h
  rw [Bool.and_eq_true] at h
  exact of_decide_eq_true (List.all_eq_true.mp h.2 x hx)
theorem within_mem {r f : List Nat} (h : Si53.within r f = true) : ∀ x ∈ r, x ∈ f := fun x hx => by
  have := List.all_eq_true.mp h x hx
  simpa using this
theorem vS_get {l : List Bool} {i : Nat} (h : i < l.length) : (vS l)[i]? = some (V.int (bitI (l.getD i true))) := by
  unfold vS
  rw [List.getElem?_map, List.getD_eq_getElem?_getD, List.getElem?_eq_getElem h]
  rfl
theorem bit_eq (a b : Bool) : decide (V.int (bitI a) = V.int (bitI b)) = (a == b) := by
  cases a <;> cases b <;> rfl
def spReason (CL CD : Addr) : Sp := spB fun vs H b => ∃ (a c d : Addr) (l : Si53.Land) (rs fs : List Nat) (sd : Bool), vs = [.ref a, .ref c, .ref d, .int (bitI sd)] ∧ LandIs CL CD H a l ∧ NatsAt H c rs ∧ NatsAt H d fs ∧ rs.length ≤ 15 ∧ fs.length ≤ 15 ∧ Si53.factsOk l fs = true ∧ b = Si53.reasonOk l sd fs rs
theorem sc_is_reason : FnScope ["land", "reason", "findings", "side", "kind"] ["land", "reason", "findings", "side"] (defScope s_is_reason) := ⟨rfl, rfl, rfl, by decide +kernel, rfl, by decide +kernel, by decide +kernel⟩
theorem ok_is_reason {f : Addr} {fd : FuncData} (F : Fun K "is_reason" "is_reason" s_is_reason f fd) (T : Txt K mg CL CD) (cR : Callee P w K mg base 1 "rises" ["numbers"] spRises) (cA : Callee P w K mg base 1 "all_among" ["some", "others"] spAmong) :
    FnOk P w K mg base CX0 2 f fd ["land", "reason", "findings", "side"] (spReason CL CD) := by
  refine F.ok sc_is_reason (fun vs H Q E h => ?_) (fun cdv A outer s H vs Q E hr h => ?_)
  · obtain ⟨b, ⟨a, c, d, l, rs, fs, sd, rfl, _⟩, _⟩ := h
    rfl
  · obtain ⟨b, ⟨a, c, d, l, rs, fs, sd, rfl, hL, hc, hd, hl1, hl2, hF, rfl⟩, k⟩ := h
    refine ⟨_, pss_cons (ps_if (pw_or (pt_not (pt_val (pe_callC cR hr (pa_cons (pv 1) pa_nil)))) (pw_or1 (pt_not (pt_val (pe_callC cA hr (pa_cons (pv 1) (pa_cons (pv 2) pa_nil))))))).pt (pss_one (ps_ret pe_bl)) pss_nil)
      (pss_one (ps_ret (pe_callB (cr_all rfl) (by rfl) T.all boot_all' (pa_cons (pe_lc (own := [("kind", 4)]) rfl sc_is_reason.nd (pi_list (pv 1)) (blkOk_by (N := ["land", "reason", "findings", "side", "kind"]) (sc := defScope s_is_reason) (by decide +kernel))
      (fun _ _ _ _ _ => pg_name (i := 4) sc_is_reason.nd rfl (Or.inl rfl)) (fun _ _ _ _ _ => pts_nil) (fun _ _ _ _ _ => pe_cmpR op_eq (pe_ix (ix_listK (K := K) rfl) (pe_fldK (K := K) rfl (pv 0) rfl) (pv 4) (fun _ _ => rfl)) (pv 3) (nomark _))) pa_nil)))), ?_⟩
    refine ⟨_, rfl, _, ⟨c, rs, rfl, hc, by omega, rfl⟩, fun H1 s1 => ⟨_, rfl, ?_⟩⟩
    refine ite2 (fun hb => ?_) (fun hb => ?_)
    · have hb : Si53.rising rs = false := by simpa using hb
      have e : Si53.reasonOk l sd fs rs = false := by
        unfold Si53.reasonOk
        rw [hb, Bool.false_and]
      rw [e] at k
      exact iteT (k H1 s1)
    · have hb : Si53.rising rs = true := by simpa using hb
      refine ⟨_, rfl, _, rfl, _, ⟨c, d, rs, fs, rfl, s1 _ _ hc, s1 _ _ hd, by omega, rfl⟩, fun H2 s2 => ⟨_, rfl, ?_⟩⟩
      have s12 := s1.trans s2
      refine ite2 (fun hw => ?_) (fun hw => ?_)
      · have hw : Si53.within rs fs = false := by simpa using hw
        have e : Si53.reasonOk l sd fs rs = false := by
          unfold Si53.reasonOk
          rw [hb, hw]
          rfl
        rw [e] at k
        exact k H2 s12
      · have hw : Si53.within rs fs = true := by simpa using hw
        refine ⟨_, rfl, c, rfl, ⟨_, SqL.of (s12 _ _ hc)⟩, fun D hD => lc_bools (K := K) (fun n => l.speaks.getD n true == sd) hD (SqL.of (s12 _ _ hc)) (by omega) (fun _ => rfl) (fun i n H' Q' hn s3 q => ?_) (fun H' s3 hDl => ?_)⟩
        · obtain ⟨GG, bs, ts, ls, lu, ld, as, L⟩ := (hL.same (s12.trans s3))
          obtain ⟨dx, hI⟩ := L.ins
          have hlt : n < l.speaks.length := factsOk_lt hF n (within_mem hw n (List.mem_of_getElem? hn))
          refine ⟨_, rfl, a, CL, dx, _, _, rfl, hI, T.clL, T.l1, lf_sides _ _ _, _, rfl, ls, _, _, _, rfl, rfl, SqL.of L.sd, atI_nat (vS_get hlt), _, rfl, rfl, ?_⟩
          show Q' (.bl (decide (V.int (bitI (l.speaks.getD n true)) = V.int (bitI sd)))) H'
          rw [bit_eq]
          exact q H' (Same.refl _)
        · refine ⟨D, _, rfl, SqL.of hDl, ?_⟩
          rw [all_map_id]
          have e : Si53.reasonOk l sd fs rs = rs.all (fun n => l.speaks.getD n true == sd) := by
            unfold Si53.reasonOk
            rw [hb, hw]
            rfl
          rw [e] at k
          exact k H' (s12.trans s3)
/-! ### courts_above -/
def aboves (l : Si53.Land) (c : Nat) : List Nat := aboveOf l (upOf (l.courts.getD c none))
theorem vU_get {l : List (Option Nat)} {i : Nat} (h : i < l.length) : (vU l)[i]? = some (V.int (upOf (l.getD i none) : Int)) := by
  unfold vU
  rw [List.getElem?_map, List.getD_eq_getElem?_getD, List.getElem?_eq_getElem h]
  rfl
theorem up_le {l : Si53.Land} (W : Up l) {c : Nat} (h : c < l.courts.length) : upOf (l.courts.getD c none) ≤ c := by
  cases e : l.courts.getD c none with
  | none => exact Nat.zero_le _
  | some u => exact W.up c u (getD_some e)
def spAbove (CL CD : Addr) : Sp := spN fun vs H ns => ∃ (a : Addr) (l : Si53.Land) (c : Nat), vs = [.ref a, .int (c : Int)] ∧ LandIs CL CD H a l ∧ c < l.courts.length ∧ ns = aboves l c
theorem sc_courts_above : FnScope ["land", "court", "found", "upper"] ["land", "court"] (defScope s_courts_above) := ⟨rfl, rfl, rfl, by decide +kernel, rfl, by decide +kernel, by decide +kernel⟩
theorem ok_courts_above {f : Addr} {fd : FuncData} (F : Fun K "courts_above" "courts_above" s_courts_above f fd) (T : Txt K mg CL CD) : FnOk P w K mg base CX0 1 f fd ["land", "court"] (spAbove CL CD) := by
  refine F.ok sc_courts_above (fun vs H Q E h => ?_) (fun cdv A outer s H vs Q E hr h => ?_)
  · obtain ⟨b, ⟨a, l, c, rfl, _⟩, _⟩ := h
    rfl
  · obtain ⟨b, ⟨a, l, c, rfl, ⟨GG, bs, ts, ls, lu, ld, as, L⟩, hc, rfl⟩, k⟩ := h
    obtain ⟨dx, hI⟩ := L.ins
    refine ⟨_, pss_cons (ps_set (i := 2) sc_courts_above.nd rfl (Or.inl rfl) (pe_lst pa_nil))
      (pss_cons (ps_set (i := 3) sc_courts_above.nd rfl (Or.inl rfl) (pe_ix ix_list (pe_fld (pv 0) rfl) (pv 1) (fun _ _ => rfl)))
      (pss_cons (ps_while PassesOwn.never (pt_cmpR op_ne (pv 3) pe_int (nomark _))
        (pss_cons (ps_expr (pe_bm PySem.F.plainAttrs_list PySem.F.slot_list_append PySem.F.type_list_append mt_append (pv 2) (pa_cons (pe_op op_sub (pv 3) pe_int) pa_nil)))
        (pss_one (ps_set (i := 3) sc_courts_above.nd rfl (Or.inl rfl) (pe_ix ix_list (pe_fld (pv 0) rfl) (pe_op op_sub (pv 3) pe_int) (fun _ _ => rfl))))))
      (pss_one (ps_ret (pv 2))))), ?_⟩
    refine ⟨Nat.zero_le _, fun p hp => ?_⟩
    have s1 : Same H (upd H p (.lst [])) := same_new hp (Same.refl _)
    refine ⟨_, rfl, a, CL, dx, _, _, rfl, s1 _ _ hI, T.clL, T.l2, lf_uppers _ _ _, _, rfl, lu, _, _, _, rfl, rfl, SqL.of (s1 _ _ L.up), atI_nat (vU_get hc), ?_⟩
    refine while_by (fun σ H' => ∃ (fnd : List Nat) (u : Nat), σ = [some (.ref a), some (.int (c : Int)), some (.ref p), some (.int (u : Int))] ∧ Same H H' ∧ NatsAt H' p fnd ∧ u ≤ l.courts.length ∧ fnd.length + u ≤ 8 ∧ fnd ++ aboveOf l u = aboves l c)
      (fun σ _ => match σ with | [_, _, _, some (.int u)] => u.toNat | _ => 0) ?_ ?_ ?_
    · have h1 := up_le L.wf.up hc
      have h2 := L.wf.nc
      exact ⟨[], _, rfl, s1, upd_same, by omega, by rw [List.length_nil]; omega, rfl⟩
    · rintro σ H' ⟨fnd, u, rfl, s2, hp', hu, hle, e⟩
      refine ⟨_, rfl, rfl, _, rfl, ?_⟩
      refine ite2 (fun h0 => ?_) (fun h0 => ?_)
      · have hne : u ≠ 0 := fun z => by
          subst z
          simp at h0
        obtain ⟨v, rfl⟩ : ∃ v, u = v + 1 := ⟨u - 1, by omega⟩
        have hv : v < l.courts.length := by omega
        have ev : ((v + 1 : Nat) : Int) - 1 = (v : Int) := by omega
        refine ⟨_, rfl, .inl ⟨rfl, _, SqL.of hp'⟩, _, rfl, _, _, rfl, rfl, p, _, _, rfl, rfl, hp', lt_line (by rw [vN_len]; omega), ?_⟩
        have s3 : Same H (upd H' p (.lst (vN fnd ++ [V.int (((v + 1 : Nat) : Int) - 1)]))) := same_new hp s2
        refine ⟨_, rfl, a, CL, dx, _, _, rfl, s3 _ _ hI, T.clL, T.l2, lf_uppers _ _ _, _, rfl, _, _, rfl, rfl, lu, _, _, _, rfl, rfl, SqL.of (s3 _ _ L.up), at_of (j := v) ev (vU_get hv), ?_⟩
        have h1 := up_le L.wf.up hv
        refine ⟨⟨fnd ++ [v], upOf (l.courts.getD v none), rfl, s3, ?_, by omega, by rw [List.length_append, List.length_singleton]; omega, ?_⟩, ?_⟩
        · show upd _ p _ p = _
          rw [upd_same]
          show some (HO.lst (vN fnd ++ [V.int (((v + 1 : Nat) : Int) - 1)])) = _
          rw [ev, vN_snoc]
        · rw [← e, List.append_assoc]
          congr 1
          show _ = Si53.chain l v
          rw [chain_eq L.wf.up hv]
          rfl
        · show ((upOf (l.courts.getD v none) : Nat) : Int).toNat < (((v + 1 : Nat) : Int)).toNat
          omega
      · have hz : u = 0 := by
          rcases Nat.eq_zero_or_pos u with z | z
          · exact z
          · exfalso
            apply h0
            simp
            omega
        subst hz
        have e' : fnd = aboves l c := by rw [← e]; exact (List.append_nil _).symm
        subst e'
        exact ⟨_, rfl, k H' p s2 hp hp'⟩
    · rintro σ H' Q1 Q2 hq ⟨v, e, e1, b1, e2, q⟩
      exact ⟨v, e, e1, b1, e2, hq _ _ q⟩
/-! ### is_within_reach -/
def spReach (CL CD : Addr) : Sp := spB fun vs H b => ∃ (a : Addr) (l : Si53.Land) (c o : Nat), vs = [.ref a, .int (c : Int), .int (o : Int)] ∧ LandIs CL CD H a l ∧ o < l.courts.length ∧ b = Si53.over l c o
theorem sc_is_within_reach : FnScope ["land", "court", "other"] ["land", "court", "other"] (defScope s_is_within_reach) := ⟨rfl, rfl, rfl, by decide +kernel, rfl, by decide +kernel, by decide +kernel⟩
theorem int_eq (a b : Nat) : decide (V.int (a : Int) = V.int (b : Int)) = (a == b) := by
  rw [dec_int, Bool.eq_iff_iff]
  simp
  omega
theorem ok_is_within_reach {f : Addr} {fd : FuncData} (F : Fun K "is_within_reach" "is_within_reach" s_is_within_reach f fd) (T : Txt K mg CL CD) (cU : Callee P w K mg base 1 "courts_above" ["land", "court"] (spAbove CL CD)) :
    FnOk P w K mg base CX0 2 f fd ["land", "court", "other"] (spReach CL CD) := by
  refine F.ok sc_is_within_reach (fun vs H Q E h => ?_) (fun cdv A outer s H vs Q E hr h => ?_)
  · obtain ⟨b, ⟨a, l, c, o, rfl, _⟩, _⟩ := h
    rfl
  · obtain ⟨b, ⟨a, l, c, o, rfl, hL, ho, rfl⟩, k⟩ := h
    refine ⟨_, pss_one (ps_ret (pe_or (pe_cmpR op_eq (pv 2) (pv 1) (nomark _)) (pe_one (pe_cmpR op_in_seq (pv 1) (pe_callC cU hr (pa_cons (pv 0) (pa_cons (pv 2) pa_nil))) rfl)))), ?_⟩
    have W : Up l := by
      obtain ⟨GG, bs, ts, ls, lu, ld, as, L⟩ := hL
      exact L.wf.up
    have eo : Si53.over l c o = (o == c || (aboves l o).contains c) := by
      unfold Si53.over
      rw [chain_eq W ho, List.contains_cons]
      congr 1
      rw [Bool.eq_iff_iff]
      simp
      exact ⟨fun z => z.symm, fun z => z.symm⟩
    refine ⟨_, rfl, _, rfl, rfl, _, rfl, ?_⟩
    rw [int_eq]
    refine ite2 (fun hb => ?_) (fun hb => ?_)
    · rw [eo, hb] at k
      exact k H (Same.refl _)
    · refine ⟨_, rfl, _, rfl, _, rfl, _, ⟨a, l, o, rfl, hL, ho, rfl⟩, fun H1 p s1 hp hl => ?_⟩
      refine ⟨p, _, rfl, .inl (SqL.of hl), rfl, vN_flat _, ?_⟩
      show Q (.bl (inV (V.int (c : Int)) (vN (aboves l o)))) H1
      rw [vN_in]
      have hb : (o == c) = false := by simpa using hb
      rw [eo, hb, Bool.false_or] at k
      exact k H1 s1
end
end CC
set_option maxHeartbeats 2000000
namespace CC
open PySem PySem.Spec PyProof.Rows L2
section
variable {P : Program} {w : World} {K : PySem.W.Frag} {mg : Str → Option Value} {base : Heap} {CL CD : Addr}
/-! ### gainsay -/
/-- a decision's object, whatever became of it -/
def DecIs (CD : Addr) (H : Hp) (a : Addr) (d : Si53.Decision) : Prop := ∃ b t f r o, DecO CD H a d b t f r o
theorem DecIs.same {H H' : Hp} {a : Addr} {d : Si53.Decision} (h : DecIs CD H a d) (e : Same H H') : DecIs CD H' a d := by
  obtain ⟨b, t, f, r, o, D⟩ := h
  exact ⟨b, t, f, r, o, D.same e⟩
theorem LandAt.dec {G H : Hp} {a : Addr} {l : Si53.Land} {bs : List Bool} {ts : List (Option Nat)} {ls lu ld : Addr} {as : List Addr} (L : LandAt CL CD G H a l bs ts ls lu ld as) {i : Nat} {c : Addr} (h : as[i]? = some c) : DecIs CD H c (Si53.decision l i) := by
  obtain ⟨f, r, o, D, _⟩ := (L.at_ i c h).ex
  exact ⟨_, _, f, r, o, D⟩
def spGain (CD : Addr) : Sp := spB fun vs H b => ∃ (a c : Addr) (d e : Si53.Decision), vs = [.ref a, .ref c] ∧ DecIs CD H a d ∧ DecIs CD H c e ∧ b = Si53.gainsay d e
theorem sc_gainsay : FnScope ["one", "other"] ["one", "other"] (defScope s_gainsay) := ⟨rfl, rfl, rfl, by decide +kernel, rfl, by decide +kernel, by decide +kernel⟩
theorem ok_gainsay {f : Addr} {fd : FuncData} (F : Fun K "gainsay" "gainsay" s_gainsay f fd) (T : Txt K mg CL CD) (cA : Callee P w K mg base 1 "all_among" ["some", "others"] spAmong) : FnOk P w K mg base CX0 2 f fd ["one", "other"] (spGain CD) := by
  refine F.ok sc_gainsay (fun vs H Q E h => ?_) (fun cdv A outer s H vs Q E hr h => ?_)
  · obtain ⟨b, ⟨a, c, d, e, rfl, _⟩, _⟩ := h
    rfl
  · obtain ⟨b, ⟨a, c, d, e, rfl, ⟨b1, t1, f1, r1, o1, D⟩, ⟨b2, t2, f2, r2, o2, G⟩, rfl⟩, k⟩ := h
    obtain ⟨dx, hD⟩ := D.ins
    obtain ⟨gx, hG⟩ := G.ins
    refine ⟨_, pss_cons (ps_if (pt_cmpR op_eq (pe_fld (pv 0) rfl) (pe_fld (pv 1) rfl) (nomark _)) (pss_one (ps_ret pe_bl)) pss_nil)
      (pss_one (ps_ret (pe_and (pe_callC cA hr (pa_cons (pe_fld (pv 0) rfl) (pa_cons (pe_fld (pv 1) rfl) pa_nil))) (pe_one (pe_callC cA hr (pa_cons (pe_fld (pv 1) rfl) (pa_cons (pe_fld (pv 0) rfl) pa_nil))))))), ?_⟩
    refine ⟨_, rfl, a, CD, dx, _, _, rfl, hD, T.clD, T.d3, df_side _ _ _ _ _ _, _, rfl, c, CD, gx, _, _, rfl, hG, T.clD, T.d3, df_side _ _ _ _ _ _, rfl, _, rfl, ?_⟩
    rw [bit_eq]
    refine ite2 (fun hs => ?_) (fun hs => ?_)
    · have z : Si53.gainsay d e = false := by
        unfold Si53.gainsay
        rw [bne, hs]
        rfl
      rw [z] at k
      exact k H (Same.refl _)
    · have hs : (d.side == e.side) = false := by simpa using hs
      have z : Si53.gainsay d e = (Si53.within d.reason e.facts && Si53.within e.reason d.facts) := by
        unfold Si53.gainsay
        rw [bne, hs]
        rfl
      have l1 := D.lr
      have l2 := G.lr
      refine ⟨_, rfl, a, CD, dx, _, _, rfl, hD, T.clD, T.d5, df_reason _ _ _ _ _ _, _, rfl, c, CD, gx, _, _, rfl, hG, T.clD, T.d4, df_findings _ _ _ _ _ _, _, ⟨r1, f2, d.reason, e.facts, rfl, D.hr, G.hf, by omega, rfl⟩, fun H1 s1 => ⟨_, rfl, ?_⟩⟩
      refine ite2 (fun hw => ?_) (fun hw => ?_)
      · refine ⟨_, rfl, c, CD, gx, _, _, rfl, s1 _ _ hG, T.clD, T.d5, df_reason _ _ _ _ _ _, _, rfl, a, CD, dx, _, _, rfl, s1 _ _ hD, T.clD, T.d4, df_findings _ _ _ _ _ _, _, ⟨r2, f1, e.reason, d.facts, rfl, s1 _ _ G.hr, s1 _ _ D.hf, by omega, rfl⟩, fun H2 s2 => ?_⟩
        rw [z, hw, Bool.true_and] at k
        exact k H2 (s1.trans s2)
      · have hw : Si53.within d.reason e.facts = false := by simpa using hw
        rw [z, hw, Bool.false_and] at k
        exact k H1 s1
/-! ### stands_on -/
def spStandsOn (CL CD : Addr) : Sp := spB fun vs H b => ∃ (a c : Addr) (D i : Nat) (l : Si53.Land) (G : Hp) (bs : List Bool) (ts : List (Option Nat)) (ls lu ld : Addr) (as : List Addr), vs = [.ref a, .ref c, .int (D : Int)] ∧ LandAt CL CD G H a l bs ts ls lu ld as ∧ as[i]? = some c ∧ b = onDay l bs ts D i
theorem sc_stands_on : FnScope ["land", "decision", "day"] ["land", "decision", "day"] (defScope s_stands_on) := ⟨rfl, rfl, rfl, by decide +kernel, rfl, by decide +kernel, by decide +kernel⟩
theorem lt_nat (a b : Nat) : decide ((a : Int) < (b : Int)) = decide (a < b) := by
  rw [Bool.eq_iff_iff]
  simp
theorem ok_stands_on {f : Addr} {fd : FuncData} (F : Fun K "stands_on" "stands_on" s_stands_on f fd) (T : Txt K mg CL CD) : FnOk P w K mg base CX0 1 f fd ["land", "decision", "day"] (spStandsOn CL CD) := by
  refine F.ok sc_stands_on (fun vs H Q E h => ?_) (fun cdv A outer s H vs Q E hr h => ?_)
  · obtain ⟨b, ⟨a, c, D, i, l, GG, bs, ts, ls, lu, ld, as, rfl, _⟩, _⟩ := h
    rfl
  · obtain ⟨b, ⟨a, c, D, i, l, GG, bs, ts, ls, lu, ld, as, rfl, L, hc, rfl⟩, k⟩ := h
    obtain ⟨dx, hI⟩ := L.ins
    obtain ⟨f1, r1, o1, G, _⟩ := (L.at_ i c hc).ex
    obtain ⟨gx, hG⟩ := G.ins
    refine ⟨_, pss_cons (ps_if (pw_or (pt_val (pe_fld (pv 1) rfl)) (pw_or1 (pt_cmpR op_lt (pv 2) (pe_fld (pv 1) rfl) (nomark _)))).pt (pss_one (ps_ret pe_bl)) pss_nil)
      (pss_cons (ps_if (pt_cmp (pc_isN (pe_fld (pv 1) rfl))) (pss_one (ps_ret pe_bl)) pss_nil)
      (pss_one (ps_ret (pe_cmpR op_lt (pv 2) (pe_fld (pe_ix ix_list (pe_fld (pv 0) rfl) (pe_fld (pv 1) rfl) (fun _ _ => rfl)) rfl) (nomark _))))), ?_⟩
    refine ⟨_, rfl, c, CD, gx, _, _, rfl, hG, T.clD, T.d7, df_barred _ _ _ _ _ _, _, rfl, ?_⟩
    unfold onDay at k
    refine ite2 (fun hb => ?_) (fun hb => ?_)
    · rw [hb] at k
      exact iteT (k H (Same.refl _))
    · have hb : bs.getD i true = false := by simpa using hb
      rw [hb, Bool.false_or] at k
      refine ⟨_, rfl, _, rfl, c, CD, gx, _, _, rfl, hG, T.clD, T.d2, df_day _ _ _ _ _ _, _, _, rfl, rfl, _, rfl, ?_⟩
      rw [lt_nat]
      refine ite2 (fun hd => ?_) (fun hd => ?_)
      · rw [hd] at k
        exact k H (Same.refl _)
      · have hd : decide (D < (Si53.decision l i).day) = false := by simpa using hd
        rw [hd] at k
        refine ⟨_, rfl, c, CD, gx, _, _, rfl, hG, T.clD, T.d8, df_taker _ _ _ _ _ _, _, rfl, ?_⟩
        cases et : ts.getD i none with
        | none =>
          rw [et] at k
          exact iteT (k H (Same.refl _))
        | some j =>
          rw [et] at k
          have hj := (L.hi.lt i j (getD_some et)).2
          rw [← L.len] at hj
          obtain ⟨cj, hcj⟩ : ∃ cj, as[j]? = some cj := ⟨_, List.getElem?_eq_getElem hj⟩
          obtain ⟨f2, r2, o2, J, _⟩ := (L.at_ j cj hcj).ex
          obtain ⟨jx, hJ⟩ := J.ins
          rw [et] at hG
          refine iteF ⟨_, rfl, _, rfl, a, CL, dx, _, _, rfl, hI, T.clL, T.l3, lf_decisions _ _ _, _, rfl, c, CD, gx, _, _, rfl, hG, T.clD, T.d8, df_taker _ _ _ _ _ _, ld, _, _, _, rfl, rfl, SqL.of L.dl, atI_nat (by rw [List.getElem?_map, hcj]; rfl), cj, CD, jx, _, _, rfl, hJ, T.clD, T.d2, df_day _ _ _ _ _ _, _, _, rfl, rfl, ?_⟩
          show Q (.bl (decide ((D : Int) < ((Si53.decision l j).day : Int)))) H
          rw [lt_nat]
          exact k H (Same.refl _)
/-! ### standing -/
def spStanding (CL CD : Addr) : Sp := spN fun vs H ns => ∃ (a : Addr) (D : Nat) (l : Si53.Land), vs = [.ref a, .int (D : Int)] ∧ LandIs CL CD H a l ∧ ns = Si53.stands l D
theorem sc_standing : FnScope ["land", "day", "k"] ["land", "day"] (defScope s_standing) := ⟨rfl, rfl, rfl, by decide +kernel, rfl, by decide +kernel, by decide +kernel⟩
theorem ok_standing {f : Addr} {fd : FuncData} (F : Fun K "standing" "standing" s_standing f fd) (T : Txt K mg CL CD) (cS : Callee P w K mg base 1 "stands_on" ["land", "decision", "day"] (spStandsOn CL CD)) : FnOk P w K mg base CX0 2 f fd ["land", "day"] (spStanding CL CD) := by
  refine F.ok sc_standing (fun vs H Q E h => ?_) (fun cdv A outer s H vs Q E hr h => ?_)
  · obtain ⟨b, ⟨a, D, l, rfl, _⟩, _⟩ := h
    rfl
  · obtain ⟨b, ⟨a, D, l, rfl, ⟨GG, bs, ts, ls, lu, ld, as, L⟩, rfl⟩, k⟩ := h
    obtain ⟨dx, hI⟩ := L.ins
    have h30 := L.wf.nd
    have hlen : (as.map V.ref).length = l.decisions.length := by rw [List.length_map, L.len]
    refine ⟨_, pss_one (ps_ret (pe_lc (own := [("k", 2)]) rfl sc_standing.nd (pi_range1 rfl T.range (pa_cons (pe_callB call_len_seq (by rfl) T.len PySem.boot_len (pa_cons (pe_fld (pv 0) rfl) pa_nil)) pa_nil)) (blkOk_by (N := ["land", "day", "k"]) (sc := defScope s_standing) (by decide +kernel))
      (fun _ _ _ _ _ => pg_name (i := 2) sc_standing.nd rfl (Or.inl rfl))
      (fun _ _ _ _ _ => pts_one (pt_val (pe_callC cS hr (pa_cons (pv 0) (pa_cons (pe_ix (ix_listK (K := K) rfl) (pe_fldK (K := K) rfl (pv 0) rfl) (pv 2) (fun _ _ => rfl)) (pa_cons (pv 1) pa_nil))))))
      (fun _ _ _ _ _ => pv 2))), ?_⟩
    refine ⟨_, rfl, a, CL, dx, _, _, rfl, hI, T.clL, T.l3, lf_decisions _ _ _, ld, _, rfl, .inl (SqL.of L.dl), _, rfl, by omega, by omega, fun D' hD => ?_⟩
    have en : (((as.map V.ref).length : Int)).toNat = l.decisions.length := by rw [hlen]; rfl
    rw [en]
    refine lc_rkeep (onDay l bs ts D) hD (by omega) (fun _ => rfl) (hi_of (n := 3) rfl (by decide)) (fun i H' Q' hi s1 q => ?_) (fun H' s1 hDl => ?_)
    · have L1 := L.same s1
      obtain ⟨dx1, hI1⟩ := L1.ins
      obtain ⟨c, hc⟩ : ∃ c, as[i]? = some c := ⟨_, List.getElem?_eq_getElem (by rw [L.len]; exact hi)⟩
      refine ⟨_, rfl, _, rfl, a, CL, dx1, _, _, rfl, hI1, T.clL, T.l3, lf_decisions _ _ _, _, rfl, ld, _, _, _, rfl, rfl, SqL.of L1.dl, atI_nat (by rw [List.getElem?_map, hc]; rfl), _, rfl, _, ⟨a, c, D, i, l, GG, bs, ts, ls, lu, ld, as, rfl, L1, hc, rfl⟩, fun H2 s2 => ⟨_, rfl, q H2 s2⟩⟩
    · rw [← stands_eq L.wf.days L.hi D] at hDl
      exact k H' D' s1 hD hDl
/-! ### binding -/
theorem stands_lt {l : Si53.Land} (hd : Days l) {D x : Nat} (h : x ∈ Si53.stands l D) : x < l.decisions.length := by
  obtain ⟨k, hk, e, _⟩ := stands_fld hd D
  rw [e] at h
  have := fld_lt l k x h
  omega
theorem stands_len {l : Si53.Land} {bs : List Bool} {ts : List (Option Nat)} (hd : Days l) (h : Hist l bs ts) (D : Nat) : (Si53.stands l D).length ≤ l.decisions.length := by
  rw [stands_eq hd h]
  have := List.length_filter_le (onDay l bs ts D) (List.range l.decisions.length)
  rw [List.length_range] at this
  exact this
def spBinding (CL CD : Addr) : Sp := spN fun vs H ns => ∃ (a : Addr) (c D : Nat) (l : Si53.Land), vs = [.ref a, .int (c : Int), .int (D : Int)] ∧ LandIs CL CD H a l ∧ c < l.courts.length ∧ ns = Si53.binds l c D
theorem sc_binding : FnScope ["land", "court", "day", "bench", "k"] ["land", "court", "day"] (defScope s_binding) := ⟨rfl, rfl, rfl, by decide +kernel, rfl, by decide +kernel, by decide +kernel⟩
theorem chain_len {l : Si53.Land} (W : WF l) : ∀ (f c : Nat), (Si53.chainFrom l f c).length ≤ f
  | 0, c => by simp [Si53.chainFrom]
  | f + 1, c => by
    unfold Si53.chainFrom
    cases l.courts.getD c none with
    | none => simp
    | some u =>
      have := chain_len W f u
      simp only [List.length_cons]
      omega
theorem ok_binding {f : Addr} {fd : FuncData} (F : Fun K "binding" "binding" s_binding f fd) (T : Txt K mg CL CD) (cU : Callee P w K mg base 1 "courts_above" ["land", "court"] (spAbove CL CD)) (cS : Callee P w K mg base 2 "standing" ["land", "day"] (spStanding CL CD)) :
    FnOk P w K mg base CX0 3 f fd ["land", "court", "day"] (spBinding CL CD) := by
  refine F.ok sc_binding (fun vs H Q E h => ?_) (fun cdv A outer s H vs Q E hr h => ?_)
  · obtain ⟨b, ⟨a, c, D, l, rfl, _⟩, _⟩ := h
    rfl
  · obtain ⟨b, ⟨a, c, D, l, rfl, hL, hc, rfl⟩, k⟩ := h
    obtain ⟨GG, bs, ts, ls, lu, ld, as, L⟩ := id hL
    have h30 := L.wf.nd
    have h8 := L.wf.nc
    have hch := chain_len L.wf l.courts.length c
    have ec : Si53.chain l c = c :: aboves l c := chain_eq L.wf.up hc
    have hal : (aboves l c).length ≤ 8 := by
      have e : Si53.chainFrom l l.courts.length c = Si53.chain l c := rfl
      rw [e, ec, List.length_cons] at hch
      omega
    refine ⟨_, pss_cons (ps_set (i := 3) sc_binding.nd rfl (Or.inr rfl) (pe_op op_cat (pe_lst (pa_cons (pv 1) pa_nil)) (pe_callC cU (hr.mono (by decide)) (pa_cons (pv 0) (pa_cons (pv 1) pa_nil)))))
      (pss_one (ps_ret (pe_lc (own := [("k", 4)]) rfl sc_binding.nd (pi_list (pe_callC cS hr (pa_cons (pv 0) (pa_cons (pv 2) pa_nil)))) (blkOk_by (N := ["land", "court", "day", "bench", "k"]) (sc := defScope s_binding) (by decide +kernel))
      (fun _ _ _ _ _ => pg_name (i := 4) sc_binding.nd rfl (Or.inl rfl))
      (fun _ _ _ _ _ => pts_one (pt_cmpR (op_inK (K := K) rfl) (pe_fldK (K := K) rfl (pe_ix (ix_listK (K := K) rfl) (pe_fldK (K := K) rfl (pv 0) rfl) (pv 4) (fun _ _ => rfl)) rfl) (pv 3) rfl))
      (fun _ _ _ _ _ => pv 4)))), ?_⟩
    refine ⟨_, rfl, (by show 1 ≤ sizeLine; decide), fun p hp => ?_⟩
    have s1 : Same H (upd H p (.lst [V.int (c : Int)])) := same_new hp (Same.refl _)
    refine ⟨_, rfl, _, rfl, _, ⟨a, l, c, rfl, hL.same s1, hc, rfl⟩, fun H2 q s2 hq hql => ?_⟩
    refine ⟨p, q, _, _, rfl, rfl, s2 _ _ upd_same, hql, ?_, fun b hb => ?_⟩
    · rw [vN_len]
      exact Nat.le_of_lt (lt_line (by simp; omega))
    have s12 : Same H H2 := s1.trans s2
    have s3 : Same H (upd H2 b (.lst ([V.int (c : Int)] ++ vN (aboves l c)))) := fun x o e => by
      rw [upd_ne (ne_of_none (s12 x o e) hb)]
      exact s12 x o e
    have eb : ([V.int (c : Int)] ++ vN (aboves l c)) = vN (Si53.chain l c) := by
      rw [ec]
      rfl
    rw [eb] at s3 ⊢
    refine ⟨_, rfl, _, rfl, _, ⟨a, D, l, rfl, hL.same s3, rfl⟩, fun H4 z s4 hz hzl => ?_⟩
    have s14 := s3.trans s4
    have hb4 : NatsAt H4 b (Si53.chain l c) := s4 _ _ upd_same
    have hsl := stands_len L.wf.days L.hi D
    refine ⟨z, rfl, ⟨_, SqL.of hzl⟩, fun D' hD => lc_keep (K := K) (fun i => Si53.over l (Si53.decision l i).court c) hD (SqL.of hzl) (by omega) (fun _ => rfl) (hi_of (n := 5) rfl (by decide)) (fun i n H' Q' hn s5 q5 => ?_) (fun H' s5 hDl => ?_)⟩
    · have L1 := L.same (s14.trans s5)
      obtain ⟨dx1, hI1⟩ := L1.ins
      have hn' := stands_lt L.wf.days (List.mem_of_getElem? hn)
      obtain ⟨cn, hcn⟩ : ∃ cn, as[n]? = some cn := ⟨_, List.getElem?_eq_getElem (by rw [L.len]; exact hn')⟩
      obtain ⟨f1, r1, o1, G, _⟩ := (L1.at_ n cn hcn).ex
      obtain ⟨gx, hG⟩ := G.ins
      refine ⟨_, rfl, a, CL, dx1, _, _, rfl, hI1, T.clL, T.l3, lf_decisions _ _ _, _, rfl, ld, _, _, _, rfl, rfl, SqL.of L1.dl, atI_nat (by rw [List.getElem?_map, hcn]; rfl), cn, CD, gx, _, _, rfl, hG, T.clD, T.d1, df_court _ _ _ _ _ _, _, rfl, b, _, rfl, .inl (SqL.of (s5 _ _ hb4)), rfl, vN_flat _, _, rfl, ?_⟩
      show Q' (inV (V.int ((Si53.decision l n).court : Int)) (vN (Si53.chain l c))) H'
      rw [vN_in]
      exact q5 H' (Same.refl _)
    · refine k H' D' (s14.trans s5) ?_ hDl
      exact s14.free hD
end
end CC
set_option maxHeartbeats 2000000
namespace CC
open PySem PySem.Spec PyProof.Rows L2
/-! ### facts about barred, takes -/
theorem above_over {l : Si53.Land} (W : Up l) {c e : Nat} (hc : c < l.courts.length) : (e != c && Si53.over l e c) = (aboves l c).contains e := by
  unfold Si53.over
  rw [chain_eq W hc, List.contains_cons]
  show (e != c && (e == c || (aboves l c).contains e)) = _
  by_cases h : e = c
  · subst h
    have : (aboves l e).contains e = false := by
      cases q : (aboves l e).contains e with
      | false => rfl
      | true =>
        have := above_lt W hc (x := e) (by simpa [aboves] using q)
        omega
    rw [this]
    simp
  · have h1 : (e == c) = false := by simpa using h
    rw [bne, h1]
    simp
theorem gainsay_comm (d e : Si53.Decision) : Si53.gainsay d e = Si53.gainsay e d := by
  unfold Si53.gainsay
  rw [Bool.and_comm (Si53.within d.reason e.facts)]
  congr 1
  cases d.side <;> cases e.side <;> rfl
theorem barred_eq {l : Si53.Land} (W : Up l) {d : Si53.Decision} (hc : d.court < l.courts.length) (s : List Nat) : Si53.barred l s d = s.any fun i => (aboves l d.court).contains (Si53.decision l i).court && Si53.gainsay (Si53.decision l i) d := by
  unfold Si53.barred
  refine any_congr' fun i _ => ?_
  simp only
  rw [← Bool.and_assoc, above_over W hc]
theorem takes_eq {l : Si53.Land} (d : Si53.Decision) (i : Nat) : Si53.takes l d i = (Si53.over l d.court (Si53.decision l i).court && (d.over.contains i || Si53.gainsay (Si53.decision l i) d)) := by
  unfold Si53.takes
  simp only
  rw [gainsay_comm d]
section
variable {P : Program} {w : World} {K : PySem.W.Frag} {mg : Str → Option Value} {base : Heap} {CL CD : Addr}
/-! ### is_barred -/
def spBarred (CL CD : Addr) : Sp := spB fun vs H b => ∃ (a c : Addr) (l : Si53.Land) (d : Si53.Decision), vs = [.ref a, .ref c] ∧ LandIs CL CD H a l ∧ DecIs CD H c d ∧ d.court < l.courts.length ∧ b = Si53.barred l (Si53.stands l d.day) d
theorem sc_is_barred : FnScope ["land", "decision", "higher", "k", "earlier"] ["land", "decision"] (defScope s_is_barred) := ⟨rfl, rfl, rfl, by decide +kernel, rfl, by decide +kernel, by decide +kernel⟩
theorem ok_is_barred {f : Addr} {fd : FuncData} (F : Fun K "is_barred" "is_barred" s_is_barred f fd) (T : Txt K mg CL CD) (cU : Callee P w K mg base 1 "courts_above" ["land", "court"] (spAbove CL CD)) (cS : Callee P w K mg base 2 "standing" ["land", "day"] (spStanding CL CD)) (cG : Callee P w K mg base 2 "gainsay" ["one", "other"] (spGain CD)) :
    FnOk P w K mg base CX0 3 f fd ["land", "decision"] (spBarred CL CD) := by
  refine F.ok sc_is_barred (fun vs H Q E h => ?_) (fun cdv A outer s H vs Q E hr h => ?_)
  · obtain ⟨b, ⟨a, c, l, d, rfl, _⟩, _⟩ := h
    rfl
  · obtain ⟨b, ⟨a, c, l, d, rfl, hL, hD, hc, rfl⟩, k⟩ := h
    obtain ⟨GG, bs, ts, ls, lu, ld, as, L⟩ := id hL
    obtain ⟨b1, t1, f1, r1, o1, G⟩ := id hD
    obtain ⟨gx, hG⟩ := G.ins
    have hr1 : Room 1 _ := hr.mono (by decide)
    refine ⟨_, pss_cons (ps_set (i := 2) sc_is_barred.nd rfl (Or.inl rfl) (pe_callC cU hr1 (pa_cons (pv 0) (pa_cons (pe_fld (pv 1) rfl) pa_nil))))
      (pss_cons (ps_for PassesOwn.never rfl (pi_list (pe_callC cS hr (pa_cons (pv 0) (pa_cons (pe_fld (pv 1) rfl) pa_nil)))) (pg_name (i := 3) sc_is_barred.nd rfl (Or.inl rfl))
        (pss_cons (ps_set (i := 4) sc_is_barred.nd rfl (Or.inl rfl) (pe_ix ix_list (pe_fld (pv 0) rfl) (pv 3) (fun _ _ => rfl)))
        (pss_one (ps_if (pw_and (pt_cmpR op_in_seq (pe_fld (pv 4) rfl) (pv 2) rfl) (pw_and1 (pt_val (pe_callC cG hr (pa_cons (pv 4) (pa_cons (pv 1) pa_nil)))))).pt (pss_one (ps_ret pe_bl)) pss_nil))))
      (pss_one (ps_ret pe_bl))), ?_⟩
    refine ⟨_, rfl, _, rfl, c, CD, gx, _, _, rfl, hG, T.clD, T.d1, df_court _ _ _ _ _ _, _, ⟨a, l, d.court, rfl, hL, hc, rfl⟩, fun H1 p s1 hp hpl => ?_⟩
    refine ⟨_, rfl, _, rfl, c, CD, gx, _, _, rfl, s1 _ _ hG, T.clD, T.d2, df_day _ _ _ _ _ _, _, ⟨a, d.day, l, rfl, hL.same s1, rfl⟩, fun H2 z s2 hz hzl => ?_⟩
    have s12 := s1.trans s2
    have hp2 : NatsAt H2 p (aboves l d.court) := s2 _ _ hpl
    rw [barred_eq L.wf.up hc] at k
    refine ⟨z, rfl, ⟨_, SqL.of hzl⟩, for_list (K := K) (a := z) (xs := vN (Si53.stands l d.day)) (fun i σ H' => ∃ v3 v4 : Option V, σ = [some (.ref a), some (.ref c), some (.ref p), v3, v4] ∧ Same H2 H' ∧ ((Si53.stands l d.day).take i).any (fun i => (aboves l d.court).contains (Si53.decision l i).court && Si53.gainsay (Si53.decision l i) d) = false)
      ⟨none, none, rfl, Same.refl _, rfl⟩ (fun i σ H' _ ⟨_, _, _, s3, _⟩ => SqL.of (s3 _ _ hzl)) ?_ ?_⟩
    · rintro i x σ H' hi ⟨v3, v4, rfl, s3, inv⟩
      obtain ⟨n, hn, rfl⟩ := vN_got hi
      have s13 := s12.trans s3
      have L1 := L.same s13
      obtain ⟨dx1, hI1⟩ := L1.ins
      have hn' := stands_lt L.wf.days (List.mem_of_getElem? hn)
      obtain ⟨cn, hcn⟩ : ∃ cn, as[n]? = some cn := ⟨_, List.getElem?_eq_getElem (by rw [L.len]; exact hn')⟩
      obtain ⟨fn, rn, on, Gn, _⟩ := (L1.at_ n cn hcn).ex
      obtain ⟨nx, hN⟩ := Gn.ins
      refine ⟨_, rfl, a, CL, dx1, _, _, rfl, hI1, T.clL, T.l3, lf_decisions _ _ _, _, rfl, ld, _, _, _, rfl, rfl, SqL.of L1.dl, atI_nat (by rw [List.getElem?_map, hcn]; rfl), ?_⟩
      refine ⟨_, rfl, cn, CD, nx, _, _, rfl, hN, T.clD, T.d1, df_court _ _ _ _ _ _, _, rfl, p, _, rfl, .inl (SqL.of (s3 _ _ hp2)), rfl, vN_flat _, _, rfl, ?_⟩
      have et : ((Si53.stands l d.day).take (i + 1)).any (fun i => (aboves l d.court).contains (Si53.decision l i).court && Si53.gainsay (Si53.decision l i) d) = ((aboves l d.court).contains (Si53.decision l n).court && Si53.gainsay (Si53.decision l n) d) := by
        rw [List.take_add_one, hn, List.any_append, inv, Bool.false_or]
        simp
      show if inV (V.int ((Si53.decision l n).court : Int)) (vN (aboves l d.court)) = true then _ else _
      rw [vN_in]
      refine ite2 (fun h1 => ?_) (fun h1 => ?_)
      · refine ⟨_, rfl, _, rfl, _, ⟨cn, c, _, d, rfl, L1.dec hcn, hD.same s13, rfl⟩, fun H4 s4 => ⟨_, rfl, ?_⟩⟩
        rw [h1, Bool.true_and] at et
        refine ite2 (fun h2 => ?_) (fun h2 => ?_)
        · have e : ((Si53.stands l d.day).any fun i => (aboves l d.court).contains (Si53.decision l i).court && Si53.gainsay (Si53.decision l i) d) = true := by
            rw [List.any_eq_true]
            exact ⟨n, List.mem_of_getElem? hn, by rw [h1, h2]; rfl⟩
          rw [e] at k
          exact k H4 (s13.trans s4)
        · have h2 : Si53.gainsay (Si53.decision l n) d = false := by simpa using h2
          exact ⟨_, _, rfl, s3.trans s4, by rw [et, h2]⟩
      · have h1 : (aboves l d.court).contains (Si53.decision l n).court = false := by
          cases q : (aboves l d.court).contains (Si53.decision l n).court with
          | false => rfl
          | true => exact absurd q h1
        refine iteF ⟨_, _, rfl, s3, by rw [et, h1]; rfl⟩
    · rintro σ H' ⟨v3, v4, rfl, s3, inv⟩
      rw [vN_len, List.take_length] at inv
      rw [inv] at k
      exact k H' (s12.trans s3)
/-! ### taken_away_by -/
def spTaken (CL CD : Addr) : Sp := spN fun vs H ns => ∃ (a c : Addr) (l : Si53.Land) (d : Si53.Decision), vs = [.ref a, .ref c] ∧ LandIs CL CD H a l ∧ DecIs CD H c d ∧ ns = (Si53.stands l d.day).filter (Si53.takes l d)
theorem sc_taken_away_by : FnScope ["land", "decision", "taken", "k", "earlier"] ["land", "decision"] (defScope s_taken_away_by) := ⟨rfl, rfl, rfl, by decide +kernel, rfl, by decide +kernel, by decide +kernel⟩
theorem ok_taken_away_by {f : Addr} {fd : FuncData} (F : Fun K "taken_away_by" "taken_away_by" s_taken_away_by f fd) (T : Txt K mg CL CD) (cW : Callee P w K mg base 2 "is_within_reach" ["land", "court", "other"] (spReach CL CD)) (cS : Callee P w K mg base 2 "standing" ["land", "day"] (spStanding CL CD)) (cG : Callee P w K mg base 2 "gainsay" ["one", "other"] (spGain CD)) :
    FnOk P w K mg base CX0 3 f fd ["land", "decision"] (spTaken CL CD) := by
  refine F.ok sc_taken_away_by (fun vs H Q E h => ?_) (fun cdv A outer s H vs Q E hr h => ?_)
  · obtain ⟨b, ⟨a, c, l, d, rfl, _⟩, _⟩ := h
    rfl
  · obtain ⟨b, ⟨a, c, l, d, rfl, hL, hD, rfl⟩, k⟩ := h
    obtain ⟨GG, bs, ts, ls, lu, ld, as, L⟩ := id hL
    obtain ⟨b1, t1, f1, r1, o1, G⟩ := id hD
    obtain ⟨gx, hG⟩ := G.ins
    have h30 := L.wf.nd
    have hsl := stands_len L.wf.days L.hi d.day
    refine ⟨_, pss_cons (ps_set (i := 2) sc_taken_away_by.nd rfl (Or.inl rfl) (pe_lst pa_nil))
      (pss_cons (ps_for PassesOwn.never rfl (pi_list (pe_callC cS hr (pa_cons (pv 0) (pa_cons (pe_fld (pv 1) rfl) pa_nil)))) (pg_name (i := 3) sc_taken_away_by.nd rfl (Or.inl rfl))
        (pss_cons (ps_set (i := 4) sc_taken_away_by.nd rfl (Or.inl rfl) (pe_ix ix_list (pe_fld (pv 0) rfl) (pv 3) (fun _ _ => rfl)))
        (pss_cons (ps_if (pt_not (pt_val (pe_callC cW hr (pa_cons (pv 0) (pa_cons (pe_fld (pv 1) rfl) (pa_cons (pe_fld (pv 4) rfl) pa_nil)))))) (pss_one ps_continue) pss_nil)
        (pss_one (ps_if (pw_or (pt_cmpR op_in_seq (pv 3) (pe_fld (pv 1) rfl) rfl) (pw_or1 (pt_val (pe_callC cG hr (pa_cons (pv 4) (pa_cons (pv 1) pa_nil)))))).pt
          (pss_one (ps_expr (pe_bm PySem.F.plainAttrs_list PySem.F.slot_list_append PySem.F.type_list_append mt_append (pv 2) (pa_cons (pv 3) pa_nil)))) pss_nil)))))
      (pss_one (ps_ret (pv 2)))), ?_⟩
    refine ⟨Nat.zero_le _, fun p hp => ?_⟩
    have s1 : Same H (upd H p (.lst [])) := same_new hp (Same.refl _)
    refine ⟨_, rfl, _, rfl, c, CD, gx, _, _, rfl, s1 _ _ hG, T.clD, T.d2, df_day _ _ _ _ _ _, _, ⟨a, d.day, l, rfl, hL.same s1, rfl⟩, fun H2 z s2 hz hzl => ?_⟩
    have hp2 : NatsAt H2 p [] := s2 _ _ upd_same
    have s12 := s1.trans s2
    have hzp : z ≠ p := fun e => by
      rw [e, upd_same] at hz
      cases hz
    refine ⟨z, rfl, ⟨_, SqL.of hzl⟩, for_list (K := K) (a := z) (xs := vN (Si53.stands l d.day)) (fun i σ H' => ∃ v3 v4 : Option V, σ = [some (.ref a), some (.ref c), some (.ref p), v3, v4] ∧ Same H H' ∧ NatsAt H' z (Si53.stands l d.day) ∧ NatsAt H' p (((Si53.stands l d.day).take i).filter (Si53.takes l d)))
      ⟨none, none, rfl, s12, hzl, hp2⟩ (fun i σ H' _ ⟨_, _, _, _, h3, _⟩ => SqL.of h3) ?_ ?_⟩
    · rintro i x σ H' hi ⟨v3, v4, rfl, s3, hz3, hp3⟩
      obtain ⟨n, hn, rfl⟩ := vN_got hi
      have L1 := L.same s3
      obtain ⟨dx1, hI1⟩ := L1.ins
      have hn' := stands_lt L.wf.days (List.mem_of_getElem? hn)
      obtain ⟨cn, hcn⟩ : ∃ cn, as[n]? = some cn := ⟨_, List.getElem?_eq_getElem (by rw [L.len]; exact hn')⟩
      obtain ⟨fn, rn, on, Gn, _⟩ := (L1.at_ n cn hcn).ex
      obtain ⟨nx, hN⟩ := Gn.ins
      have et : ((Si53.stands l d.day).take (i + 1)).filter (Si53.takes l d) = ((Si53.stands l d.day).take i).filter (Si53.takes l d) ++ (if Si53.takes l d n = true then [n] else []) := by
        rw [List.take_add_one, hn, List.filter_append]
        congr 1
        cases q : Si53.takes l d n <;> simp [q]
      have hlen : (((Si53.stands l d.day).take i).filter (Si53.takes l d)).length ≤ 1000 := by
        have := List.length_filter_le (Si53.takes l d) ((Si53.stands l d.day).take i)
        rw [List.length_take] at this
        omega
      have tk := takes_eq (l := l) d n
      refine ⟨_, rfl, a, CL, dx1, _, _, rfl, hI1, T.clL, T.l3, lf_decisions _ _ _, _, rfl, ld, _, _, _, rfl, rfl, SqL.of L1.dl, atI_nat (by rw [List.getElem?_map, hcn]; rfl), ?_⟩
      refine ⟨_, rfl, _, rfl, c, CD, gx, _, _, rfl, s3 _ _ hG, T.clD, T.d1, df_court _ _ _ _ _ _, _, rfl, cn, CD, nx, _, _, rfl, hN, T.clD, T.d1, df_court _ _ _ _ _ _, _, ⟨a, l, d.court, (Si53.decision l n).court, rfl, hL.same s3, L.wf.dc n hn', rfl⟩, fun H4 s4 => ⟨_, rfl, ?_⟩⟩
      have s34 := s3.trans s4
      have hz4 := s4 _ _ hz3
      have hp4 := s4 _ _ hp3
      refine ite2 (fun h1 => ?_) (fun h1 => ?_)
      · have h1 : Si53.over l d.court (Si53.decision l n).court = false := by simpa using h1
        rw [h1, Bool.false_and] at tk
        refine ⟨_, _, rfl, s34, hz4, ?_⟩
        rw [et, tk]
        simpa using hp4
      · have h1 : Si53.over l d.court (Si53.decision l n).court = true := by simpa using h1
        rw [h1, Bool.true_and] at tk
        have app : ∀ (H5 : Hp), Same H H5 → NatsAt H5 z (Si53.stands l d.day) → NatsAt H5 p (((Si53.stands l d.day).take i).filter (Si53.takes l d)) → Si53.takes l d n = true →
            ∃ v3 v4 : Option V, [some (.ref a), some (.ref c), some (.ref p), some (V.int (n : Int)), some (V.ref cn)] = [some (V.ref a), some (.ref c), some (.ref p), v3, v4] ∧ Same H (upd H5 p (.lst (vN (((Si53.stands l d.day).take i).filter (Si53.takes l d)) ++ [V.int (n : Int)]))) ∧
              NatsAt (upd H5 p (.lst (vN (((Si53.stands l d.day).take i).filter (Si53.takes l d)) ++ [V.int (n : Int)]))) z (Si53.stands l d.day) ∧ NatsAt (upd H5 p (.lst (vN (((Si53.stands l d.day).take i).filter (Si53.takes l d)) ++ [V.int (n : Int)]))) p (((Si53.stands l d.day).take (i + 1)).filter (Si53.takes l d)) := fun H5 s5 hz5 hp5 ht => by
          refine ⟨_, _, rfl, same_new hp s5, ?_, ?_⟩
          · show upd _ p _ z = _
            rw [upd_ne hzp]
            exact hz5
          · show upd _ p _ p = _
            rw [upd_same, vN_snoc, et, if_pos ht]
        have lo := G.lo
        refine ⟨_, rfl, _, rfl, c, CD, gx, _, _, rfl, s34 _ _ hG, T.clD, T.d6, df_overruled _ _ _ _ _ _, o1, _, rfl, .inl (SqL.of (s34 _ _ G.ho)), rfl, vN_flat _, _, rfl, ?_⟩
        show if inV (V.int (n : Int)) (vN d.over) = true then _ else _
        rw [vN_in]
        refine ite2 (fun h2 => ?_) (fun h2 => ?_)
        · rw [h2, Bool.true_or] at tk
          refine iteT ⟨_, rfl, .inl ⟨rfl, _, SqL.of hp4⟩, _, rfl, p, _, _, rfl, rfl, hp4, lt_line (by rw [vN_len]; exact hlen), ?_⟩
          exact app H4 s34 hz4 hp4 tk
        · have h2 : d.over.contains n = false := by
            cases q : d.over.contains n with
            | false => rfl
            | true => exact absurd q h2
          rw [h2, Bool.false_or] at tk
          refine ⟨_, rfl, _, rfl, _, ⟨cn, c, _, d, rfl, (L.same s34).dec hcn, hD.same s34, rfl⟩, fun H5 s5 => ⟨_, rfl, ?_⟩⟩
          have s45 := s34.trans s5
          have hz5 := s5 _ _ hz4
          have hp5 := s5 _ _ hp4
          refine ite2 (fun h3 => ?_) (fun h3 => ?_)
          · rw [h3] at tk
            refine ⟨_, rfl, .inl ⟨rfl, _, SqL.of hp5⟩, _, rfl, p, _, _, rfl, rfl, hp5, lt_line (by rw [vN_len]; exact hlen), ?_⟩
            exact app H5 s45 hz5 hp5 tk
          · have h3 : Si53.gainsay (Si53.decision l n) d = false := by simpa using h3
            rw [h3] at tk
            refine ⟨_, _, rfl, s45, hz5, ?_⟩
            rw [et, tk]
            simpa using hp5
    · rintro σ H' ⟨v3, v4, rfl, s3, hz3, hp3⟩
      rw [vN_len, List.take_length] at hp3
      exact ⟨_, rfl, k H' p s3 hp hp3⟩
end
end CC
set_option maxHeartbeats 2000000
namespace CC
open PySem PySem.Spec PyProof.Rows L2
section
variable {P : Program} {w : World} {K : PySem.W.Frag} {mg : Str → Option Value} {base : Heap} {CL CD : Addr}
/-! ### is_well_told -/
def wellTold (l : Si53.Land) (d : Si53.Decision) : Bool := Si53.factsOk l d.facts && (Si53.reasonOk l d.side d.facts d.reason && (Si53.rising d.over && decide (d.day ≤ 99999)))
def spWell (CL CD : Addr) : Sp := spB fun vs H b => ∃ (a c : Addr) (l : Si53.Land) (d : Si53.Decision), vs = [.ref a, .ref c] ∧ LandIs CL CD H a l ∧ DecIs CD H c d ∧ b = wellTold l d
theorem sc_is_well_told : FnScope ["land", "decision"] ["land", "decision"] (defScope s_is_well_told) := ⟨rfl, rfl, rfl, by decide +kernel, rfl, by decide +kernel, by decide +kernel⟩
theorem le_nat (a b : Nat) : decide ((a : Int) ≤ (b : Int)) = decide (a ≤ b) := by
  rw [Bool.eq_iff_iff]
  simp
theorem ok_is_well_told {f : Addr} {fd : FuncData} (F : Fun K "is_well_told" "is_well_told" s_is_well_told f fd) (T : Txt K mg CL CD) (cR : Callee P w K mg base 1 "rises" ["numbers"] spRises) (cF : Callee P w K mg base 2 "are_findings" ["land", "findings"] (spFindings CL CD))
    (cN : Callee P w K mg base 2 "is_reason" ["land", "reason", "findings", "side"] (spReason CL CD)) : FnOk P w K mg base CX0 3 f fd ["land", "decision"] (spWell CL CD) := by
  refine F.ok sc_is_well_told (fun vs H Q E h => ?_) (fun cdv A outer s H vs Q E hr h => ?_)
  · obtain ⟨b, ⟨a, c, l, d, rfl, _⟩, _⟩ := h
    rfl
  · obtain ⟨b, ⟨a, c, l, d, rfl, hL, ⟨b1, t1, f1, r1, o1, G⟩, rfl⟩, k⟩ := h
    obtain ⟨gx, hG⟩ := G.ins
    obtain ⟨tk, hday⟩ := T.c4
    have lf := G.lf
    have lr := G.lr
    have lo := G.lo
    refine ⟨_, pss_cons (ps_if (pt_not (pt_val (pe_callC cF hr (pa_cons (pv 0) (pa_cons (pe_fld (pv 1) rfl) pa_nil))))) (pss_one (ps_ret pe_bl)) pss_nil)
      (pss_cons (ps_if (pt_not (pt_val (pe_callC cN hr (pa_cons (pv 0) (pa_cons (pe_fld (pv 1) rfl) (pa_cons (pe_fld (pv 1) rfl) (pa_cons (pe_fld (pv 1) rfl) pa_nil))))))) (pss_one (ps_ret pe_bl)) pss_nil)
      (pss_one (ps_ret (pe_and (pe_callC cR (hr.mono (by decide)) (pa_cons (pe_fld (pv 1) rfl) pa_nil)) (pe_one (pe_cmpR op_le (pe_fld (pv 1) rfl) (pe_glob (v := .int 99999) rfl hday ⟨tk, rfl⟩) (nomark _))))))), ?_⟩
    unfold wellTold at k
    refine ⟨_, rfl, _, rfl, c, CD, gx, _, _, rfl, hG, T.clD, T.d4, df_findings _ _ _ _ _ _, _, ⟨a, f1, l, d.facts, rfl, hL, G.hf, lf, rfl⟩, fun H1 s1 => ⟨_, rfl, ?_⟩⟩
    refine ite2 (fun h1 => ?_) (fun h1 => ?_)
    · have h1 : Si53.factsOk l d.facts = false := by simpa using h1
      rw [h1, Bool.false_and] at k
      exact k H1 s1
    · have h1 : Si53.factsOk l d.facts = true := by simpa using h1
      rw [h1, Bool.true_and] at k
      have G1 := G.same s1
      refine ⟨_, rfl, _, rfl, c, CD, gx, _, _, rfl, s1 _ _ hG, T.clD, T.d5, df_reason _ _ _ _ _ _, _, rfl, c, CD, gx, _, _, rfl, s1 _ _ hG, T.clD, T.d4, df_findings _ _ _ _ _ _, _, rfl, c, CD, gx, _, _, rfl, s1 _ _ hG, T.clD, T.d3, df_side _ _ _ _ _ _, _, ⟨a, r1, f1, l, d.reason, d.facts, d.side, rfl, hL.same s1, G1.hr, G1.hf, lr, lf, h1, rfl⟩, fun H2 s2 => ⟨_, rfl, ?_⟩⟩
      have s12 := s1.trans s2
      refine ite2 (fun h2 => ?_) (fun h2 => ?_)
      · have h2 : Si53.reasonOk l d.side d.facts d.reason = false := by simpa using h2
        rw [h2, Bool.false_and] at k
        exact k H2 s12
      · have h2 : Si53.reasonOk l d.side d.facts d.reason = true := by simpa using h2
        rw [h2, Bool.true_and] at k
        refine ⟨_, rfl, c, CD, gx, _, _, rfl, s12 _ _ hG, T.clD, T.d6, df_overruled _ _ _ _ _ _, _, ⟨o1, d.over, rfl, s12 _ _ G.ho, by omega, rfl⟩, fun H3 s3 => ⟨_, rfl, ?_⟩⟩
        have s13 := s12.trans s3
        refine ite2 (fun h3 => ?_) (fun h3 => ?_)
        · rw [h3, Bool.true_and] at k
          refine ⟨_, rfl, c, CD, gx, _, _, rfl, s13 _ _ hG, T.clD, T.d2, df_day _ _ _ _ _ _, _, _, rfl, rfl, ?_⟩
          have e : decide ((d.day : Int) ≤ 99999) = decide (d.day ≤ 99999) := le_nat d.day 99999
          show Q (.bl (decide ((d.day : Int) ≤ 99999))) H3
          rw [e]
          exact k H3 s13
        · have h3 : Si53.rising d.over = false := by simpa using h3
          rw [h3, Bool.false_and] at k
          exact k H3 s13
/-! ### is_too_early -/
def spEarly (CL CD : Addr) : Sp := spB fun vs H b => ∃ (a c : Addr) (l : Si53.Land) (d : Si53.Decision), vs = [.ref a, .ref c] ∧ LandIs CL CD H a l ∧ DecIs CD H c d ∧ b = decide (d.day < Si53.today l)
theorem sc_is_too_early : FnScope ["land", "decision"] ["land", "decision"] (defScope s_is_too_early) := ⟨rfl, rfl, rfl, by decide +kernel, rfl, by decide +kernel, by decide +kernel⟩
theorem today_last {l : Si53.Land} (h : 0 < l.decisions.length) : Si53.today l = (Si53.decision l (l.decisions.length - 1)).day := by
  unfold Si53.today Si53.decision
  rw [List.getLast?_eq_getElem?, List.getD_eq_getElem?_getD, List.getElem?_eq_getElem (by omega)]
  rfl
theorem at_last {xs : List V} {v : V} (h : xs[xs.length - 1]? = some v) : atI xs (-1) = some v := by
  have hl : xs.length - 1 < xs.length := (List.getElem?_eq_some_iff.mp h).1
  unfold atI ixN
  rw [if_neg (by decide), if_pos (by omega)]
  show xs[(-1 + (xs.length : Int)).toNat]? = some v
  have e : (-1 + (xs.length : Int)).toNat = xs.length - 1 := by omega
  rw [e]
  exact h
theorem ok_is_too_early {f : Addr} {fd : FuncData} (F : Fun K "is_too_early" "is_too_early" s_is_too_early f fd) (T : Txt K mg CL CD) : FnOk P w K mg base CX0 1 f fd ["land", "decision"] (spEarly CL CD) := by
  refine F.ok sc_is_too_early (fun vs H Q E h => ?_) (fun cdv A outer s H vs Q E hr h => ?_)
  · obtain ⟨b, ⟨a, c, l, d, rfl, _⟩, _⟩ := h
    rfl
  · obtain ⟨b, ⟨a, c, l, d, rfl, ⟨GG, bs, ts, ls, lu, ld, as, L⟩, ⟨b1, t1, f1, r1, o1, G⟩, rfl⟩, k⟩ := h
    obtain ⟨gx, hG⟩ := G.ins
    obtain ⟨dx, hI⟩ := L.ins
    have hlen : (as.map V.ref).length = l.decisions.length := by rw [List.length_map, L.len]
    refine ⟨_, pss_one (ps_ret (pe_and (pe_cmpR op_gt (pe_callB call_len_seq (by rfl) T.len PySem.boot_len (pa_cons (pe_fld (pv 0) rfl) pa_nil)) pe_int (nomark _))
      (pe_one (pe_cmpR op_lt (pe_fld (pv 1) rfl) (pe_fld (pe_ix ix_list (pe_fld (pv 0) rfl) (pe_un un_neg pe_int) (fun _ _ => rfl)) rfl) (nomark _))))), ?_⟩
    refine ⟨_, rfl, a, CL, dx, _, _, rfl, hI, T.clL, T.l3, lf_decisions _ _ _, ld, _, rfl, .inl (SqL.of L.dl), _, _, rfl, rfl, _, rfl, ?_⟩
    refine ite2 (fun h1 => ?_) (fun h1 => ?_)
    · have h1 : (0 : Int) < ((as.map V.ref).length : Int) := of_decide_eq_true h1
      have h0 : 0 < l.decisions.length := by omega
      obtain ⟨cn, hcn⟩ : ∃ cn, as[l.decisions.length - 1]? = some cn := ⟨_, List.getElem?_eq_getElem (by rw [L.len]; omega)⟩
      obtain ⟨fn, rn, on, Gn, _⟩ := (L.at_ _ cn hcn).ex
      obtain ⟨nx, hN⟩ := Gn.ins
      refine ⟨_, rfl, c, CD, gx, _, _, rfl, hG, T.clD, T.d2, df_day _ _ _ _ _ _, _, rfl, a, CL, dx, _, _, rfl, hI, T.clL, T.l3, lf_decisions _ _ _, _, rfl, ld, _, _, _, rfl, rfl, SqL.of L.dl, at_last (by rw [hlen, List.getElem?_map, hcn]; rfl), cn, CD, nx, _, _, rfl, hN, T.clD, T.d2, df_day _ _ _ _ _ _, _, _, rfl, rfl, ?_⟩
      show Q (.bl (decide ((d.day : Int) < ((Si53.decision l (l.decisions.length - 1)).day : Int)))) H
      rw [lt_nat, ← today_last h0]
      exact k H (Same.refl _)
    · have h0 : l.decisions.length = 0 := by
        rcases Nat.eq_zero_or_pos l.decisions.length with z | z
        · exact z
        · exfalso
          apply h1
          refine decide_eq_true ?_
          rw [hlen]
          omega
      have e : decide (d.day < Si53.today l) = false := by
        have : Si53.today l = 0 := by
          unfold Si53.today
          rw [List.length_eq_zero_iff.mp h0]
          rfl
        rw [this]
        simp
      rw [e] at k
      exact k H (Same.refl _)
/-! ### may_be_overruled -/
def mayOver (l : Si53.Land) (d : Si53.Decision) (i : Nat) : Bool := (Si53.stands l d.day).contains i && Si53.over l d.court (Si53.decision l i).court
def spMayOver (CL CD : Addr) : Sp := spB fun vs H b => ∃ (a c : Addr) (l : Si53.Land) (d : Si53.Decision) (i : Nat), vs = [.ref a, .ref c, .int (i : Int)] ∧ LandIs CL CD H a l ∧ DecIs CD H c d ∧ b = mayOver l d i
theorem sc_may_be_overruled : FnScope ["land", "decision", "number", "earlier"] ["land", "decision", "number"] (defScope s_may_be_overruled) := ⟨rfl, rfl, rfl, by decide +kernel, rfl, by decide +kernel, by decide +kernel⟩
theorem stands_contains {l : Si53.Land} {bs : List Bool} {ts : List (Option Nat)} (hd : Days l) (h : Hist l bs ts) (D i : Nat) : (Si53.stands l D).contains i = (decide (i < l.decisions.length) && onDay l bs ts D i) := by
  rw [stands_eq hd h, Bool.eq_iff_iff]
  simp [List.mem_filter, List.mem_range]
theorem ok_may_be_overruled {f : Addr} {fd : FuncData} (F : Fun K "may_be_overruled" "may_be_overruled" s_may_be_overruled f fd) (T : Txt K mg CL CD) (cN : Callee P w K mg base 1 "is_decision" ["land", "number"] (spIsDec CL CD)) (cS : Callee P w K mg base 1 "stands_on" ["land", "decision", "day"] (spStandsOn CL CD)) (cW : Callee P w K mg base 2 "is_within_reach" ["land", "court", "other"] (spReach CL CD)) :
    FnOk P w K mg base CX0 3 f fd ["land", "decision", "number"] (spMayOver CL CD) := by
  refine F.ok sc_may_be_overruled (fun vs H Q E h => ?_) (fun cdv A outer s H vs Q E hr h => ?_)
  · obtain ⟨b, ⟨a, c, l, d, i, rfl, _⟩, _⟩ := h
    rfl
  · obtain ⟨b, ⟨a, c, l, d, i, rfl, hL0, hD0, rfl⟩, k⟩ := h
    obtain ⟨GG0, bs, ts, ls, lu, ld, as, L0⟩ := id hL0
    have hr1 : Room 1 _ := hr.mono (by decide)
    refine ⟨_, pss_cons (ps_if (pt_not (pt_val (pe_callC cN hr1 (pa_cons (pv 0) (pa_cons (pv 2) pa_nil))))) (pss_one (ps_ret pe_bl)) pss_nil)
      (pss_cons (ps_set (i := 3) sc_may_be_overruled.nd rfl (Or.inl rfl) (pe_ix ix_list (pe_fld (pv 0) rfl) (pv 2) (fun _ _ => rfl)))
      (pss_cons (ps_if (pt_not (pt_val (pe_callC cS hr1 (pa_cons (pv 0) (pa_cons (pv 3) (pa_cons (pe_fld (pv 1) rfl) pa_nil)))))) (pss_one (ps_ret pe_bl)) pss_nil)
      (pss_one (ps_ret (pe_callC cW hr (pa_cons (pv 0) (pa_cons (pe_fld (pv 1) rfl) (pa_cons (pe_fld (pv 3) rfl) pa_nil)))))))), ?_⟩
    unfold mayOver at k
    rw [stands_contains L0.wf.days L0.hi] at k
    refine ⟨_, rfl, _, rfl, _, ⟨a, l, i, rfl, hL0, rfl⟩, fun H0 s0 => ⟨_, rfl, ?_⟩⟩
    have hL := hL0.same s0
    have L := L0.same s0
    obtain ⟨b1, t1, f1, r1, o1, G⟩ := hD0.same s0
    obtain ⟨gx, hG⟩ := G.ins
    obtain ⟨dx, hI⟩ := L.ins
    have hlen : (as.map V.ref).length = l.decisions.length := by rw [List.length_map, L.len]
    refine ite2 (fun h1 => ?_) (fun h1 => ?_)
    · have h1 : decide (i < l.decisions.length) = false := by simpa using h1
      rw [h1] at k
      exact k H0 s0
    · have hi : i < l.decisions.length := by simpa using h1
      rw [decide_eq_true hi, Bool.true_and] at k
      obtain ⟨cn, hcn⟩ : ∃ cn, as[i]? = some cn := ⟨_, List.getElem?_eq_getElem (by rw [L.len]; exact hi)⟩
      obtain ⟨fn, rn, on, Gn, _⟩ := (L.at_ _ cn hcn).ex
      obtain ⟨nx, hN⟩ := Gn.ins
      refine ⟨_, rfl, a, CL, dx, _, _, rfl, hI, T.clL, T.l3, lf_decisions _ _ _, _, rfl, ld, _, _, _, rfl, rfl, SqL.of L.dl, atI_nat (by rw [List.getElem?_map, hcn]; rfl), ?_⟩
      refine ⟨_, rfl, _, rfl, _, rfl, c, CD, gx, _, _, rfl, hG, T.clD, T.d2, df_day _ _ _ _ _ _, _, ⟨a, cn, d.day, i, l, GG0, bs, ts, ls, lu, ld, as, rfl, L, hcn, rfl⟩, fun H1 s1 => ⟨_, rfl, ?_⟩⟩
      refine ite2 (fun h2 => ?_) (fun h2 => ?_)
      · have h2 : onDay l bs ts d.day i = false := by simpa using h2
        rw [h2, Bool.false_and] at k
        exact k H1 (s0.trans s1)
      · have h2 : onDay l bs ts d.day i = true := by simpa using h2
        rw [h2, Bool.true_and] at k
        refine ⟨_, rfl, _, rfl, c, CD, gx, _, _, rfl, s1 _ _ hG, T.clD, T.d1, df_court _ _ _ _ _ _, _, rfl, cn, CD, nx, _, _, rfl, s1 _ _ hN, T.clD, T.d1, df_court _ _ _ _ _ _, _, ⟨a, l, d.court, _, rfl, hL.same s1, L.wf.dc i hi, rfl⟩, fun H2 s2 => ?_⟩
        exact k H2 (s0.trans (s1.trans s2))
/-! ### refusal_to_decide -/
def refusal (l : Si53.Land) (d : Si53.Decision) : Int :=
  if Si53.there l d.court = false then -2 else if wellTold l d = false then -1 else if d.day < Si53.today l then -4 else if 30 ≤ l.decisions.length then -5 else if (d.over.all fun i => mayOver l d i) = false then -6 else 0
/-- hands back a whole number -/
def spI (Pr : List V → Hp → Int → Prop) : Sp := fun vs H Q _ => ∃ z, Pr vs H z ∧ ∀ H' : Hp, Same H H' → Q (.int z) H'
def spRefusal (CL CD : Addr) : Sp := spI fun vs H z => ∃ (a c : Addr) (l : Si53.Land) (d : Si53.Decision), vs = [.ref a, .ref c] ∧ LandIs CL CD H a l ∧ DecIs CD H c d ∧ z = refusal l d
theorem sc_refusal : FnScope ["land", "decision", "number"] ["land", "decision"] (defScope s_refusal_to_decide) := ⟨rfl, rfl, rfl, by decide +kernel, rfl, by decide +kernel, by decide +kernel⟩
theorem ok_refusal {f : Addr} {fd : FuncData} (F : Fun K "refusal_to_decide" "refusal_to_decide" s_refusal_to_decide f fd) (T : Txt K mg CL CD) (cC : Callee P w K mg base 1 "is_court" ["land", "court"] (spIsCourt CL CD)) (cW : Callee P w K mg base 3 "is_well_told" ["land", "decision"] (spWell CL CD))
    (cE : Callee P w K mg base 1 "is_too_early" ["land", "decision"] (spEarly CL CD)) (cM : Callee P w K mg base 3 "may_be_overruled" ["land", "decision", "number"] (spMayOver CL CD)) : FnOk P w K mg base CX0 4 f fd ["land", "decision"] (spRefusal CL CD) := by
  refine F.ok sc_refusal (fun vs H Q E h => ?_) (fun cdv A outer s H vs Q E hr h => ?_)
  · obtain ⟨b, ⟨a, c, l, d, rfl, _⟩, _⟩ := h
    rfl
  · obtain ⟨z, ⟨a, c, l, d, rfl, hL, hD, rfl⟩, k⟩ := h
    obtain ⟨b1, t1, f1, r1, o1, G⟩ := id hD
    obtain ⟨GG, bs, ts, ls, lu, ld, as, L⟩ := id hL
    obtain ⟨gx, hG⟩ := G.ins
    obtain ⟨dx, hI⟩ := L.ins
    obtain ⟨t3, m3⟩ := T.c3
    obtain ⟨t5, m5⟩ := T.c5
    obtain ⟨t6, m6⟩ := T.c6
    obtain ⟨t7, m7⟩ := T.c7
    obtain ⟨t8, m8⟩ := T.c8
    obtain ⟨t9, m9⟩ := T.c9
    obtain ⟨t10, m10⟩ := T.c10
    have lo := G.lo
    have hr1 : Room 1 _ := hr.mono (by decide)
    have hlen : (as.map V.ref).length = l.decisions.length := by rw [List.length_map, L.len]
    refine ⟨_, pss_cons (ps_if (pt_not (pt_val (pe_callC cC hr1 (pa_cons (pv 0) (pa_cons (pe_fld (pv 1) rfl) pa_nil))))) (pss_one (ps_ret (pe_glob (v := .int (-2)) rfl m7 ⟨t7, rfl⟩))) pss_nil)
      (pss_cons (ps_if (pt_not (pt_val (pe_callC cW hr (pa_cons (pv 0) (pa_cons (pv 1) pa_nil))))) (pss_one (ps_ret (pe_glob (v := .int (-1)) rfl m6 ⟨t6, rfl⟩))) pss_nil)
      (pss_cons (ps_if (pt_val (pe_callC cE hr1 (pa_cons (pv 0) (pa_cons (pv 1) pa_nil)))) (pss_one (ps_ret (pe_glob (v := .int (-4)) rfl m8 ⟨t8, rfl⟩))) pss_nil)
      (pss_cons (ps_if (pt_cmpR op_ge (pe_callB call_len_seq (by rfl) T.len PySem.boot_len (pa_cons (pe_fld (pv 0) rfl) pa_nil)) (pe_glob (v := .int 30) rfl m3 ⟨t3, rfl⟩) (nomark _)) (pss_one (ps_ret (pe_glob (v := .int (-5)) rfl m9 ⟨t9, rfl⟩))) pss_nil)
      (pss_cons (ps_if (pt_not (pt_val (pe_callB (cr_all rfl) (by rfl) T.all boot_all' (pa_cons (pe_lc (own := [("number", 2)]) rfl sc_refusal.nd (pi_list (pe_fld (pv 1) rfl)) (blkOk_by (N := ["land", "decision", "number"]) (sc := defScope s_refusal_to_decide) (by decide +kernel))
          (fun _ _ _ _ _ => pg_name (i := 2) sc_refusal.nd rfl (Or.inl rfl)) (fun _ _ _ _ _ => pts_nil) (fun _ _ _ _ _ => pe_callC cM hr (pa_cons (pv 0) (pa_cons (pv 1) (pa_cons (pv 2) pa_nil))))) pa_nil)))) (pss_one (ps_ret (pe_glob (v := .int (-6)) rfl m10 ⟨t10, rfl⟩))) pss_nil)
      (pss_one (ps_ret (pe_glob (v := .int 0) rfl m5 ⟨t5, rfl⟩))))))), ?_⟩
    unfold refusal at k
    refine ⟨_, rfl, _, rfl, c, CD, gx, _, _, rfl, hG, T.clD, T.d1, df_court _ _ _ _ _ _, _, ⟨a, l, d.court, rfl, hL, rfl⟩, fun H1 s1 => ⟨_, rfl, ?_⟩⟩
    refine ite2 (fun h1 => ?_) (fun h1 => ?_)
    · have h1 : Si53.there l d.court = false := by simpa using h1
      rw [if_pos h1] at k
      exact k H1 s1
    have h1 : ¬ Si53.there l d.court = false := by simpa using h1
    rw [if_neg h1] at k
    refine ⟨_, rfl, _, rfl, _, ⟨a, c, l, d, rfl, hL.same s1, hD.same s1, rfl⟩, fun H2 s2 => ⟨_, rfl, ?_⟩⟩
    have s12 := s1.trans s2
    refine ite2 (fun h2 => ?_) (fun h2 => ?_)
    · have h2 : wellTold l d = false := by simpa using h2
      rw [if_pos h2] at k
      exact k H2 s12
    have h2 : ¬ wellTold l d = false := by simpa using h2
    rw [if_neg h2] at k
    refine ⟨_, rfl, _, rfl, _, ⟨a, c, l, d, rfl, hL.same s12, hD.same s12, rfl⟩, fun H3 s3 => ⟨_, rfl, ?_⟩⟩
    have s13 := s12.trans s3
    refine ite2 (fun h3 => ?_) (fun h3 => ?_)
    · rw [if_pos (of_decide_eq_true h3)] at k
      exact k H3 s13
    have h3 : ¬ d.day < Si53.today l := fun z => h3 (decide_eq_true z)
    rw [if_neg h3] at k
    have L3 := L.same s13
    refine ⟨_, rfl, a, CL, dx, _, _, rfl, s13 _ _ hI, T.clL, T.l3, lf_decisions _ _ _, ld, _, rfl, .inl (SqL.of L3.dl), _, _, rfl, rfl, _, rfl, ?_⟩
    refine ite2 (fun h4 => ?_) (fun h4 => ?_)
    · have h4 : (30 : Int) ≤ ((as.map V.ref).length : Int) := of_decide_eq_true h4
      rw [if_pos (by omega)] at k
      exact k H3 s13
    have h4 : ¬ (30 : Int) ≤ ((as.map V.ref).length : Int) := fun z => h4 (decide_eq_true z)
    rw [if_neg (by omega)] at k
    refine ⟨_, rfl, c, CD, gx, _, _, rfl, s13 _ _ hG, T.clD, T.d6, df_overruled _ _ _ _ _ _, o1, rfl, ⟨_, SqL.of (s13 _ _ G.ho)⟩, fun D hDn => lc_bools (K := K) (fun i => mayOver l d i) hDn (SqL.of (s13 _ _ G.ho)) (by omega) (fun _ => rfl) (fun i n H' Q' hn s4 q => ?_) (fun H' s4 hDl => ?_)⟩
    · exact ⟨_, rfl, _, rfl, _, rfl, _, ⟨a, c, l, d, n, rfl, hL.same (s13.trans s4), hD.same (s13.trans s4), rfl⟩, fun H5 s5 => q H5 s5⟩
    · refine ⟨D, _, rfl, SqL.of hDl, _, rfl, ?_⟩
      rw [all_map_id]
      have s14 := s13.trans s4
      refine ite2 (fun h5 => ?_) (fun h5 => ?_)
      · have h5 : (d.over.all fun i => mayOver l d i) = false := by simpa using h5
        rw [if_pos h5] at k
        exact k H' s14
      · have h5 : ¬ (d.over.all fun i => mayOver l d i) = false := by simpa using h5
        rw [if_neg h5] at k
        exact k H' s14
end
end CC
set_option maxHeartbeats 2000000
namespace CC
open PySem PySem.Spec PyProof.Rows L2
/-! ### slices -/
theorem cut_mid {xs : List V} {a b : Nat} (h1 : a ≤ b) (h2 : b ≤ xs.length) : cutV xs (some (a : Int)) (some (b : Int)) = (xs.drop a).take (b - a) := by
  unfold cutV
  rw [HT.sIx_nat, HT.sIx_nat, Nat.min_eq_left h2, Nat.min_eq_left (by omega)]
theorem cut_tail {xs : List V} {a : Nat} (h : a ≤ xs.length) : cutV xs (some (a : Int)) none = xs.drop a := by
  unfold cutV
  rw [HT.sIx_nat, HT.sIx_none, Nat.min_eq_left h]
  rw [List.take_of_length_le]
  rw [List.length_drop]
  exact Nat.le_refl _
theorem vN_drop (l : List Nat) (n : Nat) : (vN l).drop n = vN (l.drop n) := by
  unfold vN
  rw [List.map_drop]
theorem vN_take (l : List Nat) (n : Nat) : (vN l).take n = vN (l.take n) := by
  unfold vN
  rw [List.map_take]
/-- the numbers of decide -/
def msDec (c t : Nat) (sd : Bool) (F R O : List Nat) : List Nat := c :: t :: (if sd then 1 else 0) :: F.length :: (F ++ R.length :: (R ++ O))
section
variable (c t : Nat) (sd : Bool) (F R O : List Nat)
theorem md_len : (msDec c t sd F R O).length = 5 + F.length + R.length + O.length := by
  unfold msDec
  simp
  omega
theorem md_cut1 : ((msDec c t sd F R O).drop 4).take (4 + F.length - 4) = F := by
  have e : (msDec c t sd F R O).drop 4 = F ++ R.length :: (R ++ O) := rfl
  rw [e, show 4 + F.length - 4 = F.length by omega, List.take_left]
theorem md_at : (msDec c t sd F R O)[4 + F.length]? = some R.length := by
  have e : (msDec c t sd F R O)[4 + F.length]? = (F ++ R.length :: (R ++ O))[F.length]? := by
    unfold msDec
    rw [show 4 + F.length = F.length + 1 + 1 + 1 + 1 by omega]
    rfl
  rw [e, List.getElem?_append_right (Nat.le_refl _)]
  simp
theorem md_drop5 : (msDec c t sd F R O).drop (4 + F.length + 1) = R ++ O := by
  unfold msDec
  rw [show 4 + F.length + 1 = (F.length + 1) + 1 + 1 + 1 + 1 by omega]
  simp only [List.drop_succ_cons]
  rw [show F ++ R.length :: (R ++ O) = (F ++ [R.length]) ++ (R ++ O) by simp]
  rw [show F.length + 1 = (F ++ [R.length]).length by simp, List.drop_left]
theorem md_cut2 : ((msDec c t sd F R O).drop (4 + F.length + 1)).take (4 + F.length + 1 + R.length - (4 + F.length + 1)) = R := by
  rw [md_drop5, show 4 + F.length + 1 + R.length - (4 + F.length + 1) = R.length by omega, List.take_left]
theorem md_cut3 : (msDec c t sd F R O).drop (4 + F.length + 1 + R.length) = O := by
  rw [← List.drop_drop, md_drop5, List.drop_left]
end
section
variable {P : Program} {w : World} {K : PySem.W.Frag} {mg : Str → Option Value} {base : Heap} {CL CD : Addr}
/-! ### Decision.__init__ -/
def spDecI (CD : Addr) : Sp := fun vs H Q _ => ∃ (p dx f r o : Addr) (d : Si53.Decision), vs = [.ref p, .int (d.court : Int), .int (d.day : Int), .int (bitI d.side), .ref f, .ref r, .ref o] ∧ H p = some (.ins CD dx []) ∧
  ∀ H' : Hp, H' p = some (.ins CD dx (decF d f r o false none)) → (∀ b u, H b = some u → b ≠ p → H' b = some u) → Q .non H'
abbrev psDecI : List Str := ["self", "court", "day", "side", "findings", "reason", "overruled"]
theorem sc_decI : FnScope psDecI psDecI (defScope sDecI) := ⟨rfl, rfl, rfl, by decide +kernel, rfl, by decide +kernel, by decide +kernel⟩
theorem ok_decI {f : Addr} {fd : FuncData} (F : Fun K "__init__" "Decision.__init__" sDecI f fd) (T : Txt K mg CL CD) : FnOk P w K mg base CX0 1 f fd psDecI (spDecI CD) := by
  refine F.ok sc_decI (fun vs H Q E h => ?_) (fun cdv A outer s H vs Q E hr h => ?_)
  · obtain ⟨p, dx, f, r, o, d, rfl, _⟩ := h
    rfl
  · obtain ⟨p, dx, f1, r1, o1, d, rfl, hp, k⟩ := h
    refine ⟨_, pss_cons (ps_fld (pv 0) (pv 1) rfl) (pss_cons (ps_fld (pv 0) (pv 2) rfl) (pss_cons (ps_fld (pv 0) (pv 3) rfl) (pss_cons (ps_fld (pv 0) (pv 4) rfl) (pss_cons (ps_fld (pv 0) (pv 5) rfl) (pss_cons (ps_fld (pv 0) (pv 6) rfl) (pss_cons (ps_fld (pv 0) pe_bl rfl) (pss_one (ps_fld (pv 0) pe_non rfl)))))))), ?_⟩
    refine ⟨_, rfl, _, rfl, p, CD, dx, _, rfl, hp, T.clD, T.d1, (by show 0 < 1000; decide), ?_⟩
    refine ⟨_, rfl, _, rfl, p, CD, dx, _, rfl, upd_same, T.clD, T.d2, (by show 1 < 1000; decide), ?_⟩
    refine ⟨_, rfl, _, rfl, p, CD, dx, _, rfl, upd_same, T.clD, T.d3, (by show 2 < 1000; decide), ?_⟩
    refine ⟨_, rfl, _, rfl, p, CD, dx, _, rfl, upd_same, T.clD, T.d4, (by show 3 < 1000; decide), ?_⟩
    refine ⟨_, rfl, _, rfl, p, CD, dx, _, rfl, upd_same, T.clD, T.d5, (by show 4 < 1000; decide), ?_⟩
    refine ⟨_, rfl, _, rfl, p, CD, dx, _, rfl, upd_same, T.clD, T.d6, (by show 5 < 1000; decide), ?_⟩
    refine ⟨_, rfl, p, CD, dx, _, rfl, upd_same, T.clD, T.d7, (by show 6 < 1000; decide), ?_⟩
    refine ⟨_, rfl, p, CD, dx, _, rfl, upd_same, T.clD, T.d8, (by show 7 < 1000; decide), ?_⟩
    refine k _ ?_ fun b u e hb => ?_
    · rw [upd_same]
      rfl
    · simp only [upd_ne hb]
      exact e
/-! ### decision_told -/
/-- a class that can be made -/
def Maker (P : Program) (w : World) (K : PySem.W.Frag) (mg : Str → Option Value) (base : Heap) (C : Addr) (x : Str) (ps : List Str) (sp : Sp) : Prop :=
  ∃ f fd, Mk K C f ∧ FnOk P w K mg base CX0 1 f fd ps sp ∧ mg x = some (.ref C) ∧ Binds K fd ps []
theorem pe_makeC {X : Cx} {C : Addr} {x : Str} {ps : List Str} {sp : Sp} {e : Expr} {es : List Expr} {t : TA} {p pos : Pos} (c : Maker X.prog X.w X.K X.mg X.base C x ps sp) (hr : Room 2 X.A) (ha : PA X (e :: es) t) (hg : Gl X x := by rfl)
    (hdb : (x == ("__debug__" : Str)) = false := by decide) (he : starEach (e :: es) X.env = (false, eval e X.env) :: starEach es X.env := by rfl) (hpl : (backTo pos (starEach es X.env)).any (·.1) = false := by rfl) :
    PE X (.Call (.Name x p) (e :: es) [] pos) (tMake C sp [] E0 t) := by
  obtain ⟨f, fd, M, G, m, b⟩ := c
  exact pe_make M G hr hg m b .nil pass0 ha hdb he hpl
def spToldD (CD : Addr) : Sp := fun vs H Q _ => ∃ (a : Addr) (c t : Nat) (sd : Bool) (F R O : List Nat), vs = [.ref a] ∧ NatsAt H a (msDec c t sd F R O) ∧ F.length ≤ 15 ∧ R.length ≤ 15 ∧ O.length ≤ 15 ∧
  ∀ (H' : Hp) (p f r o : Addr), Same H H' → H p = Option.none → H f = Option.none → H r = Option.none → H o = Option.none → DecO CD H' p ⟨c, t, F, sd, R, O⟩ false none f r o → Q (.ref p) H'
theorem sc_decision_told : FnScope ["numbers", "findings_end", "reason_start", "reason_end", "findings", "reason", "overruled"] ["numbers"] (defScope s_decision_told) := ⟨rfl, rfl, rfl, by decide +kernel, rfl, by decide +kernel, by decide +kernel⟩
theorem ok_decision_told {f : Addr} {fd : FuncData} (F : Fun K "decision_told" "decision_told" s_decision_told f fd) (T : Txt K mg CL CD) (cD : Maker P w K mg base CD "Decision" psDecI (spDecI CD)) : FnOk P w K mg base CX0 3 f fd ["numbers"] (spToldD CD) := by
  refine F.ok sc_decision_told (fun vs H Q E h => ?_) (fun cdv A outer s H vs Q E hr h => ?_)
  · obtain ⟨a, c, t, sd, F, R, O, rfl, _⟩ := h
    rfl
  · obtain ⟨a, c, t, sd, FF, R, O, rfl, ha, lF, lR, lO, k⟩ := h
    have nd := sc_decision_told.nd
    refine ⟨_, pss_cons (ps_set (i := 1) nd rfl (Or.inl rfl) (pe_op op_add pe_int (pe_ix ix_list (pv 0) pe_int (fun _ _ => rfl))))
      (pss_cons (ps_set (i := 2) nd rfl (Or.inl rfl) (pe_op op_add (pv 1) pe_int))
      (pss_cons (ps_set (i := 3) nd rfl (Or.inl rfl) (pe_op op_add (pv 2) (pe_ix ix_list (pv 0) (pv 1) (fun _ _ => rfl))))
      (pss_cons (ps_set (i := 4) nd rfl (Or.inl rfl) (pe_slice sl_list (pv 0) (po_some pe_int) (po_some (pv 1))))
      (pss_cons (ps_set (i := 5) nd rfl (Or.inl rfl) (pe_slice sl_list (pv 0) (po_some (pv 2)) (po_some (pv 3))))
      (pss_cons (ps_set (i := 6) nd rfl (Or.inl rfl) (pe_slice sl_list (pv 0) (po_some (pv 3)) po_none))
      (pss_one (ps_ret (pe_makeC cD hr (pa_cons (pe_ix ix_list (pv 0) pe_int (fun _ _ => rfl)) (pa_cons (pe_ix ix_list (pv 0) pe_int (fun _ _ => rfl)) (pa_cons (pe_ix ix_list (pv 0) pe_int (fun _ _ => rfl)) (pa_cons (pv 4) (pa_cons (pv 5) (pa_cons (pv 6) pa_nil)))))))))))))), ?_⟩
    have ml := md_len c t sd FF R O
    have vl : (vN (msDec c t sd FF R O)).length = 5 + FF.length + R.length + O.length := by rw [vN_len, ml]
    refine ⟨_, rfl, a, _, _, _, rfl, rfl, SqL.of ha, at_of (j := 3) rfl (vN_get (l := msDec c t sd FF R O) (i := 3) rfl), _, _, rfl, rfl, ?_⟩
    have e1 : (4 : Int) + (FF.length : Int) = ((4 + FF.length : Nat) : Int) := by omega
    dsimp only
    rw [e1]
    refine ⟨_, rfl, _, _, rfl, rfl, ?_⟩
    have e2 : ((4 + FF.length : Nat) : Int) + 1 = ((4 + FF.length + 1 : Nat) : Int) := by omega
    dsimp only
    rw [e2]
    refine ⟨_, rfl, _, rfl, _, rfl, a, _, _, _, rfl, rfl, SqL.of ha, atI_nat (vN_get (md_at c t sd FF R O)), _, _, rfl, rfl, ?_⟩
    have e3 : ((4 + FF.length + 1 : Nat) : Int) + (R.length : Int) = ((4 + FF.length + 1 + R.length : Nat) : Int) := by omega
    dsimp only
    rw [e3]
    refine ⟨_, rfl, 4, rfl, _, rfl, _, rfl, a, _, rfl, SqL.of ha, fun p1 h1 => ?_⟩
    have c1 : cutV (vN (msDec c t sd FF R O)) (some 4) (some ((4 + FF.length : Nat) : Int)) = vN FF := by
      have := cut_mid (xs := vN (msDec c t sd FF R O)) (a := 4) (b := 4 + FF.length) (by omega) (by omega)
      rw [vN_drop, vN_take, md_cut1] at this
      exact this
    dsimp only
    rw [c1]
    have s1 : Same H (upd H p1 (.lst (vN FF))) := same_new h1 (Same.refl _)
    refine ⟨_, rfl, _, rfl, _, rfl, _, rfl, _, rfl, a, _, rfl, SqL.of (s1 _ _ ha), fun p2 h2 => ?_⟩
    have c2 : cutV (vN (msDec c t sd FF R O)) (some ((4 + FF.length + 1 : Nat) : Int)) (some ((4 + FF.length + 1 + R.length : Nat) : Int)) = vN R := by
      rw [cut_mid (by omega) (by omega), vN_drop, vN_take, md_cut2]
    dsimp only
    rw [c2]
    have s2 : Same (upd H p1 (.lst (vN FF))) (upd (upd H p1 (.lst (vN FF))) p2 (.lst (vN R))) := same_new h2 (Same.refl _)
    refine ⟨_, rfl, _, rfl, _, rfl, a, _, rfl, SqL.of (s2 _ _ (s1 _ _ ha)), fun p3 h3 => ?_⟩
    have c3 : cutV (vN (msDec c t sd FF R O)) (some ((4 + FF.length + 1 + R.length : Nat) : Int)) none = vN O := by
      rw [cut_tail (by omega), vN_drop, md_cut3]
    dsimp only
    rw [c3]
    generalize hH2 : upd (upd H p1 (.lst (vN FF))) p2 (.lst (vN R)) = H2 at *
    have s3 : Same H2 (upd H2 p3 (.lst (vN O))) := same_new h3 (Same.refl _)
    have g1 : NatsAt (upd H2 p3 (.lst (vN O))) p1 FF := s3 _ _ (s2 _ _ upd_same)
    have g2 : NatsAt (upd H2 p3 (.lst (vN O))) p2 R := s3 _ _ (by rw [← hH2]; exact upd_same)
    have g3 : NatsAt (upd H2 p3 (.lst (vN O))) p3 O := upd_same
    have s13 : Same H (upd H2 p3 (.lst (vN O))) := (s1.trans s2).trans s3
    have n2 : H p2 = Option.none := s1.free h2
    have n3 : H p3 = Option.none := (s1.trans s2).free h3
    generalize upd H2 p3 (.lst (vN O)) = H3 at *
    have ga := SqL.of (K := K) (s13 _ _ ha)
    refine ⟨_, rfl, a, _, _, _, rfl, rfl, ga, at_of (j := 0) rfl (vN_get (l := msDec c t sd FF R O) (i := 0) rfl), _, rfl, a, _, _, _, rfl, rfl, ga, at_of (j := 1) rfl (vN_get (l := msDec c t sd FF R O) (i := 1) rfl), _, rfl, a, _, _, _, rfl, rfl, ga, at_of (j := 2) rfl (vN_get (l := msDec c t sd FF R O) (i := 2) rfl), _, rfl, _, rfl, _, rfl, ?_⟩
    intro x dx nx ndx nex
    have eb : V.int ((if sd then 1 else 0 : Nat) : Int) = V.int (bitI sd) := by cases sd <;> rfl
    refine ⟨x, dx, p1, p2, p3, ⟨c, t, FF, sd, R, O⟩, ?_, upd_same, fun H4 hx4 keep => ⟨rfl, ?_⟩⟩
    · show [V.ref x, V.int (c : Int), V.int (t : Int), V.int ((if sd then 1 else 0 : Nat) : Int), V.ref p1, V.ref p2, V.ref p3] = _
      rw [eb]
    · have s4 : Same H3 H4 := Same.made nx ndx keep
      exact k H4 x p1 p2 p3 (s13.trans s4) (s13.free nx) h1 n2 n3 ⟨⟨dx, hx4⟩, s4 _ _ g1, s4 _ _ g2, s4 _ _ g3, lF, lR, lO⟩
end
end CC
set_option maxHeartbeats 2000000
namespace CC
open PySem PySem.Spec PyProof.Rows L2
section
variable {P : Program} {w : World} {K : PySem.W.Frag} {mg : Str → Option Value} {base : Heap} {CL CD : Addr}
/-! ### missing_of_reason -/
def spMissing (CD : Addr) : Sp := spN fun vs H ns => ∃ (c p : Addr) (d : Si53.Decision) (fs : List Nat), vs = [.ref c, .ref p] ∧ DecIs CD H c d ∧ NatsAt H p fs ∧ ns = Si53.missing d fs
theorem sc_missing : FnScope ["decision", "findings", "kind"] ["decision", "findings"] (defScope s_missing_of_reason) := ⟨rfl, rfl, rfl, by decide +kernel, rfl, by decide +kernel, by decide +kernel⟩
theorem ok_missing {f : Addr} {fd : FuncData} (F : Fun K "missing_of_reason" "missing_of_reason" s_missing_of_reason f fd) (T : Txt K mg CL CD) : FnOk P w K mg base CX0 1 f fd ["decision", "findings"] (spMissing CD) := by
  refine F.ok sc_missing (fun vs H Q E h => ?_) (fun cdv A outer s H vs Q E hr h => ?_)
  · obtain ⟨b, ⟨c, p, d, fs, rfl, _⟩, _⟩ := h
    rfl
  · obtain ⟨b, ⟨c, p, d, fs, rfl, ⟨b1, t1, f1, r1, o1, G⟩, hp, rfl⟩, k⟩ := h
    obtain ⟨gx, hG⟩ := G.ins
    have lr := G.lr
    refine ⟨_, pss_one (ps_ret (pe_lc (own := [("kind", 2)]) rfl sc_missing.nd (pi_list (pe_fld (pv 0) rfl)) (blkOk_by (N := ["decision", "findings", "kind"]) (sc := defScope s_missing_of_reason) (by decide +kernel))
      (fun _ _ _ _ _ => pg_name (i := 2) sc_missing.nd rfl (Or.inl rfl)) (fun _ _ _ _ _ => pts_one (pt_cmpR (op_notInK (K := K) rfl) (pv 2) (pv 1) rfl)) (fun _ _ _ _ _ => pv 2))), ?_⟩
    refine ⟨_, rfl, c, CD, gx, _, _, rfl, hG, T.clD, T.d5, df_reason _ _ _ _ _ _, r1, rfl, ⟨_, SqL.of G.hr⟩, fun D hD => lc_keep (K := K) (fun n => !fs.contains n) hD (SqL.of G.hr) (by omega) (fun _ => rfl) (hi_of (n := 3) rfl (by decide)) (fun i n H' Q' hn s1 q => ?_) (fun H' s1 hDl => ?_)⟩
    · refine ⟨_, rfl, _, rfl, p, _, rfl, .inl (SqL.of (s1 _ _ hp)), rfl, vN_flat _, _, rfl, ?_⟩
      show Q' (!inV (V.int (n : Int)) (vN fs)) H'
      rw [vN_in]
      exact q H' (Same.refl _)
    · exact k H' D s1 hD hDl
/-! ### new_against -/
def spAgainst (CL CD : Addr) : Sp := spN fun vs H ns => ∃ (a c p : Addr) (l : Si53.Land) (d : Si53.Decision) (fs : List Nat), vs = [.ref a, .ref c, .ref p] ∧ LandIs CL CD H a l ∧ DecIs CD H c d ∧ NatsAt H p fs ∧ fs.length ≤ 1000 ∧ (∀ x ∈ fs, x < l.speaks.length) ∧ ns = Si53.unlike l d fs
theorem sc_against : FnScope ["land", "decision", "findings", "kind"] ["land", "decision", "findings"] (defScope s_new_against) := ⟨rfl, rfl, rfl, by decide +kernel, rfl, by decide +kernel, by decide +kernel⟩
theorem ok_against {f : Addr} {fd : FuncData} (F : Fun K "new_against" "new_against" s_new_against f fd) (T : Txt K mg CL CD) : FnOk P w K mg base CX0 1 f fd ["land", "decision", "findings"] (spAgainst CL CD) := by
  refine F.ok sc_against (fun vs H Q E h => ?_) (fun cdv A outer s H vs Q E hr h => ?_)
  · obtain ⟨b, ⟨a, c, p, l, d, fs, rfl, _⟩, _⟩ := h
    rfl
  · obtain ⟨b, ⟨a, c, p, l, d, fs, rfl, hL, hD0, hp, hl, hlt, rfl⟩, k⟩ := h
    refine ⟨_, pss_one (ps_ret (pe_lc (own := [("kind", 3)]) rfl sc_against.nd (pi_list (pv 2)) (blkOk_by (N := ["land", "decision", "findings", "kind"]) (sc := defScope s_new_against) (by decide +kernel))
      (fun _ _ _ _ _ => pg_name (i := 3) sc_against.nd rfl (Or.inl rfl))
      (fun _ _ _ _ _ => pts_one (pw_and (pt_cmpR op_ne (pe_ix (ix_listK (K := K) rfl) (pe_fldK (K := K) rfl (pv 0) rfl) (pv 3) (fun _ _ => rfl)) (pe_fldK (K := K) rfl (pv 1) rfl) (nomark _)) (pw_and1 (pt_cmpR (op_notInK (K := K) rfl) (pv 3) (pe_fldK (K := K) rfl (pv 1) rfl) rfl))).pt)
      (fun _ _ _ _ _ => pv 3))), ?_⟩
    rw [unlike_eq] at k
    refine ⟨_, rfl, p, rfl, ⟨_, SqL.of hp⟩, fun D hD => lc_keep (K := K) (fun x => (!(l.speaks.getD x true == d.side)) && !d.facts.contains x) hD (SqL.of hp) (by omega) (fun _ => rfl) (hi_of (n := 4) rfl (by decide)) (fun i n H' Q' hn s1 q => ?_) (fun H' s1 hDl => ?_)⟩
    · obtain ⟨GG, bs, ts, ls, lu, ld, as, L⟩ := hL.same s1
      obtain ⟨dx, hI⟩ := L.ins
      obtain ⟨b1, t1, f1, r1, o1, G⟩ := hD0.same s1
      obtain ⟨gx, hG⟩ := G.ins
      have hn' := hlt n (List.mem_of_getElem? hn)
      refine ⟨_, rfl, a, CL, dx, _, _, rfl, hI, T.clL, T.l1, lf_sides _ _ _, _, rfl, ls, _, _, _, rfl, rfl, SqL.of L.sd, atI_nat (vS_get hn'), _, rfl, c, CD, gx, _, _, rfl, hG, T.clD, T.d3, df_side _ _ _ _ _ _, rfl, _, rfl, ?_⟩
      rw [bit_eq]
      refine ite2 (fun h1 => ?_) (fun h1 => ?_)
      · refine ⟨_, rfl, _, rfl, c, CD, gx, _, _, rfl, hG, T.clD, T.d4, df_findings _ _ _ _ _ _, f1, _, rfl, .inl (SqL.of G.hf), rfl, vN_flat _, _, rfl, ?_⟩
        show Q' (!inV (V.int (n : Int)) (vN d.facts)) H'
        rw [vN_in]
        have := q H' (Same.refl _)
        rw [h1, Bool.true_and] at this
        exact this
      · have h1 : (!(l.speaks.getD n true == d.side)) = false := by simpa using h1
        have := q H' (Same.refl _)
        rw [h1, Bool.false_and] at this
        exact this
    · exact k H' D s1 hD hDl
/-! ### forces -/
def spForces (CL CD : Addr) : Sp := spB fun vs H b => ∃ (a c p : Addr) (l : Si53.Land) (d : Si53.Decision) (fs : List Nat), vs = [.ref a, .ref c, .ref p] ∧ LandIs CL CD H a l ∧ DecIs CD H c d ∧ NatsAt H p fs ∧ fs.length ≤ 1000 ∧ (∀ x ∈ fs, x < l.speaks.length) ∧ b = Si53.forces l d fs
theorem sc_forces : FnScope ["land", "decision", "findings"] ["land", "decision", "findings"] (defScope s_forces) := ⟨rfl, rfl, rfl, by decide +kernel, rfl, by decide +kernel, by decide +kernel⟩
theorem len_pos (xs : List Nat) : decide ((0 : Int) < ((vN xs).length : Int)) = !xs.isEmpty := by
  rw [vN_len]
  cases xs with
  | nil => rfl
  | cons a r =>
    rw [decide_eq_true]
    · rfl
    · rw [List.length_cons]
      omega
theorem len_zero (xs : List Nat) : decide (V.int ((vN xs).length : Int) = V.int 0) = xs.isEmpty := by
  rw [dec_int, vN_len]
  cases xs with
  | nil => rfl
  | cons a r =>
    refine (beq_eq_false_iff_ne.mpr ?_).trans rfl
    rw [List.length_cons]
    omega
theorem ok_forces {f : Addr} {fd : FuncData} (F : Fun K "forces" "forces" s_forces f fd) (T : Txt K mg CL CD) (cM : Callee P w K mg base 1 "missing_of_reason" ["decision", "findings"] (spMissing CD)) (cA : Callee P w K mg base 1 "new_against" ["land", "decision", "findings"] (spAgainst CL CD)) :
    FnOk P w K mg base CX0 2 f fd ["land", "decision", "findings"] (spForces CL CD) := by
  refine F.ok sc_forces (fun vs H Q E h => ?_) (fun cdv A outer s H vs Q E hr h => ?_)
  · obtain ⟨b, ⟨a, c, p, l, d, fs, rfl, _⟩, _⟩ := h
    rfl
  · obtain ⟨b, ⟨a, c, p, l, d, fs, rfl, hL, hD, hp, hl, hlt, rfl⟩, k⟩ := h
    refine ⟨_, pss_cons (ps_if (pt_cmpR op_gt (pe_callB call_len_seq (by rfl) T.len PySem.boot_len (pa_cons (pe_callC cM hr (pa_cons (pv 1) (pa_cons (pv 2) pa_nil))) pa_nil)) pe_int (nomark _)) (pss_one (ps_ret pe_bl)) pss_nil)
      (pss_one (ps_ret (pe_cmpR op_eq (pe_callB call_len_seq (by rfl) T.len PySem.boot_len (pa_cons (pe_callC cA hr (pa_cons (pv 0) (pa_cons (pv 1) (pa_cons (pv 2) pa_nil)))) pa_nil)) pe_int (nomark _)))), ?_⟩
    rw [forces_eq] at k
    refine ⟨_, rfl, _, rfl, _, ⟨c, p, d, fs, rfl, hD, hp, rfl⟩, fun H1 m s1 hm hml => ⟨m, _, rfl, .inl (SqL.of hml), _, _, rfl, rfl, _, rfl, ?_⟩⟩
    rw [len_pos]
    refine ite2 (fun h1 => ?_) (fun h1 => ?_)
    · have h1 : (Si53.missing d fs).isEmpty = false := by simpa using h1
      rw [h1, Bool.false_and] at k
      exact k H1 s1
    · have h1 : (Si53.missing d fs).isEmpty = true := by simpa using h1
      rw [h1, Bool.true_and] at k
      refine ⟨_, rfl, _, rfl, _, rfl, _, ⟨a, c, p, l, d, fs, rfl, hL.same s1, hD.same s1, s1 _ _ hp, hl, hlt, rfl⟩, fun H2 u s2 hu hul => ⟨u, _, rfl, .inl (SqL.of hul), rfl, ?_⟩⟩
      show Q (.bl (decide (V.int ((vN (Si53.unlike l d fs)).length : Int) = V.int 0))) H2
      rw [len_zero]
      exact k H2 (s1.trans s2)
/-! ### forcing -/
def forcingOf (l : Si53.Land) (ns fs : List Nat) : List Nat := ns.filter fun k => Si53.forces l (Si53.decision l k) fs
def spForcing (CL CD : Addr) : Sp := spN fun vs H rs => ∃ (a c p : Addr) (l : Si53.Land) (ns fs : List Nat), vs = [.ref a, .ref c, .ref p] ∧ LandIs CL CD H a l ∧ NatsAt H c ns ∧ ns.length ≤ 1000 ∧ (∀ x ∈ ns, x < l.decisions.length) ∧ NatsAt H p fs ∧ fs.length ≤ 1000 ∧ (∀ x ∈ fs, x < l.speaks.length) ∧ rs = forcingOf l ns fs
theorem sc_forcing : FnScope ["land", "numbers", "findings", "k"] ["land", "numbers", "findings"] (defScope s_forcing) := ⟨rfl, rfl, rfl, by decide +kernel, rfl, by decide +kernel, by decide +kernel⟩
theorem ok_forcing {f : Addr} {fd : FuncData} (F : Fun K "forcing" "forcing" s_forcing f fd) (T : Txt K mg CL CD) (cF : Callee P w K mg base 2 "forces" ["land", "decision", "findings"] (spForces CL CD)) : FnOk P w K mg base CX0 3 f fd ["land", "numbers", "findings"] (spForcing CL CD) := by
  refine F.ok sc_forcing (fun vs H Q E h => ?_) (fun cdv A outer s H vs Q E hr h => ?_)
  · obtain ⟨b, ⟨a, c, p, l, ns, fs, rfl, _⟩, _⟩ := h
    rfl
  · obtain ⟨b, ⟨a, c, p, l, ns, fs, rfl, hL, hc, hnl, hns, hp, hl, hlt, rfl⟩, k⟩ := h
    refine ⟨_, pss_one (ps_ret (pe_lc (own := [("k", 3)]) rfl sc_forcing.nd (pi_list (pv 1)) (blkOk_by (N := ["land", "numbers", "findings", "k"]) (sc := defScope s_forcing) (by decide +kernel))
      (fun _ _ _ _ _ => pg_name (i := 3) sc_forcing.nd rfl (Or.inl rfl))
      (fun _ _ _ _ _ => pts_one (pt_val (pe_callC cF hr (pa_cons (pv 0) (pa_cons (pe_ix (ix_listK (K := K) rfl) (pe_fldK (K := K) rfl (pv 0) rfl) (pv 3) (fun _ _ => rfl)) (pa_cons (pv 2) pa_nil))))))
      (fun _ _ _ _ _ => pv 3))), ?_⟩
    refine ⟨_, rfl, c, rfl, ⟨_, SqL.of hc⟩, fun D hD => lc_keep (K := K) (fun k => Si53.forces l (Si53.decision l k) fs) hD (SqL.of hc) (by omega) (fun _ => rfl) (hi_of (n := 4) rfl (by decide)) (fun i n H' Q' hn s1 q => ?_) (fun H' s1 hDl => ?_)⟩
    · have hL1 := hL.same s1
      obtain ⟨GG, bs, ts, ls, lu, ld, as, L⟩ := id hL1
      obtain ⟨dx, hI⟩ := L.ins
      have hn' := hns n (List.mem_of_getElem? hn)
      obtain ⟨cn, hcn⟩ : ∃ cn, as[n]? = some cn := ⟨_, List.getElem?_eq_getElem (by rw [L.len]; exact hn')⟩
      refine ⟨_, rfl, _, rfl, a, CL, dx, _, _, rfl, hI, T.clL, T.l3, lf_decisions _ _ _, _, rfl, ld, _, _, _, rfl, rfl, SqL.of L.dl, atI_nat (by rw [List.getElem?_map, hcn]; rfl), _, rfl, _, ⟨a, cn, p, l, _, fs, rfl, hL1, L.dec hcn, s1 _ _ hp, hl, hlt, rfl⟩, fun H2 s2 => ⟨_, rfl, q H2 s2⟩⟩
    · exact k H' D s1 hD hDl
/-! ### is_any_forcing -/
def spAnyF (CL CD : Addr) : Sp := spB fun vs H b => ∃ (a c p : Addr) (l : Si53.Land) (ns fs : List Nat), vs = [.ref a, .ref c, .ref p] ∧ LandIs CL CD H a l ∧ NatsAt H c ns ∧ ns.length ≤ 1000 ∧ (∀ x ∈ ns, x < l.decisions.length) ∧ NatsAt H p fs ∧ fs.length ≤ 1000 ∧ (∀ x ∈ fs, x < l.speaks.length) ∧ b = anyF l ns fs
theorem sc_anyF : FnScope ["land", "numbers", "findings", "k"] ["land", "numbers", "findings"] (defScope s_is_any_forcing) := ⟨rfl, rfl, rfl, by decide +kernel, rfl, by decide +kernel, by decide +kernel⟩
theorem ok_anyF {f : Addr} {fd : FuncData} (F : Fun K "is_any_forcing" "is_any_forcing" s_is_any_forcing f fd) (T : Txt K mg CL CD) (cF : Callee P w K mg base 2 "forces" ["land", "decision", "findings"] (spForces CL CD)) : FnOk P w K mg base CX0 3 f fd ["land", "numbers", "findings"] (spAnyF CL CD) := by
  refine F.ok sc_anyF (fun vs H Q E h => ?_) (fun cdv A outer s H vs Q E hr h => ?_)
  · obtain ⟨b, ⟨a, c, p, l, ns, fs, rfl, _⟩, _⟩ := h
    rfl
  · obtain ⟨b, ⟨a, c, p, l, ns, fs, rfl, hL, hc, hnl, hns, hp, hl, hlt, rfl⟩, k⟩ := h
    refine ⟨_, pss_cons (ps_for PassesOwn.never rfl (pi_list (pv 1)) (pg_name (i := 3) sc_anyF.nd rfl (Or.inl rfl))
        (pss_one (ps_if (pt_val (pe_callC cF hr (pa_cons (pv 0) (pa_cons (pe_ix ix_list (pe_fld (pv 0) rfl) (pv 3) (fun _ _ => rfl)) (pa_cons (pv 2) pa_nil))))) (pss_one (ps_ret pe_bl)) pss_nil)))
      (pss_one (ps_ret pe_bl)), ?_⟩
    refine ⟨_, rfl, c, rfl, ⟨_, SqL.of hc⟩, for_list (K := K) (a := c) (xs := vN ns) (fun i σ H' => ∃ v3 : Option V, σ = [some (.ref a), some (.ref c), some (.ref p), v3] ∧ Same H H' ∧ anyF l (ns.take i) fs = false)
      ⟨none, rfl, Same.refl _, rfl⟩ (fun i σ H' _ ⟨_, _, s3, _⟩ => SqL.of (s3 _ _ hc)) ?_ ?_⟩
    · rintro i x σ H' hi ⟨v3, rfl, s1, inv⟩
      obtain ⟨n, hn, rfl⟩ := vN_got hi
      have hL1 := hL.same s1
      obtain ⟨GG, bs, ts, ls, lu, ld, as, L⟩ := id hL1
      obtain ⟨dx, hI⟩ := L.ins
      have hn' := hns n (List.mem_of_getElem? hn)
      obtain ⟨cn, hcn⟩ : ∃ cn, as[n]? = some cn := ⟨_, List.getElem?_eq_getElem (by rw [L.len]; exact hn')⟩
      refine ⟨_, rfl, _, rfl, a, CL, dx, _, _, rfl, hI, T.clL, T.l3, lf_decisions _ _ _, _, rfl, ld, _, _, _, rfl, rfl, SqL.of L.dl, atI_nat (by rw [List.getElem?_map, hcn]; rfl), _, rfl, _, ⟨a, cn, p, l, _, fs, rfl, hL1, L.dec hcn, s1 _ _ hp, hl, hlt, rfl⟩, fun H2 s2 => ⟨_, rfl, ?_⟩⟩
      refine ite2 (fun h1 => ?_) (fun h1 => ?_)
      · have e : anyF l ns fs = true := by
          unfold anyF
          rw [List.any_eq_true]
          exact ⟨n, List.mem_of_getElem? hn, h1⟩
        rw [e] at k
        exact k H2 (s1.trans s2)
      · have h1 : Si53.forces l (Si53.decision l n) fs = false := by simpa using h1
        refine ⟨_, rfl, s1.trans s2, ?_⟩
        unfold anyF at inv ⊢
        rw [List.take_add_one, hn, List.any_append, inv, Bool.false_or]
        simp [h1]
    · rintro σ H' ⟨v3, rfl, s1, inv⟩
      rw [vN_len, List.take_length] at inv
      rw [inv] at k
      exact k H' s1
end
end CC
set_option maxHeartbeats 2000000
namespace CC
open PySem PySem.Spec PyProof.Rows L2
theorem while_n {c : TT} {tb : TS} {D : Ends} {σ : L2.St} {H : Hp} (Pv : Nat → L2.St → Hp → Prop) (m0 : Nat) (h0 : Pv m0 σ H)
    (hs : ∀ m σ H, Pv m σ H → c σ H fun b H1 => if b = true then tb { D with nx := fun σ' H' => ∃ m', m' < m ∧ Pv m' σ' H', ct := fun σ' H' => ∃ m', m' < m ∧ Pv m' σ' H', bk := D.nx } σ H1 else D.nx σ H1)
    (mono : ∀ σ H Q Q', (∀ b H1, Q b H1 → Q' b H1) → c σ H Q → c σ H Q') : tWhile c tb D σ H := by
  refine ⟨Pv, ⟨m0, h0⟩, fun m σ H p => mono σ H _ _ (fun b H1 q => ?_) (hs m σ H p)⟩
  cases b with
  | true => exact ⟨_, fun σ' H' h => h, q⟩
  | false => exact q
/-! ### lists of lists -/
def ListsOf (H : Hp) (as : List Addr) (ls : List (List Nat)) : Prop := as.length = ls.length ∧ ∀ (i : Nat) (c : Addr) (s : List Nat), as[i]? = some c → ls[i]? = some s → NatsAt H c s
theorem ListsOf.to {H H' : Hp} {as : List Addr} {ls : List (List Nat)} (h : ListsOf H as ls) (e : ∀ c ∈ as, ∀ o, H c = some o → H' c = some o) : ListsOf H' as ls :=
  ⟨h.1, fun i c s hc hs => e c (List.mem_of_getElem? hc) _ (h.2 i c s hc hs)⟩
theorem ListsOf.same {H H' : Hp} {as : List Addr} {ls : List (List Nat)} (h : ListsOf H as ls) (e : Same H H') : ListsOf H' as ls := h.to fun c _ o => e c o
theorem ListsOf.snoc {H : Hp} {as : List Addr} {ls : List (List Nat)} {c : Addr} {s : List Nat} (h : ListsOf H as ls) (hc : NatsAt H c s) : ListsOf H (as ++ [c]) (ls ++ [s]) := by
  refine ⟨by simp [h.1], fun i d t hd ht => ?_⟩
  rcases Nat.lt_or_ge i as.length with z | z
  · rw [List.getElem?_append_left z] at hd
    rw [List.getElem?_append_left (by rw [← h.1]; exact z)] at ht
    exact h.2 i d t hd ht
  · have hi := (List.getElem?_eq_some_iff.mp hd).1
    simp at hi
    have e : i = as.length := by omega
    subst e
    have e1 : c = d := by simpa using hd
    rw [h.1] at ht
    have e2 : s = t := by simpa using ht
    rw [← e1, ← e2]
    exact hc
theorem longer_take {ls : List (List Nat)} {ks : List Nat} {i : Nat} {s : List Nat} (h : ls[i]? = some s) : longer (ls.take (i + 1)) ks = longer (ls.take i) ks ++ ext ks s := by
  unfold longer
  rw [List.take_add_one, h, List.flatMap_append]
  simp
theorem ext_take {ks : List Nat} {j n : Nat} {s : List Nat} (h : ks[j]? = some n) : ext (ks.take (j + 1)) s = ext (ks.take j) s ++ (if nextOk s n = true then [s ++ [n]] else []) := by
  unfold ext
  rw [List.take_add_one, h, List.filter_append, List.map_append]
  congr 1
  cases q : nextOk s n <;> simp [q]
theorem ext_take_len (ks : List Nat) (j : Nat) (s : List Nat) : (ext (ks.take j) s).length ≤ (ext ks s).length := by
  unfold ext
  rw [List.length_map, List.length_map]
  exact (List.Sublist.filter _ (List.take_sublist _ _)).length_le
theorem longer_take_len (ls : List (List Nat)) (ks : List Nat) (i : Nat) : (longer (ls.take i) ks).length ≤ (longer ls ks).length := by
  unfold longer
  conv => rhs; rw [← List.take_append_drop i ls, List.flatMap_append, List.length_append]
  omega
theorem find_take {p : List Nat → Bool} {xs : List (List Nat)} {i : Nat} {s : List Nat} (h : (xs.take i).find? p = none) (hs : xs[i]? = some s) (hp : p s = true) : xs.find? p = some s := by
  have e : xs = xs.take i ++ s :: xs.drop (i + 1) := by
    have := List.getElem?_eq_some_iff.mp hs
    obtain ⟨hi, e⟩ := this
    rw [← e, ← List.drop_eq_getElem_cons hi, List.take_append_drop]
  rw [e, List.find?_append, h, List.find?_cons, hp]
  rfl
theorem find_take_none {p : List Nat → Bool} {xs : List (List Nat)} {i : Nat} {s : List Nat} (h : (xs.take i).find? p = none) (hs : xs[i]? = some s) (hp : p s = false) : (xs.take (i + 1)).find? p = none := by
  rw [List.take_add_one, hs, List.find?_append, h]
  simp [hp]
section
variable {P : Program} {w : World} {K : PySem.W.Frag} {mg : Str → Option Value} {base : Heap} {CL CD : Addr}
/-! ### each_one_longer -/
def spLonger : Sp := fun vs H Q _ => ∃ (q m : Addr) (as : List Addr) (ls : List (List Nat)) (ks : List Nat), vs = [.ref q, .ref m] ∧ H q = some (.lst (as.map V.ref)) ∧ ListsOf H as ls ∧ NatsAt H m ks ∧ (∀ s ∈ ls, s.length ≤ 1000) ∧ (longer ls ks).length ≤ 100000 ∧
  ∀ (H' : Hp) (p : Addr) (bs : List Addr), Same H H' → H' p = some (.lst (bs.map V.ref)) → ListsOf H' bs (longer ls ks) → Q (.ref p) H'
theorem sc_longer : FnScope ["lists", "kinds", "longer", "some", "kind"] ["lists", "kinds"] (defScope s_each_one_longer) := ⟨rfl, rfl, rfl, by decide +kernel, rfl, by decide +kernel, by decide +kernel⟩
theorem big_line {n : Nat} (h : n ≤ 1000000) : n < sizeLine := Nat.lt_of_le_of_lt h (by decide)
theorem refs_got {as : List Addr} {i : Nat} {x : V} (h : (as.map V.ref)[i]? = some x) : ∃ c, as[i]? = some c ∧ x = V.ref c := by
  rw [List.getElem?_map] at h
  cases e : as[i]? with
  | none => rw [e] at h; cases h
  | some c => rw [e] at h; exact ⟨c, rfl, (Option.some.inj h).symm⟩
theorem ok_longer {f : Addr} {fd : FuncData} (F : Fun K "each_one_longer" "each_one_longer" s_each_one_longer f fd) (T : Txt K mg CL CD) : FnOk P w K mg base CX0 1 f fd ["lists", "kinds"] spLonger := by
  refine F.ok sc_longer (fun vs H Q E h => ?_) (fun cdv A outer s H vs Q E hr h => ?_)
  · obtain ⟨q, m, as, ls, ks, rfl, _⟩ := h
    rfl
  · obtain ⟨q, m, as, ls, ks, rfl, hq, hA, hm, h1000, hbig, k⟩ := h
    have nd := sc_longer.nd
    refine ⟨_, pss_cons (ps_set (i := 2) nd rfl (Or.inl rfl) (pe_lst pa_nil))
      (pss_cons (ps_for PassesOwn.never rfl (pi_list (pv 0)) (pg_name (i := 3) nd rfl (Or.inl rfl))
        (pss_one (ps_for PassesOwn.never rfl (pi_list (pv 1)) (pg_name (i := 4) nd rfl (Or.inl rfl))
          (pss_one (ps_if (pw_or (pt_cmpR op_eq (pe_callB call_len_seq (by rfl) T.len PySem.boot_len (pa_cons (pv 3) pa_nil)) pe_int (nomark _)) (pw_or1 (pt_cmpR op_gt (pv 4) (pe_ix ix_list (pv 3) (pe_un un_neg pe_int) (fun _ _ => rfl)) (nomark _)))).pt
            (pss_one (ps_expr (pe_bm PySem.F.plainAttrs_list PySem.F.slot_list_append PySem.F.type_list_append mt_append (pv 2) (pa_cons (pe_op op_cat (pv 3) (pe_lst (pa_cons (pv 4) pa_nil))) pa_nil)))) pss_nil)))))
      (pss_one (ps_ret (pv 2)))), ?_⟩
    refine ⟨Nat.zero_le _, fun p hp => ?_⟩
    have s0 : Same H (upd H p (.lst [])) := same_new hp (Same.refl _)
    have hlen : as.length = ls.length := hA.1
    refine ⟨_, rfl, q, rfl, ⟨_, SqL.of (s0 _ _ hq)⟩, for_list (K := K) (a := q) (xs := as.map V.ref) (fun i σ H' => ∃ (v3 v4 : Option V) (bs : List Addr), σ = [some (.ref q), some (.ref m), some (.ref p), v3, v4] ∧ Same H H' ∧ H' p = some (.lst (bs.map V.ref)) ∧ ListsOf H' bs (longer (ls.take i) ks) ∧ ∀ c ∈ bs, c ≠ p)
      ⟨none, none, [], rfl, s0, upd_same, ⟨rfl, fun i c s hc => by simp at hc⟩, fun c hc => by simp at hc⟩ (fun i σ H' _ ⟨_, _, _, _, s3, _⟩ => SqL.of (s3 _ _ hq)) ?_ ?_⟩
    · rintro i x σ H1 hi ⟨v3, v4, bs, rfl, s1, hp1, hB1, hne1⟩
      obtain ⟨c, hc, rfl⟩ := refs_got hi
      have hil : i < ls.length := by rw [← hlen]; exact (List.getElem?_eq_some_iff.mp hc).1
      obtain ⟨s, hs⟩ : ∃ s, ls[i]? = some s := ⟨_, List.getElem?_eq_getElem hil⟩
      have hcs : NatsAt H c s := hA.2 i c s hc hs
      have hsl := h1000 s (List.mem_of_getElem? hs)
      have e1 := longer_take (ks := ks) hs
      have l1 := longer_take_len ls ks (i + 1)
      rw [e1, List.length_append] at l1
      refine ⟨_, rfl, m, rfl, ⟨_, SqL.of (s1 _ _ hm)⟩, for_list (K := K) (a := m) (xs := vN ks) (fun j σ H' => ∃ (v4 : Option V) (bs : List Addr), σ = [some (.ref q), some (.ref m), some (.ref p), some (.ref c), v4] ∧ Same H H' ∧ H' p = some (.lst (bs.map V.ref)) ∧ ListsOf H' bs (longer (ls.take i) ks ++ ext (ks.take j) s) ∧ ∀ c ∈ bs, c ≠ p)
        ⟨v4, bs, rfl, s1, hp1, by rw [List.take_zero]; simpa [ext] using hB1, hne1⟩ (fun j σ H' _ ⟨_, _, _, s3, _⟩ => SqL.of (s3 _ _ hm)) ?_ ?_⟩
      · rintro j x σ H2 hj ⟨v4, bs, rfl, s2, hp2, hB2, hne2⟩
        obtain ⟨n, hn, rfl⟩ := vN_got hj
        have hc2 : NatsAt H2 c s := s2 _ _ hcs
        have tl : ∀ Q' : Bool → Hp → Prop, Q' (nextOk s n) H2 →
            tOr (tTest (tOp rEq (tCB (fun xs H Q => ∃ p ys, xs = [.ref p] ∧ (SqL K H p ys ∨ SqT K H p ys) ∧ Q (.int ys.length) H) (tCons (tVar 3) tNil)) (tC (.int 0)))) (tTest (tOp (rI0 fun i j => .bl (decide (j < i))) (tVar 4) (tOp (rIxL K) (tVar 3) (tUn (rU fun i => .int (-i)) (tC (.int 1))))))
              [some (.ref q), some (.ref m), some (.ref p), some (.ref c), some (.int (n : Int))] H2 Q' := by
          intro Q' hq'
          refine ⟨_, rfl, c, _, rfl, .inl (SqL.of hc2), rfl, _, rfl, ?_⟩
          rw [len_zero]
          refine ite2 (fun h0 => ?_) (fun h0 => ?_)
          · have e : s = [] := by simpa using h0
            subst e
            exact hq'
          · have e : s ≠ [] := by simpa using h0
            refine ⟨_, rfl, _, rfl, _, rfl, c, _, _, _, rfl, rfl, SqL.of hc2, at_last (v := V.int (s.getLast e : Int)) ?_, _, _, rfl, rfl, _, rfl, ?_⟩
            · rw [vN_len]
              refine vN_get ?_
              rw [← List.getLast?_eq_getElem?, List.getLast?_eq_some_getLast e]
            · have e2 : decide ((s.getLast e : Int) < (n : Int)) = nextOk s n := by rw [lt_nat, nextOk_last e]
              show Q' (decide ((s.getLast e : Int) < (n : Int))) H2
              rw [e2]
              exact hq'
        refine tl _ ?_
        have e2 := ext_take (s := s) hn
        have l2 := ext_take_len ks (j + 1) s
        refine ite2 (fun h1 => ?_) (fun h1 => ?_)
        · rw [h1, if_pos rfl] at e2
          have bl : bs.length ≤ 100000 := by
            rw [hB2.1, List.length_append]
            rw [e2, List.length_append] at l2
            omega
          refine ⟨_, rfl, .inl ⟨rfl, _, SqL.of hp2⟩, _, rfl, _, rfl, (by show 1 ≤ sizeLine; decide), fun x hx => ?_⟩
          have s3 : Same H2 (upd H2 x (.lst [V.int (n : Int)])) := same_new hx (Same.refl _)
          refine ⟨c, x, _, _, rfl, rfl, s3 _ _ hc2, upd_same, ?_, fun y hy => ?_⟩
          · rw [vN_len]
            exact Nat.le_of_lt (big_line (by simp; omega))
          · have hy' : H2 y = Option.none := s3.free hy
            generalize hH3 : upd H2 x (.lst [V.int (n : Int)]) = H3 at *
            have s4 : Same H3 (upd H3 y (.lst (vN s ++ [V.int (n : Int)]))) := same_new hy (Same.refl _)
            have hyv : (upd H3 y (.lst (vN s ++ [V.int (n : Int)]))) y = some (.lst (vN (s ++ [n]))) := by rw [upd_same, vN_snoc]
            generalize upd H3 y (.lst (vN s ++ [V.int (n : Int)])) = H4 at *
            have s24 := s3.trans s4
            have hp4 := s24 _ _ hp2
            have hyp : y ≠ p := fun e => by
              rw [e, hp2] at hy'
              cases hy'
            refine ⟨p, _, _, rfl, rfl, hp4, big_line (by rw [List.length_map]; omega), ?_⟩
            refine ⟨_, bs ++ [y], rfl, same_new hp (s2.trans s24), ?_, ?_, fun d hd => ?_⟩
            · rw [upd_same, List.map_append]
              rfl
            · rw [e2, ← List.append_assoc]
              have hB4 := hB2.same s24
              have both : ListsOf H4 (bs ++ [y]) ((longer (ls.take i) ks ++ ext (ks.take j) s) ++ [s ++ [n]]) := hB4.snoc hyv
              refine both.to fun d hd o ho => ?_
              rw [upd_ne]
              · exact ho
              · rcases List.mem_append.mp hd with z | z
                · exact hne2 d z
                · have : d = y := by simpa using z
                  rw [this]
                  exact hyp
            · rcases List.mem_append.mp hd with z | z
              · exact hne2 d z
              · have : d = y := by simpa using z
                rw [this]
                exact hyp
        · rw [if_neg h1, List.append_nil] at e2
          exact ⟨_, bs, rfl, s2, hp2, by rw [e2]; exact hB2, hne2⟩
      · rintro σ H2 ⟨v4, bs, rfl, s2, hp2, hB2, hne2⟩
        rw [vN_len, List.take_length] at hB2
        exact ⟨_, _, bs, rfl, s2, hp2, by rw [e1]; exact hB2, hne2⟩
    · rintro σ H1 ⟨v3, v4, bs, rfl, s1, hp1, hB1, hne1⟩
      rw [List.length_map, hlen, List.take_length] at hB1
      exact ⟨_, rfl, k H1 p bs s1 hp1 hB1⟩
/-! ### fewest_that_free -/
def spFewest (CL CD : Addr) : Sp := fun vs H Q _ => ∃ (a c p m : Addr) (l : Si53.Land) (ns fs ms : List Nat), vs = [.ref a, .ref c, .ref p, .ref m] ∧ LandIs CL CD H a l ∧ NatsAt H c ns ∧ ns.length ≤ 1000 ∧ (∀ x ∈ ns, x < l.decisions.length) ∧ NatsAt H p fs ∧ fs.length ≤ 15 ∧ (∀ x ∈ fs, x < l.speaks.length) ∧
  NatsAt H m ms ∧ ms.length ≤ 10 ∧ (∀ x ∈ ms, x < l.speaks.length) ∧ Rises ms ∧ (fewest l ns fs ms = none → ∀ H' : Hp, Same H H' → Q .non H') ∧ (∀ x, fewest l ns fs ms = some x → x.length ≤ 10 → ∀ (H' : Hp) (q : Addr), Same H H' → NatsAt H' q x → Q (.ref q) H')
theorem sc_fewest : FnScope ["land", "numbers", "findings", "spare", "tried", "more"] ["land", "numbers", "findings", "spare"] (defScope s_fewest_that_free) := ⟨rfl, rfl, rfl, by decide +kernel, rfl, by decide +kernel, by decide +kernel⟩
theorem ok_fewest {f : Addr} {fd : FuncData} (F : Fun K "fewest_that_free" "fewest_that_free" s_fewest_that_free f fd) (T : Txt K mg CL CD) (cF : Callee P w K mg base 3 "is_any_forcing" ["land", "numbers", "findings"] (spAnyF CL CD)) (cE : Callee P w K mg base 1 "each_one_longer" ["lists", "kinds"] spLonger) :
    FnOk P w K mg base CX0 4 f fd ["land", "numbers", "findings", "spare"] (spFewest CL CD) := by
  refine F.ok sc_fewest (fun vs H Q E h => ?_) (fun cdv A outer s H vs Q E hr h => ?_)
  · obtain ⟨a, c, p, m, l, ns, fs, ms, rfl, _⟩ := h
    rfl
  · obtain ⟨a, c, p, m, l, ns, fs, ms, rfl, hL, hc, hcl, hcn, hp, hpl, hpn, hm, hml, hmn, hR, kN, kS⟩ := h
    have nd := sc_fewest.nd
    refine ⟨_, pss_cons (ps_set (i := 4) nd rfl (Or.inl rfl) (pe_lst (pa_cons (pe_lst pa_nil) pa_nil)))
      (pss_cons (ps_while PassesOwn.never (pt_cmpR op_gt (pe_callB call_len_seq (by rfl) T.len PySem.boot_len (pa_cons (pv 4) pa_nil)) pe_int (nomark _))
        (pss_cons (ps_for PassesOwn.never rfl (pi_list (pv 4)) (pg_name (i := 5) nd rfl (Or.inl rfl))
          (pss_one (ps_if (pt_not (pt_val (pe_callC cF hr (pa_cons (pv 0) (pa_cons (pv 1) (pa_cons (pe_op op_cat (pv 2) (pv 5)) pa_nil)))))) (pss_one (ps_ret (pv 5))) pss_nil)))
        (pss_one (ps_set (i := 4) nd rfl (Or.inl rfl) (pe_callC cE (hr.mono (by decide)) (pa_cons (pv 4) (pa_cons (pv 3) pa_nil)))))))
      (pss_one (ps_ret pe_non))), ?_⟩
    refine ⟨Nat.zero_le _, fun x hx => ⟨(by show 1 ≤ sizeLine; decide), fun q0 hq0 => ?_⟩⟩
    have s0 : Same H (upd H x (.lst [])) := same_new hx (Same.refl _)
    have s1 : Same (upd H x (.lst [])) (upd (upd H x (.lst [])) q0 (.lst [V.ref x])) := same_new hq0 (Same.refl _)
    have hx1 : NatsAt (upd (upd H x (.lst [])) q0 (.lst [V.ref x])) x [] := s1 _ _ upd_same
    have hq1 : (upd (upd H x (.lst [])) q0 (.lst [V.ref x])) q0 = some (.lst [V.ref x]) := upd_same
    generalize upd (upd H x (.lst [])) q0 (.lst [V.ref x]) = H1 at *
    have s01 := s0.trans s1
    have e0 : Si53.choose 0 ms = [[]] := by cases ms <;> rfl
    refine while_n (fun mm σ H' => ∃ (k : Nat) (q : Addr) (as : List Addr) (v5 : Option V), mm + k = 20 ∧ k ≤ ms.length + 1 ∧ σ = [some (.ref a), some (.ref c), some (.ref p), some (.ref m), some (.ref q), v5] ∧ Same H H' ∧ H' q = some (.lst (as.map V.ref)) ∧ ListsOf H' as (Si53.choose k ms) ∧ ∀ j, j < k → (Si53.choose j ms).find? (frees l ns fs) = none) 20 ?_ ?_ ?_
    · refine ⟨0, q0, [x], none, rfl, Nat.zero_le _, rfl, s01, hq1, ⟨by rw [e0]; rfl, fun i d t hd ht => ?_⟩, fun j hj => absurd hj (Nat.not_lt_zero _)⟩
      rw [e0] at ht
      cases i with
      | zero =>
        have e1 : x = d := by simpa using hd
        have e2 : ([] : List Nat) = t := by simpa using ht
        rw [← e1, ← e2]
        exact hx1
      | succ i => simp at hd
    · rintro mm σ H2 ⟨k, q, as, v5, hmk, hk, rfl, s2, hq2, hA2, hbefore⟩
      refine ⟨_, rfl, q, _, rfl, .inl (SqL.of hq2), _, _, rfl, rfl, _, rfl, ?_⟩
      have al : as.length = (Si53.choose k ms).length := hA2.1
      refine ite2 (fun h1 => ?_) (fun h1 => ?_)
      · have h1 : (0 : Int) < ((as.map V.ref).length : Int) := of_decide_eq_true h1
        rw [List.length_map] at h1
        have hne : Si53.choose k ms ≠ [] := fun z => by
          rw [z] at al
          rw [al] at h1
          exact absurd h1 (by decide)
        have hkm : k ≤ ms.length := by
          rcases Nat.lt_or_ge ms.length k with z | z
          · exact absurd (choose_none k ms z) hne
          · exact z
        refine ⟨_, rfl, q, rfl, ⟨_, SqL.of hq2⟩, for_list (K := K) (a := q) (xs := as.map V.ref) (fun i σ H' => ∃ (v5 : Option V), σ = [some (.ref a), some (.ref c), some (.ref p), some (.ref m), some (.ref q), v5] ∧ Same H2 H' ∧ ((Si53.choose k ms).take i).find? (frees l ns fs) = none)
          ⟨v5, rfl, Same.refl _, rfl⟩ (fun i σ H' _ ⟨_, _, s3, _⟩ => SqL.of (s3 _ _ hq2)) ?_ ?_⟩
        · rintro i x σ H3 hi ⟨v5, rfl, s3, inv⟩
          obtain ⟨d, hd, rfl⟩ := refs_got hi
          have hil : i < (Si53.choose k ms).length := by rw [← al]; exact (List.getElem?_eq_some_iff.mp hd).1
          obtain ⟨t, ht⟩ : ∃ t, (Si53.choose k ms)[i]? = some t := ⟨_, List.getElem?_eq_getElem hil⟩
          obtain ⟨tl, tm⟩ := choose_mem k ms t (List.mem_of_getElem? ht)
          have s23 := s2.trans s3
          have hd3 : NatsAt H3 d t := s3 _ _ (hA2.2 i d t hd ht)
          refine ⟨_, rfl, _, rfl, _, rfl, _, rfl, p, d, _, _, rfl, rfl, s23 _ _ hp, hd3, ?_, fun y hy => ?_⟩
          · rw [vN_len, vN_len]
            exact Nat.le_of_lt (lt_line (by omega))
          have s4 : Same H3 (upd H3 y (.lst (vN fs ++ vN t))) := same_new hy (Same.refl _)
          have hy4 : NatsAt (upd H3 y (.lst (vN fs ++ vN t))) y (fs ++ t) := by
            show upd _ y _ y = _
            rw [upd_same]
            unfold vN
            rw [List.map_append]
          generalize upd H3 y (.lst (vN fs ++ vN t)) = H4 at *
          have s24 := s23.trans s4
          refine ⟨_, ⟨a, c, y, l, ns, fs ++ t, rfl, hL.same s24, s24 _ _ hc, hcl, hcn, hy4, (by rw [List.length_append]; omega), fun z hz => ?_, rfl⟩, fun H5 s5 => ⟨_, rfl, ?_⟩⟩
          · rcases List.mem_append.mp hz with w | w
            · exact hpn z w
            · exact hmn z (tm z w)
          have s25 := s24.trans s5
          refine ite2 (fun h2 => ?_) (fun h2 => ?_)
          · have hf := fewest_some hne hbefore (find_take inv ht h2)
            exact ⟨_, rfl, kS t hf (by omega) H5 d s25 (s5 _ _ (s4 _ _ hd3))⟩
          · have h2 : frees l ns fs t = false := by
              cases z : frees l ns fs t with
              | false => rfl
              | true => exact absurd z h2
            exact ⟨_, rfl, (s3.trans s4).trans s5, find_take_none inv ht h2⟩
        · rintro σ H3 ⟨v5, rfl, s3, inv⟩
          rw [List.length_map, al, List.take_length] at inv
          have s23 := s2.trans s3
          have e1 := choose_longer ms hR k
          have sz := choose_size (k + 1) ms
          have pw : 2 ^ ms.length ≤ 2 ^ 10 := Nat.pow_le_pow_right (by decide) hml
          refine ⟨_, rfl, _, rfl, ⟨q, m, as, Si53.choose k ms, ms, rfl, s3 _ _ hq2, hA2.same s3, s23 _ _ hm, fun t ht => ?_, ?_, fun H4 q' bs s4 hq4 hB4 => ?_⟩⟩
          · have := (choose_mem k ms t ht).1
            omega
          · rw [e1]
            omega
          · rw [e1] at hB4
            refine ⟨mm - 1, by omega, k + 1, q', bs, _, by omega, by omega, rfl, s23.trans s4, hq4, hB4, fun j hj => ?_⟩
            rcases Nat.lt_or_ge j k with z | z
            · exact hbefore j z
            · have : j = k := by omega
              rw [this]
              exact inv
      · have h1 : ¬ (0 : Int) < ((as.map V.ref).length : Int) := fun z => h1 (decide_eq_true z)
        rw [List.length_map] at h1
        have hz : Si53.choose k ms = [] := List.length_eq_zero_iff.mp (by omega)
        exact kN (fewest_none hz hbefore) H2 s2
    · rintro σ H' Q1 Q2 hq ⟨v, e, p, ys, x1, x2, i, j, ei, ej, c, ec, z⟩
      exact ⟨v, e, p, ys, x1, x2, i, j, ei, ej, c, ec, hq _ _ z⟩
end
end CC
set_option maxHeartbeats 2000000
namespace CC
open PySem PySem.Spec PyProof.Rows L2
section
variable {P : Program} {w : World} {K : PySem.W.Frag} {mg : Str → Option Value} {base : Heap} {CL CD : Addr}
/-! ### a land apart from all else -/
def LandIn (CL CD : Addr) (G H : Hp) (a : Addr) (l : Si53.Land) : Prop := ∃ bs ts ls lu ld as, LandAt CL CD G H a l bs ts ls lu ld as
theorem LandIn.is {G H : Hp} {a : Addr} {l : Si53.Land} (h : LandIn CL CD G H a l) : LandIs CL CD H a l := ⟨G, h⟩
/-- what is apart may change -/
theorem LandIn.keep {G G' H H' : Hp} {a : Addr} {l : Si53.Land} (h : LandIn CL CD G H a l) (hG : ∀ b, G b = Option.none → G' b = Option.none) (e : ∀ b o, H b = some o → G b = Option.none → H' b = some o) : LandIn CL CD G' H' a l := by
  obtain ⟨bs, ts, ls, lu, ld, as, L⟩ := h
  obtain ⟨dx, h1⟩ := L.ins
  obtain ⟨ga, gs, gu, gd, gc⟩ := L.own
  refine ⟨bs, ts, ls, lu, ld, as, ⟨⟨⟨dx, e _ _ h1 ga⟩, e _ _ L.sd gs, e _ _ L.up gu, e _ _ L.dl gd, L.len, L.nd, fun i c hc => ?_, L.ne, ⟨hG _ ga, hG _ gs, hG _ gu, hG _ gd, fun c hc => hG _ (gc c hc)⟩⟩, L.wf, L.hi⟩⟩
  obtain ⟨f, r, o, D, z, g1, g2, g3⟩ := (L.at_ i c hc).ex
  obtain ⟨gx, hx⟩ := D.ins
  exact ⟨f, r, o, ⟨⟨gx, e _ _ hx (gc c (List.mem_of_getElem? hc))⟩, e _ _ D.hf g1, e _ _ D.hr g2, e _ _ D.ho g3, D.lf, D.lr, D.lo⟩, z, hG _ g1, hG _ g2, hG _ g3⟩
theorem LandIn.same {G H H' : Hp} {a : Addr} {l : Si53.Land} (h : LandIn CL CD G H a l) (e : Same H H') : LandIn CL CD G H' a l := h.keep (fun _ z => z) fun b o z _ => e b o z
/-! ### the promise of each answerer -/
/-- the numbers of an answer -/
def ansI (r : Si53.Ans) : List Int := r.v :: r.l
def spAns (CL CD : Addr) (n : Nat) : Sp := fun vs H Q _ => ∃ (a b : Addr) (l : Si53.Land) (ms : List Nat) (q : Si53.Call) (G : Hp), vs = [.ref a, .ref b] ∧ LandIn CL CD G H a l ∧ Same G H ∧ NatsAt H b ms ∧ Kind (n :: ms) q ∧
  ∀ (H' : Hp) (p : Addr), Same G H' → LandIn CL CD G H' a (Si53.step l q).1 → G p = Option.none → H' p = some (.lst ((ansI (Si53.step l q).2).map V.int)) → Q (.ref p) H'
theorem ints_cons (z : Int) (l : List Nat) : ((z :: Si53.ints l).map V.int) = V.int z :: vN l := by
  unfold Si53.ints vN
  rw [List.map_cons, List.map_map]
  rfl
/-! ### answer_stands -/
theorem sc_answer_stands : FnScope ["land", "numbers", "decision"] ["land", "numbers"] (defScope s_answer_stands) := ⟨rfl, rfl, rfl, by decide +kernel, rfl, by decide +kernel, by decide +kernel⟩
theorem ok_answer_stands {f : Addr} {fd : FuncData} (F : Fun K "answer_stands" "answer_stands" s_answer_stands f fd) (T : Txt K mg CL CD) (cN : Callee P w K mg base 1 "is_decision" ["land", "number"] (spIsDec CL CD)) (cS : Callee P w K mg base 1 "stands_on" ["land", "decision", "day"] (spStandsOn CL CD)) : FnOk P w K mg base CX0 2 f fd ["land", "numbers"] (spAns CL CD 3) := by
  refine F.ok sc_answer_stands (fun vs H Q E h => ?_) (fun cdv A outer s H vs Q E hr h => ?_)
  · obtain ⟨a, b, l, ms, q, G, rfl, _⟩ := h
    rfl
  · obtain ⟨a, b, l, ms, q, G, rfl, hLa, sGa, hba, hk, k⟩ := h
    cases hk with
    | stands i t =>
    obtain ⟨t7, m7⟩ := T.c7
    have nd := sc_answer_stands.nd
    refine ⟨_, pss_cons (ps_if (pt_not (pt_val (pe_callC cN hr (pa_cons (pv 0) (pa_cons (pe_ix ix_list (pv 1) pe_int (fun _ _ => rfl)) pa_nil))))) (pss_one (ps_ret (pe_lst (pa_cons (pe_glob (v := .int (-2)) rfl m7 ⟨t7, rfl⟩) pa_nil)))) pss_nil)
      (pss_cons (ps_set (i := 2) nd rfl (Or.inl rfl) (pe_ix ix_list (pe_fld (pv 0) rfl) (pe_ix ix_list (pv 1) pe_int (fun _ _ => rfl)) (fun _ _ => rfl)))
      (pss_one (ps_ret (pe_lst (pa_cons (pe_ifExp (pt_val (pe_callC cS hr (pa_cons (pv 0) (pa_cons (pv 2) (pa_cons (pe_ix ix_list (pv 1) pe_int (fun _ _ => rfl)) pa_nil))))) pe_int pe_int) pa_nil))))), ?_⟩
    have b0 : atI (vN [i, t]) 0 = some (V.int (i : Int)) := at_of (j := 0) rfl rfl
    have b1 : atI (vN [i, t]) 1 = some (V.int (t : Int)) := at_of (j := 1) rfl rfl
    refine ⟨_, rfl, _, rfl, b, _, _, _, rfl, rfl, SqL.of hba, b0, _, ⟨a, l, i, rfl, hLa.is, rfl⟩, fun H0 s0 => ⟨_, rfl, ?_⟩⟩
    have hL := hLa.same s0
    have sG := sGa.trans s0
    have hb : NatsAt H0 b [i, t] := s0 _ _ hba
    obtain ⟨bs, ts, ls, lu, ld, as, L⟩ := id hL
    obtain ⟨dx, hI⟩ := L.ins
    have hlen : (as.map V.ref).length = l.decisions.length := by rw [List.length_map, L.len]
    refine ite2 (fun h1 => ?_) (fun h1 => ?_)
    · have h1 : l.decisions.length ≤ i := by simpa using h1
      have es : Si53.step l (.stands i t) = (l, Si53.ok (-2)) := by
        show (l, if l.decisions.length ≤ i then Si53.ok (-2) else _) = _
        rw [if_pos h1]
      rw [es] at k
      refine ⟨(by show 1 ≤ sizeLine; decide), fun p hp => ?_⟩
      have s1 : Same H0 (upd H0 p (.lst [V.int (-2)])) := same_new hp (Same.refl _)
      exact k _ p (sG.trans s1) (hL.same s1) (sG.free hp) upd_same
    · have hi : i < l.decisions.length := by simpa using h1
      obtain ⟨cn, hcn⟩ : ∃ cn, as[i]? = some cn := ⟨_, List.getElem?_eq_getElem (by rw [L.len]; exact hi)⟩
      have es : Si53.step l (.stands i t) = (l, Si53.ok (if onDay l bs ts t i = true then 1 else 0)) := by
        show (l, if l.decisions.length ≤ i then Si53.ok (-2) else Si53.ok (if (Si53.stands l t).contains i = true then 1 else 0)) = _
        rw [if_neg (by omega), stands_contains L.wf.days L.hi, decide_eq_true hi, Bool.true_and]
      rw [es] at k
      refine ⟨_, rfl, a, CL, dx, _, _, rfl, hI, T.clL, T.l3, lf_decisions _ _ _, _, rfl, b, _, _, _, rfl, rfl, SqL.of hb, b0, ld, _, _, _, rfl, rfl, SqL.of L.dl, atI_nat (by rw [List.getElem?_map, hcn]; rfl), ?_⟩
      refine ⟨_, rfl, _, rfl, _, rfl, b, _, _, _, rfl, rfl, SqL.of hb, b1, _, ⟨a, cn, t, i, l, G, bs, ts, ls, lu, ld, as, rfl, L, hcn, rfl⟩, fun H1 s1 => ⟨_, rfl, ?_⟩⟩
      refine ite2 (fun h2 => ?_) (fun h2 => ?_)
      · rw [if_pos h2] at k
        refine ⟨(by show 1 ≤ sizeLine; decide), fun p hp => ?_⟩
        have s2 : Same H1 (upd H1 p (.lst [V.int 1])) := same_new hp (Same.refl _)
        exact k _ p (sG.trans (s1.trans s2)) (hL.same (s1.trans s2)) ((sG.trans s1).free hp) upd_same
      · rw [if_neg h2] at k
        refine ⟨(by show 1 ≤ sizeLine; decide), fun p hp => ?_⟩
        have s2 : Same H1 (upd H1 p (.lst [V.int 0])) := same_new hp (Same.refl _)
        exact k _ p (sG.trans (s1.trans s2)) (hL.same (s1.trans s2)) ((sG.trans s1).free hp) upd_same
/-! ### answer_binds -/
theorem sc_answer_binds : FnScope ["land", "numbers", "bound_by"] ["land", "numbers"] (defScope s_answer_binds) := ⟨rfl, rfl, rfl, by decide +kernel, rfl, by decide +kernel, by decide +kernel⟩
theorem ok_answer_binds {f : Addr} {fd : FuncData} (F : Fun K "answer_binds" "answer_binds" s_answer_binds f fd) (T : Txt K mg CL CD) (cC : Callee P w K mg base 1 "is_court" ["land", "court"] (spIsCourt CL CD)) (cB : Callee P w K mg base 3 "binding" ["land", "court", "day"] (spBinding CL CD)) : FnOk P w K mg base CX0 4 f fd ["land", "numbers"] (spAns CL CD 4) := by
  refine F.ok sc_answer_binds (fun vs H Q E h => ?_) (fun cdv A outer s H vs Q E hr h => ?_)
  · obtain ⟨a, b, l, ms, q, G, rfl, _⟩ := h
    rfl
  · obtain ⟨a, b, l, ms, q, G, rfl, hL, sG, hb, hk, k⟩ := h
    cases hk with
    | binds c t =>
    obtain ⟨bs, ts, ls, lu, ld, as, L⟩ := id hL
    obtain ⟨t7, m7⟩ := T.c7
    have nd := sc_answer_binds.nd
    have h30 := L.wf.nd
    have h0 : PlainIx (Expr.Constant (Const.int 0) 0 ⟨0, 0, 0, 0⟩) := fun _ _ => rfl
    refine ⟨_, pss_cons (ps_if (pt_not (pt_val (pe_callC cC (hr.mono (by decide)) (pa_cons (pv 0) (pa_cons (pe_ix ix_list (pv 1) pe_int (fun _ _ => rfl)) pa_nil))))) (pss_one (ps_ret (pe_lst (pa_cons (pe_glob (v := .int (-2)) rfl m7 ⟨t7, rfl⟩) pa_nil)))) pss_nil)
      (pss_cons (ps_set (i := 2) nd rfl (Or.inl rfl) (pe_callC cB hr (pa_cons (pv 0) (pa_cons (pe_ix ix_list (pv 1) pe_int (fun _ _ => rfl)) (pa_cons (pe_ix ix_list (pv 1) pe_int (fun _ _ => rfl)) pa_nil)))))
      (pss_one (ps_ret (pe_op op_cat (pe_lst (pa_cons (pe_callB call_len_seq (by rfl) T.len PySem.boot_len (pa_cons (pv 2) pa_nil)) pa_nil)) (pv 2))))), ?_⟩
    have b0 : atI (vN [c, t]) 0 = some (V.int (c : Int)) := at_of (j := 0) rfl rfl
    have b1 : atI (vN [c, t]) 1 = some (V.int (t : Int)) := at_of (j := 1) rfl rfl
    refine ⟨_, rfl, _, rfl, b, _, _, _, rfl, rfl, SqL.of hb, b0, _, ⟨a, l, c, rfl, hL.is, rfl⟩, fun H1 s1 => ⟨_, rfl, ?_⟩⟩
    refine ite2 (fun h1 => ?_) (fun h1 => ?_)
    · have h1 : Si53.there l c = false := by simpa using h1
      have es : Si53.step l (.binds c t) = (l, Si53.ok (-2)) := by
        show (l, if Si53.there l c = false then Si53.ok (-2) else _) = _
        rw [if_pos h1]
      rw [es] at k
      refine ⟨(by show 1 ≤ sizeLine; decide), fun p hp => ?_⟩
      have s2 : Same H1 (upd H1 p (.lst [V.int (-2)])) := same_new hp (Same.refl _)
      exact k _ p (sG.trans (s1.trans s2)) (hL.same (s1.trans s2)) ((sG.trans s1).free hp) upd_same
    · have h1 : Si53.there l c = true := by simpa using h1
      have hc : c < l.courts.length := of_decide_eq_true h1
      have es : Si53.step l (.binds c t) = (l, Si53.listed (Si53.binds l c t)) := by
        show (l, if Si53.there l c = false then Si53.ok (-2) else _) = _
        rw [if_neg (by rw [h1]; simp)]
      rw [es] at k
      refine ⟨_, rfl, _, rfl, b, _, _, _, rfl, rfl, SqL.of (s1 _ _ hb), b0, _, rfl, b, _, _, _, rfl, rfl, SqL.of (s1 _ _ hb), b1, _, ⟨a, c, t, l, rfl, (hL.same s1).is, hc, rfl⟩, fun H2 q s2 hq hql => ?_⟩
      refine ⟨_, rfl, q, _, rfl, .inl (SqL.of hql), (by show 1 ≤ sizeLine; decide), fun p hp => ?_⟩
      have s12 := s1.trans s2
      generalize hH3 : upd H2 p (.lst [V.int ((vN (Si53.binds l c t)).length : Int)]) = H3
      have s3 : Same H2 H3 := by rw [← hH3]; exact same_new hp (Same.refl _)
      have hp3 : H3 p = some (.lst [V.int ((vN (Si53.binds l c t)).length : Int)]) := by rw [← hH3]; exact upd_same
      have bl : (Si53.binds l c t).length ≤ 30 := by
        have a1 := List.length_filter_le (fun i => Si53.over l (Si53.decision l i).court c) (Si53.stands l t)
        have a2 := stands_len L.wf.days L.hi t
        unfold Si53.binds
        omega
      refine ⟨_, rfl, p, q, _, _, rfl, rfl, hp3, s3 _ _ hql, ?_, fun z hz => ?_⟩
      · rw [vN_len]
        exact Nat.le_of_lt (lt_line (by simp; omega))
      · have s4 : Same H3 (upd H3 z (.lst ([V.int ((vN (Si53.binds l c t)).length : Int)] ++ vN (Si53.binds l c t)))) := same_new hz (Same.refl _)
        have s14 := s12.trans (s3.trans s4)
        refine k _ z (sG.trans s14) (hL.same s14) ((sG.trans (s12.trans s3)).free hz) ?_
        rw [upd_same]
        show some (HO.lst _) = some (HO.lst (((Si53.binds l c t).length : Int) :: Si53.ints (Si53.binds l c t) |>.map V.int))
        rw [ints_cons, vN_len]
        rfl
/-! ### answer_court -/
theorem upOf_if (u : Nat) : upOf (if u = 0 then none else some (u - 1)) = u := by
  by_cases h : u = 0
  · rw [if_pos h, h]; rfl
  · rw [if_neg h]
    show u - 1 + 1 = u
    omega
theorem land_court {G H : Hp} {a : Addr} {l : Si53.Land} {bs : List Bool} {ts : List (Option Nat)} {ls lu ld : Addr} {as : List Addr} {u : Nat} (L : LandAt CL CD G H a l bs ts ls lu ld as) (hu : u ≤ l.courts.length) (h8 : l.courts.length < 8) :
    LandIn CL CD G (upd H lu (.lst (vU l.courts ++ [V.int (u : Int)]))) a (court1 l u) := by
  obtain ⟨dx, hI⟩ := L.ins
  have hal : a ≠ lu := ne_of hI L.up (by intro z; cases z)
  have hcl : ∀ (i : Nat) (c : Addr), as[i]? = some c → c ≠ lu := fun i c hc => by
    obtain ⟨f, r, o, D, z⟩ := (L.at_ i c hc).ex
    obtain ⟨gx, hx⟩ := D.ins
    exact ne_of hx L.up (by intro z; cases z)
  refine ⟨bs, ts, ls, lu, ld, as, ⟨⟨⟨dx, by rw [upd_ne hal]; exact hI⟩, by rw [upd_ne L.ne.1.symm]; exact L.sd, ?_, by rw [upd_ne L.ne.2.2.symm]; exact L.dl, L.len, L.nd, fun i c hc => ?_, L.ne, L.own⟩, wf_court L.wf hu h8, hist_court L.wf L.hi u⟩⟩
  · rw [upd_same]
    show some (HO.lst (vU l.courts ++ [V.int (u : Int)])) = some (HO.lst (vU (l.courts ++ [if u = 0 then none else some (u - 1)])))
    unfold vU
    rw [List.map_append, List.map_cons, List.map_nil, upOf_if]
  · obtain ⟨f, r, o, D, z, g⟩ := (L.at_ i c hc).ex
    obtain ⟨gx, hx⟩ := D.ins
    exact ⟨f, r, o, ⟨⟨gx, by rw [upd_ne (hcl i c hc)]; exact hx⟩, by show upd _ _ _ _ = _; rw [upd_ne z.1]; exact D.hf, by show upd _ _ _ _ = _; rw [upd_ne z.2.2.1]; exact D.hr, by show upd _ _ _ _ = _; rw [upd_ne z.2.2.2.2.1]; exact D.ho, D.lf, D.lr, D.lo⟩, z, g⟩
theorem sc_answer_court : FnScope ["land", "numbers", "upper"] ["land", "numbers"] (defScope s_answer_court) := ⟨rfl, rfl, rfl, by decide +kernel, rfl, by decide +kernel, by decide +kernel⟩
theorem ok_answer_court {f : Addr} {fd : FuncData} (F : Fun K "answer_court" "answer_court" s_answer_court f fd) (T : Txt K mg CL CD) (cC : Callee P w K mg base 1 "is_court" ["land", "court"] (spIsCourt CL CD)) : FnOk P w K mg base CX0 2 f fd ["land", "numbers"] (spAns CL CD 1) := by
  refine F.ok sc_answer_court (fun vs H Q E h => ?_) (fun cdv A outer s H vs Q E hr h => ?_)
  · obtain ⟨a, b, l, ms, q, G, rfl, _⟩ := h
    rfl
  · obtain ⟨a, b, l, ms, q, G, rfl, hL, sG, hb, hk, k⟩ := h
    cases hk with
    | court u =>
    obtain ⟨t7, m7⟩ := T.c7
    obtain ⟨t9, m9⟩ := T.c9
    obtain ⟨t2, m2⟩ := T.c2
    have nd := sc_answer_court.nd
    refine ⟨_, pss_cons (ps_set (i := 2) nd rfl (Or.inl rfl) (pe_ix ix_list (pv 1) pe_int (fun _ _ => rfl)))
      (pss_cons (ps_if (pw_and (pt_cmpR op_ne (pv 2) pe_int (nomark _)) (pw_and1 (pt_not (pt_val (pe_callC cC hr (pa_cons (pv 0) (pa_cons (pe_op op_sub (pv 2) pe_int) pa_nil))))))).pt (pss_one (ps_ret (pe_lst (pa_cons (pe_glob (v := .int (-2)) rfl m7 ⟨t7, rfl⟩) pa_nil)))) pss_nil)
      (pss_cons (ps_if (pt_cmpR op_ge (pe_callB call_len_seq (by rfl) T.len PySem.boot_len (pa_cons (pe_fld (pv 0) rfl) pa_nil)) (pe_glob (v := .int 8) rfl m2 ⟨t2, rfl⟩) (nomark _)) (pss_one (ps_ret (pe_lst (pa_cons (pe_glob (v := .int (-5)) rfl m9 ⟨t9, rfl⟩) pa_nil)))) pss_nil)
      (pss_cons (ps_expr (pe_bm PySem.F.plainAttrs_list PySem.F.slot_list_append PySem.F.type_list_append mt_append (pe_fld (pv 0) rfl) (pa_cons (pv 2) pa_nil)))
      (pss_one (ps_ret (pe_lst (pa_cons (pe_op op_sub (pe_callB call_len_seq (by rfl) T.len PySem.boot_len (pa_cons (pe_fld (pv 0) rfl) pa_nil)) pe_int) pa_nil))))))), ?_⟩
    have b0 : atI (vN [u]) 0 = some (V.int (u : Int)) := at_of (j := 0) rfl rfl
    refine ⟨_, rfl, b, _, _, _, rfl, rfl, SqL.of hb, b0, ?_⟩
    have tl : ∀ Q' : Bool → Hp → Prop, (∀ H1 : Hp, Same H H1 → Q' (decide (l.courts.length < u)) H1) →
        tAnd (tTest (tOp rNe (tVar 2) (tC (.int 0)))) (tNot (tB (tCall (spIsCourt CL CD) [] E0 (tCons (tVar 0) (tCons (tOp (rI0 fun i j => .int (i - j)) (tVar 2) (tC (.int 1))) tNil))))) [some (.ref a), some (.ref b), some (.int (u : Int))] H Q' := by
      intro Q' hq
      refine ⟨_, rfl, rfl, _, rfl, ?_⟩
      refine ite2 (fun h0 => ?_) (fun h0 => ?_)
      · have hne : u ≠ 0 := fun z => by
          subst z
          simp at h0
        obtain ⟨v, rfl⟩ : ∃ v, u = v + 1 := ⟨u - 1, by omega⟩
        have ev : ((v + 1 : Nat) : Int) - 1 = (v : Int) := by omega
        refine ⟨_, rfl, _, rfl, _, _, rfl, rfl, _, ⟨a, l, v, (by show [V.ref a, V.int (((v + 1 : Nat) : Int) - 1)] = _; rw [ev]), hL.is, rfl⟩, fun H1 s1 => ⟨_, rfl, ?_⟩⟩
        have e : (!Si53.there l v) = decide (l.courts.length < v + 1) := by
          unfold Si53.there
          rw [Bool.eq_iff_iff]
          simp
          omega
        show Q' (!Si53.there l v) H1
        rw [e]
        exact hq H1 s1
      · have hz : u = 0 := by
          rcases Nat.eq_zero_or_pos u with z | z
          · exact z
          · exfalso
            apply h0
            simp
            omega
        subst hz
        have e : decide (l.courts.length < 0) = false := by simp
        rw [e] at hq
        exact hq H (Same.refl _)
    refine tl _ fun H1 s1 => ?_
    have hL1 := hL.same s1
    refine ite2 (fun h1 => ?_) (fun h1 => ?_)
    · have h1 := of_decide_eq_true h1
      have es : Si53.step l (.court u) = (l, Si53.ok (-2)) := by
        show (if l.courts.length < u then (l, Si53.ok (-2)) else _) = _
        rw [if_pos h1]
      rw [es] at k
      refine ⟨(by show 1 ≤ sizeLine; decide), fun p hp => ?_⟩
      have s2 : Same H1 (upd H1 p (.lst [V.int (-2)])) := same_new hp (Same.refl _)
      exact k _ p (sG.trans (s1.trans s2)) (hL1.same s2) ((sG.trans s1).free hp) upd_same
    have h1 : ¬ l.courts.length < u := fun z => h1 (decide_eq_true z)
    obtain ⟨bs, ts, ls, lu, ld, as, L⟩ := id hL1
    obtain ⟨dx, hI⟩ := L.ins
    have hul : (vU l.courts).length = l.courts.length := by unfold vU; rw [List.length_map]
    refine ⟨_, rfl, a, CL, dx, _, _, rfl, hI, T.clL, T.l2, lf_uppers _ _ _, lu, _, rfl, .inl (SqL.of L.up), _, _, rfl, rfl, _, rfl, ?_⟩
    refine ite2 (fun h2 => ?_) (fun h2 => ?_)
    · have h2 : (8 : Int) ≤ ((vU l.courts).length : Int) := of_decide_eq_true h2
      have es : Si53.step l (.court u) = (l, Si53.ok (-5)) := by
        show (if l.courts.length < u then (l, Si53.ok (-2)) else if 8 ≤ l.courts.length then (l, Si53.ok (-5)) else _) = _
        rw [if_neg h1, if_pos (by omega)]
      rw [es] at k
      refine ⟨(by show 1 ≤ sizeLine; decide), fun p hp => ?_⟩
      have s2 : Same H1 (upd H1 p (.lst [V.int (-5)])) := same_new hp (Same.refl _)
      exact k _ p (sG.trans (s1.trans s2)) (hL1.same s2) ((sG.trans s1).free hp) upd_same
    have h2 : ¬ (8 : Int) ≤ ((vU l.courts).length : Int) := fun z => h2 (decide_eq_true z)
    have es : Si53.step l (.court u) = (court1 l u, Si53.ok (l.courts.length : Int)) := by
      show (if l.courts.length < u then (l, Si53.ok (-2)) else if 8 ≤ l.courts.length then (l, Si53.ok (-5)) else _) = _
      rw [if_neg h1, if_neg (by omega)]
      rfl
    rw [es] at k
    refine ⟨_, rfl, a, CL, dx, _, _, rfl, hI, T.clL, T.l2, lf_uppers _ _ _, .inl ⟨rfl, _, SqL.of L.up⟩, _, rfl, lu, _, _, rfl, rfl, L.up, lt_line (by omega), ?_⟩
    have hL2 := land_court L (u := u) (by omega) (by omega)
    have s2 : Same G (upd H1 lu (.lst (vU l.courts ++ [V.int (u : Int)]))) := same_new L.own.2.2.1 (sG.trans s1)
    have hal : a ≠ lu := ne_of hI L.up (by intro z; cases z)
    refine ⟨_, rfl, a, CL, dx, _, _, rfl, (by rw [upd_ne hal]; exact hI), T.clL, T.l2, lf_uppers _ _ _, lu, _, rfl, .inl (SqL.of upd_same), _, _, rfl, rfl, (by show 1 ≤ sizeLine; decide), fun p hp => ?_⟩
    generalize upd H1 lu (.lst (vU l.courts ++ [V.int (u : Int)])) = H2 at *
    have el : (((vU l.courts ++ [V.int (u : Int)]).length : Int) - 1) = (l.courts.length : Int) := by
      rw [List.length_append, hul]
      show ((l.courts.length + 1 : Nat) : Int) - 1 = _
      omega
    show Q (.ref p) (upd H2 p (.lst [V.int (((vU l.courts ++ [V.int (u : Int)]).length : Int) - 1)]))
    rw [el]
    have s3 : Same H2 (upd H2 p (.lst [V.int (l.courts.length : Int)])) := same_new hp (Same.refl _)
    exact k _ p (s2.trans s3) (hL2.same s3) (s2.free hp) upd_same
end
end CC
set_option maxHeartbeats 2000000
namespace CC
open PySem PySem.Spec PyProof.Rows L2
section
variable {P : Program} {w : World} {K : PySem.W.Frag} {mg : Str → Option Value} {base : Heap} {CL CD : Addr}
/-! ### an answer is handed back -/
theorem fin1 {G H1 : Hp} {a p : Addr} {l : Si53.Land} {xs : List V} {Q : VK} (sG : Same G H1) (hL : LandIn CL CD G H1 a l) (hp : H1 p = Option.none) (k : ∀ (H' : Hp) (p : Addr), Same G H' → LandIn CL CD G H' a l → G p = Option.none → H' p = some (.lst xs) → Q (.ref p) H') : Q (.ref p) (upd H1 p (.lst xs)) :=
  k _ p (sG.trans (same_new hp (Same.refl _))) (hL.same (same_new hp (Same.refl _))) (sG.free hp) upd_same
theorem cat_fin {G H1 : Hp} {a p q : Addr} {l : Si53.Land} {x : Int} {ns : List Nat} {Q : VK} (sG : Same G H1) (hL : LandIn CL CD G H1 a l) (hp : H1 p = Option.none) (hq : NatsAt H1 q ns) (hn : ns.length ≤ 1000)
    (k : ∀ (H' : Hp) (p : Addr), Same G H' → LandIn CL CD G H' a l → G p = Option.none → H' p = some (.lst ((x :: Si53.ints ns).map V.int)) → Q (.ref p) H') : rCat (.ref p) (.ref q) (upd H1 p (.lst [V.int x])) Q := by
  have s1 : Same H1 (upd H1 p (.lst [V.int x])) := same_new hp (Same.refl _)
  refine ⟨p, q, _, _, rfl, rfl, upd_same, s1 _ _ hq, ?_, fun z hz => ?_⟩
  · rw [vN_len]
    exact Nat.le_of_lt (big_line (by simp; omega))
  · have e : [V.int x] ++ vN ns = (x :: Si53.ints ns).map V.int := by
      rw [ints_cons]
      rfl
    rw [e]
    exact fin1 (sG.trans s1) (hL.same s1) hz k
theorem binds_lt {l : Si53.Land} (W : WF l) {c D x : Nat} (h : x ∈ Si53.binds l c D) : x < l.decisions.length := by
  unfold Si53.binds at h
  exact stands_lt W.days (List.mem_filter.mp h).1
theorem binds_len {l : Si53.Land} {bs : List Bool} {ts : List (Option Nat)} (W : WF l) (h : Hist l bs ts) (c D : Nat) : (Si53.binds l c D).length ≤ 30 := by
  have a1 := List.length_filter_le (fun i => Si53.over l (Si53.decision l i).court c) (Si53.stands l D)
  have a2 := stands_len W.days h D
  have a3 := W.nd
  unfold Si53.binds
  omega
theorem LandIn.wf {G H : Hp} {a : Addr} {l : Si53.Land} (h : LandIn CL CD G H a l) : WF l := by
  obtain ⟨bs, ts, ls, lu, ld, as, L⟩ := h
  exact L.wf
theorem LandIn.bl {G H : Hp} {a : Addr} {l : Si53.Land} (h : LandIn CL CD G H a l) (c D : Nat) : (Si53.binds l c D).length ≤ 30 := by
  obtain ⟨bs, ts, ls, lu, ld, as, L⟩ := h
  exact binds_len L.wf L.hi c D
/-! ### answer_forced -/
theorem sc_answer_forced : FnScope ["land", "numbers", "findings", "bound_by", "first"] ["land", "numbers"] (defScope s_answer_forced) := ⟨rfl, rfl, rfl, by decide +kernel, rfl, by decide +kernel, by decide +kernel⟩
theorem side_one (b : Bool) : decide (V.int (bitI b) = V.int 1) = b := by cases b <;> rfl
theorem ok_answer_forced {f : Addr} {fd : FuncData} (F : Fun K "answer_forced" "answer_forced" s_answer_forced f fd) (T : Txt K mg CL CD) (cC : Callee P w K mg base 1 "is_court" ["land", "court"] (spIsCourt CL CD)) (cF : Callee P w K mg base 2 "are_findings" ["land", "findings"] (spFindings CL CD))
    (cB : Callee P w K mg base 3 "binding" ["land", "court", "day"] (spBinding CL CD)) (cO : Callee P w K mg base 3 "forcing" ["land", "numbers", "findings"] (spForcing CL CD)) : FnOk P w K mg base CX0 4 f fd ["land", "numbers"] (spAns CL CD 5) := by
  refine F.ok sc_answer_forced (fun vs H Q E h => ?_) (fun cdv A outer s H vs Q E hr h => ?_)
  · obtain ⟨a, b, l, ms, q, G, rfl, _⟩ := h
    rfl
  · obtain ⟨a, b, l, ms, q, G, rfl, hL, sG, hb, hk, k⟩ := h
    cases hk with
    | forced c t FF hF =>
    obtain ⟨t6, m6⟩ := T.c6
    obtain ⟨t7, m7⟩ := T.c7
    have nd := sc_answer_forced.nd
    have hr1 : Room 1 _ := hr.mono (by decide)
    have hr2 : Room 2 _ := hr.mono (by decide)
    refine ⟨_, pss_cons (ps_set (i := 2) nd rfl (Or.inl rfl) (pe_slice sl_list (pv 1) (po_some pe_int) po_none))
      (pss_cons (ps_if (pt_not (pt_val (pe_callC cC hr1 (pa_cons (pv 0) (pa_cons (pe_ix ix_list (pv 1) pe_int (fun _ _ => rfl)) pa_nil))))) (pss_one (ps_ret (pe_lst (pa_cons (pe_glob (v := .int (-2)) rfl m7 ⟨t7, rfl⟩) pa_nil)))) pss_nil)
      (pss_cons (ps_if (pt_not (pt_val (pe_callC cF hr2 (pa_cons (pv 0) (pa_cons (pv 2) pa_nil))))) (pss_one (ps_ret (pe_lst (pa_cons (pe_glob (v := .int (-1)) rfl m6 ⟨t6, rfl⟩) pa_nil)))) pss_nil)
      (pss_cons (ps_set (i := 3) nd rfl (Or.inl rfl) (pe_callC cO hr (pa_cons (pv 0) (pa_cons (pe_callC cB hr (pa_cons (pv 0) (pa_cons (pe_ix ix_list (pv 1) pe_int (fun _ _ => rfl)) (pa_cons (pe_ix ix_list (pv 1) pe_int (fun _ _ => rfl)) pa_nil)))) (pa_cons (pv 2) pa_nil)))))
      (pss_cons (ps_if (pt_cmpR op_eq (pe_callB call_len_seq (by rfl) T.len PySem.boot_len (pa_cons (pv 3) pa_nil)) pe_int (nomark _)) (pss_one (ps_ret (pe_lst (pa_cons pe_int pa_nil)))) pss_nil)
      (pss_cons (ps_set (i := 4) nd rfl (Or.inl rfl) (pe_ix ix_list (pe_fld (pv 0) rfl) (pe_ix ix_list (pv 3) pe_int (fun _ _ => rfl)) (fun _ _ => rfl)))
      (pss_one (ps_ret (pe_op op_cat (pe_lst (pa_cons (pe_ifExp (pt_cmpR op_eq (pe_fld (pv 4) rfl) pe_int (nomark _)) pe_int pe_int) pa_nil)) (pv 3))))))))), ?_⟩
    have b0 : atI (vN (c :: t :: FF)) 0 = some (V.int (c : Int)) := at_of (j := 0) rfl rfl
    have b1 : atI (vN (c :: t :: FF)) 1 = some (V.int (t : Int)) := at_of (j := 1) rfl rfl
    refine ⟨_, rfl, 2, rfl, b, _, rfl, SqL.of hb, fun p hp => ?_⟩
    have cut : cutV (vN (c :: t :: FF)) (some 2) none = vN FF := by
      have := cut_tail (xs := vN (c :: t :: FF)) (a := 2) (by rw [vN_len]; simp)
      rw [vN_drop] at this
      exact this
    dsimp only
    rw [cut]
    have s1 : Same H (upd H p (.lst (vN FF))) := same_new hp (Same.refl _)
    have hp1 : NatsAt (upd H p (.lst (vN FF))) p FF := upd_same
    generalize upd H p (.lst (vN FF)) = H1 at *
    have W := hL.wf
    refine ⟨_, rfl, _, rfl, b, _, _, _, rfl, rfl, SqL.of (s1 _ _ hb), b0, _, ⟨a, l, c, rfl, (hL.same s1).is, rfl⟩, fun H2 s2 => ⟨_, rfl, ?_⟩⟩
    have s12 := s1.trans s2
    refine ite2 (fun h1 => ?_) (fun h1 => ?_)
    · have h1 : Si53.there l c = false := by simpa using h1
      have es : Si53.step l (.forced c t FF) = (l, Si53.ok (-2)) := by
        show (l, if Si53.there l c = false then Si53.ok (-2) else _) = _
        rw [if_pos h1]
      rw [es] at k
      exact ⟨(by show 1 ≤ sizeLine; decide), fun p hp => fin1 (sG.trans s12) (hL.same s12) hp k⟩
    have h1 : Si53.there l c = true := by simpa using h1
    have hc : c < l.courts.length := of_decide_eq_true h1
    refine ⟨_, rfl, _, rfl, _, ⟨a, p, l, FF, rfl, (hL.same s12).is, s2 _ _ hp1, hF, rfl⟩, fun H3 s3 => ⟨_, rfl, ?_⟩⟩
    have s13 := s12.trans s3
    refine ite2 (fun h2 => ?_) (fun h2 => ?_)
    · have h2 : Si53.factsOk l FF = false := by simpa using h2
      have es : Si53.step l (.forced c t FF) = (l, Si53.ok (-1)) := by
        show (l, if Si53.there l c = false then Si53.ok (-2) else if Si53.factsOk l FF = false then Si53.ok (-1) else _) = _
        rw [if_neg (by rw [h1]; simp), if_pos h2]
      rw [es] at k
      exact ⟨(by show 1 ≤ sizeLine; decide), fun p hp => fin1 (sG.trans s13) (hL.same s13) hp k⟩
    have h2 : Si53.factsOk l FF = true := by simpa using h2
    have bl := hL.bl c t
    refine ⟨_, rfl, _, rfl, _, rfl, b, _, _, _, rfl, rfl, SqL.of (s13 _ _ hb), b0, _, rfl, b, _, _, _, rfl, rfl, SqL.of (s13 _ _ hb), b1, _, ⟨a, c, t, l, rfl, (hL.same s13).is, hc, rfl⟩, fun H4 z s4 hz hzl => ?_⟩
    have s14 := s13.trans s4
    refine ⟨_, rfl, _, ⟨a, z, p, l, Si53.binds l c t, FF, rfl, (hL.same s14).is, hzl, by omega, fun x hx => binds_lt W hx, (s2.trans (s3.trans s4)) _ _ hp1, by omega, factsOk_lt h2, rfl⟩, fun H5 y s5 hy hyl => ?_⟩
    have s15 := s14.trans s5
    refine ⟨_, rfl, y, _, rfl, .inl (SqL.of hyl), rfl, _, rfl, ?_⟩
    rw [len_zero]
    refine ite2 (fun h3 => ?_) (fun h3 => ?_)
    · have h3 : forcingOf l (Si53.binds l c t) FF = [] := by simpa using h3
      have es : Si53.step l (.forced c t FF) = (l, Si53.ok 0) := step_forced0 h1 h2 h3
      rw [es] at k
      exact ⟨(by show 1 ≤ sizeLine; decide), fun p hp => fin1 (sG.trans s15) (hL.same s15) hp k⟩
    have h3 : forcingOf l (Si53.binds l c t) FF ≠ [] := by simpa using h3
    obtain ⟨i, r, er⟩ : ∃ i r, forcingOf l (Si53.binds l c t) FF = i :: r := List.exists_cons_of_ne_nil h3
    have hi : i ∈ forcingOf l (Si53.binds l c t) FF := by rw [er]; simp
    have hib : i ∈ Si53.binds l c t := (List.mem_filter.mp hi).1
    have hil := binds_lt W hib
    have es : Si53.step l (.forced c t FF) = (l, ⟨if (Si53.decision l i).side = true then 1 else 2, Si53.ints (forcingOf l (Si53.binds l c t) FF)⟩) := step_forced1 W h1 h2 hi
    rw [es] at k
    have hL5 := hL.same s15
    obtain ⟨bs, ts, ls, lu, ld, as, L⟩ := id hL5
    obtain ⟨dx, hI⟩ := L.ins
    obtain ⟨cn, hcn⟩ : ∃ cn, as[i]? = some cn := ⟨_, List.getElem?_eq_getElem (by rw [L.len]; exact hil)⟩
    obtain ⟨fn, rn, on, Gn, _⟩ := (L.at_ i cn hcn).ex
    obtain ⟨nx, hN⟩ := Gn.ins
    refine ⟨_, rfl, a, CL, dx, _, _, rfl, hI, T.clL, T.l3, lf_decisions _ _ _, _, rfl, y, _, _, _, rfl, rfl, SqL.of hyl, at_of (j := 0) (v := V.int (i : Int)) rfl (vN_get (by rw [er]; rfl)), ld, _, _, _, rfl, rfl, SqL.of L.dl, atI_nat (by rw [List.getElem?_map, hcn]; rfl), ?_⟩
    have fl : (forcingOf l (Si53.binds l c t) FF).length ≤ 1000 := by
      have := List.length_filter_le (fun k => Si53.forces l (Si53.decision l k) FF) (Si53.binds l c t)
      unfold forcingOf
      omega
    refine ⟨_, rfl, cn, CD, nx, _, _, rfl, hN, T.clD, T.d3, df_side _ _ _ _ _ _, rfl, _, rfl, ?_⟩
    rw [side_one]
    refine ite2 (fun h4 => ?_) (fun h4 => ?_)
    · rw [if_pos h4] at k
      exact ⟨(by show 1 ≤ sizeLine; decide), fun p hp => ⟨_, rfl, cat_fin (sG.trans s15) hL5 hp hyl fl k⟩⟩
    · rw [if_neg h4] at k
      exact ⟨(by show 1 ≤ sizeLine; decide), fun p hp => ⟨_, rfl, cat_fin (sG.trans s15) hL5 hp hyl fl k⟩⟩
/-! ### answer_distinguish -/
theorem sc_answer_distinguish : FnScope ["land", "numbers", "findings", "decision", "missing", "against"] ["land", "numbers"] (defScope s_answer_distinguish) := ⟨rfl, rfl, rfl, by decide +kernel, rfl, by decide +kernel, by decide +kernel⟩
theorem ok_answer_distinguish {f : Addr} {fd : FuncData} (F : Fun K "answer_distinguish" "answer_distinguish" s_answer_distinguish f fd) (T : Txt K mg CL CD) (cN : Callee P w K mg base 1 "is_decision" ["land", "number"] (spIsDec CL CD)) (cF : Callee P w K mg base 2 "are_findings" ["land", "findings"] (spFindings CL CD))
    (cM : Callee P w K mg base 1 "missing_of_reason" ["decision", "findings"] (spMissing CD)) (cA : Callee P w K mg base 1 "new_against" ["land", "decision", "findings"] (spAgainst CL CD)) : FnOk P w K mg base CX0 3 f fd ["land", "numbers"] (spAns CL CD 6) := by
  refine F.ok sc_answer_distinguish (fun vs H Q E h => ?_) (fun cdv A outer s H vs Q E hr h => ?_)
  · obtain ⟨a, b, l, ms, q, G, rfl, _⟩ := h
    rfl
  · obtain ⟨a, b, l, ms, q, G, rfl, hL, sG, hb, hk, k⟩ := h
    cases hk with
    | distinguish i FF hF =>
    obtain ⟨t6, m6⟩ := T.c6
    obtain ⟨t7, m7⟩ := T.c7
    have nd := sc_answer_distinguish.nd
    have hr1 : Room 1 _ := hr.mono (by decide)
    refine ⟨_, pss_cons (ps_set (i := 2) nd rfl (Or.inl rfl) (pe_slice sl_list (pv 1) (po_some pe_int) po_none))
      (pss_cons (ps_if (pt_not (pt_val (pe_callC cN hr1 (pa_cons (pv 0) (pa_cons (pe_ix ix_list (pv 1) pe_int (fun _ _ => rfl)) pa_nil))))) (pss_one (ps_ret (pe_lst (pa_cons (pe_glob (v := .int (-2)) rfl m7 ⟨t7, rfl⟩) pa_nil)))) pss_nil)
      (pss_cons (ps_if (pt_not (pt_val (pe_callC cF hr (pa_cons (pv 0) (pa_cons (pv 2) pa_nil))))) (pss_one (ps_ret (pe_lst (pa_cons (pe_glob (v := .int (-1)) rfl m6 ⟨t6, rfl⟩) pa_nil)))) pss_nil)
      (pss_cons (ps_set (i := 3) nd rfl (Or.inl rfl) (pe_ix ix_list (pe_fld (pv 0) rfl) (pe_ix ix_list (pv 1) pe_int (fun _ _ => rfl)) (fun _ _ => rfl)))
      (pss_cons (ps_set (i := 4) nd rfl (Or.inl rfl) (pe_callC cM hr1 (pa_cons (pv 3) (pa_cons (pv 2) pa_nil))))
      (pss_cons (ps_if (pt_cmpR op_gt (pe_callB call_len_seq (by rfl) T.len PySem.boot_len (pa_cons (pv 4) pa_nil)) pe_int (nomark _)) (pss_one (ps_ret (pe_op op_cat (pe_lst (pa_cons pe_int pa_nil)) (pv 4)))) pss_nil)
      (pss_cons (ps_set (i := 5) nd rfl (Or.inl rfl) (pe_callC cA hr1 (pa_cons (pv 0) (pa_cons (pv 3) (pa_cons (pv 2) pa_nil)))))
      (pss_cons (ps_if (pt_cmpR op_gt (pe_callB call_len_seq (by rfl) T.len PySem.boot_len (pa_cons (pv 5) pa_nil)) pe_int (nomark _)) (pss_one (ps_ret (pe_op op_cat (pe_lst (pa_cons pe_int pa_nil)) (pv 5)))) pss_nil)
      (pss_one (ps_ret (pe_lst (pa_cons pe_int pa_nil))))))))))), ?_⟩
    have b0 : atI (vN (i :: FF)) 0 = some (V.int (i : Int)) := at_of (j := 0) rfl rfl
    refine ⟨_, rfl, 1, rfl, b, _, rfl, SqL.of hb, fun p hp => ?_⟩
    have cut : cutV (vN (i :: FF)) (some 1) none = vN FF := by
      have := cut_tail (xs := vN (i :: FF)) (a := 1) (by rw [vN_len]; simp)
      rw [vN_drop] at this
      exact this
    dsimp only
    rw [cut]
    have s1 : Same H (upd H p (.lst (vN FF))) := same_new hp (Same.refl _)
    have hp1 : NatsAt (upd H p (.lst (vN FF))) p FF := upd_same
    generalize upd H p (.lst (vN FF)) = H1 at *
    refine ⟨_, rfl, _, rfl, b, _, _, _, rfl, rfl, SqL.of (s1 _ _ hb), b0, _, ⟨a, l, i, rfl, (hL.same s1).is, rfl⟩, fun H2 s2 => ⟨_, rfl, ?_⟩⟩
    have s12 := s1.trans s2
    refine ite2 (fun h1 => ?_) (fun h1 => ?_)
    · have h1 : l.decisions.length ≤ i := by simpa using h1
      have es : Si53.step l (.distinguish i FF) = (l, Si53.ok (-2)) := by
        unfold Si53.step
        simp only
        rw [List.getElem?_eq_none h1]
      rw [es] at k
      exact ⟨(by show 1 ≤ sizeLine; decide), fun p hp => fin1 (sG.trans s12) (hL.same s12) hp k⟩
    have hi : i < l.decisions.length := by simpa using h1
    have eg := decision_get hi
    have es0 : Si53.step l (.distinguish i FF) = (l, if Si53.factsOk l FF = false then Si53.ok (-1) else if Si53.missing (Si53.decision l i) FF ≠ [] then ⟨0, Si53.ints (Si53.missing (Si53.decision l i) FF)⟩ else if Si53.unlike l (Si53.decision l i) FF ≠ [] then ⟨1, Si53.ints (Si53.unlike l (Si53.decision l i) FF)⟩ else Si53.ok 2) := by
      unfold Si53.step
      simp only
      rw [eg]
    refine ⟨_, rfl, _, rfl, _, ⟨a, p, l, FF, rfl, (hL.same s12).is, s2 _ _ hp1, hF, rfl⟩, fun H3 s3 => ⟨_, rfl, ?_⟩⟩
    have s13 := s12.trans s3
    have hp3 : NatsAt H3 p FF := s3 _ _ (s2 _ _ hp1)
    refine ite2 (fun h2 => ?_) (fun h2 => ?_)
    · have h2 : Si53.factsOk l FF = false := by simpa using h2
      rw [if_pos h2] at es0
      rw [es0] at k
      exact ⟨(by show 1 ≤ sizeLine; decide), fun p hp => fin1 (sG.trans s13) (hL.same s13) hp k⟩
    have h2 : Si53.factsOk l FF = true := by simpa using h2
    rw [if_neg (by rw [h2]; simp)] at es0
    have hL3 := hL.same s13
    obtain ⟨bs, ts, ls, lu, ld, as, L⟩ := id hL3
    obtain ⟨dx, hI⟩ := L.ins
    obtain ⟨cn, hcn⟩ : ∃ cn, as[i]? = some cn := ⟨_, List.getElem?_eq_getElem (by rw [L.len]; exact hi)⟩
    refine ⟨_, rfl, a, CL, dx, _, _, rfl, hI, T.clL, T.l3, lf_decisions _ _ _, _, rfl, b, _, _, _, rfl, rfl, SqL.of (s13 _ _ hb), b0, ld, _, _, _, rfl, rfl, SqL.of L.dl, atI_nat (by rw [List.getElem?_map, hcn]; rfl), ?_⟩
    obtain ⟨fn, rn, on, Gn, _⟩ := (L.at_ i cn hcn).ex
    have lr := Gn.lr
    have hD := L.dec hcn
    refine ⟨_, rfl, _, rfl, _, ⟨cn, p, _, FF, rfl, hD, hp3, rfl⟩, fun H4 m s4 hm hml => ?_⟩
    have s14 := s13.trans s4
    refine ⟨_, rfl, m, _, rfl, .inl (SqL.of hml), _, _, rfl, rfl, _, rfl, ?_⟩
    rw [len_pos]
    have ml : (Si53.missing (Si53.decision l i) FF).length ≤ 1000 := by
      have := List.length_filter_le (fun x => !FF.contains x) (Si53.decision l i).reason
      unfold Si53.missing
      omega
    refine ite2 (fun h3 => ?_) (fun h3 => ?_)
    · have h3 : Si53.missing (Si53.decision l i) FF ≠ [] := by simpa using h3
      rw [if_pos h3] at es0
      rw [es0] at k
      exact ⟨(by show 1 ≤ sizeLine; decide), fun p hp => ⟨_, rfl, cat_fin (sG.trans s14) (hL.same s14) hp hml ml k⟩⟩
    have h3 : Si53.missing (Si53.decision l i) FF = [] := by simpa using h3
    rw [if_neg (by rw [h3]; simp)] at es0
    refine ⟨_, rfl, _, rfl, _, rfl, _, ⟨a, cn, p, l, _, FF, rfl, (hL.same s14).is, hD.same s4, s4 _ _ hp3, by omega, factsOk_lt h2, rfl⟩, fun H5 u s5 hu hul => ?_⟩
    have s15 := s14.trans s5
    refine ⟨_, rfl, u, _, rfl, .inl (SqL.of hul), _, _, rfl, rfl, _, rfl, ?_⟩
    rw [len_pos]
    have ul : (Si53.unlike l (Si53.decision l i) FF).length ≤ 1000 := by
      rw [unlike_eq]
      have := List.length_filter_le (fun x => (!(l.speaks.getD x true == (Si53.decision l i).side)) && !(Si53.decision l i).facts.contains x) FF
      omega
    refine ite2 (fun h4 => ?_) (fun h4 => ?_)
    · have h4 : Si53.unlike l (Si53.decision l i) FF ≠ [] := by simpa using h4
      rw [if_pos h4] at es0
      rw [es0] at k
      exact ⟨(by show 1 ≤ sizeLine; decide), fun p hp => ⟨_, rfl, cat_fin (sG.trans s15) (hL.same s15) hp hul ul k⟩⟩
    have h4 : Si53.unlike l (Si53.decision l i) FF = [] := by simpa using h4
    rw [if_neg (by rw [h4]; simp)] at es0
    rw [es0] at k
    exact ⟨(by show 1 ≤ sizeLine; decide), fun p hp => fin1 (sG.trans s15) (hL.same s15) hp k⟩
/-! ### answer_life -/
theorem sc_answer_life : FnScope ["land", "numbers", "decision", "taker"] ["land", "numbers"] (defScope s_answer_life) := ⟨rfl, rfl, rfl, by decide +kernel, rfl, by decide +kernel, by decide +kernel⟩
theorem ok_answer_life {f : Addr} {fd : FuncData} (F : Fun K "answer_life" "answer_life" s_answer_life f fd) (T : Txt K mg CL CD) (cN : Callee P w K mg base 1 "is_decision" ["land", "number"] (spIsDec CL CD)) : FnOk P w K mg base CX0 2 f fd ["land", "numbers"] (spAns CL CD 9) := by
  refine F.ok sc_answer_life (fun vs H Q E h => ?_) (fun cdv A outer s H vs Q E hr h => ?_)
  · obtain ⟨a, b, l, ms, q, G, rfl, _⟩ := h
    rfl
  · obtain ⟨a, b, l, ms, q, G, rfl, hL, sG, hb, hk, k⟩ := h
    cases hk with
    | life i =>
    obtain ⟨t7, m7⟩ := T.c7
    have nd := sc_answer_life.nd
    refine ⟨_, pss_cons (ps_if (pt_not (pt_val (pe_callC cN hr (pa_cons (pv 0) (pa_cons (pe_ix ix_list (pv 1) pe_int (fun _ _ => rfl)) pa_nil))))) (pss_one (ps_ret (pe_lst (pa_cons (pe_glob (v := .int (-2)) rfl m7 ⟨t7, rfl⟩) pa_nil)))) pss_nil)
      (pss_cons (ps_set (i := 2) nd rfl (Or.inl rfl) (pe_ix ix_list (pe_fld (pv 0) rfl) (pe_ix ix_list (pv 1) pe_int (fun _ _ => rfl)) (fun _ _ => rfl)))
      (pss_cons (ps_if (pt_val (pe_fld (pv 2) rfl)) (pss_one (ps_ret (pe_lst (pa_cons pe_int pa_nil)))) pss_nil)
      (pss_cons (ps_if (pt_cmp (pc_isN (pe_fld (pv 2) rfl))) (pss_one (ps_ret (pe_lst (pa_cons pe_int (pa_cons (pe_fld (pv 2) rfl) pa_nil))))) pss_nil)
      (pss_cons (ps_set (i := 3) nd rfl (Or.inl rfl) (pe_ix ix_list (pe_fld (pv 0) rfl) (pe_fld (pv 2) rfl) (fun _ _ => rfl)))
      (pss_one (ps_ret (pe_lst (pa_cons pe_int (pa_cons (pe_fld (pv 2) rfl) (pa_cons (pe_fld (pv 3) rfl) (pa_cons (pe_fld (pv 2) rfl) pa_nil)))))))))))
      , ?_⟩
    have b0 : atI (vN [i]) 0 = some (V.int (i : Int)) := at_of (j := 0) rfl rfl
    refine ⟨_, rfl, _, rfl, b, _, _, _, rfl, rfl, SqL.of hb, b0, _, ⟨a, l, i, rfl, hL.is, rfl⟩, fun H1 s1 => ⟨_, rfl, ?_⟩⟩
    refine ite2 (fun h1 => ?_) (fun h1 => ?_)
    · have h1 : l.decisions.length ≤ i := by simpa using h1
      have es : Si53.step l (.life i) = (l, Si53.ok (-2)) := by
        unfold Si53.step
        simp only
        rw [List.getElem?_eq_none h1]
      rw [es] at k
      exact ⟨(by show 1 ≤ sizeLine; decide), fun p hp => fin1 (sG.trans s1) (hL.same s1) hp k⟩
    have hi : i < l.decisions.length := by simpa using h1
    have eg := decision_get hi
    have hL1 := hL.same s1
    obtain ⟨bs, ts, ls, lu, ld, as, L⟩ := id hL1
    obtain ⟨dx, hI⟩ := L.ins
    obtain ⟨cn, hcn⟩ : ∃ cn, as[i]? = some cn := ⟨_, List.getElem?_eq_getElem (by rw [L.len]; exact hi)⟩
    obtain ⟨fn, rn, on, Gn, _⟩ := (L.at_ i cn hcn).ex
    obtain ⟨nx, hN⟩ := Gn.ins
    have es0 : Si53.step l (.life i) = (l, if (!bs.getD i true) = false then Si53.ok 0 else match Si53.endOf l i with
      | none => ⟨1, Si53.ints [(Si53.decision l i).day]⟩
      | some j => ⟨2, Si53.ints [(Si53.decision l i).day, (Si53.decision l j).day, j]⟩) := by
      unfold Si53.step
      simp only
      rw [eg]
      simp only
      rw [life_on L.hi hi]
      rfl
    refine ⟨_, rfl, a, CL, dx, _, _, rfl, hI, T.clL, T.l3, lf_decisions _ _ _, _, rfl, b, _, _, _, rfl, rfl, SqL.of (s1 _ _ hb), b0, ld, _, _, _, rfl, rfl, SqL.of L.dl, atI_nat (by rw [List.getElem?_map, hcn]; rfl), ?_⟩
    refine ⟨_, rfl, cn, CD, nx, _, _, rfl, hN, T.clD, T.d7, df_barred _ _ _ _ _ _, _, rfl, ?_⟩
    refine ite2 (fun h2 => ?_) (fun h2 => ?_)
    · rw [if_pos (by rw [h2]; rfl)] at es0
      rw [es0] at k
      exact ⟨(by show 1 ≤ sizeLine; decide), fun p hp => fin1 (sG.trans s1) hL1 hp k⟩
    have h2 : bs.getD i true = false := by simpa using h2
    rw [if_neg (by rw [h2]; simp), endOf_eq L.hi h2] at es0
    refine ⟨_, rfl, cn, CD, nx, _, _, rfl, hN, T.clD, T.d8, df_taker _ _ _ _ _ _, _, rfl, ?_⟩
    cases et : ts.getD i none with
    | none =>
      rw [et] at es0
      rw [es0] at k
      refine iteT ⟨_, rfl, cn, CD, nx, _, _, rfl, hN, T.clD, T.d2, df_day _ _ _ _ _ _, (by show 2 ≤ sizeLine; decide), fun p hp => fin1 (sG.trans s1) hL1 hp k⟩
    | some j =>
      rw [et] at es0
      rw [es0] at k
      have hj := (L.hi.lt i j (getD_some et)).2
      obtain ⟨cj, hcj⟩ : ∃ cj, as[j]? = some cj := ⟨_, List.getElem?_eq_getElem (by rw [L.len]; exact hj)⟩
      obtain ⟨f2, r2, o2, J, _⟩ := (L.at_ j cj hcj).ex
      obtain ⟨jx, hJ⟩ := J.ins
      rw [et] at hN
      refine iteF ⟨_, rfl, a, CL, dx, _, _, rfl, hI, T.clL, T.l3, lf_decisions _ _ _, _, rfl, cn, CD, nx, _, _, rfl, hN, T.clD, T.d8, df_taker _ _ _ _ _ _, ld, _, _, _, rfl, rfl, SqL.of L.dl, atI_nat (by rw [List.getElem?_map, hcj]; rfl), ?_⟩
      exact ⟨_, rfl, cn, CD, nx, _, _, rfl, hN, T.clD, T.d2, df_day _ _ _ _ _ _, _, rfl, cj, CD, jx, _, _, rfl, hJ, T.clD, T.d2, df_day _ _ _ _ _ _, _, rfl, cn, CD, nx, _, _, rfl, hN, T.clD, T.d8, df_taker _ _ _ _ _ _, (by show 4 ≤ sizeLine; decide), fun p hp => fin1 (sG.trans s1) hL1 hp k⟩
end
end CC
set_option maxHeartbeats 2000000
namespace CC
open PySem PySem.Spec PyProof.Rows L2
theorem bit_of {s : Nat} (h : s ≤ 1) : V.int (s : Int) = V.int (bitI (s == 1)) := by
  match s, h with
  | 0, _ => rfl
  | 1, _ => rfl
section
variable (c t s : Nat) (F R : List Nat)
theorem mm_cut1 : ((c :: t :: s :: F.length :: (F ++ R)).drop 4).take (4 + F.length - 4) = F := by
  have e : (c :: t :: s :: F.length :: (F ++ R)).drop 4 = F ++ R := rfl
  rw [e, show 4 + F.length - 4 = F.length by omega, List.take_left]
theorem mm_cut2 : (c :: t :: s :: F.length :: (F ++ R)).drop (4 + F.length) = R := by
  rw [show 4 + F.length = F.length + 1 + 1 + 1 + 1 by omega]
  simp only [List.drop_succ_cons]
  rw [List.drop_left]
end
section
variable {P : Program} {w : World} {K : PySem.W.Frag} {mg : Str → Option Value} {base : Heap} {CL CD : Addr}
/-! ### answer_may -/
theorem sc_answer_may : FnScope ["land", "numbers", "findings_end", "thought_of", "bound_by", "k", "against"] ["land", "numbers"] (defScope s_answer_may) := ⟨rfl, rfl, rfl, by decide +kernel, rfl, by decide +kernel, by decide +kernel⟩
theorem ok_answer_may {f : Addr} {fd : FuncData} (F : Fun K "answer_may" "answer_may" s_answer_may f fd) (T : Txt K mg CL CD) (cD : Maker P w K mg base CD "Decision" psDecI (spDecI CD)) (cC : Callee P w K mg base 1 "is_court" ["land", "court"] (spIsCourt CL CD)) (cF : Callee P w K mg base 2 "are_findings" ["land", "findings"] (spFindings CL CD))
    (cR : Callee P w K mg base 2 "is_reason" ["land", "reason", "findings", "side"] (spReason CL CD)) (cB : Callee P w K mg base 3 "binding" ["land", "court", "day"] (spBinding CL CD)) (cG : Callee P w K mg base 2 "gainsay" ["one", "other"] (spGain CD)) : FnOk P w K mg base CX0 4 f fd ["land", "numbers"] (spAns CL CD 7) := by
  refine F.ok sc_answer_may (fun vs H Q E h => ?_) (fun cdv A outer s H vs Q E hr h => ?_)
  · obtain ⟨a, b, l, ms, q, G, rfl, _⟩ := h
    rfl
  · obtain ⟨a, b, l, ms, q, G, rfl, hL, sG, hb, hk, k⟩ := h
    cases hk with
    | may c t s0 FF R hs lF lR =>
    obtain ⟨t6, m6⟩ := T.c6
    obtain ⟨t7, m7⟩ := T.c7
    have nd := sc_answer_may.nd
    have hr1 : Room 1 _ := hr.mono (by decide)
    have hr2 : Room 2 _ := hr.mono (by decide)
    refine ⟨_, pss_cons (ps_set (i := 2) nd rfl (Or.inl rfl) (pe_op op_add pe_int (pe_ix ix_list (pv 1) pe_int (fun _ _ => rfl))))
      (pss_cons (ps_set (i := 3) nd rfl (Or.inr rfl) (pe_makeC cD hr2 (pa_cons (pe_ix ix_list (pv 1) pe_int (fun _ _ => rfl)) (pa_cons (pe_ix ix_list (pv 1) pe_int (fun _ _ => rfl)) (pa_cons (pe_ix ix_list (pv 1) pe_int (fun _ _ => rfl))
        (pa_cons (pe_slice sl_list (pv 1) (po_some pe_int) (po_some (pv 2))) (pa_cons (pe_slice sl_list (pv 1) (po_some (pv 2)) po_none) (pa_cons (pe_lst pa_nil) pa_nil))))))))
      (pss_cons (ps_if (pt_not (pt_val (pe_callC cC hr1 (pa_cons (pv 0) (pa_cons (pe_fld (pv 3) rfl) pa_nil))))) (pss_one (ps_ret (pe_lst (pa_cons (pe_glob (v := .int (-2)) rfl m7 ⟨t7, rfl⟩) pa_nil)))) pss_nil)
      (pss_cons (ps_if (pt_not (pt_val (pe_callC cF hr2 (pa_cons (pv 0) (pa_cons (pe_fld (pv 3) rfl) pa_nil))))) (pss_one (ps_ret (pe_lst (pa_cons (pe_glob (v := .int (-1)) rfl m6 ⟨t6, rfl⟩) pa_nil)))) pss_nil)
      (pss_cons (ps_if (pt_not (pt_val (pe_callC cR hr2 (pa_cons (pv 0) (pa_cons (pe_fld (pv 3) rfl) (pa_cons (pe_fld (pv 3) rfl) (pa_cons (pe_fld (pv 3) rfl) pa_nil))))))) (pss_one (ps_ret (pe_lst (pa_cons (pe_glob (v := .int (-1)) rfl m6 ⟨t6, rfl⟩) pa_nil)))) pss_nil)
      (pss_cons (ps_set (i := 4) nd rfl (Or.inl rfl) (pe_callC cB hr (pa_cons (pv 0) (pa_cons (pe_fld (pv 3) rfl) (pa_cons (pe_fld (pv 3) rfl) pa_nil)))))
      (pss_cons (ps_setLc (i := 6) (own := [("k", 5)]) rfl nd rfl rfl (sw_true rfl rfl (by rfl) (by rfl)) (pi_list (pv 4)) (blkOk_by (N := ["land", "numbers", "findings_end", "thought_of", "bound_by", "k", "against"]) (sc := defScope s_answer_may) (by decide +kernel))
        (fun _ _ _ _ _ => pg_name (i := 5) nd rfl (Or.inl rfl))
        (fun _ _ _ _ _ => pts_one (pt_val (pe_callC cG hr2 (pa_cons (pe_ix (ix_listK (K := K) rfl) (pe_fldK (K := K) rfl (pv 0) rfl) (pv 5) (fun _ _ => rfl)) (pa_cons (pv 3) pa_nil)))))
        (fun _ _ _ _ _ => pv 5))
      (pss_cons (ps_if (pt_cmpR op_gt (pe_callB call_len_seq (by rfl) T.len PySem.boot_len (pa_cons (pv 6) pa_nil)) pe_int (nomark _)) (pss_one (ps_ret (pe_op op_cat (pe_lst (pa_cons pe_int pa_nil)) (pv 6)))) pss_nil)
      (pss_one (ps_ret (pe_lst (pa_cons pe_int pa_nil))))))))))), ?_⟩
    have W := hL.wf
    have bl := hL.bl c t
    generalize hms : c :: t :: s0 :: FF.length :: (FF ++ R) = ms at *
    have ml : (vN ms).length = 4 + FF.length + R.length := by
      rw [vN_len, ← hms]
      simp
      omega
    have b0 : atI (vN ms) 0 = some (V.int (c : Int)) := by rw [← hms]; exact at_of (j := 0) rfl rfl
    have b1 : atI (vN ms) 1 = some (V.int (t : Int)) := by rw [← hms]; exact at_of (j := 1) rfl rfl
    have b2 : atI (vN ms) 2 = some (V.int (s0 : Int)) := by rw [← hms]; exact at_of (j := 2) rfl rfl
    have b3 : atI (vN ms) 3 = some (V.int (FF.length : Int)) := by rw [← hms]; exact at_of (j := 3) rfl rfl
    refine ⟨_, rfl, b, _, _, _, rfl, rfl, SqL.of hb, b3, _, _, rfl, rfl, ?_⟩
    have e1 : (4 : Int) + (FF.length : Int) = ((4 + FF.length : Nat) : Int) := by omega
    dsimp only
    rw [e1]
    have c1 : cutV (vN ms) (some 4) (some ((4 + FF.length : Nat) : Int)) = vN FF := by
      have := cut_mid (xs := vN ms) (a := 4) (b := 4 + FF.length) (by omega) (by omega)
      rw [vN_drop, vN_take, ← hms, mm_cut1] at this
      rw [← hms]
      exact this
    have c2 : cutV (vN ms) (some ((4 + FF.length : Nat) : Int)) none = vN R := by
      rw [cut_tail (by omega), vN_drop, ← hms, mm_cut2]
    have sb := SqL.of (K := K) hb
    refine ⟨_, rfl, b, _, _, _, rfl, rfl, sb, b0, _, rfl, b, _, _, _, rfl, rfl, sb, b1, _, rfl, b, _, _, _, rfl, rfl, sb, b2, _, rfl, 4, rfl, _, rfl, _, rfl, b, _, rfl, sb, fun p1 h1 => ?_⟩
    dsimp only
    rw [c1]
    have s1 : Same H (upd H p1 (.lst (vN FF))) := same_new h1 (Same.refl _)
    refine ⟨_, rfl, _, rfl, _, rfl, b, _, rfl, SqL.of (s1 _ _ hb), fun p2 h2 => ?_⟩
    dsimp only
    rw [c2]
    have s2 : Same (upd H p1 (.lst (vN FF))) (upd (upd H p1 (.lst (vN FF))) p2 (.lst (vN R))) := same_new h2 (Same.refl _)
    refine ⟨Nat.zero_le _, fun p3 h3 => ?_⟩
    have g2 : NatsAt (upd (upd H p1 (.lst (vN FF))) p2 (.lst (vN R))) p2 R := upd_same
    have g1 : NatsAt (upd (upd H p1 (.lst (vN FF))) p2 (.lst (vN R))) p1 FF := s2 _ _ upd_same
    have s12 := s1.trans s2
    generalize upd (upd H p1 (.lst (vN FF))) p2 (.lst (vN R)) = H2 at *
    have s3 : Same H2 (upd H2 p3 (.lst [])) := same_new h3 (Same.refl _)
    have g3 : NatsAt (upd H2 p3 (.lst [])) p3 [] := upd_same
    have s13 := s12.trans s3
    generalize upd H2 p3 (.lst []) = H3 at *
    intro x dx nx ndx nex
    refine ⟨x, dx, p1, p2, p3, ⟨c, t, FF, s0 == 1, R, []⟩, ?_, upd_same, fun H4 hx4 keep => ⟨rfl, ?_⟩⟩
    · show [V.ref x, V.int (c : Int), V.int (t : Int), V.int (s0 : Int), V.ref p1, V.ref p2, V.ref p3] = _
      rw [bit_of hs]
    have s4 : Same H3 H4 := Same.made nx ndx keep
    have s14 := s13.trans s4
    have D4 : DecO CD H4 x ⟨c, t, FF, s0 == 1, R, []⟩ false none p1 p2 p3 := ⟨⟨dx, hx4⟩, s4 _ _ (s3 _ _ g1), s4 _ _ (s3 _ _ g2), s4 _ _ g3, lF, lR, Nat.zero_le _⟩
    generalize hd : (⟨c, t, FF, s0 == 1, R, []⟩ : Si53.Decision) = d at *
    have dc : d.court = c := by rw [← hd]
    have dt : d.day = t := by rw [← hd]
    have df : d.facts = FF := by rw [← hd]
    have dr : d.reason = R := by rw [← hd]
    have ds : d.side = (s0 == 1) := by rw [← hd]
    refine ⟨_, rfl, _, rfl, x, CD, dx, _, _, rfl, hx4, T.clD, T.d1, df_court _ _ _ _ _ _, _, ⟨a, l, d.court, rfl, (hL.same s14).is, rfl⟩, fun H5 s5 => ⟨_, rfl, ?_⟩⟩
    have s15 := s14.trans s5
    have D5 := D4.same s5
    rw [dc]
    refine ite2 (fun h1 => ?_) (fun h1 => ?_)
    · have h1 : Si53.there l c = false := by simpa using h1
      have es : Si53.step l (.may c t (s0 == 1) FF R) = (l, Si53.ok (-2)) := by
        show (l, if Si53.there l c = false then Si53.ok (-2) else _) = _
        rw [if_pos h1]
      rw [es] at k
      exact ⟨(by show 1 ≤ sizeLine; decide), fun p hp => fin1 (sG.trans s15) (hL.same s15) hp k⟩
    have h1 : Si53.there l c = true := by simpa using h1
    have hc : c < l.courts.length := of_decide_eq_true h1
    obtain ⟨x5, hx5⟩ := D5.ins
    refine ⟨_, rfl, _, rfl, x, CD, x5, _, _, rfl, hx5, T.clD, T.d4, df_findings _ _ _ _ _ _, _, ⟨a, p1, l, d.facts, rfl, (hL.same s15).is, D5.hf, D5.lf, rfl⟩, fun H6 s6 => ⟨_, rfl, ?_⟩⟩
    have s16 := s15.trans s6
    have D6 := D5.same s6
    rw [df]
    refine ite2 (fun h2 => ?_) (fun h2 => ?_)
    · have h2 : Si53.factsOk l FF = false := by simpa using h2
      have es : Si53.step l (.may c t (s0 == 1) FF R) = (l, Si53.ok (-1)) := by
        show (l, if Si53.there l c = false then Si53.ok (-2) else if (Si53.factsOk l FF && Si53.reasonOk l (s0 == 1) FF R) = false then Si53.ok (-1) else _) = _
        rw [if_neg (by rw [h1]; simp), if_pos (by rw [h2]; rfl)]
      rw [es] at k
      exact ⟨(by show 1 ≤ sizeLine; decide), fun p hp => fin1 (sG.trans s16) (hL.same s16) hp k⟩
    have h2 : Si53.factsOk l FF = true := by simpa using h2
    obtain ⟨x6, hx6⟩ := D6.ins
    refine ⟨_, rfl, _, rfl, x, CD, x6, _, _, rfl, hx6, T.clD, T.d5, df_reason _ _ _ _ _ _, _, rfl, x, CD, x6, _, _, rfl, hx6, T.clD, T.d4, df_findings _ _ _ _ _ _, _, rfl, x, CD, x6, _, _, rfl, hx6, T.clD, T.d3, df_side _ _ _ _ _ _, _, ⟨a, p2, p1, l, d.reason, d.facts, d.side, rfl, (hL.same s16).is, D6.hr, D6.hf, D6.lr, D6.lf, by rw [df]; exact h2, rfl⟩, fun H7 s7 => ⟨_, rfl, ?_⟩⟩
    have s17 := s16.trans s7
    have D7 := D6.same s7
    rw [df, dr, ds]
    refine ite2 (fun h3 => ?_) (fun h3 => ?_)
    · have h3 : Si53.reasonOk l (s0 == 1) FF R = false := by simpa using h3
      have es : Si53.step l (.may c t (s0 == 1) FF R) = (l, Si53.ok (-1)) := by
        show (l, if Si53.there l c = false then Si53.ok (-2) else if (Si53.factsOk l FF && Si53.reasonOk l (s0 == 1) FF R) = false then Si53.ok (-1) else _) = _
        rw [if_neg (by rw [h1]; simp), if_pos (by rw [h2, h3]; rfl)]
      rw [es] at k
      exact ⟨(by show 1 ≤ sizeLine; decide), fun p hp => fin1 (sG.trans s17) (hL.same s17) hp k⟩
    have h3 : Si53.reasonOk l (s0 == 1) FF R = true := by simpa using h3
    have es : Si53.step l (.may c t (s0 == 1) FF R) = (l, ⟨if Si53.against l c t (s0 == 1) FF R = [] then 1 else 0, Si53.ints (Si53.against l c t (s0 == 1) FF R)⟩) := by
      show (l, if Si53.there l c = false then Si53.ok (-2) else if (Si53.factsOk l FF && Si53.reasonOk l (s0 == 1) FF R) = false then Si53.ok (-1) else _) = _
      rw [if_neg (by rw [h1]; simp), if_neg (by rw [h2, h3]; simp)]
    rw [es] at k
    have ea : Si53.against l c t (s0 == 1) FF R = (Si53.binds l c t).filter fun i => Si53.gainsay (Si53.decision l i) d := by
      unfold Si53.against
      rw [hd]
    generalize Si53.against l c t (s0 == 1) FF R = ag at *
    obtain ⟨x7, hx7⟩ := D7.ins
    refine ⟨_, rfl, _, rfl, x, CD, x7, _, _, rfl, hx7, T.clD, T.d1, df_court _ _ _ _ _ _, _, rfl, x, CD, x7, _, _, rfl, hx7, T.clD, T.d2, df_day _ _ _ _ _ _, _, ⟨a, d.court, d.day, l, rfl, (hL.same s17).is, by rw [dc]; exact hc, rfl⟩, fun H8 z s8 hz hzl => ?_⟩
    rw [dc, dt] at hzl
    have s18 := s17.trans s8
    refine ⟨_, rfl, z, rfl, ⟨_, SqL.of hzl⟩, fun D hD => lc_keep (K := K) (fun i => Si53.gainsay (Si53.decision l i) d) hD (SqL.of hzl) (by omega) (fun _ => rfl) (hi_of (n := 7) rfl (by decide)) (fun i n H' Q' hn s9 q9 => ?_) (fun H9 s9 hDl => ?_)⟩
    · have hL9 := hL.same (s18.trans s9)
      obtain ⟨bs, ts, ls, lu, ld, as, L⟩ := id hL9
      obtain ⟨lx, hI⟩ := L.ins
      have hn' := binds_lt W (List.mem_of_getElem? hn)
      obtain ⟨cn, hcn⟩ : ∃ cn, as[n]? = some cn := ⟨_, List.getElem?_eq_getElem (by rw [L.len]; exact hn')⟩
      exact ⟨_, rfl, a, CL, lx, _, _, rfl, hI, T.clL, T.l3, lf_decisions _ _ _, _, rfl, ld, _, _, _, rfl, rfl, SqL.of L.dl, atI_nat (by rw [List.getElem?_map, hcn]; rfl), _, rfl, _, ⟨cn, x, _, d, rfl, L.dec hcn, ⟨_, _, _, _, _, D7.same (s8.trans s9)⟩, rfl⟩, fun H2 s2 => ⟨_, rfl, q9 H2 s2⟩⟩
    · have s19 := s18.trans s9
      rw [← ea] at hDl
      have al : ag.length ≤ 1000 := by
        rw [ea]
        have := List.length_filter_le (fun i => Si53.gainsay (Si53.decision l i) d) (Si53.binds l c t)
        omega
      refine ⟨_, rfl, D, _, rfl, .inl (SqL.of hDl), _, _, rfl, rfl, _, rfl, ?_⟩
      rw [len_pos]
      refine ite2 (fun h4 => ?_) (fun h4 => ?_)
      · have h4 : ag ≠ [] := by simpa using h4
        rw [if_neg h4] at k
        exact ⟨(by show 1 ≤ sizeLine; decide), fun p hp => ⟨_, rfl, cat_fin (sG.trans s19) (hL.same s19) hp hDl al k⟩⟩
      · have h4 : ag = [] := by simpa using h4
        rw [if_pos h4, h4] at k
        exact ⟨(by show 1 ≤ sizeLine; decide), fun p hp => fin1 (sG.trans s19) (hL.same s19) hp k⟩
/-! ### answer_free -/
theorem sc_answer_free : FnScope ["land", "numbers", "side", "findings", "bound_by", "k", "spare", "kind", "more"] ["land", "numbers"] (defScope s_answer_free) := ⟨rfl, rfl, rfl, by decide +kernel, rfl, by decide +kernel, by decide +kernel⟩
theorem ok_answer_free {f : Addr} {fd : FuncData} (F : Fun K "answer_free" "answer_free" s_answer_free f fd) (T : Txt K mg CL CD) (cC : Callee P w K mg base 1 "is_court" ["land", "court"] (spIsCourt CL CD)) (cF : Callee P w K mg base 2 "are_findings" ["land", "findings"] (spFindings CL CD))
    (cB : Callee P w K mg base 3 "binding" ["land", "court", "day"] (spBinding CL CD)) (cW : Callee P w K mg base 4 "fewest_that_free" ["land", "numbers", "findings", "spare"] (spFewest CL CD)) : FnOk P w K mg base CX0 5 f fd ["land", "numbers"] (spAns CL CD 8) := by
  refine F.ok sc_answer_free (fun vs H Q E h => ?_) (fun cdv A outer s H vs Q E hr h => ?_)
  · obtain ⟨a, b, l, ms, q, G, rfl, _⟩ := h
    rfl
  · obtain ⟨a, b, l, ms, q, G, rfl, hL, sG, hb, hk, k⟩ := h
    cases hk with
    | free c t s0 FF hs hF =>
    obtain ⟨t6, m6⟩ := T.c6
    obtain ⟨t7, m7⟩ := T.c7
    obtain ⟨t11, m11⟩ := T.c11
    have nd := sc_answer_free.nd
    have hr1 : Room 1 _ := hr.mono (by decide)
    have hr2 : Room 2 _ := hr.mono (by decide)
    have hr3 : Room 3 _ := hr.mono (by decide)
    refine ⟨_, pss_cons (ps_set (i := 2) nd rfl (Or.inr rfl) (pe_ix ix_list (pv 1) pe_int (fun _ _ => rfl)))
      (pss_cons (ps_set (i := 3) nd rfl (Or.inr rfl) (pe_slice sl_list (pv 1) (po_some pe_int) po_none))
      (pss_cons (ps_if (pt_not (pt_val (pe_callC cC hr1 (pa_cons (pv 0) (pa_cons (pe_ix ix_list (pv 1) pe_int (fun _ _ => rfl)) pa_nil))))) (pss_one (ps_ret (pe_lst (pa_cons (pe_glob (v := .int (-2)) rfl m7 ⟨t7, rfl⟩) pa_nil)))) pss_nil)
      (pss_cons (ps_if (pt_not (pt_val (pe_callC cF hr2 (pa_cons (pv 0) (pa_cons (pv 3) pa_nil))))) (pss_one (ps_ret (pe_lst (pa_cons (pe_glob (v := .int (-1)) rfl m6 ⟨t6, rfl⟩) pa_nil)))) pss_nil)
      (pss_cons (ps_setLc (i := 4) (own := [("k", 5)]) rfl nd rfl rfl (sw_true rfl rfl (by rfl) (by rfl)) (pi_list (pe_callC cB hr3 (pa_cons (pv 0) (pa_cons (pe_ix ix_list (pv 1) pe_int (fun _ _ => rfl)) (pa_cons (pe_ix ix_list (pv 1) pe_int (fun _ _ => rfl)) pa_nil))))) (blkOk_by (N := ["land", "numbers", "side", "findings", "bound_by", "k", "spare", "kind", "more"]) (sc := defScope s_answer_free) (by decide +kernel))
        (fun _ _ _ _ _ => pg_name (i := 5) nd rfl (Or.inl rfl))
        (fun _ _ _ _ _ => pts_one (pt_cmpR op_eq (pe_fldK (K := K) rfl (pe_ix (ix_listK (K := K) rfl) (pe_fldK (K := K) rfl (pv 0) rfl) (pv 5) (fun _ _ => rfl)) rfl) (pv 2) (nomark _)))
        (fun _ _ _ _ _ => pv 5))
      (pss_cons (ps_setLc (i := 6) (own := [("kind", 7)]) rfl nd rfl rfl (sw_true rfl rfl (by rfl) (by rfl)) (pi_range1 rfl T.range (pa_cons (pe_callB call_len_seq (by rfl) T.len PySem.boot_len (pa_cons (pe_fld (pv 0) rfl) pa_nil)) pa_nil)) (blkOk_by (N := ["land", "numbers", "side", "findings", "bound_by", "k", "spare", "kind", "more"]) (sc := defScope s_answer_free) (by decide +kernel))
        (fun _ _ _ _ _ => pg_name (i := 7) nd rfl (Or.inl rfl))
        (fun _ _ _ _ _ => pts_one (pw_and (pt_cmpR op_ne (pe_ix (ix_listK (K := K) rfl) (pe_fldK (K := K) rfl (pv 0) rfl) (pv 7) (fun _ _ => rfl)) (pv 2) (nomark _)) (pw_and1 (pt_cmpR (op_notInK (K := K) rfl) (pv 7) (pv 3) rfl))).pt)
        (fun _ _ _ _ _ => pv 7))
      (pss_cons (ps_set (i := 8) nd rfl (Or.inl rfl) (pe_callC cW hr (pa_cons (pv 0) (pa_cons (pv 4) (pa_cons (pv 3) (pa_cons (pv 6) pa_nil))))))
      (pss_cons (ps_if (pt_cmp (pc_isN (pv 8))) (pss_one (ps_ret (pe_lst (pa_cons (pe_glob (v := .int (-6)) rfl m11 ⟨t11, rfl⟩) pa_nil)))) pss_nil)
      (pss_one (ps_ret (pe_op op_cat (pe_lst (pa_cons (pe_callB call_len_seq (by rfl) T.len PySem.boot_len (pa_cons (pv 8) pa_nil)) pa_nil)) (pv 8))))))))))), ?_⟩
    have W := hL.wf
    have bl := hL.bl c t
    have b0 : atI (vN (c :: t :: s0 :: FF)) 0 = some (V.int (c : Int)) := at_of (j := 0) rfl rfl
    have b1 : atI (vN (c :: t :: s0 :: FF)) 1 = some (V.int (t : Int)) := at_of (j := 1) rfl rfl
    have b2 : atI (vN (c :: t :: s0 :: FF)) 2 = some (V.int (bitI (s0 == 1))) := by rw [← bit_of hs]; exact at_of (j := 2) rfl rfl
    have cut : cutV (vN (c :: t :: s0 :: FF)) (some 3) none = vN FF := by
      have := cut_tail (xs := vN (c :: t :: s0 :: FF)) (a := 3) (by rw [vN_len]; simp)
      rw [vN_drop] at this
      exact this
    generalize c :: t :: s0 :: FF = ms at *
    generalize (s0 == 1) = sd at *
    refine ⟨_, rfl, b, _, _, _, rfl, rfl, SqL.of hb, b2, ?_⟩
    refine ⟨_, rfl, 3, rfl, b, _, rfl, SqL.of hb, fun p hp => ?_⟩
    dsimp only
    rw [cut]
    have s1 : Same H (upd H p (.lst (vN FF))) := same_new hp (Same.refl _)
    have hp1 : NatsAt (upd H p (.lst (vN FF))) p FF := upd_same
    generalize upd H p (.lst (vN FF)) = H1 at *
    refine ⟨_, rfl, _, rfl, b, _, _, _, rfl, rfl, SqL.of (s1 _ _ hb), b0, _, ⟨a, l, c, rfl, (hL.same s1).is, rfl⟩, fun H2 s2 => ⟨_, rfl, ?_⟩⟩
    have s12 := s1.trans s2
    refine ite2 (fun h1 => ?_) (fun h1 => ?_)
    · have h1 : Si53.there l c = false := by simpa using h1
      have es : Si53.step l (.free c t sd FF) = (l, Si53.ok (-2)) := by
        show (l, if Si53.there l c = false then Si53.ok (-2) else _) = _
        rw [if_pos h1]
      rw [es] at k
      exact ⟨(by show 1 ≤ sizeLine; decide), fun p hp => fin1 (sG.trans s12) (hL.same s12) hp k⟩
    have h1 : Si53.there l c = true := by simpa using h1
    have hc : c < l.courts.length := of_decide_eq_true h1
    refine ⟨_, rfl, _, rfl, _, ⟨a, p, l, FF, rfl, (hL.same s12).is, s2 _ _ hp1, hF, rfl⟩, fun H3 s3 => ⟨_, rfl, ?_⟩⟩
    have s13 := s12.trans s3
    have hp3 : NatsAt H3 p FF := s3 _ _ (s2 _ _ hp1)
    refine ite2 (fun h2 => ?_) (fun h2 => ?_)
    · have h2 : Si53.factsOk l FF = false := by simpa using h2
      have es : Si53.step l (.free c t sd FF) = (l, Si53.ok (-1)) := by
        show (l, if Si53.there l c = false then Si53.ok (-2) else if Si53.factsOk l FF = false then Si53.ok (-1) else _) = _
        rw [if_neg (by rw [h1]; simp), if_pos h2]
      rw [es] at k
      exact ⟨(by show 1 ≤ sizeLine; decide), fun p hp => fin1 (sG.trans s13) (hL.same s13) hp k⟩
    have h2 : Si53.factsOk l FF = true := by simpa using h2
    have es : Si53.step l (.free c t sd FF) = (l, match Si53.free l c t sd FF with
      | none => Si53.ok (-6)
      | some x => Si53.listed x) := by
      show (l, if Si53.there l c = false then Si53.ok (-2) else if Si53.factsOk l FF = false then Si53.ok (-1) else _) = _
      rw [if_neg (by rw [h1]; simp), if_neg (by rw [h2]; simp)]
      rfl
    rw [free_eq] at es
    -- bound_by
    refine ⟨_, rfl, _, rfl, b, _, _, _, rfl, rfl, SqL.of (s13 _ _ hb), b0, _, rfl, b, _, _, _, rfl, rfl, SqL.of (s13 _ _ hb), b1, _, ⟨a, c, t, l, rfl, (hL.same s13).is, hc, rfl⟩, fun H4 z s4 hz hzl => ?_⟩
    have s14 := s13.trans s4
    refine ⟨z, rfl, ⟨_, SqL.of hzl⟩, fun D hD => lc_keep (K := K) (fun i => (Si53.decision l i).side == sd) hD (SqL.of hzl) (by omega) (fun _ => rfl) (hi_of (n := 9) rfl (by decide)) (fun i n H' Q' hn s9 q9 => ?_) (fun H5 s5 hDl => ?_)⟩
    · have hL9 := hL.same (s14.trans s9)
      obtain ⟨bs, ts, ls, lu, ld, as, L⟩ := id hL9
      obtain ⟨lx, hI⟩ := L.ins
      have hn' := binds_lt W (List.mem_of_getElem? hn)
      obtain ⟨cn, hcn⟩ : ∃ cn, as[n]? = some cn := ⟨_, List.getElem?_eq_getElem (by rw [L.len]; exact hn')⟩
      obtain ⟨fn, rn, on, Gn, _⟩ := (L.at_ n cn hcn).ex
      obtain ⟨nx, hN⟩ := Gn.ins
      refine ⟨_, rfl, a, CL, lx, _, _, rfl, hI, T.clL, T.l3, lf_decisions _ _ _, _, rfl, ld, _, _, _, rfl, rfl, SqL.of L.dl, atI_nat (by rw [List.getElem?_map, hcn]; rfl), cn, CD, nx, _, _, rfl, hN, T.clD, T.d3, df_side _ _ _ _ _ _, _, rfl, rfl, _, rfl, ?_⟩
      rw [bit_eq]
      exact q9 H' (Same.refl _)
    have s15 := s14.trans s5
    have hDl : NatsAt H5 D (sided l c t sd) := hDl
    -- spare
    have hL5 := hL.same s15
    obtain ⟨bs, ts, ls, lu, ld, as, L⟩ := id hL5
    obtain ⟨lx, hI⟩ := L.ins
    have h10 := W.ns
    have vl : (vS l.speaks).length = l.speaks.length := by unfold vS; rw [List.length_map]
    refine ⟨_, rfl, a, CL, lx, _, _, rfl, hI, T.clL, T.l1, lf_sides _ _ _, ls, _, rfl, .inl (SqL.of L.sd), _, rfl, by omega, by omega, fun D2 hD2 => ?_⟩
    have en : (((vS l.speaks).length : Int)).toNat = l.speaks.length := by rw [vl]; rfl
    rw [en]
    refine lc_rkeep (fun x => (!(l.speaks.getD x true == sd)) && !FF.contains x) hD2 (by omega) (fun _ => rfl) (hi_of (n := 9) rfl (by decide)) (fun i H' Q' hi s9 q9 => ?_) (fun H6 s6 hDl2 => ?_)
    · have L1 := L.same s9
      obtain ⟨lx1, hI1⟩ := L1.ins
      refine ⟨_, rfl, a, CL, lx1, _, _, rfl, hI1, T.clL, T.l1, lf_sides _ _ _, _, rfl, ls, _, _, _, rfl, rfl, SqL.of L1.sd, atI_nat (vS_get hi), _, rfl, rfl, _, rfl, ?_⟩
      rw [bit_eq]
      refine ite2 (fun h3 => ?_) (fun h3 => ?_)
      · refine ⟨_, rfl, _, rfl, p, _, rfl, .inl (SqL.of ((s4.trans (s5.trans s9)) _ _ hp3)), rfl, vN_flat _, _, rfl, ?_⟩
        show Q' (!inV (V.int (i : Int)) (vN FF)) H'
        rw [vN_in]
        have := q9 H' (Same.refl _)
        rw [h3, Bool.true_and] at this
        exact this
      · have h3 : (!(l.speaks.getD i true == sd)) = false := by simpa using h3
        have := q9 H' (Same.refl _)
        rw [h3, Bool.false_and] at this
        exact this
    have s16 := s15.trans s6
    rw [← more_eq] at hDl2
    have lm := more_len l (!sd) FF
    have ls1 : (sided l c t sd).length ≤ 1000 := by
      have := List.length_filter_le (fun k => (Si53.decision l k).side == sd) (Si53.binds l c t)
      unfold sided
      omega
    have hs1 : ∀ x ∈ sided l c t sd, x < l.decisions.length := fun x hx => binds_lt W (List.mem_filter.mp hx).1
    -- more
    refine ⟨_, rfl, _, rfl, _, rfl, _, rfl, a, D, p, D2, l, sided l c t sd, FF, Si53.more l (!sd) FF, rfl, (hL.same s16).is, s6 _ _ hDl, ls1, hs1, (s4.trans (s5.trans s6)) _ _ hp3, hF, factsOk_lt h2, hDl2, by omega, fun x hx => more_lt hx, rises_more _ _ _, fun hn H7 s7 => ?_, fun x hx xl H7 q s7 hq => ?_⟩
    · have s17 := s16.trans s7
      rw [hn] at es
      rw [es] at k
      refine ⟨_, rfl, _, rfl, iteT ?_⟩
      exact ⟨(by show 1 ≤ sizeLine; decide), fun p hp => fin1 (sG.trans s17) (hL.same s17) hp k⟩
    · have s17 := s16.trans s7
      rw [hx] at es
      rw [es] at k
      refine ⟨_, rfl, _, rfl, iteF ?_⟩
      refine ⟨_, rfl, q, _, rfl, .inl (SqL.of hq), (by show 1 ≤ sizeLine; decide), fun p hp => ⟨_, rfl, ?_⟩⟩
      have el : ((vN x).length : Int) = (x.length : Int) := by rw [vN_len]
      rw [el]
      exact cat_fin (sG.trans s17) (hL.same s17) hp hq (by omega) k
end
end CC
set_option maxHeartbeats 2000000
namespace CC
open PySem PySem.Spec PyProof.Rows L2
theorem lf_put_sides (s u d x : Addr) : putF "sides" (.ref x) (landF s u d) = landF x u d := rfl
theorem lf_put_uppers (s u d x : Addr) : putF "uppers" (.ref x) (landF s u d) = landF s x d := rfl
theorem lf_put_decisions (s u d x : Addr) : putF "decisions" (.ref x) (landF s u d) = landF s u x := rfl
theorem vS_bits {r : List Nat} (h : ∀ x ∈ r, x ≤ 1) : vN r = vS (r.map fun x => x == 1) := by
  unfold vN vS
  rw [List.map_map]
  refine List.map_congr_left fun x hx => ?_
  have := h x hx
  match x, this with
  | 0, _ => rfl
  | 1, _ => rfl
section
variable {P : Program} {w : World} {K : PySem.W.Frag} {mg : Str → Option Value} {base : Heap} {CL CD : Addr}
/-! ### answer_begins -/
theorem sc_answer_begins : FnScope ["land", "numbers"] ["land", "numbers"] (defScope s_answer_begins) := ⟨rfl, rfl, rfl, by decide +kernel, rfl, by decide +kernel, by decide +kernel⟩
theorem ok_answer_begins {f : Addr} {fd : FuncData} (F : Fun K "answer_begins" "answer_begins" s_answer_begins f fd) (T : Txt K mg CL CD) : FnOk P w K mg base CX0 1 f fd ["land", "numbers"] (spAns CL CD 0) := by
  refine F.ok sc_answer_begins (fun vs H Q E h => ?_) (fun cdv A outer s H vs Q E hr h => ?_)
  · obtain ⟨a, b, l, ms, q, G, rfl, _⟩ := h
    rfl
  · obtain ⟨a, b, l, r, q, G, rfl, hL, sG, hb, hk, k⟩ := h
    cases hk with
    | begins _ hr20 hr1 =>
    obtain ⟨t1, m1⟩ := T.c1
    obtain ⟨t6, m6⟩ := T.c6
    obtain ⟨bs, ts, ls, lu, ld, as, L⟩ := id hL
    obtain ⟨dx, hI⟩ := L.ins
    refine ⟨_, pss_cons (ps_if (pt_cmpR op_gt (pe_callB call_len_seq (by rfl) T.len PySem.boot_len (pa_cons (pv 1) pa_nil)) (pe_glob (v := .int 10) rfl m1 ⟨t1, rfl⟩) (nomark _)) (pss_one (ps_ret (pe_lst (pa_cons (pe_glob (v := .int (-1)) rfl m6 ⟨t6, rfl⟩) pa_nil)))) pss_nil)
      (pss_cons (ps_fld (pv 0) (pe_callTy call_list_of (by rfl) T.list boot_list' (pa_cons (pv 1) pa_nil)) rfl)
      (pss_cons (ps_fld (pv 0) (pe_lst pa_nil) rfl)
      (pss_cons (ps_fld (pv 0) (pe_lst pa_nil) rfl)
      (pss_one (ps_ret (pe_lst (pa_cons pe_int pa_nil))))))), ?_⟩
    refine ⟨_, rfl, b, _, rfl, .inl (SqL.of hb), _, _, rfl, rfl, _, rfl, ?_⟩
    have el : ((vN r).length : Int) = (r.length : Int) := by rw [vN_len]
    have lm : (r.map fun x => x == 1).length = r.length := List.length_map _
    refine ite2 (fun h1 => ?_) (fun h1 => ?_)
    · have h1 : (10 : Int) < ((vN r).length : Int) := of_decide_eq_true h1
      have es : Si53.step l (.begins (r.map fun x => x == 1)) = (l, Si53.ok (-1)) := by
        show (if 10 < (r.map fun x => x == 1).length then (l, Si53.ok (-1)) else _) = _
        rw [if_pos (by omega)]
      rw [es] at k
      refine ⟨(by show 1 ≤ sizeLine; decide), fun p hp => ?_⟩
      have s2 : Same H (upd H p (.lst [V.int (-1)])) := same_new hp (Same.refl _)
      exact k _ p (sG.trans s2) (hL.same s2) (sG.free hp) upd_same
    have h1 : ¬ (10 : Int) < ((vN r).length : Int) := fun z => h1 (decide_eq_true z)
    have es : Si53.step l (.begins (r.map fun x => x == 1)) = (⟨r.map fun x => x == 1, [], []⟩, Si53.ok 0) := by
      show (if 10 < (r.map fun x => x == 1).length then (l, Si53.ok (-1)) else _) = _
      rw [if_neg (by omega)]
    rw [es] at k
    refine ⟨_, rfl, b, _, rfl, .inl (SqL.of hb), fun p1 hp1 => ?_⟩
    have n1 : a ≠ p1 := ne_of_none hI hp1
    refine ⟨_, rfl, a, CL, dx, _, rfl, (by rw [upd_ne n1]; exact hI), T.clL, T.l1, (by show 3 < 1000; decide), ?_⟩
    rw [lf_put_sides]
    refine ⟨Nat.zero_le _, fun p2 hp2 => ?_⟩
    have n2 : a ≠ p2 := ne_of_none upd_same hp2
    have n21 : p1 ≠ p2 := ne_of_none (o := .lst (vN r)) (by rw [upd_ne n1.symm]; exact upd_same) hp2
    refine ⟨_, rfl, a, CL, dx, _, rfl, (by rw [upd_ne n2]; exact upd_same), T.clL, T.l2, (by show 3 < 1000; decide), ?_⟩
    rw [lf_put_uppers]
    refine ⟨Nat.zero_le _, fun p3 hp3 => ?_⟩
    have n3 : a ≠ p3 := ne_of_none upd_same hp3
    have n31 : p1 ≠ p3 := ne_of_none (o := .lst (vN r)) (by rw [upd_ne n1.symm, upd_ne n21, upd_ne n1.symm]; exact upd_same) hp3
    have n32 : p2 ≠ p3 := ne_of_none (o := .lst []) (by rw [upd_ne n2.symm]; exact upd_same) hp3
    refine ⟨_, rfl, a, CL, dx, _, rfl, (by rw [upd_ne n3]; exact upd_same), T.clL, T.l3, (by show 3 < 1000; decide), ?_⟩
    rw [lf_put_decisions]
    have g1 : G p1 = Option.none := sG.free hp1
    have g2 : G p2 = Option.none := by
      refine Same.free ?_ hp2
      exact same_new L.own.1 (same_new g1 sG)
    have g3 : G p3 = Option.none := by
      refine Same.free ?_ hp3
      exact same_new L.own.1 (same_new g2 (same_new L.own.1 (same_new g1 sG)))
    generalize hH : upd (upd (upd (upd (upd (upd H p1 (.lst (vN r))) a (.ins CL dx (landF p1 lu ld))) p2 (.lst [])) a (.ins CL dx (landF p1 p2 ld))) p3 (.lst [])) a (.ins CL dx (landF p1 p2 p3)) = H6
    have sG6 : Same G H6 := by
      rw [← hH]
      exact same_new L.own.1 (same_new g3 (same_new L.own.1 (same_new g2 (same_new L.own.1 (same_new g1 sG)))))
    have i6 : H6 a = some (.ins CL dx (landF p1 p2 p3)) := by rw [← hH]; exact upd_same
    have i1 : H6 p1 = some (.lst (vN r)) := by
      rw [← hH, upd_ne n1.symm, upd_ne n31, upd_ne n1.symm, upd_ne n21, upd_ne n1.symm]
      exact upd_same
    have i2 : H6 p2 = some (.lst []) := by
      rw [← hH, upd_ne n2.symm, upd_ne n32, upd_ne n2.symm]
      exact upd_same
    have i3 : H6 p3 = some (.lst []) := by
      rw [← hH, upd_ne n3.symm]
      exact upd_same
    have hL6 : LandIn CL CD G H6 a ⟨r.map fun x => x == 1, [], []⟩ := by
      refine ⟨[], [], p1, p2, p3, [], ⟨⟨⟨dx, i6⟩, ?_, i2, i3, rfl, List.nodup_nil, fun i c hc => by simp at hc, ⟨n21.symm, n31.symm, n32⟩, ⟨L.own.1, g1, g2, g3, fun c hc => by simp at hc⟩⟩, wf_begins _ (by omega), hist_nil _ _⟩⟩
      rw [i1, vS_bits hr1]
    refine ⟨(by show 1 ≤ sizeLine; decide), fun p hp => ?_⟩
    have s7 : Same H6 (upd H6 p (.lst [V.int 0])) := same_new hp (Same.refl _)
    exact k _ p (sG6.trans s7) (hL6.same s7) (sG6.free hp) upd_same
/-! ### answer_decide: the heap -/
/-- a decision's taker is set -/
theorem LandRaw.take {G H : Hp} {a : Addr} {l : Si53.Land} {bs : List Bool} {us : List (Option Nat)} {ls lu ld : Addr} {as : List Addr} (L : LandRaw CL CD G H a l bs us ls lu ld as) {i n : Nat} {c dx f r o : Addr} (hul : us.length = l.decisions.length) (hc : as[i]? = some c)
    (hx : H c = some (.ins CD dx (decF (Si53.decision l i) f r o (bs.getD i true) (us.getD i none)))) :
    LandRaw CL CD G (upd H c (.ins CD dx (decF (Si53.decision l i) f r o (bs.getD i true) (some n)))) a l bs (us.set i (some n)) ls lu ld as := by
  obtain ⟨ax, hI⟩ := L.ins
  have hi : i < us.length := by rw [hul, ← L.len]; exact (List.getElem?_eq_some_iff.mp hc).1
  have lst : ∀ (x : Addr) (xs : List V), H x = some (.lst xs) → upd H c (.ins CD dx (decF (Si53.decision l i) f r o (bs.getD i true) (some n))) x = some (.lst xs) := fun x xs e => by
    rw [upd_ne (ne_of e hx (by intro z; cases z))]
    exact e
  have hac : a ≠ c := fun q => by
    rw [← q, hI] at hx
    have q := (HO.ins.inj (Option.some.inj hx)).2.2
    have q2 := congrArg List.length q
    exact absurd q2 (by show ¬ 3 = 8; decide)
  refine ⟨⟨ax, by rw [upd_ne hac]; exact hI⟩, lst _ _ L.sd, lst _ _ L.up, lst _ _ L.dl, L.len, L.nd, fun j e he => ?_, L.ne, L.own⟩
  by_cases hj : j = i
  · subst hj
    rw [hc] at he
    cases he
    obtain ⟨f2, r2, o2, D, z, g⟩ := (L.at_ j c hc).ex
    obtain ⟨gx, hg⟩ := D.ins
    rw [hx] at hg
    have q2 := (HO.ins.inj (Option.some.inj hg)).2.2
    unfold decF at q2
    simp only [List.cons.injEq, Prod.mk.injEq, V.ref.injEq, true_and, and_true] at q2
    obtain ⟨rfl, rfl, rfl⟩ := q2
    have e2 : (us.set j (some n)).getD j none = some n := by
      rw [List.getD_eq_getElem?_getD, List.getElem?_set_self hi]
      rfl
    rw [e2]
    exact ⟨f, r, o, ⟨⟨dx, upd_same⟩, lst _ _ D.hf, lst _ _ D.hr, lst _ _ D.ho, D.lf, D.lr, D.lo⟩, z, g⟩
  · obtain ⟨f2, r2, o2, D, z⟩ := (L.at_ j e he).ex
    obtain ⟨gx, hg⟩ := D.ins
    have hec : e ≠ c := fun q => hj (nd_ix L.nd he (by rw [q]; exact hc))
    have e2 : (us.set i (some n)).getD j none = us.getD j none := by
      rw [List.getD_eq_getElem?_getD, List.getElem?_set_ne (fun q => hj q.symm), ← List.getD_eq_getElem?_getD]
    rw [e2]
    exact ⟨f2, r2, o2, ⟨⟨gx, by rw [upd_ne hec]; exact hg⟩, lst _ _ D.hf, lst _ _ D.hr, lst _ _ D.ho, D.lf, D.lr, D.lo⟩, z⟩
theorem nodup_snoc {α : Type} {l : List α} {k : α} (h : l.Nodup) (hk : ¬ k ∈ l) : (l ++ [k]).Nodup := by
  rw [List.nodup_append]
  refine ⟨h, by simp, fun a ha b hb => ?_⟩
  have : b = k := by simpa using hb
  subst this
  exact fun e => hk (e ▸ ha)
/-- one more decision is appended -/
theorem LandRaw.more {G H : Hp} {a : Addr} {l : Si53.Land} {bs : List Bool} {us : List (Option Nat)} {ls lu ld : Addr} {as : List Addr} (L : LandRaw CL CD G H a l bs us ls lu ld as) {c f r o : Addr} {d : Si53.Decision} {b : Bool} (hbl : bs.length = l.decisions.length) (hul : us.length = l.decisions.length)
    (D : DecO CD H c d b none f r o) (hc : c ∉ as) (gc : G c = Option.none) (hf : f ≠ lu ∧ f ≠ ld ∧ r ≠ lu ∧ r ≠ ld ∧ o ≠ lu ∧ o ≠ ld) (hg : G f = Option.none ∧ G r = Option.none ∧ G o = Option.none) :
    LandRaw CL CD G (upd H ld (.lst (as.map V.ref ++ [V.ref c]))) a (plus l d) (bs ++ [b]) (us ++ [none]) ls lu ld (as ++ [c]) := by
  obtain ⟨ax, hI⟩ := L.ins
  have ins : ∀ (x C dx : Addr) (fs : List (Str × V)), H x = some (.ins C dx fs) → upd H ld (.lst (as.map V.ref ++ [V.ref c])) x = some (.ins C dx fs) := fun x C dx fs e => by
    rw [upd_ne (ne_of e L.dl (by intro z; cases z))]
    exact e
  have oth : ∀ (x : Addr) (u : HO), H x = some u → x ≠ ld → upd H ld (.lst (as.map V.ref ++ [V.ref c])) x = some u := fun x u e h => by
    rw [upd_ne h]
    exact e
  obtain ⟨ga, gs, gu, gd, gcs⟩ := L.own
  refine ⟨⟨ax, ins _ _ _ _ hI⟩, oth _ _ L.sd L.ne.2.1.symm, oth _ _ L.up L.ne.2.2, ?_, ?_, nodup_snoc L.nd hc, fun j e he => ?_, L.ne, ⟨ga, gs, gu, gd, fun x hx => ?_⟩⟩
  · rw [upd_same, List.map_append]
    rfl
  · rw [List.length_append, plus_len, L.len]
    rfl
  · rcases Nat.lt_or_ge j as.length with z | z
    · rw [List.getElem?_append_left z] at he
      obtain ⟨f2, r2, o2, D2, z2, g2⟩ := (L.at_ j e he).ex
      obtain ⟨gx, hg⟩ := D2.ins
      have zl : j < l.decisions.length := by rw [← L.len]; exact z
      rw [plus_old d zl, getD_append_left' (by omega), getD_append_left' (by omega)]
      exact ⟨f2, r2, o2, ⟨⟨gx, ins _ _ _ _ hg⟩, oth _ _ D2.hf z2.2.1, oth _ _ D2.hr z2.2.2.2.1, oth _ _ D2.ho z2.2.2.2.2.2, D2.lf, D2.lr, D2.lo⟩, z2, g2⟩
    · have hj : j = as.length := by
        have := (List.getElem?_eq_some_iff.mp he).1
        rw [List.length_append] at this
        simp at this
        omega
      subst hj
      rw [List.getElem?_append_right (Nat.le_refl _)] at he
      have he : c = e := by simpa using he
      subst he
      rw [L.len, plus_new, getD_snoc (by omega), getD_snoc (by omega)]
      obtain ⟨gx, hx⟩ := D.ins
      exact ⟨f, r, o, ⟨⟨gx, ins _ _ _ _ hx⟩, oth _ _ D.hf hf.2.1, oth _ _ D.hr hf.2.2.2.1, oth _ _ D.ho hf.2.2.2.2.2, D.lf, D.lr, D.lo⟩, hf, hg⟩
  · rcases List.mem_append.mp hx with z | z
    · exact gcs x z
    · have : x = c := by simpa using z
      rw [this]
      exact gc
end
end CC
set_option maxHeartbeats 2000000
namespace CC
open PySem PySem.Spec PyProof.Rows L2
/-! ### decide, on the specification's side -/
theorem step_decide (l : Si53.Land) (d : Si53.Decision) : Si53.step l (.decide_ d) = if Si53.there l d.court = false then (l, Si53.ok (-2)) else if wellTold l d = false then (l, Si53.ok (-1)) else if d.day < Si53.today l then (l, Si53.ok (-4)) else if 30 ≤ l.decisions.length then (l, Si53.ok (-5)) else
    if (d.over.all fun i => mayOver l d i) = false then (l, Si53.ok (-6)) else (plus l d, ⟨(l.decisions.length : Int), Si53.ints ((if (Si53.stands (plus l d) d.day).contains l.decisions.length = true then 1 else 0) :: (Si53.stands l d.day).filter fun i => !(Si53.stands (plus l d) d.day).contains i)⟩) := rfl
theorem step_refused {l : Si53.Land} {d : Si53.Decision} (h : refusal l d ≠ 0) : Si53.step l (.decide_ d) = (l, Si53.ok (refusal l d)) := by
  rw [step_decide]
  unfold refusal at h ⊢
  by_cases h1 : Si53.there l d.court = false
  · rw [if_pos h1, if_pos h1]
  rw [if_neg h1] at h
  rw [if_neg h1, if_neg h1]
  by_cases h2 : wellTold l d = false
  · rw [if_pos h2, if_pos h2]
  rw [if_neg h2] at h
  rw [if_neg h2, if_neg h2]
  by_cases h3 : d.day < Si53.today l
  · rw [if_pos h3, if_pos h3]
  rw [if_neg h3] at h
  rw [if_neg h3, if_neg h3]
  by_cases h4 : 30 ≤ l.decisions.length
  · rw [if_pos h4, if_pos h4]
  rw [if_neg h4] at h
  rw [if_neg h4, if_neg h4]
  by_cases h5 : (d.over.all fun i => mayOver l d i) = false
  · rw [if_pos h5, if_pos h5]
  rw [if_neg h5] at h
  exact absurd rfl h
theorem told_of {l : Si53.Land} {d : Si53.Decision} (h : refusal l d = 0) : Told l d := by
  unfold refusal at h
  by_cases h1 : Si53.there l d.court = false
  · rw [if_pos h1] at h; cases h
  rw [if_neg h1] at h
  by_cases h2 : wellTold l d = false
  · rw [if_pos h2] at h; cases h
  rw [if_neg h2] at h
  by_cases h3 : d.day < Si53.today l
  · rw [if_pos h3] at h; cases h
  rw [if_neg h3] at h
  by_cases h4 : 30 ≤ l.decisions.length
  · rw [if_pos h4] at h; cases h
  have h2' : wellTold l d = true := by simpa using h2
  unfold wellTold at h2'
  simp only [Bool.and_eq_true] at h2'
  have h1' : Si53.there l d.court = true := by simpa using h1
  exact ⟨of_decide_eq_true h1', h2'.1, h2'.2.1, h3, by omega⟩
theorem step_told {l : Si53.Land} (W : WF l) {d : Si53.Decision} (h : refusal l d = 0) : Si53.step l (.decide_ d) = (plus l d, ⟨(l.decisions.length : Int), Si53.ints ((if Si53.barred l (fld l l.decisions.length) d = true then 0 else 1) :: (if Si53.barred l (fld l l.decisions.length) d = true then [] else taken l d))⟩) := by
  have T := told_of h
  rw [step_decide]
  unfold refusal at h
  by_cases h1 : Si53.there l d.court = false
  · rw [if_pos h1] at h; cases h
  rw [if_neg h1] at h
  rw [if_neg h1]
  by_cases h2 : wellTold l d = false
  · rw [if_pos h2] at h; cases h
  rw [if_neg h2] at h
  rw [if_neg h2]
  by_cases h3 : d.day < Si53.today l
  · rw [if_pos h3] at h; cases h
  rw [if_neg h3] at h
  rw [if_neg h3]
  by_cases h4 : 30 ≤ l.decisions.length
  · rw [if_pos h4] at h; cases h
  rw [if_neg h4] at h
  rw [if_neg h4]
  by_cases h5 : (d.over.all fun i => mayOver l d i) = false
  · rw [if_pos h5] at h; cases h
  rw [if_neg h5, told_stands W T, told_taken W T]
  cases Si53.barred l (fld l l.decisions.length) d <;> rfl
section
variable {P : Program} {w : World} {K : PySem.W.Frag} {mg : Str → Option Value} {base : Heap} {CL CD : Addr}
theorem refused_ne (z : Int) : (!decide (V.int z = V.int 0)) = !decide (z = 0) := by
  congr 1
  rw [Bool.eq_iff_iff]
  simp
theorem sc_answer_decide : FnScope ["land", "numbers", "decision", "refusal", "number", "taken", "k", "earlier"] ["land", "numbers"] (defScope s_answer_decide) := ⟨rfl, rfl, rfl, by decide +kernel, rfl, by decide +kernel, by decide +kernel⟩
theorem ok_answer_decide {f : Addr} {fd : FuncData} (F : Fun K "answer_decide" "answer_decide" s_answer_decide f fd) (T : Txt K mg CL CD) (cD : Callee P w K mg base 3 "decision_told" ["numbers"] (spToldD CD)) (cR : Callee P w K mg base 4 "refusal_to_decide" ["land", "decision"] (spRefusal CL CD))
    (cB : Callee P w K mg base 3 "is_barred" ["land", "decision"] (spBarred CL CD)) (cT : Callee P w K mg base 3 "taken_away_by" ["land", "decision"] (spTaken CL CD)) : FnOk P w K mg base CX0 5 f fd ["land", "numbers"] (spAns CL CD 2) := by
  refine F.ok sc_answer_decide (fun vs H Q E h => ?_) (fun cdv A outer s H vs Q E hr h => ?_)
  · obtain ⟨a, b, l, ms, q, G, rfl, _⟩ := h
    rfl
  · obtain ⟨a, b, l, ms, q, G, rfl, hL, sG, hb, hk, k⟩ := h
    cases hk with
    | decide_ c t s0 FF R O hs lF lR lO =>
    obtain ⟨sd, rfl⟩ : ∃ sd : Bool, s0 = if sd then 1 else 0 := by
      match s0, hs with
      | 0, _ => exact ⟨false, rfl⟩
      | 1, _ => exact ⟨true, rfl⟩
    have esd : ((if sd = true then 1 else 0 : Nat) == 1) = sd := by cases sd <;> rfl
    rw [esd] at k
    generalize hd : (⟨c, t, FF, sd, R, O⟩ : Si53.Decision) = d at k
    obtain ⟨t5, m5⟩ := T.c5
    have nd := sc_answer_decide.nd
    have hr3 : Room 3 _ := hr.mono (by decide)
    refine ⟨_, pss_cons (ps_set (i := 2) nd rfl (Or.inl rfl) (pe_callC cD hr3 (pa_cons (pv 1) pa_nil)))
      (pss_cons (ps_set (i := 3) nd rfl (Or.inl rfl) (pe_callC cR hr (pa_cons (pv 0) (pa_cons (pv 2) pa_nil))))
      (pss_cons (ps_if (pt_cmpR op_ne (pv 3) (pe_glob (v := .int 0) rfl m5 ⟨t5, rfl⟩) (nomark _)) (pss_one (ps_ret (pe_lst (pa_cons (pv 3) pa_nil)))) pss_nil)
      (pss_cons (ps_set (i := 4) nd rfl (Or.inl rfl) (pe_callB call_len_seq (by rfl) T.len PySem.boot_len (pa_cons (pe_fld (pv 0) rfl) pa_nil)))
      (pss_cons (ps_fld (pv 2) (pe_callC cB hr3 (pa_cons (pv 0) (pa_cons (pv 2) pa_nil))) rfl)
      (pss_cons (ps_set (i := 5) nd rfl (Or.inl rfl) (pe_ifExp (pt_val (pe_fld (pv 2) rfl)) (pe_lst pa_nil) (pe_callC cT hr3 (pa_cons (pv 0) (pa_cons (pv 2) pa_nil)))))
      (pss_cons (ps_for PassesOwn.never rfl (pi_list (pv 5)) (pg_name (i := 6) nd rfl (Or.inl rfl))
        (pss_cons (ps_set (i := 7) nd rfl (Or.inl rfl) (pe_ix ix_list (pe_fld (pv 0) rfl) (pv 6) (fun _ _ => rfl)))
        (pss_one (ps_fld (pv 7) (pv 4) rfl))))
      (pss_cons (ps_expr (pe_bm PySem.F.plainAttrs_list PySem.F.slot_list_append PySem.F.type_list_append mt_append (pe_fld (pv 0) rfl) (pa_cons (pv 2) pa_nil)))
      (pss_one (ps_ret (pe_op op_cat (pe_lst (pa_cons (pv 4) (pa_cons (pe_ifExp (pt_val (pe_fld (pv 2) rfl)) pe_int pe_int) pa_nil))) (pv 5))))))))))), ?_⟩
    -- decision = decision_told(numbers)
    refine ⟨_, rfl, b, c, t, sd, FF, R, O, rfl, hb, lF, lR, lO, fun H1 x f1 r1 o1 s1 hx hf hr' ho D1 => ?_⟩
    rw [hd] at D1
    -- refusal = refusal_to_decide(land, decision)
    refine ⟨_, rfl, _, rfl, _, ⟨a, x, l, d, rfl, (hL.same s1).is, ⟨_, _, _, _, _, D1⟩, rfl⟩, fun H2 s2 => ?_⟩
    have s12 := s1.trans s2
    have D2 := D1.same s2
    refine ⟨_, rfl, rfl, _, rfl, ?_⟩
    rw [refused_ne]
    refine ite2 (fun h0 => ?_) (fun h0 => ?_)
    · have h0 : refusal l d ≠ 0 := by simpa using h0
      rw [step_refused h0] at k
      refine ⟨_, rfl, (by show 1 ≤ sizeLine; decide), fun p hp => ?_⟩
      have s3 : Same H2 (upd H2 p (.lst [V.int (refusal l d)])) := same_new hp (Same.refl _)
      exact k _ p (sG.trans (s12.trans s3)) (hL.same (s12.trans s3)) ((sG.trans s12).free hp) upd_same
    have h0 : refusal l d = 0 := by simpa using h0
    have Td := told_of h0
    obtain ⟨bs, ts, ls, lu, ld, as, L⟩ := id hL
    have W := L.wf
    rw [step_told W h0] at k
    have h30 := W.nd
    obtain ⟨dx, hI⟩ := L.ins
    have hlen : (as.map V.ref).length = l.decisions.length := by rw [List.length_map, L.len]
    -- number = len(land.decisions)
    refine ⟨_, rfl, a, CL, dx, _, _, rfl, s12 _ _ hI, T.clL, T.l3, lf_decisions _ _ _, ld, _, rfl, .inl (SqL.of (s12 _ _ L.dl)), ?_⟩
    rw [hlen]
    -- decision.barred = is_barred(land, decision)
    refine ⟨_, rfl, _, rfl, _, ⟨a, x, l, d, rfl, (hL.same s12).is, ⟨_, _, _, _, _, D2⟩, Td.ct, rfl⟩, fun H3 s3 => ?_⟩
    have s13 := s12.trans s3
    have D3 := D2.same s3
    obtain ⟨gx, hG3⟩ := D3.ins
    rw [stands_before W Td.dy]
    generalize hB : Si53.barred l (fld l l.decisions.length) d = B at k ⊢
    refine ⟨_, rfl, x, CD, gx, _, rfl, hG3, T.clD, T.d7, (by show 8 < 1000; decide), ?_⟩
    rw [df_put_barred]
    have D4 : DecO CD (upd H3 x (.ins CD gx (decF d f1 r1 o1 B none))) x d B none f1 r1 o1 :=
      ⟨⟨gx, upd_same⟩, by show upd _ _ _ _ = _; rw [upd_ne (ne_of D3.hf hG3 (by intro z; cases z))]; exact D3.hf, by show upd _ _ _ _ = _; rw [upd_ne (ne_of D3.hr hG3 (by intro z; cases z))]; exact D3.hr, by show upd _ _ _ _ = _; rw [upd_ne (ne_of D3.ho hG3 (by intro z; cases z))]; exact D3.ho, D3.lf, D3.lr, D3.lo⟩
    have s4 : Same H (upd H3 x (.ins CD gx (decF d f1 r1 o1 B none))) := same_new hx s13
    generalize upd H3 x (.ins CD gx (decF d f1 r1 o1 B none)) = H4 at D4 s4 ⊢
    obtain ⟨gx4, hG4⟩ := D4.ins
    -- taken = [] if decision.barred else taken_away_by(land, decision)
    have ev : ∀ Q' : VK, (∀ (H5 : Hp) (z : Addr), Same H4 H5 → H4 z = Option.none → NatsAt H5 z (if B = true then [] else taken l d) → Q' (.ref z) H5) →
        tIf (tB (tFld K (tVar 2) "barred")) (tLst tNil) (tCall (spTaken CL CD) [] E0 (tCons (tVar 0) (tCons (tVar 2) tNil))) [some (.ref a), some (.ref b), some (.ref x), some (.int (refusal l d)), some (.int (l.decisions.length : Int)), none, none, none] H4 Q' := by
      intro Q' hq
      refine ⟨_, rfl, x, CD, gx4, _, _, rfl, hG4, T.clD, T.d7, df_barred _ _ _ _ _ _, _, rfl, ?_⟩
      refine ite2 (fun hb1 => ?_) (fun hb1 => ?_)
      · rw [if_pos hb1] at hq
        refine ⟨Nat.zero_le _, fun p hp => ?_⟩
        exact hq _ p (same_new hp (Same.refl _)) hp upd_same
      · rw [if_neg hb1] at hq
        refine ⟨_, rfl, _, rfl, _, ⟨a, x, l, d, rfl, (hL.same s4).is, ⟨_, _, _, _, _, D4⟩, rfl⟩, fun H5 p s5 hp hpl => ?_⟩
        rw [stands_before W Td.dy] at hpl
        exact hq H5 p s5 hp hpl
    refine ev _ fun H5 z s5 hz hzl => ?_
    generalize hTk : (if B = true then [] else taken l d) = tk at k hzl
    have tkl : ∀ i ∈ tk, i < l.decisions.length := fun i hi => by
      rw [← hTk] at hi
      split at hi
      · cases hi
      · exact fld_lt l _ i (List.mem_filter.mp hi).1
    have tkn : tk.length ≤ 30 := by
      rw [← hTk]
      split
      · simp
      · have a1 := List.length_filter_le (Si53.takes l d) (fld l l.decisions.length)
        have a2 : (fld l l.decisions.length).length ≤ l.decisions.length := by
          rw [L.hi.eq _ (Nat.le_refl _)]
          have := List.length_filter_le (onAt bs ts l.decisions.length) (List.range l.decisions.length)
          rw [List.length_range] at this
          exact this
        unfold taken
        omega
    have s15 := s4.trans s5
    have D5 := D4.same s5
    have xz : z ≠ x := fun e => by
      rw [e] at hz
      rw [hG4] at hz
      cases hz
    have hxas : x ∉ as := fun m => by
      obtain ⟨i, hi⟩ := List.getElem?_of_mem m
      obtain ⟨f2, r2, o2, D, _⟩ := (L.at_ i x hi).ex
      obtain ⟨q, e⟩ := D.ins
      rw [hx] at e
      cases e
    -- for k in taken: ...
    refine ⟨_, rfl, z, rfl, ⟨_, SqL.of hzl⟩, for_list (K := K) (a := z) (xs := vN tk) (fun j σ H' => ∃ (v6 v7 : Option V) (us : List (Option Nat)), σ = [some (.ref a), some (.ref b), some (.ref x), some (.int (refusal l d)), some (.int (l.decisions.length : Int)), some (.ref z), v6, v7] ∧ Same G H' ∧ LandRaw CL CD G H' a l bs us ls lu ld as ∧
        us.length = l.decisions.length ∧ (∀ i, i < l.decisions.length → us.getD i none = if i ∈ tk.take j then some l.decisions.length else ts.getD i none) ∧ NatsAt H' z tk ∧ DecO CD H' x d B none f1 r1 o1)
      ⟨none, none, ts, rfl, sG.trans s15, (L.same s15).toLandRaw, L.hi.tl, fun i _ => by simp, hzl, D5⟩ (fun j σ H' _ ⟨_, _, _, _, _, _, _, _, h3, _⟩ => SqL.of h3) ?_ ?_⟩
    · rintro j y σ H' hj ⟨v6, v7, us, rfl, sG', L', hul, hu, hz', D'⟩
      obtain ⟨n, hn, rfl⟩ := vN_got hj
      have hnl := tkl n (List.mem_of_getElem? hn)
      obtain ⟨dx', hI'⟩ := L'.ins
      obtain ⟨cn, hcn⟩ : ∃ cn, as[n]? = some cn := ⟨_, List.getElem?_eq_getElem (by rw [L.len]; exact hnl)⟩
      obtain ⟨fn, rn, on, Gn, _⟩ := (L'.at_ n cn hcn).ex
      obtain ⟨nx, hN⟩ := Gn.ins
      refine ⟨_, rfl, a, CL, dx', _, _, rfl, hI', T.clL, T.l3, lf_decisions _ _ _, _, rfl, ld, _, _, _, rfl, rfl, SqL.of L'.dl, atI_nat (by rw [List.getElem?_map, hcn]; rfl), ?_⟩
      refine ⟨_, rfl, _, rfl, cn, CD, nx, _, rfl, hN, T.clD, T.d8, (by show 8 < 1000; decide), ?_⟩
      rw [df_put_taker]
      have mcn := List.mem_of_getElem? hcn
      have xcn : x ≠ cn := fun e => hxas (e ▸ mcn)
      obtain ⟨gx', hG'⟩ := D'.ins
      refine ⟨_, _, us.set n (some l.decisions.length), rfl, same_new (L.own.2.2.2.2 cn mcn) sG', L'.take hul hcn hN, by rw [List.length_set]; exact hul, fun i hi => ?_, ?_, ?_⟩
      · rw [List.take_add_one, hn]
        by_cases e : i = n
        · subst e
          rw [List.getD_eq_getElem?_getD, List.getElem?_set_self (by omega), if_pos (by simp)]
          rfl
        · rw [List.getD_eq_getElem?_getD, List.getElem?_set_ne (fun q => e q.symm), ← List.getD_eq_getElem?_getD, hu i hi]
          have : (i ∈ tk.take j ++ (some n).toList) ↔ i ∈ tk.take j := by simp [e]
          simp only [this]
      · show upd _ _ _ _ = _
        rw [upd_ne (ne_of hz' hN (by intro z; cases z))]
        exact hz'
      · refine ⟨⟨gx', by rw [upd_ne xcn]; exact hG'⟩, ?_, ?_, ?_, D'.lf, D'.lr, D'.lo⟩
        · show upd _ _ _ _ = _
          rw [upd_ne (ne_of D'.hf hN (by intro z; cases z))]
          exact D'.hf
        · show upd _ _ _ _ = _
          rw [upd_ne (ne_of D'.hr hN (by intro z; cases z))]
          exact D'.hr
        · show upd _ _ _ _ = _
          rw [upd_ne (ne_of D'.ho hN (by intro z; cases z))]
          exact D'.ho
    · rintro σ H' ⟨v6, v7, us, rfl, sG', L', hul, hu, hz', D'⟩
      rw [vN_len, List.take_length] at hu
      obtain ⟨dx', hI'⟩ := L'.ins
      -- land.decisions.append(decision)
      refine ⟨_, rfl, a, CL, dx', _, _, rfl, hI', T.clL, T.l3, lf_decisions _ _ _, .inl ⟨rfl, _, SqL.of L'.dl⟩, _, rfl, ld, _, _, rfl, rfl, L'.dl, lt_line (by omega), ?_⟩
      have far : ∀ y, H y = Option.none → y ≠ lu ∧ y ≠ ld := fun y hy => ⟨(ne_of_none L.up hy).symm, (ne_of_none L.dl hy).symm⟩
      have R' := L'.more (b := B) L.hi.bl hul D' hxas (sG.free hx) ⟨(far f1 hf).1, (far f1 hf).2, (far r1 hr').1, (far r1 hr').2, (far o1 ho).1, (far o1 ho).2⟩ ⟨sG.free hf, sG.free hr', sG.free ho⟩
      have W' := wf_plus W Td
      have hist : Hist (plus l d) (bs ++ [B]) (us ++ [none]) := by
        cases B with
        | true =>
          have et : tk = [] := by rw [← hTk]; rfl
          have eu : us = ts := by
            apply List.ext_getElem?
            intro i
            rcases Nat.lt_or_ge i l.decisions.length with z | z
            · have := hu i z
              rw [et] at this
              simp only [List.not_mem_nil, if_false] at this
              rw [List.getD_eq_getElem?_getD, List.getD_eq_getElem?_getD] at this
              rw [List.getElem?_eq_getElem (by omega), List.getElem?_eq_getElem (by rw [L.hi.tl]; exact z)] at this ⊢
              exact congrArg some this
            · rw [List.getElem?_eq_none (by omega), List.getElem?_eq_none (by rw [L.hi.tl]; omega)]
          rw [eu]
          exact hist_barred L.hi hB
        | false =>
          have et : tk = taken l d := by rw [← hTk]; rfl
          rw [et] at hu
          exact hist_stands L.hi (by rw [hB]; simp) hul hu
      have hL' : LandIn CL CD G (upd H' ld (.lst (as.map V.ref ++ [V.ref x]))) a (plus l d) := ⟨_, _, _, _, _, _, ⟨R', W', hist⟩⟩
      have sG'' : Same G (upd H' ld (.lst (as.map V.ref ++ [V.ref x]))) := same_new L.own.2.2.2.1 sG'
      have D'' : DecO CD (upd H' ld (.lst (as.map V.ref ++ [V.ref x]))) x d B none f1 r1 o1 := by
        obtain ⟨gx', hG'⟩ := D'.ins
        refine ⟨⟨gx', by rw [upd_ne (ne_of hG' L'.dl (by intro z; cases z))]; exact hG'⟩, ?_, ?_, ?_, D'.lf, D'.lr, D'.lo⟩
        · show upd _ _ _ _ = _
          rw [upd_ne (far f1 hf).2]
          exact D'.hf
        · show upd _ _ _ _ = _
          rw [upd_ne (far r1 hr').2]
          exact D'.hr
        · show upd _ _ _ _ = _
          rw [upd_ne (far o1 ho).2]
          exact D'.ho
      have zld : z ≠ ld := ne_of_none (s4 _ _ L.dl) hz |>.symm
      have hz'' : NatsAt (upd H' ld (.lst (as.map V.ref ++ [V.ref x]))) z tk := by
        show upd _ _ _ _ = _
        rw [upd_ne zld]
        exact hz'
      generalize upd H' ld (.lst (as.map V.ref ++ [V.ref x])) = H6 at hL' sG'' D'' hz'' ⊢
      obtain ⟨gx6, hG6⟩ := D''.ins
      -- return [number, 0 if decision.barred else 1] + taken
      have ev2 : ∀ Q' : VK, Q' (.int (if B = true then 0 else 1)) H6 → tIf (tB (tFld K (tVar 2) "barred")) (tC (.int 0)) (tC (.int 1)) [some (.ref a), some (.ref b), some (.ref x), some (.int (refusal l d)), some (.int (l.decisions.length : Int)), some (.ref z), v6, v7] H6 Q' := by
        intro Q' hq
        refine ⟨_, rfl, x, CD, gx6, _, _, rfl, hG6, T.clD, T.d7, df_barred _ _ _ _ _ _, _, rfl, ?_⟩
        cases B with
        | true => exact hq
        | false => exact hq
      refine ⟨_, rfl, ev2 _ ⟨(by show 2 ≤ sizeLine; decide), fun p hp => ?_⟩⟩
      generalize hH7 : upd H6 p (.lst [V.int (l.decisions.length : Int), V.int (if B = true then 0 else 1)]) = H7
      have s7 : Same H6 H7 := by rw [← hH7]; exact same_new hp (Same.refl _)
      have hp7 : H7 p = some (.lst [V.int (l.decisions.length : Int), V.int (if B = true then 0 else 1)]) := by rw [← hH7]; exact upd_same
      refine ⟨_, rfl, p, z, _, _, rfl, rfl, hp7, s7 _ _ hz'', ?_, fun q hq => ?_⟩
      · rw [vN_len]
        exact Nat.le_of_lt (lt_line (by simp; omega))
      · have s8 : Same H7 (upd H7 q (.lst ([V.int (l.decisions.length : Int), V.int (if B = true then 0 else 1)] ++ vN tk))) := same_new hq (Same.refl _)
        refine k _ q (sG''.trans (s7.trans s8)) (hL'.same (s7.trans s8)) ((sG''.trans s7).free hq) ?_
        rw [upd_same]
        show some (HO.lst _) = some (HO.lst (((l.decisions.length : Int) :: Si53.ints ((if B = true then 0 else 1) :: tk)).map V.int))
        rw [ints_cons]
        cases B <;> rfl
end
end CC
set_option maxHeartbeats 2000000
namespace CC
open PySem PySem.Spec PyProof.Rows L2
/-! ### a call of a def that a local name holds -/
/-- the promise of the def at f -/
def Holds (P : Program) (w : World) (K : PySem.W.Frag) (mg : Str → Option Value) (base : Heap) (k : Nat) (f : Addr) (sp : Sp) : Prop :=
  ∃ fd ps, FnOk P w K mg base CX0 k f fd ps sp ∧ PySem.W.keepIn K (.ref f) = true ∧ Binds K fd ps []
def tCallL (X : Cx) (k i : Nat) (t : TA) : TE := fun σ H Q => ∃ f sp, σ[i]? = some (some (.ref f)) ∧ Holds X.prog X.w X.K X.mg X.base k f sp ∧ t σ H fun vs H1 => sp vs H1 Q E0
theorem pe_callL {X : Cx} {k i : Nat} {x : Str} {e : Expr} {es : List Expr} {t : TA} {p pos : Pos} (hr : Room k X.A) (ha : PA X (e :: es) t) (hN : X.N[i]? = some x := by rfl) (hv : Vis X.env.scope x := by first | exact Or.inl rfl | exact Or.inr (Or.inl rfl) | exact Or.inr (Or.inr rfl))
    (hdb : (x == ("__debug__" : Str)) = false := by decide) (hcd : (x == ("__classdict__" : Str)) = false := by decide) (he : starEach (e :: es) X.env = (false, eval e X.env) :: starEach es X.env := by rfl) (hpl : (backTo pos (starEach es X.env)).any (·.1) = false := by rfl) :
    PE X (.Call (.Name x p) (e :: es) [] pos) (tCallL X k i t) := by
  intro pins s σ H Q I h
  obtain ⟨f, sp, ef, ⟨fd, ps, G, kp, b⟩, h⟩ := h
  refine wpAny_Call_Name_kw (thn (pe_var (X := X) hN hv hdb hcd pins s σ H (fun v H1 => v = .ref f ∧ H1 = H) I ⟨_, ef, rfl, rfl⟩) fun u s1 ⟨v, H1, I1, r, ev, eH⟩ => ?_)
  subst ev eH
  obtain rfl : u = Value.ref f := r
  refine PySem.W.callWith_K (h₀ := X.base) I.ok.mod.kin kp (thn (ha pos pins s1 σ H1 _ I1 h) fun us s2 ⟨vs, H2, I2, r2, q⟩ => ⟨I2.kIn, ?_⟩) he hpl
  exact run_fn (dvs := []) (ds := []) G hr b .nil pass0 I2 r2 (by rw [List.append_nil]; exact q)
section
variable {P : Program} {w : World} {K : PySem.W.Frag} {mg : Str → Option Value} {base : Heap} {CL CD : Addr}
/-! ### Land.__init__ -/
def spLandI (CL : Addr) : Sp := fun vs H Q _ => ∃ (p dx : Addr), vs = [.ref p] ∧ H p = some (.ins CL dx []) ∧
  ∀ (H' : Hp) (l1 l2 l3 : Addr), H' p = some (.ins CL dx (landF l1 l2 l3)) → H' l1 = some (.lst []) → H' l2 = some (.lst []) → H' l3 = some (.lst []) → H l1 = Option.none → H l2 = Option.none → H l3 = Option.none → l2 ≠ l1 → l3 ≠ l1 → l2 ≠ l3 → (∀ b u, H b = some u → b ≠ p → H' b = some u) → Q .non H'
theorem sc_landI : FnScope ["self"] ["self"] (defScope sLandI) := ⟨rfl, rfl, rfl, by decide +kernel, rfl, by decide +kernel, by decide +kernel⟩
theorem ok_landI {f : Addr} {fd : FuncData} (F : Fun K "__init__" "Land.__init__" sLandI f fd) (T : Txt K mg CL CD) : FnOk P w K mg base CX0 1 f fd ["self"] (spLandI CL) := by
  refine F.ok sc_landI (fun vs H Q E h => ?_) (fun cdv A outer s H vs Q E hr h => ?_)
  · obtain ⟨p, dx, rfl, _⟩ := h
    rfl
  · obtain ⟨a, dx, rfl, hI, k⟩ := h
    refine ⟨_, pss_cons (ps_fld (pv 0) (pe_lst pa_nil) rfl) (pss_cons (ps_fld (pv 0) (pe_lst pa_nil) rfl) (pss_one (ps_fld (pv 0) (pe_lst pa_nil) rfl))), ?_⟩
    refine ⟨Nat.zero_le _, fun p1 hp1 => ?_⟩
    have n1 : a ≠ p1 := ne_of_none hI hp1
    refine ⟨_, rfl, a, CL, dx, _, rfl, (by rw [upd_ne n1]; exact hI), T.clL, T.l1, (by show 0 < 1000; decide), ?_⟩
    refine ⟨Nat.zero_le _, fun p2 hp2 => ?_⟩
    have n2 : a ≠ p2 := ne_of_none upd_same hp2
    have n21 : p1 ≠ p2 := ne_of_none (o := .lst []) (by rw [upd_ne n1.symm]; exact upd_same) hp2
    refine ⟨_, rfl, a, CL, dx, _, rfl, (by rw [upd_ne n2]; exact upd_same), T.clL, T.l2, (by show 1 < 1000; decide), ?_⟩
    refine ⟨Nat.zero_le _, fun p3 hp3 => ?_⟩
    have n3 : a ≠ p3 := ne_of_none upd_same hp3
    have n31 : p1 ≠ p3 := ne_of_none (o := .lst []) (by rw [upd_ne n1.symm, upd_ne n21, upd_ne n1.symm]; exact upd_same) hp3
    have n32 : p2 ≠ p3 := ne_of_none (o := .lst []) (by rw [upd_ne n2.symm]; exact upd_same) hp3
    refine ⟨_, rfl, a, CL, dx, _, rfl, (by rw [upd_ne n3]; exact upd_same), T.clL, T.l3, (by show 2 < 1000; decide), ?_⟩
    have m2 : H p2 = Option.none := by rw [upd_ne n2.symm, upd_ne n21.symm] at hp2; exact hp2
    have m3 : H p3 = Option.none := by rw [upd_ne n3.symm, upd_ne n32.symm, upd_ne n3.symm, upd_ne n31.symm] at hp3; exact hp3
    refine k _ p1 p2 p3 ?_ ?_ ?_ ?_ hp1 m2 m3 n21.symm n31.symm n32 fun b u e hb => ?_
    · rw [upd_same]
      rfl
    · rw [upd_ne n1.symm, upd_ne n31, upd_ne n1.symm, upd_ne n21, upd_ne n1.symm]
      exact upd_same
    · rw [upd_ne n2.symm, upd_ne n32, upd_ne n2.symm]
      exact upd_same
    · rw [upd_ne n3.symm]
      exact upd_same
    · have b1 : b ≠ p1 := ne_of_none e hp1
      have b2 : b ≠ p2 := ne_of_none e m2
      have b3 : b ≠ p3 := ne_of_none e m3
      rw [upd_ne hb, upd_ne b3, upd_ne hb, upd_ne b2, upd_ne hb, upd_ne b1]
      exact e
theorem pe_makeC0 {X : Cx} {C : Addr} {x : Str} {ps : List Str} {sp : Sp} {p pos : Pos} (c : Maker X.prog X.w X.K X.mg X.base C x ps sp) (hr : Room 2 X.A) (hg : Gl X x := by rfl) (hdb : (x == ("__debug__" : Str)) = false := by decide) : PE X (.Call (.Name x p) [] [] pos) (tMake C sp [] E0 tNil) := by
  obtain ⟨f, fd, M, G, m, b⟩ := c
  exact pe_make0 M G hr hg m b .nil pass0 hdb
/-! ### answers -/
def spMain (K : PySem.W.Frag) : Sp := fun vs H Q _ => ∃ (a : Addr) (L : List Nat), vs = [.ref a] ∧ SqL K H a (vN L) ∧ PySi53.answers_asked (Si53.ints L) = true ∧ L.length ≤ 4000 ∧ ∀ (H' : Hp) (p : Addr), H' p = some (.lst ((PySi53.answers (Si53.ints L)).map V.int)) → Q (.ref p) H'
theorem sc_answers : FnScope ["calls", "land", "answered", "at", "start", "end", "answerer", "answer"] ["calls"] (defScope s_answers) := ⟨rfl, rfl, rfl, by decide +kernel, rfl, by decide +kernel, by decide +kernel⟩
theorem ok_answers {f tA : Addr} {fd : FuncData} {fs : List Addr} (F : Fun K "answers" "answers" s_answers f fd) (T : Txt K mg CL CD) (cL : Maker P w K mg base CL "Land" ["self"] (spLandI CL)) (mA : mg "ANSWERERS" = some (.ref tA)) (hT : ∀ H : Hp, SqT K H tA (fs.map V.ref))
    (hfs : ∀ n, n < 10 → ∃ g, fs[n]? = some g ∧ Holds P w K mg base 8 g (spAns CL CD n)) : FnOk P w K mg base CX0 9 f fd ["calls"] (spMain K) := by
  refine F.ok sc_answers (fun vs H Q E h => ?_) (fun cdv A outer s H vs Q E hr h => ?_)
  · obtain ⟨a, L, rfl, _⟩ := h
    rfl
  · obtain ⟨a, L, rfl, ha, hask, hl, k⟩ := h
    have nd := sc_answers.nd
    refine ⟨_, pss_cons (ps_set (i := 1) nd rfl (Or.inl rfl) (pe_makeC0 cL (hr.mono (by decide))))
      (pss_cons (ps_set (i := 2) nd rfl (Or.inl rfl) (pe_lst pa_nil))
      (pss_cons (ps_set (i := 3) nd rfl (Or.inl rfl) pe_int)
      (pss_cons (ps_while PassesOwn.never (pt_cmpR op_lt (pv 3) (pe_callB call_len_seq (by rfl) T.len PySem.boot_len (pa_cons (pv 0) pa_nil)) (nomark _))
        (pss_cons (ps_set (i := 4) nd rfl (Or.inl rfl) (pe_op op_add (pv 3) pe_int))
        (pss_cons (ps_set (i := 5) nd rfl (Or.inl rfl) (pe_op op_add (pv 4) (pe_ix ix_list (pv 0) (pe_op op_add (pv 3) pe_int) (fun _ _ => rfl))))
        (pss_cons (ps_set (i := 6) nd rfl (Or.inl rfl) (pe_ix ix_tup (pe_glob (v := .ref tA) rfl mA rfl) (pe_ix ix_list (pv 0) (pv 3) (fun _ _ => rfl)) (fun _ _ => rfl)))
        (pss_cons (ps_set (i := 7) nd rfl (Or.inl rfl) (pe_callL (i := 6) hr (pa_cons (pv 1) (pa_cons (pe_slice sl_list (pv 0) (po_some (pv 4)) (po_some (pv 5))) pa_nil))))
        (pss_cons (ps_expr (pe_bm PySem.F.plainAttrs_list PySem.F.slot_list_append PySem.F.type_list_append mt_append (pv 2) (pa_cons (pe_callB call_len_seq (by rfl) T.len PySem.boot_len (pa_cons (pv 7) pa_nil)) pa_nil)))
        (pss_cons (ps_expr (pe_bm PySem.F.plainAttrs_list PySem.F.slot_list_extend PySem.F.type_list_extend mt_extend (pv 2) (pa_cons (pv 7) pa_nil)))
        (pss_one (ps_set (i := 3) nd rfl (Or.inl rfl) (pe_op op_add (pv 5) pe_int))))))))))
      (pss_one (ps_ret (pv 2)))))), ?_⟩
    obtain ⟨CS, eCS, h1, hlen, eAns⟩ := asked_parts hask
    rw [eAns] at k
    intro ln dl nln ndl nel
    refine ⟨ln, dl, rfl, upd_same, fun H1 l1 l2 l3 hI e1 e2 e3 m1 m2 m3 x21 x31 x23 keep => ⟨rfl, ?_⟩⟩
    have s1 : Same H H1 := Same.made nln ndl keep
    refine ⟨Nat.zero_le _, fun q hq => ?_⟩
    have hHq : H q = Option.none := s1.free hq
    have fresh : ∀ y, (upd (upd H dl (.own ln)) ln (.ins CL dl [])) y = Option.none → H y = Option.none := fun y hy => by
      cases e : H y with
      | none => rfl
      | some o =>
        rw [upd_ne (ne_of_none e nln), upd_ne (ne_of_none e ndl), e] at hy
        cases hy
    have g1 := fresh l1 m1
    have g2 := fresh l2 m2
    have g3 := fresh l3 m3
    have G0 : ∀ y, H y = Option.none → y ≠ q → (upd H q (.lst ([] : List V))) y = Option.none := fun y hy hne => by rw [upd_ne hne]; exact hy
    have L0 : LandIn CL CD (upd H q (.lst ([] : List V))) (upd H1 q (.lst [])) ln Si53.init := by
      have y0 := ne_of_none hI hq
      have y1 := ne_of_none e1 hq
      have y2 := ne_of_none e2 hq
      have y3 := ne_of_none e3 hq
      exact ⟨[], [], l1, l2, l3, [], ⟨⟨⟨dl, by rw [upd_ne y0]; exact hI⟩, by rw [upd_ne y1]; exact e1, by rw [upd_ne y2]; exact e2, by rw [upd_ne y3]; exact e3, rfl, List.nodup_nil, fun i c hc => by simp at hc, ⟨x21, x31, x23⟩,
        ⟨G0 _ nln y0, G0 _ g1 y1, G0 _ g2 y2, G0 _ g3 y3, fun c hc => by simp at hc⟩⟩, wf_begins [] (by simp), hist_nil [] []⟩⟩
    have S0 : Same (upd H q (.lst ([] : List V))) (upd H1 q (.lst [])) := fun b o e => by
      by_cases hb : b = q
      · subst hb
        rw [upd_same] at e ⊢
        exact e
      · rw [upd_ne hb] at e ⊢
        exact s1 b o e
    generalize upd H1 q (.lst []) = H2 at L0 S0 ⊢
    have vl : (vN L).length = L.length := vN_len L
    refine while_by (fun σ H' => ∃ (at_ : Nat) (done : List Int) (l : Si53.Land) (g : Nat) (cs : List (List (List Int))) (v4 v5 v6 v7 : Option V), σ = [some (.ref a), some (.ref ln), some (.ref q), some (.int (at_ : Int)), v4, v5, v6, v7] ∧ Same (upd H q (.lst (done.map V.int))) H' ∧ LandIn CL CD (upd H q (.lst (done.map V.int))) H' ln l ∧ at_ ≤ L.length ∧
        PyWide.calls g (Si53.ints (L.drop at_)) = some cs ∧ (∀ c ∈ cs, Si53Neutral.asked1 c = true) ∧ done ++ telling l cs = telling Si53.init CS)
      (fun σ _ => match σ with | [_, _, _, some (.int z), _, _, _, _] => L.length - z.toNat | _ => 0) ?_ ?_ ?_
    · exact ⟨0, [], Si53.init, (Si53.ints L).length, CS, none, none, none, none, rfl, S0, L0, Nat.zero_le _, eCS, h1, rfl⟩
    · rintro σ H' ⟨at_, done, l, g, cs, v4, v5, v6, v7, rfl, sG, hL, hat, hcs, hc1, htell⟩
      have sH : Same H H' := fun b o e => sG b o (by rw [upd_ne (ne_of_none e hHq)]; exact e)
      have ha' := sH.seq ha
      refine ⟨_, rfl, _, rfl, a, _, rfl, .inl ha', _, _, rfl, rfl, _, rfl, ?_⟩
      refine ite2 (fun hlt => ?_) (fun hlt => ?_)
      · have hlt : (at_ : Int) < ((vN L).length : Int) := of_decide_eq_true hlt
        have hne : L.drop at_ ≠ [] := fun e => by
          have := congrArg List.length e
          rw [List.length_drop] at this
          simp at this
          omega
        obtain ⟨g', p, ms, t, cs', eL, ec, ecs'⟩ := turn_nat hcs hne (fun c hc => asked1_len (hc1 c hc))
        obtain ⟨d1, d2, d3, d4, d5⟩ := drop_form eL
        obtain ⟨qq, hq1, hkind⟩ := asked1_call (p := p) (ms := ms) (hc1 _ (by rw [ec]; simp))
        obtain ⟨fp, hfp, hH⟩ := hfs p (kind_lt hkind)
        refine ⟨_, rfl, _, _, rfl, rfl, ?_⟩
        have w1 : (at_ : Int) + 2 = ((at_ + 2 : Nat) : Int) := by omega
        dsimp only
        rw [w1]
        have w2 : (at_ : Int) + 1 = ((at_ + 1 : Nat) : Int) := by omega
        refine ⟨_, rfl, _, rfl, _, rfl, _, _, rfl, rfl, a, _, _, _, rfl, rfl, ha', at_of w2 (vN_get d2), _, _, rfl, rfl, ?_⟩
        have w3 : ((at_ + 2 : Nat) : Int) + (ms.length : Int) = ((at_ + 2 + ms.length : Nat) : Int) := by omega
        dsimp only
        rw [w3]
        refine ⟨_, rfl, _, rfl, a, _, _, _, rfl, rfl, ha', atI_nat (vN_get d1), tA, _, _, _, rfl, rfl, hT H', atI_nat (by rw [List.getElem?_map, hfp]; rfl), ?_⟩
        refine ⟨fp, _, rfl, hH, _, rfl, _, rfl, _, rfl, _, rfl, _, rfl, _, rfl, a, _, rfl, ha', fun b hb => ?_⟩
        have cut : cutV (vN L) (some ((at_ + 2 : Nat) : Int)) (some ((at_ + 2 + ms.length : Nat) : Int)) = vN ms := by
          rw [cut_mid (by omega) (by omega), vN_drop, vN_take, show at_ + 2 + ms.length - (at_ + 2) = ms.length by omega, d3]
        dsimp only
        rw [cut]
        have sb : Same H' (upd H' b (.lst (vN ms))) := same_new hb (Same.refl _)
        refine ⟨ln, b, l, ms, qq, _, rfl, hL.same sb, sG.trans sb, upd_same, hkind, fun H3 pa sG3 hL3 gpa hpa => ?_⟩
        have hq3 : H3 q = some (.lst (done.map V.int)) := sG3 _ _ upd_same
        have npa : pa ≠ q := fun e => by
          rw [e, upd_same] at gpa
          cases gpa
        generalize hans : ansI (Si53.step l qq).2 = ans at hpa
        have etell : telling l cs = ((ans.length : Int) :: ans) ++ telling (Si53.step l qq).1 cs' := by
          rw [ec, telling_cons]
          have e : Si53Neutral.step l [Si53.ints (p :: ms)] = ((Si53.step l qq).1, (Si53.step l qq).2.v :: (Si53.step l qq).2.l) := step_call hq1
          rw [e, ← hans]
          rfl
        have hlen2 : done.length + (ans.length + 1) ≤ 1000060 := by
          have z := congrArg List.length htell
          rw [List.length_append, etell, List.length_append, List.length_cons] at z
          omega
        have big : ∀ n, n ≤ 1000060 → n < sizeLine := fun n hn => Nat.lt_of_le_of_lt hn (by decide)
        refine ⟨_, rfl, .inl ⟨rfl, _, SqL.of hq3⟩, _, rfl, pa, _, rfl, .inl (SqL.of hpa), q, _, _, rfl, rfl, hq3, big _ (by rw [List.length_map]; omega), ?_⟩
        have hq4 : (upd H3 q (.lst (done.map V.int ++ [V.int ((ans.map V.int).length : Int)]))) q = some (.lst (done.map V.int ++ [V.int ((ans.map V.int).length : Int)])) := upd_same
        have hpa4 : (upd H3 q (.lst (done.map V.int ++ [V.int ((ans.map V.int).length : Int)]))) pa = some (.lst (ans.map V.int)) := by rw [upd_ne npa]; exact hpa
        refine ⟨_, rfl, .inl ⟨rfl, _, SqL.of hq4⟩, _, rfl, q, pa, _, _, rfl, rfl, hq4, hpa4, Nat.le_of_lt (big _ (by simp; omega)), ?_⟩
        refine ⟨_, rfl, _, _, rfl, rfl, ?_⟩
        rw [upd_upd]
        have w4 : ((at_ + 2 + ms.length : Nat) : Int) + 1 = ((at_ + 2 + ms.length + 1 : Nat) : Int) := by omega
        dsimp only
        rw [w4]
        have ed : (done.map V.int ++ [V.int ((ans.map V.int).length : Int)]) ++ ans.map V.int = (done ++ (ans.length : Int) :: ans).map V.int := by
          simp
        rw [ed]
        refine ⟨⟨at_ + 2 + ms.length + 1, done ++ (ans.length : Int) :: ans, (Si53.step l qq).1, g', cs', _, _, _, _, rfl, fun y o e => ?_, ?_, by omega, by rw [d4]; exact ecs', fun c hc => hc1 c (by rw [ec]; exact List.mem_cons_of_mem _ hc), ?_⟩, ?_⟩
        · by_cases hy : y = q
          · subst hy
            rw [upd_same] at e ⊢
            exact e
          · rw [upd_ne hy] at e ⊢
            exact sG3 y o (by rw [upd_ne hy]; exact e)
        · refine hL3.keep (fun y hy => ?_) (fun y o e hy => ?_)
          · by_cases hq' : y = q
            · subst hq'
              rw [upd_same] at hy
              cases hy
            · rw [upd_ne hq'] at hy ⊢
              exact hy
          · have hq' : y ≠ q := fun z => by
              rw [z, upd_same] at hy
              cases hy
            rw [upd_ne hq']
            exact e
        · rw [← htell, etell, List.append_assoc]
        · show L.length - ((at_ + 2 + ms.length + 1 : Nat) : Int).toNat < L.length - (at_ : Int).toNat
          omega
      · have hge : ¬ (at_ : Int) < ((vN L).length : Int) := fun z => hlt (decide_eq_true z)
        have e0 : L.drop at_ = [] := List.drop_of_length_le (by omega)
        rw [e0] at hcs
        have ec : cs = [] := calls_nil hcs
        rw [ec, telling_nil, List.append_nil] at htell
        refine ⟨_, rfl, k H' q ?_⟩
        rw [← htell]
        exact sG _ _ upd_same
    · rintro σ H' Q1 Q2 hq ⟨v, e, w, ew, p, ys, x1, x2, i, j, ei, ej, c, ec, z⟩
      exact ⟨v, e, w, ew, p, ys, x1, x2, i, j, ei, ej, c, ec, hq _ _ z⟩
end
end CC
set_option maxHeartbeats 2000000
namespace CC
open PySem PySem.Spec PyProof.Rows L2
/-- a def of the text, as the top wrote it -/
def IsDef (K : PySem.W.Frag) (mg : Str → Option Value) (x : Str) (st : Stmt) (ps : List Str) (f : Addr) : Prop :=
  ∃ fd, Fun K x x st f fd ∧ mg x = some (.ref f) ∧ PySem.W.keepIn K (.ref f) = true ∧ Binds K fd ps []
theorem IsDef.callee {P : Program} {w : World} {K : PySem.W.Frag} {mg : Str → Option Value} {base : Heap} {x : Str} {st : Stmt} {ps : List Str} {f : Addr} {k : Nat} {sp : Sp} (d : IsDef K mg x st ps f) (ok : ∀ fd, Fun K x x st f fd → FnOk P w K mg base CX0 k f fd ps sp) : Callee P w K mg base k x ps sp := by
  obtain ⟨fd, F, m, kp, b⟩ := d
  exact ⟨f, fd, ok fd F, m, kp, b⟩
theorem IsDef.holds {P : Program} {w : World} {K : PySem.W.Frag} {mg : Str → Option Value} {base : Heap} {x : Str} {st : Stmt} {ps : List Str} {f : Addr} {k : Nat} {sp : Sp} (d : IsDef K mg x st ps f) (ok : ∀ fd, Fun K x x st f fd → FnOk P w K mg base CX0 k f fd ps sp) (h : k ≤ 8) : Holds P w K mg base 8 f sp := by
  obtain ⟨fd, F, m, kp, b⟩ := d
  exact ⟨fd, ps, (ok fd F).mono h, kp, b⟩
def IsInit (K : PySem.W.Frag) (mg : Str → Option Value) (C : Addr) (x q : Str) (st : Stmt) (ps : List Str) : Prop :=
  ∃ f fd, Mk K C f ∧ Fun K "__init__" q st f fd ∧ mg x = some (.ref C) ∧ Binds K fd ps []
theorem IsInit.maker {P : Program} {w : World} {K : PySem.W.Frag} {mg : Str → Option Value} {base : Heap} {C : Addr} {x q : Str} {st : Stmt} {ps : List Str} {sp : Sp} (d : IsInit K mg C x q st ps) (ok : ∀ f fd, Fun K "__init__" q st f fd → FnOk P w K mg base CX0 1 f fd ps sp) : Maker P w K mg base C x ps sp := by
  obtain ⟨f, fd, M, F, m, b⟩ := d
  exact ⟨f, fd, M, ok f fd F, m, b⟩

/-- what the top wrote -/
structure Top (K : PySem.W.Frag) (mg : Str → Option Value) (CL CD tA : Addr) (fs : List Addr) : Prop where
  txt : Txt K mg CL CD
  iL : IsInit K mg CL "Land" "Land.__init__" sLandI ["self"]
  iD : IsInit K mg CD "Decision" "Decision.__init__" sDecI psDecI
  d_rises : ∃ f, IsDef K mg "rises" s_rises ["numbers"] f
  d_all_among : ∃ f, IsDef K mg "all_among" s_all_among ["some", "others"] f
  d_is_court : ∃ f, IsDef K mg "is_court" s_is_court ["land", "court"] f
  d_is_decision : ∃ f, IsDef K mg "is_decision" s_is_decision ["land", "number"] f
  d_are_findings : ∃ f, IsDef K mg "are_findings" s_are_findings ["land", "findings"] f
  d_is_reason : ∃ f, IsDef K mg "is_reason" s_is_reason ["land", "reason", "findings", "side"] f
  d_courts_above : ∃ f, IsDef K mg "courts_above" s_courts_above ["land", "court"] f
  d_is_within_reach : ∃ f, IsDef K mg "is_within_reach" s_is_within_reach ["land", "court", "other"] f
  d_gainsay : ∃ f, IsDef K mg "gainsay" s_gainsay ["one", "other"] f
  d_stands_on : ∃ f, IsDef K mg "stands_on" s_stands_on ["land", "decision", "day"] f
  d_standing : ∃ f, IsDef K mg "standing" s_standing ["land", "day"] f
  d_binding : ∃ f, IsDef K mg "binding" s_binding ["land", "court", "day"] f
  d_is_barred : ∃ f, IsDef K mg "is_barred" s_is_barred ["land", "decision"] f
  d_taken_away_by : ∃ f, IsDef K mg "taken_away_by" s_taken_away_by ["land", "decision"] f
  d_missing_of_reason : ∃ f, IsDef K mg "missing_of_reason" s_missing_of_reason ["decision", "findings"] f
  d_new_against : ∃ f, IsDef K mg "new_against" s_new_against ["land", "decision", "findings"] f
  d_forces : ∃ f, IsDef K mg "forces" s_forces ["land", "decision", "findings"] f
  d_forcing : ∃ f, IsDef K mg "forcing" s_forcing ["land", "numbers", "findings"] f
  d_is_any_forcing : ∃ f, IsDef K mg "is_any_forcing" s_is_any_forcing ["land", "numbers", "findings"] f
  d_each_one_longer : ∃ f, IsDef K mg "each_one_longer" s_each_one_longer ["lists", "kinds"] f
  d_fewest_that_free : ∃ f, IsDef K mg "fewest_that_free" s_fewest_that_free ["land", "numbers", "findings", "spare"] f
  d_is_well_told : ∃ f, IsDef K mg "is_well_told" s_is_well_told ["land", "decision"] f
  d_is_too_early : ∃ f, IsDef K mg "is_too_early" s_is_too_early ["land", "decision"] f
  d_may_be_overruled : ∃ f, IsDef K mg "may_be_overruled" s_may_be_overruled ["land", "decision", "number"] f
  d_refusal_to_decide : ∃ f, IsDef K mg "refusal_to_decide" s_refusal_to_decide ["land", "decision"] f
  d_decision_told : ∃ f, IsDef K mg "decision_told" s_decision_told ["numbers"] f
  d_answer_begins : ∃ f, fs[0]? = some f ∧ IsDef K mg "answer_begins" s_answer_begins ["land", "numbers"] f
  d_answer_court : ∃ f, fs[1]? = some f ∧ IsDef K mg "answer_court" s_answer_court ["land", "numbers"] f
  d_answer_decide : ∃ f, fs[2]? = some f ∧ IsDef K mg "answer_decide" s_answer_decide ["land", "numbers"] f
  d_answer_stands : ∃ f, fs[3]? = some f ∧ IsDef K mg "answer_stands" s_answer_stands ["land", "numbers"] f
  d_answer_binds : ∃ f, fs[4]? = some f ∧ IsDef K mg "answer_binds" s_answer_binds ["land", "numbers"] f
  d_answer_forced : ∃ f, fs[5]? = some f ∧ IsDef K mg "answer_forced" s_answer_forced ["land", "numbers"] f
  d_answer_distinguish : ∃ f, fs[6]? = some f ∧ IsDef K mg "answer_distinguish" s_answer_distinguish ["land", "numbers"] f
  d_answer_may : ∃ f, fs[7]? = some f ∧ IsDef K mg "answer_may" s_answer_may ["land", "numbers"] f
  d_answer_free : ∃ f, fs[8]? = some f ∧ IsDef K mg "answer_free" s_answer_free ["land", "numbers"] f
  d_answer_life : ∃ f, fs[9]? = some f ∧ IsDef K mg "answer_life" s_answer_life ["land", "numbers"] f
  mA : mg "ANSWERERS" = some (.ref tA)
  hT : ∀ H : Hp, SqT K H tA (fs.map V.ref)
theorem main_ok {P : Program} {w : World} {K : PySem.W.Frag} {mg : Str → Option Value} {base : Heap} {CL CD tA f : Addr} {fd : FuncData} {fs : List Addr} (Z : Top K mg CL CD tA fs) (F : Fun K "answers" "answers" s_answers f fd) : FnOk P w K mg base CX0 9 f fd ["calls"] (spMain K) := by
  have T := Z.txt
  have cD : Maker P w K mg base CD "Decision" psDecI (spDecI CD) := Z.iD.maker fun _ _ F => ok_decI F T
  have cL : Maker P w K mg base CL "Land" ["self"] (spLandI CL) := Z.iL.maker fun _ _ F => ok_landI F T
  obtain ⟨_, x_rises⟩ := Z.d_rises
  have c_rises : Callee P w K mg base 1 "rises" ["numbers"] spRises := x_rises.callee fun _ F => ok_rises F T 
  obtain ⟨_, x_all_among⟩ := Z.d_all_among
  have c_all_among : Callee P w K mg base 1 "all_among" ["some", "others"] spAmong := x_all_among.callee fun _ F => ok_among F T 
  obtain ⟨_, x_is_court⟩ := Z.d_is_court
  have c_is_court : Callee P w K mg base 1 "is_court" ["land", "court"] (spIsCourt CL CD) := x_is_court.callee fun _ F => ok_is_court F T 
  obtain ⟨_, x_is_decision⟩ := Z.d_is_decision
  have c_is_decision : Callee P w K mg base 1 "is_decision" ["land", "number"] (spIsDec CL CD) := x_is_decision.callee fun _ F => ok_is_decision F T 
  obtain ⟨_, x_are_findings⟩ := Z.d_are_findings
  have c_are_findings : Callee P w K mg base 2 "are_findings" ["land", "findings"] (spFindings CL CD) := x_are_findings.callee fun _ F => ok_are_findings F T c_rises
  obtain ⟨_, x_is_reason⟩ := Z.d_is_reason
  have c_is_reason : Callee P w K mg base 2 "is_reason" ["land", "reason", "findings", "side"] (spReason CL CD) := x_is_reason.callee fun _ F => ok_is_reason F T c_rises c_all_among
  obtain ⟨_, x_courts_above⟩ := Z.d_courts_above
  have c_courts_above : Callee P w K mg base 1 "courts_above" ["land", "court"] (spAbove CL CD) := x_courts_above.callee fun _ F => ok_courts_above F T 
  obtain ⟨_, x_is_within_reach⟩ := Z.d_is_within_reach
  have c_is_within_reach : Callee P w K mg base 2 "is_within_reach" ["land", "court", "other"] (spReach CL CD) := x_is_within_reach.callee fun _ F => ok_is_within_reach F T c_courts_above
  obtain ⟨_, x_gainsay⟩ := Z.d_gainsay
  have c_gainsay : Callee P w K mg base 2 "gainsay" ["one", "other"] (spGain CD) := x_gainsay.callee fun _ F => ok_gainsay F T c_all_among
  obtain ⟨_, x_stands_on⟩ := Z.d_stands_on
  have c_stands_on : Callee P w K mg base 1 "stands_on" ["land", "decision", "day"] (spStandsOn CL CD) := x_stands_on.callee fun _ F => ok_stands_on F T 
  obtain ⟨_, x_standing⟩ := Z.d_standing
  have c_standing : Callee P w K mg base 2 "standing" ["land", "day"] (spStanding CL CD) := x_standing.callee fun _ F => ok_standing F T c_stands_on
  obtain ⟨_, x_binding⟩ := Z.d_binding
  have c_binding : Callee P w K mg base 3 "binding" ["land", "court", "day"] (spBinding CL CD) := x_binding.callee fun _ F => ok_binding F T c_courts_above c_standing
  obtain ⟨_, x_is_barred⟩ := Z.d_is_barred
  have c_is_barred : Callee P w K mg base 3 "is_barred" ["land", "decision"] (spBarred CL CD) := x_is_barred.callee fun _ F => ok_is_barred F T c_courts_above c_standing c_gainsay
  obtain ⟨_, x_taken_away_by⟩ := Z.d_taken_away_by
  have c_taken_away_by : Callee P w K mg base 3 "taken_away_by" ["land", "decision"] (spTaken CL CD) := x_taken_away_by.callee fun _ F => ok_taken_away_by F T c_is_within_reach c_standing c_gainsay
  obtain ⟨_, x_missing_of_reason⟩ := Z.d_missing_of_reason
  have c_missing_of_reason : Callee P w K mg base 1 "missing_of_reason" ["decision", "findings"] (spMissing CD) := x_missing_of_reason.callee fun _ F => ok_missing F T 
  obtain ⟨_, x_new_against⟩ := Z.d_new_against
  have c_new_against : Callee P w K mg base 1 "new_against" ["land", "decision", "findings"] (spAgainst CL CD) := x_new_against.callee fun _ F => ok_against F T 
  obtain ⟨_, x_forces⟩ := Z.d_forces
  have c_forces : Callee P w K mg base 2 "forces" ["land", "decision", "findings"] (spForces CL CD) := x_forces.callee fun _ F => ok_forces F T c_missing_of_reason c_new_against
  obtain ⟨_, x_forcing⟩ := Z.d_forcing
  have c_forcing : Callee P w K mg base 3 "forcing" ["land", "numbers", "findings"] (spForcing CL CD) := x_forcing.callee fun _ F => ok_forcing F T c_forces
  obtain ⟨_, x_is_any_forcing⟩ := Z.d_is_any_forcing
  have c_is_any_forcing : Callee P w K mg base 3 "is_any_forcing" ["land", "numbers", "findings"] (spAnyF CL CD) := x_is_any_forcing.callee fun _ F => ok_anyF F T c_forces
  obtain ⟨_, x_each_one_longer⟩ := Z.d_each_one_longer
  have c_each_one_longer : Callee P w K mg base 1 "each_one_longer" ["lists", "kinds"] spLonger := x_each_one_longer.callee fun _ F => ok_longer F T 
  obtain ⟨_, x_fewest_that_free⟩ := Z.d_fewest_that_free
  have c_fewest_that_free : Callee P w K mg base 4 "fewest_that_free" ["land", "numbers", "findings", "spare"] (spFewest CL CD) := x_fewest_that_free.callee fun _ F => ok_fewest F T c_is_any_forcing c_each_one_longer
  obtain ⟨_, x_is_well_told⟩ := Z.d_is_well_told
  have c_is_well_told : Callee P w K mg base 3 "is_well_told" ["land", "decision"] (spWell CL CD) := x_is_well_told.callee fun _ F => ok_is_well_told F T c_rises c_are_findings c_is_reason
  obtain ⟨_, x_is_too_early⟩ := Z.d_is_too_early
  have c_is_too_early : Callee P w K mg base 1 "is_too_early" ["land", "decision"] (spEarly CL CD) := x_is_too_early.callee fun _ F => ok_is_too_early F T 
  obtain ⟨_, x_may_be_overruled⟩ := Z.d_may_be_overruled
  have c_may_be_overruled : Callee P w K mg base 3 "may_be_overruled" ["land", "decision", "number"] (spMayOver CL CD) := x_may_be_overruled.callee fun _ F => ok_may_be_overruled F T c_is_decision c_stands_on c_is_within_reach
  obtain ⟨_, x_refusal_to_decide⟩ := Z.d_refusal_to_decide
  have c_refusal_to_decide : Callee P w K mg base 4 "refusal_to_decide" ["land", "decision"] (spRefusal CL CD) := x_refusal_to_decide.callee fun _ F => ok_refusal F T c_is_court c_is_well_told c_is_too_early c_may_be_overruled
  obtain ⟨_, x_decision_told⟩ := Z.d_decision_told
  have c_decision_told : Callee P w K mg base 3 "decision_told" ["numbers"] (spToldD CD) := x_decision_told.callee fun _ F => ok_decision_told F T cD
  obtain ⟨g_answer_begins, e_answer_begins, x_answer_begins⟩ := Z.d_answer_begins
  have h_answer_begins : Holds P w K mg base 8 g_answer_begins (spAns CL CD 0) := x_answer_begins.holds (fun _ F => ok_answer_begins F T ) (by decide)
  obtain ⟨g_answer_court, e_answer_court, x_answer_court⟩ := Z.d_answer_court
  have h_answer_court : Holds P w K mg base 8 g_answer_court (spAns CL CD 1) := x_answer_court.holds (fun _ F => ok_answer_court F T c_is_court) (by decide)
  obtain ⟨g_answer_decide, e_answer_decide, x_answer_decide⟩ := Z.d_answer_decide
  have h_answer_decide : Holds P w K mg base 8 g_answer_decide (spAns CL CD 2) := x_answer_decide.holds (fun _ F => ok_answer_decide F T c_decision_told c_refusal_to_decide c_is_barred c_taken_away_by) (by decide)
  obtain ⟨g_answer_stands, e_answer_stands, x_answer_stands⟩ := Z.d_answer_stands
  have h_answer_stands : Holds P w K mg base 8 g_answer_stands (spAns CL CD 3) := x_answer_stands.holds (fun _ F => ok_answer_stands F T c_is_decision c_stands_on) (by decide)
  obtain ⟨g_answer_binds, e_answer_binds, x_answer_binds⟩ := Z.d_answer_binds
  have h_answer_binds : Holds P w K mg base 8 g_answer_binds (spAns CL CD 4) := x_answer_binds.holds (fun _ F => ok_answer_binds F T c_is_court c_binding) (by decide)
  obtain ⟨g_answer_forced, e_answer_forced, x_answer_forced⟩ := Z.d_answer_forced
  have h_answer_forced : Holds P w K mg base 8 g_answer_forced (spAns CL CD 5) := x_answer_forced.holds (fun _ F => ok_answer_forced F T c_is_court c_are_findings c_binding c_forcing) (by decide)
  obtain ⟨g_answer_distinguish, e_answer_distinguish, x_answer_distinguish⟩ := Z.d_answer_distinguish
  have h_answer_distinguish : Holds P w K mg base 8 g_answer_distinguish (spAns CL CD 6) := x_answer_distinguish.holds (fun _ F => ok_answer_distinguish F T c_is_decision c_are_findings c_missing_of_reason c_new_against) (by decide)
  obtain ⟨g_answer_may, e_answer_may, x_answer_may⟩ := Z.d_answer_may
  have h_answer_may : Holds P w K mg base 8 g_answer_may (spAns CL CD 7) := x_answer_may.holds (fun _ F => ok_answer_may F T cD c_is_court c_are_findings c_is_reason c_binding c_gainsay) (by decide)
  obtain ⟨g_answer_free, e_answer_free, x_answer_free⟩ := Z.d_answer_free
  have h_answer_free : Holds P w K mg base 8 g_answer_free (spAns CL CD 8) := x_answer_free.holds (fun _ F => ok_answer_free F T c_is_court c_are_findings c_binding c_fewest_that_free) (by decide)
  obtain ⟨g_answer_life, e_answer_life, x_answer_life⟩ := Z.d_answer_life
  have h_answer_life : Holds P w K mg base 8 g_answer_life (spAns CL CD 9) := x_answer_life.holds (fun _ F => ok_answer_life F T c_is_decision) (by decide)
  refine ok_answers F T cL Z.mA Z.hT fun n hn => ?_
  match n, hn with
  | 0, _ => exact ⟨_, e_answer_begins, h_answer_begins⟩
  | 1, _ => exact ⟨_, e_answer_court, h_answer_court⟩
  | 2, _ => exact ⟨_, e_answer_decide, h_answer_decide⟩
  | 3, _ => exact ⟨_, e_answer_stands, h_answer_stands⟩
  | 4, _ => exact ⟨_, e_answer_binds, h_answer_binds⟩
  | 5, _ => exact ⟨_, e_answer_forced, h_answer_forced⟩
  | 6, _ => exact ⟨_, e_answer_distinguish, h_answer_distinguish⟩
  | 7, _ => exact ⟨_, e_answer_may, h_answer_may⟩
  | 8, _ => exact ⟨_, e_answer_free, h_answer_free⟩
  | 9, _ => exact ⟨_, e_answer_life, h_answer_life⟩
  | n + 10, hn => omega
end CC
set_option maxHeartbeats 2000000
namespace CC
open PySem PySem.Spec PyProof.Rows L2
theorem def_mk {K : PySem.W.Frag} {h : Heap} {mg : Str → Option Value} (X : K.In h) (G : h.Ns mainGlobals mg) {x : Str} {st : Stmt} {ps : List Str} {f : Addr} {oc : Value} {od an : Option Addr} {osl : Array (Option Value)} {kV doc pm cdv ct : Value} (a : PySem.W.nsIn K mainGlobals x = some (some (.ref f))) (l : K.lookup f = some ⟨oc, od, .func (PySem.W.fnOf x x (defArgs st) (defBody st) (defScope st) .none kV doc pm an cdv ct), osl⟩)
    (c : PySem.W.codeIn K cdv x = true) (k : PySem.W.keepIn K (.ref f) = true) (hb : ∀ (kV doc pm : Value) (an : Option Addr) (cdv ct : Value) (us : List Value), us.length = ps.length → bindArgs (PySem.W.fnOf x x (defArgs st) (defBody st) (defScope st) .none kV doc pm an cdv ct) ⟨us, []⟩ = pure (ps.zip us)) : IsDef K mg x st ps f :=
  ⟨_, fun_mk l c k, PySem.W.mg_of X G a, k, (fun_mk (st := st) l c k).binds hb⟩
theorem init_mk {K : PySem.W.Frag} {h : Heap} {mg : Str → Option Value} (X : K.In h) (G : h.Ns mainGlobals mg) {x q : Str} {C : Addr} {st : Stmt} {ps : List Str} {f : Addr} {oc : Value} {od an : Option Addr} {osl : Array (Option Value)} {kV doc pm cdv ct : Value} (aC : PySem.W.nsIn K mainGlobals x = some (some (.ref C))) (mk : PySem.W.makesIn K C = true) (kc : PySem.W.keepIn K (.ref C) = true)
    (a : PySem.W.findIn K (.ref C) "__init__" = some (some (.ref f))) (i : PySem.W.isFn K (.ref f) = true) (l : K.lookup f = some ⟨oc, od, .func (PySem.W.fnOf "__init__" q (defArgs st) (defBody st) (defScope st) .none kV doc pm an cdv ct), osl⟩)
    (c : PySem.W.codeIn K cdv q = true) (k : PySem.W.keepIn K (.ref f) = true) (hb : ∀ (kV doc pm : Value) (an : Option Addr) (cdv ct : Value) (us : List Value), us.length = ps.length → bindArgs (PySem.W.fnOf "__init__" q (defArgs st) (defBody st) (defScope st) .none kV doc pm an cdv ct) ⟨us, []⟩ = pure (ps.zip us)) : IsInit K mg C x q st ps :=
  ⟨f, _, ⟨mk, a, i, kc⟩, fun_mk l c k, PySem.W.mg_of X G aC, (fun_mk (st := st) l c k).binds hb⟩
theorem with_def {Goal : Prop} {K : PySem.W.Frag} {h : Heap} {mg : Str → Option Value} (X : K.In h) (G : h.Ns mainGlobals mg) {x : Str} {st : Stmt} {ps : List Str} {f : Addr} {oc : Value} {od an : Option Addr} {osl : Array (Option Value)} {kV doc pm cdv ct : Value} (a : PySem.W.nsIn K mainGlobals x = some (some (.ref f))) (l : K.lookup f = some ⟨oc, od, .func (PySem.W.fnOf x x (defArgs st) (defBody st) (defScope st) .none kV doc pm an cdv ct), osl⟩)
    (c : PySem.W.codeIn K cdv x = true) (k : PySem.W.keepIn K (.ref f) = true) (hb : ∀ (kV doc pm : Value) (an : Option Addr) (cdv ct : Value) (us : List Value), us.length = ps.length → bindArgs (PySem.W.fnOf x x (defArgs st) (defBody st) (defScope st) .none kV doc pm an cdv ct) ⟨us, []⟩ = pure (ps.zip us)) (next : IsDef K mg x st ps f → Goal) : Goal := next (def_mk X G a l c k hb)
theorem with_init {Goal : Prop} {K : PySem.W.Frag} {h : Heap} {mg : Str → Option Value} (X : K.In h) (G : h.Ns mainGlobals mg) {x q : Str} {C : Addr} {st : Stmt} {ps : List Str} {f : Addr} {oc : Value} {od an : Option Addr} {osl : Array (Option Value)} {kV doc pm cdv ct : Value} (aC : PySem.W.nsIn K mainGlobals x = some (some (.ref C))) (mk : PySem.W.makesIn K C = true) (kc : PySem.W.keepIn K (.ref C) = true)
    (a : PySem.W.findIn K (.ref C) "__init__" = some (some (.ref f))) (i : PySem.W.isFn K (.ref f) = true) (l : K.lookup f = some ⟨oc, od, .func (PySem.W.fnOf "__init__" q (defArgs st) (defBody st) (defScope st) .none kV doc pm an cdv ct), osl⟩)
    (c : PySem.W.codeIn K cdv q = true) (k : PySem.W.keepIn K (.ref f) = true) (hb : ∀ (kV doc pm : Value) (an : Option Addr) (cdv ct : Value) (us : List Value), us.length = ps.length → bindArgs (PySem.W.fnOf "__init__" q (defArgs st) (defBody st) (defScope st) .none kV doc pm an cdv ct) ⟨us, []⟩ = pure (ps.zip us)) (next : IsInit K mg C x q st ps → Goal) : Goal := next (init_mk X G aC mk kc a i l c k hb)
theorem vals_refs : ∀ (fs : List Addr), Vals (fs.map V.ref) (fs.map Value.ref)
  | [] => .nil
  | a :: r => .cons rfl (vals_refs r)
theorem with_txt {Goal : Prop} {K : PySem.W.Frag} {h : Heap} {mg : Str → Option Value} (X : K.In h) (G : h.Ns mainGlobals mg) {CL CD : Addr} {u1 u2 u3 u4 u5 u6 u7 u8 u9 u10 u11 : Tok} (aL : PySem.W.nsIn K mainGlobals "Land" = some (some (.ref CL))) (aD : PySem.W.nsIn K mainGlobals "Decision" = some (some (.ref CD)))
    (pgL : PySem.W.plainGet K CL Str.empty = true) (hdL : PySem.W.hasDictIn K CL = true) (poL : PySem.W.plainOver K CL = true) (saL : PySem.W.findIn K (.ref CL) "__setattr__" = some (some (.builtin "object.__setattr__")))
    (pgD : PySem.W.plainGet K CD Str.empty = true) (hdD : PySem.W.hasDictIn K CD = true) (poD : PySem.W.plainOver K CD = true) (saD : PySem.W.findIn K (.ref CD) "__setattr__" = some (some (.builtin "object.__setattr__")))
    (n1 : PySem.W.findIn K (.ref CL) "sides" = some none) (n2 : PySem.W.findIn K (.ref CL) "uppers" = some none) (n3 : PySem.W.findIn K (.ref CL) "decisions" = some none)
    (e1 : PySem.W.findIn K (.ref CD) "court" = some none) (e2 : PySem.W.findIn K (.ref CD) "day" = some none) (e3 : PySem.W.findIn K (.ref CD) "side" = some none) (e4 : PySem.W.findIn K (.ref CD) "findings" = some none) (e5 : PySem.W.findIn K (.ref CD) "reason" = some none) (e6 : PySem.W.findIn K (.ref CD) "overruled" = some none) (e7 : PySem.W.findIn K (.ref CD) "barred" = some none) (e8 : PySem.W.findIn K (.ref CD) "taker" = some none)
    (c1 : PySem.W.nsIn K mainGlobals "MOST_KINDS" = some (some (.int 10 u1))) (c2 : PySem.W.nsIn K mainGlobals "MOST_COURTS" = some (some (.int 8 u2))) (c3 : PySem.W.nsIn K mainGlobals "MOST_DECISIONS" = some (some (.int 30 u3))) (c4 : PySem.W.nsIn K mainGlobals "LAST_DAY" = some (some (.int 99999 u4))) (c5 : PySem.W.nsIn K mainGlobals "NOT_REFUSED" = some (some (.int 0 u5)))
    (c6 : PySem.W.nsIn K mainGlobals "WRONGLY_TOLD" = some (some (.int (-1) u6))) (c7 : PySem.W.nsIn K mainGlobals "NO_SUCH" = some (some (.int (-2) u7))) (c8 : PySem.W.nsIn K mainGlobals "TOO_EARLY" = some (some (.int (-4) u8))) (c9 : PySem.W.nsIn K mainGlobals "NO_ROOM" = some (some (.int (-5) u9))) (c10 : PySem.W.nsIn K mainGlobals "NOT_TO_OVERRULE" = some (some (.int (-6) u10))) (c11 : PySem.W.nsIn K mainGlobals "NOTHING_FREES" = some (some (.int (-6) u11)))
    (z1 : PySem.W.nsIn K mainGlobals "len" = some none) (z2 : PySem.W.nsIn K mainGlobals "range" = some none) (z3 : PySem.W.nsIn K mainGlobals "all" = some none) (z4 : PySem.W.nsIn K mainGlobals "list" = some none) (next : Txt K mg CL CD → Goal) : Goal :=
  next ⟨⟨pgL, hdL, poL, saL⟩, ⟨pgD, hdD, poD, saD⟩, n1, n2, n3, e1, e2, e3, e4, e5, e6, e7, e8, PySem.W.mg_of X G aL, PySem.W.mg_of X G aD, ⟨_, PySem.W.mg_of X G c1⟩, ⟨_, PySem.W.mg_of X G c2⟩, ⟨_, PySem.W.mg_of X G c3⟩, ⟨_, PySem.W.mg_of X G c4⟩, ⟨_, PySem.W.mg_of X G c5⟩, ⟨_, PySem.W.mg_of X G c6⟩, ⟨_, PySem.W.mg_of X G c7⟩, ⟨_, PySem.W.mg_of X G c8⟩, ⟨_, PySem.W.mg_of X G c9⟩, ⟨_, PySem.W.mg_of X G c10⟩, ⟨_, PySem.W.mg_of X G c11⟩,
    PySem.W.mg_none_of X G z1, PySem.W.mg_none_of X G z2, PySem.W.mg_none_of X G z3, PySem.W.mg_none_of X G z4⟩
theorem with_tup {Goal : Prop} {K : PySem.W.Frag} {h : Heap} {mg : Str → Option Value} (X : K.In h) (G : h.Ns mainGlobals mg) {tA : Addr} {od : Option Addr} {its : Array Value} {n : Nat} {osl : Array (Option Value)} {fs : List Addr} (a : PySem.W.nsIn K mainGlobals "ANSWERERS" = some (some (.ref tA))) (l : K.lookup tA = some ⟨.type "tuple", od, .seq its n, osl⟩) (e : its.toList = fs.map Value.ref) (hs : fs.length ≤ 1000)
    (next : mg "ANSWERERS" = some (.ref tA) → (∀ H : Hp, SqT K H tA (fs.map V.ref)) → Goal) : Goal := by
  refine next (PySem.W.mg_of X G a) fun H => .inr ⟨_, its, n, l, rfl, rfl, ?_, ?_⟩
  · have : its.size = fs.length := by rw [← Array.length_toList, e, List.length_map]
    rw [this]
    exact Nat.le_of_lt (lt_line hs)
  · rw [e]
    exact vals_refs fs
theorem all_mk {P : Program} {w : World} {K : PySem.W.Frag} {h : Heap} {mg : Str → Option Value} {fa f tA CL CD : Addr} {fs : List Addr} (X : K.In h) (G : h.Ns mainGlobals mg) (hfa : mg "answers" = some (.ref fa)) (Z : Top K mg CL CD tA fs) {oc : Value} {od an : Option Addr} {osl : Array (Option Value)} {kV doc pm cdv ct : Value} (a : PySem.W.nsIn K mainGlobals "answers" = some (some (.ref f)))
    (l : K.lookup f = some ⟨oc, od, .func (PySem.W.fnOf "answers" "answers" (defArgs s_answers) (defBody s_answers) (defScope s_answers) .none kV doc pm an cdv ct), osl⟩) (c : PySem.W.codeIn K cdv "answers" = true) (k : PySem.W.keepIn K (.ref f) = true) :
    ∃ fd : FuncData, (∀ (s : Shared) (us : List Value), us.length = (["calls"] : List Str).length → BindsTo s fd ⟨us, []⟩ ((["calls"] : List Str).zip us)) ∧ ∀ base : Heap, K.In base → base.Ns mainGlobals mg → FnOk P w K mg base CX0 9 fa fd ["calls"] (spMain K) := by
  have e := hfa.symm.trans (PySem.W.mg_of X G a)
  cases e
  exact ⟨_, fun s us hu => match us, hu with | [_], _ => .of_eq rfl, fun base _ _ => main_ok Z (fun_mk (st := s_answers) l c k)⟩
end CC
namespace CC
open PySem PySem.W L2
theorem ints_nat {l : List Int} (h : ∀ x ∈ l, 0 ≤ x) : Si53.ints (l.map Int.toNat) = l := by
  unfold Si53.ints
  rw [List.map_map]
  conv => rhs; rw [← List.map_id l]
  refine List.map_congr_left fun x hx => ?_
  have := h x hx
  show ((x.toNat : Nat) : Int) = x
  omega
theorem vN_nat {l : List Int} (h : ∀ x ∈ l, 0 ≤ x) : vN (l.map Int.toNat) = l.map V.int := by
  unfold vN
  rw [List.map_map]
  refine List.map_congr_left fun x hx => ?_
  have := h x hx
  show V.int ((x.toNat : Nat) : Int) = V.int x
  congr 1
  omega
end CC
open PySem PySem.W PyProof.Rows
set_option maxRecDepth 100000 in
set_option maxHeartbeats 0 in
theorem PySem.Challenge.cw_citedcases_s01_answers_holds : PySem.Challenge.rw_citedcases_s01_answers.Holds := by
  w_on; k_headS; (case hw => exact ⟨[.list [.int 0, .int 0, .int 0]], by decide +kernel, by decide +kernel⟩)
  k_fillS
  refine L2.walk_specK (r := PySem.Challenge.rw_citedcases_s01_answers) (k := 9) (CX := L2.CX0) (ps := ["calls"]) (sp := CC.spMain) (by decide +kernel) rfl rfl ⟨rfl, by decide, by decide⟩ (fun w h Y => PySem.W.kIn_of Y) ?F ?S (fun _ _ _ _ z => z)
  case F =>
    intro w mg fa h Y KX G hmg
    refine' CC.with_txt KX G ?aL ?aD ?pgL ?hdL ?poL ?saL ?pgD ?hdD ?poD ?saD ?n1 ?n2 ?n3 ?e1 ?e2 ?e3 ?e4 ?e5 ?e6 ?e7 ?e8 ?c1 ?c2 ?c3 ?c4 ?c5 ?c6 ?c7 ?c8 ?c9 ?c10 ?c11 ?z1 ?z2 ?z3 ?z4 ?_
    (case aL => k_is)
    (case aD => k_is)
    (case pgL => k_is)
    (case hdL => k_is)
    (case poL => k_is)
    (case saL => k_is)
    (case pgD => k_is)
    (case hdD => k_is)
    (case poD => k_is)
    (case saD => k_is)
    (case n1 => k_is)
    (case n2 => k_is)
    (case n3 => k_is)
    (case e1 => k_is)
    (case e2 => k_is)
    (case e3 => k_is)
    (case e4 => k_is)
    (case e5 => k_is)
    (case e6 => k_is)
    (case e7 => k_is)
    (case e8 => k_is)
    (case c1 => k_is)
    (case c2 => k_is)
    (case c3 => k_is)
    (case c4 => k_is)
    (case c5 => k_is)
    (case c6 => k_is)
    (case c7 => k_is)
    (case c8 => k_is)
    (case c9 => k_is)
    (case c10 => k_is)
    (case c11 => k_is)
    (case z1 => k_is)
    (case z2 => k_is)
    (case z3 => k_is)
    (case z4 => k_is)
    intro T
    refine' CC.with_init (st := CC.sLandI) (q := "Land.__init__") (ps := ["self"]) (x := "Land") KX G ?aC ?mk ?kc ?a ?i ?l ?c ?k (fun _ _ _ _ _ _ us hl => match us, hl with | [_], _ => rfl) ?_
    (case aC => k_is)
    (case mk => k_is)
    (case kc => k_is)
    (case a => k_is)
    (case i => k_is)
    (case l => k_is)
    (case c => k_is)
    (case k => k_is)
    intro IL
    refine' CC.with_init (st := CC.sDecI) (q := "Decision.__init__") (ps := CC.psDecI) (x := "Decision") KX G ?aC ?mk ?kc ?a ?i ?l ?c ?k (fun _ _ _ _ _ _ us hl => match us, hl with | [_, _, _, _, _, _, _], _ => rfl) ?_
    (case aC => k_is)
    (case mk => k_is)
    (case kc => k_is)
    (case a => k_is)
    (case i => k_is)
    (case l => k_is)
    (case c => k_is)
    (case k => k_is)
    intro ID
    refine' CC.with_def (st := CC.s_rises) (ps := ["numbers"]) (x := "rises") KX G ?a ?l ?c ?k (fun _ _ _ _ _ _ us hl => match us, hl with | [_], _ => rfl) ?_
    (case a => k_is); (case l => k_is); (case c => k_is); (case k => k_is)
    intro D_rises
    refine' CC.with_def (st := CC.s_all_among) (ps := ["some", "others"]) (x := "all_among") KX G ?a ?l ?c ?k (fun _ _ _ _ _ _ us hl => match us, hl with | [_, _], _ => rfl) ?_
    (case a => k_is); (case l => k_is); (case c => k_is); (case k => k_is)
    intro D_all_among
    refine' CC.with_def (st := CC.s_is_court) (ps := ["land", "court"]) (x := "is_court") KX G ?a ?l ?c ?k (fun _ _ _ _ _ _ us hl => match us, hl with | [_, _], _ => rfl) ?_
    (case a => k_is); (case l => k_is); (case c => k_is); (case k => k_is)
    intro D_is_court
    refine' CC.with_def (st := CC.s_is_decision) (ps := ["land", "number"]) (x := "is_decision") KX G ?a ?l ?c ?k (fun _ _ _ _ _ _ us hl => match us, hl with | [_, _], _ => rfl) ?_
    (case a => k_is); (case l => k_is); (case c => k_is); (case k => k_is)
    intro D_is_decision
    refine' CC.with_def (st := CC.s_are_findings) (ps := ["land", "findings"]) (x := "are_findings") KX G ?a ?l ?c ?k (fun _ _ _ _ _ _ us hl => match us, hl with | [_, _], _ => rfl) ?_
    (case a => k_is); (case l => k_is); (case c => k_is); (case k => k_is)
    intro D_are_findings
    refine' CC.with_def (st := CC.s_is_reason) (ps := ["land", "reason", "findings", "side"]) (x := "is_reason") KX G ?a ?l ?c ?k (fun _ _ _ _ _ _ us hl => match us, hl with | [_, _, _, _], _ => rfl) ?_
    (case a => k_is); (case l => k_is); (case c => k_is); (case k => k_is)
    intro D_is_reason
    refine' CC.with_def (st := CC.s_courts_above) (ps := ["land", "court"]) (x := "courts_above") KX G ?a ?l ?c ?k (fun _ _ _ _ _ _ us hl => match us, hl with | [_, _], _ => rfl) ?_
    (case a => k_is); (case l => k_is); (case c => k_is); (case k => k_is)
    intro D_courts_above
    refine' CC.with_def (st := CC.s_is_within_reach) (ps := ["land", "court", "other"]) (x := "is_within_reach") KX G ?a ?l ?c ?k (fun _ _ _ _ _ _ us hl => match us, hl with | [_, _, _], _ => rfl) ?_
    (case a => k_is); (case l => k_is); (case c => k_is); (case k => k_is)
    intro D_is_within_reach
    refine' CC.with_def (st := CC.s_gainsay) (ps := ["one", "other"]) (x := "gainsay") KX G ?a ?l ?c ?k (fun _ _ _ _ _ _ us hl => match us, hl with | [_, _], _ => rfl) ?_
    (case a => k_is); (case l => k_is); (case c => k_is); (case k => k_is)
    intro D_gainsay
    refine' CC.with_def (st := CC.s_stands_on) (ps := ["land", "decision", "day"]) (x := "stands_on") KX G ?a ?l ?c ?k (fun _ _ _ _ _ _ us hl => match us, hl with | [_, _, _], _ => rfl) ?_
    (case a => k_is); (case l => k_is); (case c => k_is); (case k => k_is)
    intro D_stands_on
    refine' CC.with_def (st := CC.s_standing) (ps := ["land", "day"]) (x := "standing") KX G ?a ?l ?c ?k (fun _ _ _ _ _ _ us hl => match us, hl with | [_, _], _ => rfl) ?_
    (case a => k_is); (case l => k_is); (case c => k_is); (case k => k_is)
    intro D_standing
    refine' CC.with_def (st := CC.s_binding) (ps := ["land", "court", "day"]) (x := "binding") KX G ?a ?l ?c ?k (fun _ _ _ _ _ _ us hl => match us, hl with | [_, _, _], _ => rfl) ?_
    (case a => k_is); (case l => k_is); (case c => k_is); (case k => k_is)
    intro D_binding
    refine' CC.with_def (st := CC.s_is_barred) (ps := ["land", "decision"]) (x := "is_barred") KX G ?a ?l ?c ?k (fun _ _ _ _ _ _ us hl => match us, hl with | [_, _], _ => rfl) ?_
    (case a => k_is); (case l => k_is); (case c => k_is); (case k => k_is)
    intro D_is_barred
    refine' CC.with_def (st := CC.s_taken_away_by) (ps := ["land", "decision"]) (x := "taken_away_by") KX G ?a ?l ?c ?k (fun _ _ _ _ _ _ us hl => match us, hl with | [_, _], _ => rfl) ?_
    (case a => k_is); (case l => k_is); (case c => k_is); (case k => k_is)
    intro D_taken_away_by
    refine' CC.with_def (st := CC.s_missing_of_reason) (ps := ["decision", "findings"]) (x := "missing_of_reason") KX G ?a ?l ?c ?k (fun _ _ _ _ _ _ us hl => match us, hl with | [_, _], _ => rfl) ?_
    (case a => k_is); (case l => k_is); (case c => k_is); (case k => k_is)
    intro D_missing_of_reason
    refine' CC.with_def (st := CC.s_new_against) (ps := ["land", "decision", "findings"]) (x := "new_against") KX G ?a ?l ?c ?k (fun _ _ _ _ _ _ us hl => match us, hl with | [_, _, _], _ => rfl) ?_
    (case a => k_is); (case l => k_is); (case c => k_is); (case k => k_is)
    intro D_new_against
    refine' CC.with_def (st := CC.s_forces) (ps := ["land", "decision", "findings"]) (x := "forces") KX G ?a ?l ?c ?k (fun _ _ _ _ _ _ us hl => match us, hl with | [_, _, _], _ => rfl) ?_
    (case a => k_is); (case l => k_is); (case c => k_is); (case k => k_is)
    intro D_forces
    refine' CC.with_def (st := CC.s_forcing) (ps := ["land", "numbers", "findings"]) (x := "forcing") KX G ?a ?l ?c ?k (fun _ _ _ _ _ _ us hl => match us, hl with | [_, _, _], _ => rfl) ?_
    (case a => k_is); (case l => k_is); (case c => k_is); (case k => k_is)
    intro D_forcing
    refine' CC.with_def (st := CC.s_is_any_forcing) (ps := ["land", "numbers", "findings"]) (x := "is_any_forcing") KX G ?a ?l ?c ?k (fun _ _ _ _ _ _ us hl => match us, hl with | [_, _, _], _ => rfl) ?_
    (case a => k_is); (case l => k_is); (case c => k_is); (case k => k_is)
    intro D_is_any_forcing
    refine' CC.with_def (st := CC.s_each_one_longer) (ps := ["lists", "kinds"]) (x := "each_one_longer") KX G ?a ?l ?c ?k (fun _ _ _ _ _ _ us hl => match us, hl with | [_, _], _ => rfl) ?_
    (case a => k_is); (case l => k_is); (case c => k_is); (case k => k_is)
    intro D_each_one_longer
    refine' CC.with_def (st := CC.s_fewest_that_free) (ps := ["land", "numbers", "findings", "spare"]) (x := "fewest_that_free") KX G ?a ?l ?c ?k (fun _ _ _ _ _ _ us hl => match us, hl with | [_, _, _, _], _ => rfl) ?_
    (case a => k_is); (case l => k_is); (case c => k_is); (case k => k_is)
    intro D_fewest_that_free
    refine' CC.with_def (st := CC.s_is_well_told) (ps := ["land", "decision"]) (x := "is_well_told") KX G ?a ?l ?c ?k (fun _ _ _ _ _ _ us hl => match us, hl with | [_, _], _ => rfl) ?_
    (case a => k_is); (case l => k_is); (case c => k_is); (case k => k_is)
    intro D_is_well_told
    refine' CC.with_def (st := CC.s_is_too_early) (ps := ["land", "decision"]) (x := "is_too_early") KX G ?a ?l ?c ?k (fun _ _ _ _ _ _ us hl => match us, hl with | [_, _], _ => rfl) ?_
    (case a => k_is); (case l => k_is); (case c => k_is); (case k => k_is)
    intro D_is_too_early
    refine' CC.with_def (st := CC.s_may_be_overruled) (ps := ["land", "decision", "number"]) (x := "may_be_overruled") KX G ?a ?l ?c ?k (fun _ _ _ _ _ _ us hl => match us, hl with | [_, _, _], _ => rfl) ?_
    (case a => k_is); (case l => k_is); (case c => k_is); (case k => k_is)
    intro D_may_be_overruled
    refine' CC.with_def (st := CC.s_refusal_to_decide) (ps := ["land", "decision"]) (x := "refusal_to_decide") KX G ?a ?l ?c ?k (fun _ _ _ _ _ _ us hl => match us, hl with | [_, _], _ => rfl) ?_
    (case a => k_is); (case l => k_is); (case c => k_is); (case k => k_is)
    intro D_refusal_to_decide
    refine' CC.with_def (st := CC.s_decision_told) (ps := ["numbers"]) (x := "decision_told") KX G ?a ?l ?c ?k (fun _ _ _ _ _ _ us hl => match us, hl with | [_], _ => rfl) ?_
    (case a => k_is); (case l => k_is); (case c => k_is); (case k => k_is)
    intro D_decision_told
    refine' CC.with_def (st := CC.s_answer_begins) (ps := ["land", "numbers"]) (x := "answer_begins") KX G ?a ?l ?c ?k (fun _ _ _ _ _ _ us hl => match us, hl with | [_, _], _ => rfl) ?_
    (case a => k_is); (case l => k_is); (case c => k_is); (case k => k_is)
    intro D_answer_begins
    refine' CC.with_def (st := CC.s_answer_court) (ps := ["land", "numbers"]) (x := "answer_court") KX G ?a ?l ?c ?k (fun _ _ _ _ _ _ us hl => match us, hl with | [_, _], _ => rfl) ?_
    (case a => k_is); (case l => k_is); (case c => k_is); (case k => k_is)
    intro D_answer_court
    refine' CC.with_def (st := CC.s_answer_decide) (ps := ["land", "numbers"]) (x := "answer_decide") KX G ?a ?l ?c ?k (fun _ _ _ _ _ _ us hl => match us, hl with | [_, _], _ => rfl) ?_
    (case a => k_is); (case l => k_is); (case c => k_is); (case k => k_is)
    intro D_answer_decide
    refine' CC.with_def (st := CC.s_answer_stands) (ps := ["land", "numbers"]) (x := "answer_stands") KX G ?a ?l ?c ?k (fun _ _ _ _ _ _ us hl => match us, hl with | [_, _], _ => rfl) ?_
    (case a => k_is); (case l => k_is); (case c => k_is); (case k => k_is)
    intro D_answer_stands
    refine' CC.with_def (st := CC.s_answer_binds) (ps := ["land", "numbers"]) (x := "answer_binds") KX G ?a ?l ?c ?k (fun _ _ _ _ _ _ us hl => match us, hl with | [_, _], _ => rfl) ?_
    (case a => k_is); (case l => k_is); (case c => k_is); (case k => k_is)
    intro D_answer_binds
    refine' CC.with_def (st := CC.s_answer_forced) (ps := ["land", "numbers"]) (x := "answer_forced") KX G ?a ?l ?c ?k (fun _ _ _ _ _ _ us hl => match us, hl with | [_, _], _ => rfl) ?_
    (case a => k_is); (case l => k_is); (case c => k_is); (case k => k_is)
    intro D_answer_forced
    refine' CC.with_def (st := CC.s_answer_distinguish) (ps := ["land", "numbers"]) (x := "answer_distinguish") KX G ?a ?l ?c ?k (fun _ _ _ _ _ _ us hl => match us, hl with | [_, _], _ => rfl) ?_
    (case a => k_is); (case l => k_is); (case c => k_is); (case k => k_is)
    intro D_answer_distinguish
    refine' CC.with_def (st := CC.s_answer_may) (ps := ["land", "numbers"]) (x := "answer_may") KX G ?a ?l ?c ?k (fun _ _ _ _ _ _ us hl => match us, hl with | [_, _], _ => rfl) ?_
    (case a => k_is); (case l => k_is); (case c => k_is); (case k => k_is)
    intro D_answer_may
    refine' CC.with_def (st := CC.s_answer_free) (ps := ["land", "numbers"]) (x := "answer_free") KX G ?a ?l ?c ?k (fun _ _ _ _ _ _ us hl => match us, hl with | [_, _], _ => rfl) ?_
    (case a => k_is); (case l => k_is); (case c => k_is); (case k => k_is)
    intro D_answer_free
    refine' CC.with_def (st := CC.s_answer_life) (ps := ["land", "numbers"]) (x := "answer_life") KX G ?a ?l ?c ?k (fun _ _ _ _ _ _ us hl => match us, hl with | [_, _], _ => rfl) ?_
    (case a => k_is); (case l => k_is); (case c => k_is); (case k => k_is)
    intro D_answer_life
    refine' CC.with_tup KX G ?a ?l ?e ?hs ?_
    (case a => k_is); (case l => k_is); (case e => exact (rfl : _ = List.map Value.ref [_, _, _, _, _, _, _, _, _, _])); (case hs => decide)
    intro mA hT
    refine' CC.all_mk KX G hmg ⟨T, IL, ID, ⟨_, D_rises⟩, ⟨_, D_all_among⟩, ⟨_, D_is_court⟩, ⟨_, D_is_decision⟩, ⟨_, D_are_findings⟩, ⟨_, D_is_reason⟩, ⟨_, D_courts_above⟩, ⟨_, D_is_within_reach⟩, ⟨_, D_gainsay⟩, ⟨_, D_stands_on⟩, ⟨_, D_standing⟩, ⟨_, D_binding⟩, ⟨_, D_is_barred⟩, ⟨_, D_taken_away_by⟩, ⟨_, D_missing_of_reason⟩, ⟨_, D_new_against⟩, ⟨_, D_forces⟩, ⟨_, D_forcing⟩, ⟨_, D_is_any_forcing⟩, ⟨_, D_each_one_longer⟩, ⟨_, D_fewest_that_free⟩, ⟨_, D_is_well_told⟩, ⟨_, D_is_too_early⟩, ⟨_, D_may_be_overruled⟩, ⟨_, D_refusal_to_decide⟩, ⟨_, D_decision_told⟩, ⟨_, rfl, D_answer_begins⟩, ⟨_, rfl, D_answer_court⟩, ⟨_, rfl, D_answer_decide⟩, ⟨_, rfl, D_answer_stands⟩, ⟨_, rfl, D_answer_binds⟩, ⟨_, rfl, D_answer_forced⟩, ⟨_, rfl, D_answer_distinguish⟩, ⟨_, rfl, D_answer_may⟩, ⟨_, rfl, D_answer_free⟩, ⟨_, rfl, D_answer_life⟩, mA, hT⟩ ?a ?l ?c ?k
    (case a => k_is); (case l => k_is); (case c => k_is); (case k => k_is)
  case S =>
    intro K H xs a hO hwi hask hx
    cases hx with
    | cons h1 h2 =>
      cases h2
      cases h1 with
      | lst hs ha =>
        have e := L2.ints_dw a.1 _ ha
        subst e
        have q : ((Codec.inLen 0 4000 a.1 && a.1.all (Codec.inInt 0 4294967295)) && true) = true := hwi
        rw [Bool.and_eq_true, Bool.and_eq_true] at q
        have hpos : ∀ x ∈ a.1, 0 ≤ x := fun x hx => (Codec.inInt_iff.mp (List.all_eq_true.mp q.1.2 x hx)).1
        have e1 := CC.ints_nat hpos
        have e2 := CC.vN_nat hpos
        have hask : PySi53.answers_asked a.1 = true := hask
        refine ⟨_, a.1.map Int.toNat, rfl, by rw [e2]; exact hs, by rw [e1]; exact hask, by rw [List.length_map]; exact (Codec.inNat_iff.mp q.1.1).2, fun H' p hp => ?_⟩
        rw [e1] at hp
        exact .lst (L2.SqL.of hp) (L2.dw_ints _)
