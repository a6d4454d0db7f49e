import PyProof.Rows.All
import Wide.All
import OpenK.AllK
import Wide.FinOn
import PyProof.EqAt
import PyProof.EqKinds
import PyProof.TupleCall
import KE.BitLaws
import Open.SpecLaws
import KE.OsHead
import KE.OsGo
import PySem.Challenge.RW_gardenplans_s05_make
set_option Elab.async false
set_option linter.all false
set_option maxRecDepth 100000
/-! THE HAND LAYER, for ints, bools, texts, own classes, lists, tuples, dicts, comprehensions, walks over dicts, enumerate, zip, reversed, texts, calls, loops. Paste it whole ahead of your own text; what your proof does not reach may be deleted. -/
namespace L2
open PySem PySem.Spec PyProof.Rows
/-- a key: an int or a str -/
abbrev Key := Sum Int Str
def keyIs : Key → Value → Bool
  | .inl k, v => Value.isInt k v
  | .inr x, v => Value.isStrOf x v
def keyH (w : World) : Key → Int
  | .inl k => hashInt k
  | .inr x => hashStr w x
theorem keyIs_shape : ∀ {k : Key} {v : Value}, keyIs k v = true → (∃ i t, k = Sum.inl i ∧ v = Value.int i t) ∨ (∃ x t, k = Sum.inr x ∧ v = Value.str x t)
  | .inl i, v, h => by
    obtain ⟨t, e⟩ := Value.isInt_shape (k := i) (v := v) h
    exact .inl ⟨i, t, rfl, e⟩
  | .inr x, v, h => by
    obtain ⟨t, e⟩ := Value.isStrOf_shape (x := x) (v := v) h
    exact .inr ⟨x, t, rfl, e⟩
theorem keyIs_int (i : Int) (t : Tok) : keyIs (.inl i) (.int i t) = true := by simp [keyIs, Value.isInt]
theorem keyIs_str (x : Str) (t : Tok) : keyIs (.inr x) (.str x t) = true := by simp [keyIs, Value.isStrOf]
theorem key_ll (a b : Int) : decide ((Sum.inl a : Key) = Sum.inl b) = (a == b) := by
  by_cases e : a = b
  · subst e; simp
  · have h : ¬ (Sum.inl a : Key) = Sum.inl b := fun q => e (Sum.inl.inj q)
    rw [decide_eq_false h]
    exact (beq_eq_false_iff_ne.mpr e).symm
theorem key_rr (a b : Str) : decide ((Sum.inr a : Key) = Sum.inr b) = decide (a = b) := by
  by_cases e : a = b
  · subst e; simp
  · have h : ¬ (Sum.inr a : Key) = Sum.inr b := fun q => e (Sum.inr.inj q)
    rw [decide_eq_false h, decide_eq_false e]
theorem key_lr (a : Int) (b : Str) : decide ((Sum.inl a : Key) = Sum.inr b) = false := decide_eq_false (fun q => nomatch q)
theorem key_rl (a : Str) (b : Int) : decide ((Sum.inr a : Key) = Sum.inl b) = false := decide_eq_false (fun q => nomatch q)
def mixKind (prog : Program) (w : World) : PySem.KeyKind prog w Key where
  is := keyIs
  hash := keyH w
  inj := fun v a b ha hb => by
    rcases keyIs_shape ha with ⟨i, t, rfl, rfl⟩ | ⟨x, t, rfl, rfl⟩
    · rcases keyIs_shape hb with ⟨j, u, rfl, e⟩ | ⟨y, u, rfl, e⟩
      · injection e with e1 _; rw [e1]
      · exact nomatch e
    · rcases keyIs_shape hb with ⟨j, u, rfl, e⟩ | ⟨y, u, rfl, e⟩
      · exact nomatch e
      · injection e with e1 _; rw [e1]
  byValue := fun k v h => by
    rcases keyIs_shape h with ⟨i, t, rfl, rfl⟩ | ⟨x, t, rfl, rfl⟩ <;> rfl
  pyHash := fun hv h => by
    rcases keyIs_shape hv with ⟨i, t, rfl, rfl⟩ | ⟨x, t, rfl, rfl⟩
    · exact wpAny_pyHash_int h
    · exact wpAny_pyHash_str h
  eqBool := fun hu hv h => by
    rcases keyIs_shape hu with ⟨i, t, rfl, rfl⟩ | ⟨x, t, rfl, rfl⟩
    · rcases keyIs_shape hv with ⟨j, u, rfl, rfl⟩ | ⟨y, u, rfl, rfl⟩
      · rw [key_ll] at h; exact wpAny_eqBool_int h
      · rw [key_lr] at h; exact SeqAt.EqAt.int_str i t y u _ _ _ _ h
    · rcases keyIs_shape hv with ⟨j, u, rfl, rfl⟩ | ⟨y, u, rfl, rfl⟩
      · rw [key_rl] at h; exact SeqAt.EqAt.str_int x t j u _ _ _ _ h
      · rw [key_rr] at h; exact wpAny_eqBool_str h
  «strs» := fun k x t v h => by
    rcases keyIs_shape h with ⟨i, u, rfl, e⟩ | ⟨y, u, rfl, e⟩
    · exact nomatch e
    · injection e with e1 _
      subst e1
      cases v <;> rfl
theorem mixKind_int (prog : Program) (w : World) (i : Int) (t : Tok) : (mixKind prog w).is (.inl i) (.int i t) = true := keyIs_int i t
theorem mixKind_str (prog : Program) (w : World) (x : Str) (t : Tok) : (mixKind prog w).is (.inr x) (.str x t) = true := keyIs_str x t
end L2
namespace L2
open PySem PySem.Spec PyProof.Rows
/-- a value, without the heap -/
inductive V where
  | non | bl (b : Bool) | int (i : Int) | str (x : Str) | byt (b : Array UInt8) | flt (b : UInt64) | ref (a : Addr) | ty (n : String)
  deriving DecidableEq
def RelV : V → Value → Prop
  | .non, u => u = Value.none
  | .bl b, u => u = Value.bool b
  | .int i, u => ∃ t, u = Value.int i t
  | .str x, u => ∃ t, u = Value.str x t
  | .byt b, u => ∃ t, u = Value.bytes b t
  | .flt b, u => ∃ t, u = Value.float b t
  | .ref a, u => u = Value.ref a
  | .ty n, u => u = Value.type n
abbrev Vals : List V → List Value → Prop := Paired RelV
theorem Vals.length {xs : List V} {us : List Value} (r : Vals xs us) : xs.length = us.length := Paired.length r
theorem Vals.get : ∀ {xs : List V} {us : List Value} {i : Nat} {x : V}, Vals xs us → xs[i]? = some x → ∃ u, us[i]? = some u ∧ RelV x u
  | _, _, _, _, .nil, e => by simp at e
  | _, _, 0, _, .cons r _, e => by simp at e; subst e; exact ⟨_, rfl, r⟩
  | _, _, i + 1, x, .cons _ t, e => by
    obtain ⟨u, h1, h2⟩ := Vals.get (i := i) (x := x) t (by simpa using e)
    exact ⟨u, by simpa using h1, h2⟩
theorem Vals.set {x : V} {u : Value} (r : RelV x u) : ∀ {xs : List V} {us : List Value} (i : Nat), Vals xs us → Vals (xs.set i x) (us.set i u)
  | _, _, _, .nil => .nil
  | _, _, 0, .cons _ t => .cons r t
  | _, _, i + 1, .cons q t => .cons q (Vals.set r i t)
theorem Vals.append : ∀ {xs ys : List V} {us ws : List Value}, Vals xs us → Vals ys ws → Vals (xs ++ ys) (us ++ ws)
  | _, _, _, _, .nil, s => s
  | _, _, _, _, .cons r t, s => .cons r (Vals.append t s)
theorem Vals.take : ∀ {xs : List V} {us : List Value} (n : Nat), Vals xs us → Vals (xs.take n) (us.take n)
  | _, _, 0, _ => .nil
  | _, _, _ + 1, .nil => .nil
  | _, _, n + 1, .cons r t => .cons r (Vals.take n t)
theorem Vals.drop : ∀ {xs : List V} {us : List Value} (n : Nat), Vals xs us → Vals (xs.drop n) (us.drop n)
  | _, _, 0, r => r
  | _, _, _ + 1, .nil => .nil
  | _, _, n + 1, .cons _ t => Vals.drop n t
def RelO : Option V → Option Value → Prop
  | some v, some u => RelV v u
  | none, none => True
  | _, _ => False
def KV {κ : Type} : List (κ × V) → List (κ × Value) → Prop := Paired fun (p : κ × V) (q : κ × Value) => p.1 = q.1 ∧ RelV p.2 q.2
/-- a key of a dict (00_mix): an int or a text -/
def kV : Key → V
  | .inl i => .int i
  | .inr x => .str x
/-- what stands at a tracked address -/
inductive HO where
  /-- a list -/
  | lst (xs : List V)
  /-- a tuple (never changes) -/
  | tup (xs : List V)
  /-- a dict whose keys are ints and texts; one whose keys are tuples of ints and texts (the empty one is both) -/
  | dK (kvs : List (Key × V)) | dT (kvs : List (List Key × V))
  /-- a set of ints: its members, its size -/
  | set (S : Int → Bool) (n : Nat)
  /-- an instance of the class at C, its dict at dx, its attributes -/
  | ins (C dx : Addr) (fs : List (Str × V))
  /-- the dict of the instance at x -/
  | own (x : Addr)
  /-- the dict of an exception -/
  | xd (fs : List (Str × V))
  /-- a bound method, f of x -/
  | met (f x : Addr)
  /-- a range object lo, lo + 1, .. below hi -/
  | rng (lo hi : Int)
  /-- a thing that is known to the object (the script; a dict while a loop walks it): read, never written while it is so -/
  | frz (o : Obj) (u : HO)
  /-- a code object's table -/
  | tbl (ps : Array Value)
  /-- any other thing, by what is true of its one object (a def of one's own: SetO a S n := HO.ext fun h => ..) -/
  | ext (φ : Heap → Prop)
abbrev Hp := Addr → Option HO
def upd (H : Hp) (a : Addr) (o : HO) : Hp := fun b => if b = a then some o else H b
theorem upd_same {H : Hp} {a : Addr} {o : HO} : upd H a o a = some o := by unfold upd; rw [if_pos rfl]
theorem upd_ne {H : Hp} {a b : Addr} {o : HO} (h : b ≠ a) : upd H a o b = H b := by unfold upd; rw [if_neg h]
/-- two objects of different content stand apart -/
theorem ne_of {H : Hp} {a b : Addr} {o u : HO} (h : H a = some o) (h' : H b = some u) (d : o ≠ u) : a ≠ b := by
  intro e; subst e; rw [h] at h'; exact d (Option.some.inj h')
theorem ne_of_none {H : Hp} {a b : Addr} {o : HO} (h : H a = some o) (h' : H b = none) : a ≠ b := by
  intro e; subst e; rw [h] at h'; cases h'
section
variable (P : Program) (w : World)
def ObjOk (H : Hp) (h : Heap) (a : Addr) : HO → Prop
  | .lst xs => xs.length ≤ sizeLine ∧ ∃ (its : List Value) (n : Nat), Vals xs its ∧ h.get? a = some { cls := .type "list", data := .seq its.toArray n }
  | .tup xs => xs.length ≤ sizeLine ∧ ∃ its : List Value, Vals xs its ∧ IsTup h a its.toArray
  | .dK kvs => kvs.length ≤ sizeLine ∧ (a == sysModules) = false ∧ ∃ vs, KV kvs vs ∧ h.DictOf (mixKind P w) a vs
  | .dT kvs => kvs.length ≤ sizeLine ∧ (a == sysModules) = false ∧ ∃ xs : List (List Key × Addr × Value),
      Paired (fun (p : List Key × V) (q : List Key × Addr × Value) => p.1 = q.1 ∧ H q.2.1 = some (.tup (p.1.map kV)) ∧ RelV p.2 q.2.2) kvs xs ∧
      ∃ o es ep, h.get? a = some o ∧ o.ExactDict ∧ o.data = .dict es ep ∧ es.toList = xs.map (entryOfKey (tupleKind (mixKind P w))) ∧ (xs.map (·.1)).Nodup
  | .set S n => h.SetOf (intKind P w) a S n
  | .ins C dx fs => H dx = some (.own a) ∧ fs.length ≤ 1000 ∧ dx ≠ a ∧ h.get? a = some (PySem.W.instObj C dx) ∧
      ∃ mA, h.Ns1 dx mA ∧ (∀ f, RelO (fs.lookup f) (mA f)) ∧ PySem.Within mA (fs.map (·.1))
  | .own _ => ∃ o, h.get? a = some o
  | .xd fs => ∃ mA, h.Ns1 a mA ∧ ∀ f, RelO (fs.lookup f) (mA f)
  | .rng lo hi => ∃ t u v, h.get? a = some { cls := .type "range", data := .fields #[.int lo t, .int hi u, .int 1 v] }
  | .frz o u => h.get? a = some o ∧ ObjOk H h a u
  | .tbl ps => h.get? a = some { cls := .none, data := .fields ps }
  | .met f x => h.get? a = some (PySem.W.methodObj (.ref f) (.ref x))
  | .ext φ => φ h ∧ (∃ o, h.get? a = some o) ∧ ∀ h1 h2 : Heap, φ h1 → (∀ o, h1.get? a = some o → h2.get? a = some o) → φ h2
/-- the abstract heap is held -/
def HOk (H : Hp) (h : Heap) : Prop := ∀ a o, H a = some o → ObjOk P w H h a o
end
section
variable {P : Program} {w : World} {H H' : Hp} {h h' : Heap} {a : Addr} {o : HO}
theorem ObjOk.lt (x : ObjOk P w H h a o) : a < h.objs.size := by
  cases o with
  | lst xs => obtain ⟨_, _, _, _, e⟩ := x; exact Heap.lt_size e
  | tup xs => obtain ⟨_, _, _, p⟩ := x; exact p.lt
  | dK kvs => obtain ⟨_, _, _, _, o, _, _, e, _⟩ := x; exact Heap.lt_size e
  | dT kvs => obtain ⟨_, _, _, _, o, _, _, e, _⟩ := x; exact Heap.lt_size e
  | set S n => obtain ⟨o, _, _, _, e, _⟩ := x; exact Heap.lt_size e
  | ins C dx fs => obtain ⟨_, _, _, e, _⟩ := x; exact Heap.lt_size e
  | own y => obtain ⟨_, e⟩ := x; exact Heap.lt_size e
  | xd fs => obtain ⟨_, ⟨_, _, _, e, _⟩, _⟩ := x; exact Heap.lt_size e
  | rng lo hi => obtain ⟨_, _, _, e⟩ := x; exact Heap.lt_size e
  | frz ob u => obtain ⟨e, _⟩ := x; exact Heap.lt_size e
  | tbl ps => exact Heap.lt_size (show h.get? a = some _ from x)
  | met f y => exact Heap.lt_size (show h.get? a = some _ from x)
  | ext φ => obtain ⟨_, ⟨_, e⟩, _⟩ := x; exact Heap.lt_size e
theorem Paired.mapP {α β : Type} {F G : α → β → Prop} : ∀ {l₁ : List α} {l₂ : List β}, Paired F l₁ l₂ → (∀ a b, F a b → G a b) → Paired G l₁ l₂
  | _, _, .nil, _ => .nil
  | _, _, .cons r t, f => .cons (f _ _ r) (Paired.mapP t f)
/-- what an object's description leans on: its own object, its own dict, the tuples -/
theorem ObjOk.stay (x : ObjOk P w H h a o) (k : ∀ b u, (b = a ∨ H b = some (.own a)) → h.get? b = some u → h'.get? b = some u)
    (ho : ∀ b, H b = some (.own a) → H' b = some (.own a)) (ht : ∀ b xs, H b = some (.tup xs) → H' b = some (.tup xs)) : ObjOk P w H' h' a o := by
  induction o with
  | lst xs => obtain ⟨z, its, n, r, e⟩ := x; exact ⟨z, its, n, r, k _ _ (.inl rfl) e⟩
  | tup xs => obtain ⟨z, its, r, ob, e, c⟩ := x; exact ⟨z, its, r, ob, k _ _ (.inl rfl) e, c⟩
  | dK kvs => obtain ⟨z, y, vs, r, ob, es, ep, e, c⟩ := x; exact ⟨z, y, vs, r, ob, es, ep, k _ _ (.inl rfl) e, c⟩
  | dT kvs =>
    obtain ⟨z, y, xs, r, ob, es, ep, e, c⟩ := x
    exact ⟨z, y, xs, Paired.mapP r fun p q z => ⟨z.1, ht _ _ z.2.1, z.2.2⟩, ob, es, ep, k _ _ (.inl rfl) e, c⟩
  | set S n => obtain ⟨ob, es, ep, t, e, c⟩ := x; exact ⟨ob, es, ep, t, k _ _ (.inl rfl) e, c⟩
  | ins C dx fs =>
    obtain ⟨d, z, ne, e, mA, ⟨od, es, ep, e2, c⟩, r⟩ := x
    exact ⟨ho _ d, z, ne, k _ _ (.inl rfl) e, mA, ⟨od, es, ep, k _ _ (.inr d) e2, c⟩, r⟩
  | own y => obtain ⟨ob, e⟩ := x; exact ⟨ob, k _ _ (.inl rfl) e⟩
  | xd fs => obtain ⟨mA, ⟨od, es, ep, e, c⟩, r⟩ := x; exact ⟨mA, ⟨od, es, ep, k _ _ (.inl rfl) e, c⟩, r⟩
  | rng lo hi => obtain ⟨t, u, v, e⟩ := x; exact ⟨t, u, v, k _ _ (.inl rfl) e⟩
  | frz ob u ih => obtain ⟨e, q⟩ := x; exact ⟨k _ _ (.inl rfl) e, ih q⟩
  | tbl ps =>
    have e : h.get? a = some { cls := .none, data := .fields ps } := x
    show h'.get? a = some { cls := .none, data := .fields ps }
    exact k a _ (.inl rfl) e
  | met f y =>
    have e : h.get? a = some (PySem.W.methodObj (.ref f) (.ref y)) := x
    show h'.get? a = some (PySem.W.methodObj (.ref f) (.ref y))
    exact k a _ (.inl rfl) e
  | ext φ => obtain ⟨p, ⟨o, e⟩, st⟩ := x; exact ⟨st _ _ p fun o q => k _ _ (.inl rfl) q, ⟨o, k _ _ (.inl rfl) e⟩, st⟩
theorem HOk.lt (x : HOk P w H h) (e : H a = some o) : a < h.objs.size := (x a o e).lt
theorem HOk.fresh (x : HOk P w H h) (e : h.objs.size ≤ a) : H a = none := by
  cases q : H a with
  | none => rfl
  | some u => exact absurd (Nat.lt_of_lt_of_le (x.lt q) e) (Nat.lt_irrefl _)
/-- every object of the heap is kept -/
theorem HOk.kept (x : HOk P w H h) (k : ∀ b u, h.get? b = some u → h'.get? b = some u) : HOk P w H h' := fun a o e =>
  (x a o e).stay (fun b u _ q => k b u q) (fun _ q => q) fun _ _ q => q
/-- a new object is laid and tracked -/
theorem HOk.laid (x : HOk P w H h) (k : ∀ b u, h.get? b = some u → h'.get? b = some u) (hp : h.objs.size ≤ a) (new : ObjOk P w (upd H a o) h' a o) : HOk P w (upd H a o) h' := fun b u e => by
  have hn := x.fresh hp
  by_cases hb : b = a
  · subst hb; rw [upd_same] at e; cases e; exact new
  · rw [upd_ne hb] at e
    exact (x b u e).stay (fun c v _ q => k c v q) (fun c q => by rw [upd_ne (ne_of_none q hn)]; exact q) fun c xs q => by rw [upd_ne (ne_of_none q hn)]; exact q
end
/-- what may be read as u: it is u, or a known u -/
def Rd (H : Hp) (a : Addr) (u : HO) : Prop := H a = some u ∨ ∃ o, H a = some (.frz o u)
theorem Rd.ok {P : Program} {w : World} {H : Hp} {h : Heap} {a : Addr} {u : HO} (r : Rd H a u) (x : HOk P w H h) : ObjOk P w H h a u := by
  rcases r with r | ⟨o, r⟩
  · exact x a u r
  · obtain ⟨_, q⟩ := x a _ r
    exact q
/-- what may be written -/
def Mut : Option HO → Prop
  | some (.lst _) => True
  | some (.dK _) => True
  | some (.dT _) => True
  | some (.set _ _) => True
  | some (.ins _ _ _) => True
  | some (.ext _) => True
  | _ => False
section
variable {P : Program} {w : World} {H : Hp} {h h' : Heap} {x e : Addr} {o' : HO}
/-- the object at e is changed: x itself, or the dict of the instance x -/
theorem HOk.write (ok : HOk P w H h) (mu : Mut (H x)) (he : e = x ∨ H e = some (.own x)) (k : ∀ b u, b ≠ e → h.get? b = some u → h'.get? b = some u) (heo : ∃ u, h'.get? e = some u)
    (new : ObjOk P w (upd H x o') h' x o') : HOk P w (upd H x o') h' := fun b u q => by
  have nown : ∀ c y, H c = some (.own y) → c ≠ x := fun c y r z => by subst z; rw [r] at mu; exact mu
  have ntup : ∀ c xs, H c = some (.tup xs) → c ≠ x := fun c xs r z => by subst z; rw [r] at mu; exact mu
  by_cases hb : b = x
  · subst hb; rw [upd_same] at q; cases q; exact new
  · rw [upd_ne hb] at q
    by_cases hbe : b = e
    · have q' : H b = some (.own x) := by
        rcases he with z | z
        · exact absurd (hbe.trans z) hb
        · rw [hbe]; exact z
      rw [q] at q'; cases q'
      obtain ⟨v, hv⟩ := heo
      exact ⟨v, by rw [hbe]; exact hv⟩
    · refine (ok b u q).stay (fun c v hc r => k c v ?_ r) (fun c r => by rw [upd_ne (nown c b r)]; exact r) fun c xs r => by rw [upd_ne (ntup c xs r)]; exact r
      rcases hc with rfl | hc
      · exact hbe
      · rintro rfl
        rcases he with z | z
        · exact nown c b hc z
        · rw [hc] at z; cases z; exact hb rfl
end
/-! ### kept unless tracked; of the frames at fs (the callers') the slots may change (an exception that passes writes there); of the records at ex (iterators) nothing is said -/
structure Un (fs ex : List Addr) (H H' : Hp) (h h' : Heap) : Prop where
  keep : ∀ b o, h.get? b = some o → H b = none → b ∉ fs → b ∉ ex → h'.get? b = some o
  slot : ∀ b o, h.get? b = some o → H b = none → b ∈ fs → b ∉ ex → ∃ sl, h'.get? b = some { o with slots := sl }
  free : ∀ b o, h.get? b = some o → H b = none → b ∉ ex → H' b = none
  there : ∀ b o, h.get? b = some o → b ∉ ex → ∃ o', h'.get? b = some o'
  tups : ∀ b xs, H b = some (.tup xs) → H' b = some (.tup xs)
  frzs : ∀ b o u, H b = some (.frz o u) → H' b = some (.frz o u)
  tbls : ∀ b ps, H b = some (.tbl ps) → ∃ more, H' b = some (.tbl (ps ++ more))
section
variable {fs fs' ex ex' : List Addr} {H H1 H2 : Hp} {h h1 h2 h' : Heap} {a x e : Addr} {o : HO}
theorem Un.any (u : Un fs ex H H1 h h1) {b : Addr} {ob : Obj} (q : h.get? b = some ob) (n : H b = none) (hx : b ∉ ex) : ∃ sl, h1.get? b = some { ob with slots := sl } := by
  by_cases hb : b ∈ fs
  · exact u.slot b ob q n hb hx
  · exact ⟨ob.slots, u.keep b ob q n hb hx⟩
theorem Un.kept (k : ∀ b u, h.get? b = some u → h'.get? b = some u) : Un fs ex H H h h' :=
  ⟨fun b ob q _ _ _ => k b ob q, fun b ob q _ _ _ => ⟨ob.slots, k b ob q⟩, fun _ _ _ n _ => n, fun b ob q _ => ⟨ob, k b ob q⟩, fun _ _ q => q, fun _ _ _ q => q, fun _ ps q => ⟨#[], by rw [q]; simp⟩⟩
theorem Un.refl : Un fs ex H H h h := Un.kept fun _ _ q => q
theorem Un.laid (k : ∀ b u, h.get? b = some u → h'.get? b = some u) (hp : h.objs.size ≤ a) (hn : H a = none) : Un fs ex H (upd H a o) h h' where
  keep := fun b u q _ _ _ => k b u q
  slot := fun b u q _ _ _ => ⟨u.slots, k b u q⟩
  free := fun b u q n _ => by rw [upd_ne (Nat.ne_of_lt (Nat.lt_of_lt_of_le (Heap.lt_size q) hp))]; exact n
  there := fun b u q _ => ⟨u, k b u q⟩
  tups := fun b xs q => by rw [upd_ne (ne_of_none q hn)]; exact q
  frzs := fun b u xs q => by rw [upd_ne (ne_of_none q hn)]; exact q
  tbls := fun b ps q => ⟨#[], by rw [upd_ne (ne_of_none q hn), q]; simp⟩
theorem Un.write (mu : Mut (H x)) (he : e = x ∨ H e = some (.own x)) (k : ∀ b u, b ≠ e → h.get? b = some u → h'.get? b = some u) (heo : ∃ u, h'.get? e = some u) : Un fs ex H (upd H x o) h h' := by
  have hx : ∀ b, H b = none → b ≠ x := fun b n z => by subst z; rw [n] at mu; exact mu
  have hb : ∀ b, H b = none → b ≠ e := fun b n z => by
    subst z
    rcases he with r | r
    · exact hx b n r
    · rw [n] at r; cases r
  have hm : ∀ b u, H b = some u → ¬ Mut (some u) → b ≠ x := fun b u q nm z => by subst z; rw [q] at mu; exact nm mu
  refine ⟨fun b u q n _ _ => k b u (hb b n) q, fun b u q n _ _ => ⟨u.slots, k b u (hb b n) q⟩, fun b u q n _ => by rw [upd_ne (hx b n)]; exact n, fun b u q _ => ?_,
    fun b xs q => by rw [upd_ne (hm b _ q fun z => z)]; exact q, fun b u xs q => by rw [upd_ne (hm b _ q fun z => z)]; exact q, fun b ps q => ⟨#[], by rw [upd_ne (hm b _ q fun z => z), q]; simp⟩⟩
  by_cases hbe : b = e
  · subst hbe; exact heo
  · exact ⟨u, k b u hbe q⟩
end
/-! ### the heap without what is tracked -/
def trk (h : Heap) (H : Hp) : List Addr := (List.range h.objs.size).filter fun a => (H a).isSome
def hidT (h : Heap) (H : Hp) : Heap := PySem.W.hideAll h (trk h H)
theorem hidT_size (h : Heap) (H : Hp) : (hidT h H).objs.size = h.objs.size := PySem.W.hideAll_size _ _
theorem hidT_get {h : Heap} {H : Hp} {b : Addr} {o : Obj} (e : h.get? b = some o) (n : H b = none) : (hidT h H).get? b = some o :=
  PySem.W.hideAll_get _ e fun hm => by
    have q : (H b).isSome = true := (List.mem_filter.mp hm).2
    rw [n] at q; simp at q
theorem of_hidT {h : Heap} {H : Hp} {b : Addr} {o : Obj} (e : (hidT h H).get? b = some o) : h.get? b = some o ∧ H b = none := by
  have e' : h.get? b = some o := PySem.W.of_hideAll (trk h H) e
  refine ⟨e', ?_⟩
  cases q : H b with
  | none => rfl
  | some x =>
    have hm : b ∈ trk h H := List.mem_filter.mpr ⟨List.mem_range.mpr (Heap.lt_size e'), by simp [q]⟩
    have z : (hidT h H).get? b = none := PySem.W.hideAll_none (trk h H) hm
    rw [z] at e; cases e
/-! ### OpenK's ledger, filled with every new object but one -/
end L2
namespace L2
open PySem PySem.Spec PyProof.Rows
/-- the module's facts, over the base: the heap at the law's entry without what is tracked there -/
structure Mod (K : PySem.W.Frag) (mg : Str → Option Value) (base : Heap) : Prop where
  kin : K.In base
  glob : base.Ns mainGlobals mg
  blt : ∃ mb, base.Ns builtinsNs mb ∧ ∀ x : Str, x ≠ "__name__" → mb x = bootBuiltins x
  nolimit : base.NoLimit
/-- the context: a def's body (or a comprehension's block) running. base: fixed through the whole law; s₀, H₀: the entry; outer: the frames whose slots others may change (a def's callers); stack: all frames that run;
   ex: iterators that were made ahead of the entry and are walked here (a comprehension's); fn: the names whose cells were made at the entry (a def: all; a comprehension's block: its own); calm: not within an except suite; pn: pins that every state bears; xe: what is wanted of an exception that leaves the code -/
structure Cx where
  prog : Program
  w : World
  K : PySem.W.Frag
  mg : Str → Option Value
  base : Heap
  A : Around
  N : List Str
  s_0 : Shared
  H_0 : Hp
  env : Env
  outer : List Env
  stack : List Env
  ex : List Addr
  fn : Str → Bool
  calm : Bool
  pn : List (Addr × Obj)
  xe : Value → Shared → Prop
/-- the callers' frames -/
def frs (l : List Env) : List Addr := l.filterMap (·.frame)
abbrev Cx.fs (X : Cx) : List Addr := frs X.outer
def Vis (sc : Scope) (x : Str) : Prop := sc.names.lookup x = some .local ∨ sc.names.lookup x = some .cell ∨ sc.names.lookup x = some .free
def Loc (sc : Scope) (x : Str) : Prop := sc.names.lookup x = some .local ∨ sc.names.lookup x = some .cell
def Look (env : Env) (h : Heap) (m : Str → Option Value) (x : Str) (u : Value) : Prop :=
  (env.kindOf x = some .local ∧ m x = some u) ∨ ((env.kindOf x = some .cell ∨ env.kindOf x = some .free) ∧ ∃ c, env.cells.lookup x = some c ∧ h.IsCell c (some u))
structure Cx.Ok (X : Cx) : Prop where
  mod : Mod X.K X.mg X.base
  kind : X.env.scope.kind = .function
  glob : X.env.globals = mainGlobals
  blt : X.env.builtins = builtinsNs
  above : X.s_0.heap.objs.size ≤ X.env.locals
  inj : ∀ x y c, X.env.cells.lookup x = some c → X.env.cells.lookup y = some c → x = y
  has : ∀ x, (X.env.kindOf x = some .cell ∨ X.env.kindOf x = some .free) → ∃ c, X.env.cells.lookup x = some c
  cab : ∀ x c, X.fn x = true → X.env.cells.lookup x = some c → X.s_0.heap.objs.size ≤ c
  hd : X.calm = true → X.A.handled = none
  frames : X.A.frames = some X.stack
  stk : X.stack = X.outer ∨ (X.stack = X.env :: X.outer ∧ X.env.frame = some X.env.locals)
  exf : ∀ b ∈ X.ex, b ≠ X.env.locals ∧ ∀ x c, X.env.cells.lookup x = some c → c ≠ b
  bs : ∀ b o, X.base.get? b = some o → X.s_0.heap.get? b = some o ∧ X.H_0 b = none
  bsz : X.base.objs.size ≤ X.s_0.heap.objs.size
  noex : ∀ b o, X.base.get? b = some o → b ∉ X.ex
  exfs : ∀ b ∈ X.ex, b ∉ X.fs
  funs : X.s_0.heap.FunFrames X.base X.outer
  frf : ∀ b ∈ X.fs, X.H_0 b = none
structure Inv (X : Cx) (pins : List (Addr × Obj)) (σ : List (Option V)) (H : Hp) (s : Shared) : Prop where
  ok : X.Ok
  os : s.os = X.s_0.os
  bare : AllBare s.gens
  base : Un X.fs X.ex X.H_0 H X.s_0.heap s.heap
  loc : ∃ m, s.heap.Ns X.env.locals m ∧ ∀ (i : Nat) (x : Str) (v : V), X.N[i]? = some x → σ[i]? = some (some v) → Vis X.env.scope x → ∃ u, RelV v u ∧ Look X.env s.heap m x u
  cell : ∀ x c, X.env.cells.lookup x = some c → ∃ v, s.heap.IsCell c v
  free : H X.env.locals = none
  freeC : ∀ x c, X.env.cells.lookup x = some c → H c = none
  pin : ∀ p ∈ X.pn ++ pins, s.heap.get? p.1 = some p.2 ∧ H p.1 = none ∧ p.1 ≠ X.env.locals ∧ p.1 ∉ X.fs ∧ ∀ v, p.2.data ≠ .cell v
  hok : HOk X.prog X.w H s.heap
  len : σ.length = X.N.length
section
variable {X : Cx} {pins : List (Addr × Obj)} {σ : List (Option V)} {H H' : Hp} {s : Shared} {h' : Heap}
theorem Cx.Ok.nofr (ok : X.Ok) {b : Addr} {o : Obj} (e : X.base.get? b = some o) : b ∉ X.fs := fun hb => by
  have := (ok.funs.mem hb).1
  rw [e] at this; cases this
theorem Inv.bs (I : Inv X pins σ H s) : ∀ b o, X.base.get? b = some o → s.heap.get? b = some o ∧ H b = none := fun b o e =>
  ⟨I.base.keep b o (I.ok.bs b o e).1 (I.ok.bs b o e).2 (I.ok.nofr e) (I.ok.noex b o e), I.base.free b o (I.ok.bs b o e).1 (I.ok.bs b o e).2 (I.ok.noex b o e)⟩
theorem Inv.bk (I : Inv X pins σ H s) : ∀ b o, X.base.get? b = some o → s.heap.get? b = some o := fun b o e => (I.bs b o e).1
theorem Inv.mod (I : Inv X pins σ H s) : Mod X.K X.mg X.base := I.ok.mod
theorem Inv.kIn (I : Inv X pins σ H s) : X.K.In s.heap := I.ok.mod.kin.keeps I.bk
theorem Inv.lt (I : Inv X pins σ H s) : X.env.locals < s.heap.objs.size := let ⟨_, hn, _⟩ := I.loc; hn.lt
theorem Inv.sz (I : Inv X pins σ H s) : X.s_0.heap.objs.size ≤ s.heap.objs.size := Nat.le_trans I.ok.above (Nat.le_of_lt I.lt)
theorem Inv.nofs (I : Inv X pins σ H s) {a : Addr} (h : s.heap.objs.size ≤ a) : a ∉ X.fs := fun hb => by
  obtain ⟨_, o, ho, _⟩ := I.ok.funs.mem hb
  exact absurd (Nat.lt_of_lt_of_le (Heap.lt_size ho) (Nat.le_trans I.sz h)) (Nat.lt_irrefl _)
theorem Inv.cne (I : Inv X pins σ H s) : ∀ x c, X.env.cells.lookup x = some c → c ≠ X.env.locals := fun x c e z => by
  obtain ⟨v, o, ho, hd⟩ := I.cell x c e
  obtain ⟨m, ⟨o', es, ep, ho', hd', _⟩, _⟩ := I.loc
  rw [z, ho'] at ho; cases ho; rw [hd'] at hd; cases hd
theorem Inv.funs (I : Inv X pins σ H s) : s.heap.FunFrames X.base X.outer := by
  have all : ∀ (l : List Env), (∀ b ∈ frs l, b ∈ X.fs) → X.s_0.heap.FunFrames X.base l → s.heap.FunFrames X.base l := by
    intro l
    induction l with
    | nil => intro _ _; trivial
    | cons env r ih =>
      intro hs hl
      obtain ⟨hk, ⟨L, o, hf, hn, ho, hd⟩, hr⟩ := hl
      have hL : L ∈ X.fs := hs L (by unfold frs; rw [List.filterMap_cons, hf]; exact List.mem_cons_self)
      obtain ⟨sl, e⟩ := I.base.slot L o ho (I.ok.frf L hL) hL fun z => I.ok.exfs L z hL
      exact ⟨hk, ⟨L, _, hf, hn, e, hd⟩, ih (fun b hb => hs b (by unfold frs; rw [List.filterMap_cons, hf]; exact List.mem_cons_of_mem _ hb)) hr⟩
  exact all X.outer (fun _ hb => hb) I.ok.funs
/-- the frames that run, for a call -/
theorem Inv.stack (I : Inv X pins σ H s) : s.heap.FunFrames X.base X.stack := by
  rcases I.ok.stk with e | ⟨e, hf⟩
  · rw [e]; exact I.funs
  · rw [e]
    obtain ⟨m, hn, _⟩ := I.loc
    refine .cons (by rw [I.ok.kind]; decide) hf hn ?_ I.funs
    exact Heap.get?_none_of_le (Nat.le_trans I.ok.bsz I.ok.above)
theorem Inv.stkSub (I : Inv X pins σ H s) : ∀ b ∈ frs X.stack, b ∈ X.env.locals :: X.fs := fun b hb => by
  rcases I.ok.stk with e | ⟨e, hf⟩
  · rw [e] at hb; exact List.mem_cons_of_mem _ hb
  · rw [e] at hb
    unfold frs at hb
    rw [List.filterMap_cons, hf] at hb
    exact hb
theorem Inv.stkFree (I : Inv X pins σ H s) : ∀ b ∈ frs X.stack, H b = none := fun b hb => by
  rcases List.mem_cons.mp (I.stkSub b hb) with e | hb
  · rw [e]; exact I.free
  · obtain ⟨_, o, ho, _⟩ := I.ok.funs.mem hb
    exact I.base.free b o ho (I.ok.frf b hb) fun z => I.ok.exfs b z hb
/-- THE STEP: the untracked objects but the frame and the records at ch are kept (the callers' frames up to slots), the frame's map is kept, the new abstract heap is held -/
theorem Inv.step {g' : Array GenState} {t' : Nat} {d' : Drawn} {ch : List Addr} (I : Inv X pins σ H s)
    (hch : ∀ b ∈ ch, (b ∈ X.ex ∨ X.s_0.heap.objs.size ≤ b) ∧ b ≠ X.env.locals ∧ (∀ x c, X.env.cells.lookup x = some c → c ≠ b) ∧ ∀ p ∈ X.pn ++ pins, p.1 ≠ b)
    (keep : ∀ b o, b ≠ X.env.locals → b ∉ X.fs → b ∉ ch → s.heap.get? b = some o → H b = none → h'.get? b = some o)
    (slot : ∀ b o, b ≠ X.env.locals → b ∈ X.fs → b ∉ ch → s.heap.get? b = some o → H b = none → ∃ sl, h'.get? b = some { o with slots := sl }) (free : ∀ b o, b ∉ ch → s.heap.get? b = some o → H b = none → H' b = none)
    (there : ∀ b o, b ∉ ch → s.heap.get? b = some o → ∃ o', h'.get? b = some o')
    (tups : ∀ b xs, H b = some (.tup xs) → H' b = some (.tup xs)) (frzs : ∀ b o u, H b = some (.frz o u) → H' b = some (.frz o u)) (tbls : ∀ b ps, H b = some (.tbl ps) → ∃ more, H' b = some (.tbl (ps ++ more)))
    (ns : ∀ m, s.heap.Ns X.env.locals m → h'.Ns X.env.locals m) (hok : HOk X.prog X.w H' h') (hg : AllBare g') :
    Inv X pins σ H' { s with heap := h', gens := g', drawn := d', toks := t' } := by
  have neL : ∀ b o, X.s_0.heap.get? b = some o → b ≠ X.env.locals := fun b o e => Nat.ne_of_lt (Nat.lt_of_lt_of_le (Heap.lt_size e) I.ok.above)
  have neC : ∀ b o, X.s_0.heap.get? b = some o → b ∉ X.ex → b ∉ ch := fun b o e hx hb => by
    rcases (hch b hb).1 with z | z
    · exact hx z
    · exact absurd (Nat.lt_of_lt_of_le (Heap.lt_size e) z) (Nat.lt_irrefl _)
  have cellK : ∀ x c, X.env.cells.lookup x = some c → ∀ v, s.heap.IsCell c v → h'.IsCell c v := fun x c e v ⟨o, ho, hd⟩ => by
    have nch : c ∉ ch := fun z => (hch c z).2.2.1 x c e rfl
    by_cases hc : c ∈ X.fs
    · obtain ⟨sl, q⟩ := slot c o (I.cne x c e) hc nch ho (I.freeC x c e)
      exact ⟨_, q, hd⟩
    · exact ⟨o, keep c o (I.cne x c e) hc nch ho (I.freeC x c e), hd⟩
  refine ⟨I.ok, I.os, hg, ⟨fun b o e n hb hx => ?_, fun b o e n hb hx => ?_, fun b o e n hx => ?_, fun b o e hx => ?_, fun b xs e => tups b xs (I.base.tups b xs e), fun b o xs e => frzs b o xs (I.base.frzs b o xs e), fun b ps e => ?_⟩, ?_, fun x c e => ?_, ?_, fun x c e => ?_, fun p hp => ?_, hok, I.len⟩
  · exact keep b o (neL b o e) hb (neC b o e hx) (I.base.keep b o e n hb hx) (I.base.free b o e n hx)
  · obtain ⟨sl, e1⟩ := I.base.slot b o e n hb hx
    obtain ⟨sl', e2⟩ := slot b _ (neL b o e) hb (neC b o e hx) e1 (I.base.free b o e n hx)
    exact ⟨sl', e2⟩
  · obtain ⟨o', e1⟩ := I.base.there b o e hx
    exact free b o' (neC b o e hx) e1 (I.base.free b o e n hx)
  · obtain ⟨o', e1⟩ := I.base.there b o e hx
    exact there b o' (neC b o e hx) e1
  · obtain ⟨m1, e1⟩ := I.base.tbls b ps e
    obtain ⟨m2, e2⟩ := tbls b _ e1
    exact ⟨m1 ++ m2, by rw [e2, Array.append_assoc]⟩
  · obtain ⟨m, hn, hl⟩ := I.loc
    refine ⟨m, ns m hn, fun i x v e1 e2 e3 => ?_⟩
    obtain ⟨u, r, l⟩ := hl i x v e1 e2 e3
    refine ⟨u, r, ?_⟩
    rcases l with l | ⟨k, c, e, z⟩
    · exact .inl l
    · exact .inr ⟨k, c, e, cellK x c e _ z⟩
  · obtain ⟨v, z⟩ := I.cell x c e
    exact ⟨v, cellK x c e v z⟩
  · obtain ⟨m, ⟨o, _, _, ho, _⟩, _⟩ := I.loc
    exact free _ o (fun z => (hch _ z).2.1 rfl) ho I.free
  · obtain ⟨v, o, ho, hd⟩ := I.cell x c e
    exact free c o (fun z => (hch c z).2.2.1 x c e rfl) ho (I.freeC x c e)
  · obtain ⟨e, n, ne, nf, d⟩ := I.pin p hp
    have nch : p.1 ∉ ch := fun z => (hch p.1 z).2.2.2 p hp rfl
    exact ⟨keep p.1 p.2 ne nf nch e n, free p.1 p.2 nch e n, ne, nf, d⟩
/-- .. where the frame's own object is kept too -/
theorem Inv.un {t' : Nat} (I : Inv X pins σ H s) (u : Un X.fs [] H H' s.heap h') (hok : HOk X.prog X.w H' h') : Inv X pins σ H' { s with heap := h', toks := t' } := by
  obtain ⟨m, ⟨o, es, ep, ho, r⟩, _⟩ := id I.loc
  obtain ⟨sl, hL⟩ := u.any ho I.free (by simp)
  exact I.step (g' := s.gens) (d' := s.drawn) (ch := []) (fun _ z => nomatch z) (fun b o _ hb _ e n => u.keep b o e n hb (by simp)) (fun b o _ hb _ e n => u.slot b o e n hb (by simp)) (fun b o _ e n => u.free b o e n (by simp)) (fun b o _ e => u.there b o e (by simp)) u.tups u.frzs u.tbls (fun m' hm => by
    obtain ⟨o', es', ep', ho', r'⟩ := hm
    rw [ho] at ho'; cases ho'
    exact ⟨_, es', ep', hL, r'⟩) hok I.bare
/-- behind a call (or a comprehension's block): the slots of this frame may have changed too, the records at ch may have turned -/
theorem Inv.call {g' : Array GenState} {t' : Nat} {d' : Drawn} {ch : List Addr} (I : Inv X pins σ H s) (u : Un (frs X.stack) ch H H' s.heap h') (hok : HOk X.prog X.w H' h') (hg : AllBare g')
    (hch : ∀ b ∈ ch, (b ∈ X.ex ∨ X.s_0.heap.objs.size ≤ b) ∧ b ≠ X.env.locals ∧ (∀ x c, X.env.cells.lookup x = some c → c ≠ b) ∧ ∀ p ∈ X.pn ++ pins, p.1 ≠ b) :
    Inv X pins σ H' { s with heap := h', gens := g', drawn := d', toks := t' } := by
  obtain ⟨m, ⟨o, es, ep, ho, r⟩, _⟩ := id I.loc
  obtain ⟨sl, hL⟩ := u.any ho I.free fun z => (hch _ z).2.1 rfl
  exact I.step (ch := ch) hch (fun b o hL hb hc e n => u.keep b o e n (fun z => (List.mem_cons.mp (I.stkSub b z)).elim hL hb) hc) (fun b o _ _ hc e n => u.any e n hc) (fun b o hc e n => u.free b o e n hc) (fun b o hc e => u.there b o e hc) u.tups u.frzs u.tbls (fun m' hm => by
    obtain ⟨o', es', ep', ho', r'⟩ := hm
    rw [ho] at ho'; cases ho'
    exact ⟨_, es', ep', hL, r'⟩) hok hg
/-- an untracked record of ours (an iterator) has turned -/
theorem Inv.turned {t' : Nat} {it : Addr} (I : Inv X pins σ H s) (k : ∀ b o, b ≠ it → s.heap.get? b = some o → h'.get? b = some o) (hn : H it = none) (hL : it ≠ X.env.locals)
    (h1 : it ∈ X.ex ∨ X.s_0.heap.objs.size ≤ it) (h2 : ∀ x c, X.env.cells.lookup x = some c → c ≠ it) (h3 : ∀ p ∈ X.pn ++ pins, p.1 ≠ it) : Inv X pins σ H { s with heap := h', toks := t' } := by
  have nit : ∀ b u, H b = some u → b ≠ it := fun b u e z => by rw [z, hn] at e; cases e
  refine I.step (g' := s.gens) (d' := s.drawn) (ch := [it]) (fun b hb => ?_) (fun b o _ _ hc e _ => k b o (fun z => hc (by simp [z])) e) (fun b o _ _ hc e _ => ⟨o.slots, k b o (fun z => hc (by simp [z])) e⟩) (fun _ _ _ _ n => n)
    (fun b o hc e => ⟨o, k b o (fun z => hc (by simp [z])) e⟩) (fun _ _ e => e) (fun _ _ _ e => e) (fun b ps e => ⟨#[], by rw [e]; simp⟩) (fun m hm => ?_) (fun b u e => ?_) I.bare
  · have e : b = it := by simpa using hb
    subst e
    exact ⟨h1, hL, h2, h3⟩
  · obtain ⟨o, es, ep, ho, r⟩ := hm
    exact ⟨o, es, ep, k _ o (Ne.symm hL) ho, r⟩
  · refine (I.hok b u e).stay (fun c v hc q => k c v ?_ q) (fun _ q => q) fun _ _ q => q
    rcases hc with z | z
    · rw [z]; exact nit b u e
    · exact nit c _ z
theorem Inv.tok (I : Inv X pins σ H s) (t : Nat) : Inv X pins σ H { s with toks := t } := I.un (h' := s.heap) (t' := t) Un.refl I.hok
/-- all objects kept -/
theorem Inv.kept {t' : Nat} (I : Inv X pins σ H s) (k : ∀ b u, s.heap.get? b = some u → h'.get? b = some u) : Inv X pins σ H { s with heap := h', toks := t' } := I.un (Un.kept k) (I.hok.kept k)
/-- a new object laid and tracked -/
theorem Inv.laid {a : Addr} {o : HO} {t' : Nat} (I : Inv X pins σ H s) (k : ∀ b u, s.heap.get? b = some u → h'.get? b = some u) (hp : s.heap.objs.size ≤ a) (new : ObjOk X.prog X.w (upd H a o) h' a o) :
    Inv X pins σ (upd H a o) { s with heap := h', toks := t' } := I.un (Un.laid k hp (I.hok.fresh hp)) (I.hok.laid k hp new)
/-- an object written -/
theorem Inv.write {x e : Addr} {o : HO} {t' : Nat} (I : Inv X pins σ H s) (mu : Mut (H x)) (he : e = x ∨ H e = some (.own x)) (k : ∀ b u, b ≠ e → s.heap.get? b = some u → h'.get? b = some u) (heo : ∃ u, h'.get? e = some u)
    (new : ObjOk X.prog X.w (upd H x o) h' x o) : Inv X pins σ (upd H x o) { s with heap := h', toks := t' } := I.un (Un.write mu he k heo) (I.hok.write mu he k heo new)
/-- forgetting slots, pins -/
theorem Inv.weak {σ' : List (Option V)} (I : Inv X pins σ H s) (hl : σ'.length = σ.length) (w : ∀ (i : Nat) v, σ'[i]? = some (some v) → σ[i]? = some (some v)) : Inv X pins σ' H s :=
  ⟨I.ok, I.os, I.bare, I.base, let ⟨m, hn, hl'⟩ := I.loc; ⟨m, hn, fun i x v e1 e2 e3 => hl' i x v e1 (w i v e2) e3⟩, I.cell, I.free, I.freeC, I.pin, I.hok, hl.trans I.len⟩
theorem Inv.pins_of {pins' : List (Addr × Obj)} (I : Inv X pins σ H s) (h : ∀ p ∈ pins', s.heap.get? p.1 = some p.2 ∧ H p.1 = none ∧ p.1 ≠ X.env.locals ∧ p.1 ∉ X.fs ∧ ∀ v, p.2.data ≠ .cell v) : Inv X pins' σ H s :=
  ⟨I.ok, I.os, I.bare, I.base, I.loc, I.cell, I.free, I.freeC, fun p hp => (List.mem_append.mp hp).elim (fun z => I.pin p (List.mem_append_left _ z)) (h p), I.hok, I.len⟩
theorem nodup_ix {N : List Str} (hN : N.Nodup) {i j : Nat} {x : Str} (a : N[i]? = some x) (b : N[j]? = some x) : i = j := by
  obtain ⟨h1, e1⟩ := List.getElem?_eq_some_iff.mp a
  obtain ⟨h2, e2⟩ := List.getElem?_eq_some_iff.mp b
  exact (List.getElem_inj hN).mp (e1.trans e2.symm)
/-- a name is stored; what changed -/
theorem store_ok2 {M : Model} {A : Around} {E : Value → Shared → Prop} {i : Nat} {x : Str} {v : V} {u : Value} {Q : Unit → Shared → Prop} (I : Inv X pins σ H s) (hN : X.N.Nodup) (hi : X.N[i]? = some x) (hx : Loc X.env.scope x) (r : RelV v u)
    (h : ∀ s', Inv X pins (σ.set i (some v)) H s' → (∃ a, Heap.SameBut a s.heap s'.heap ∧ (a = X.env.locals ∨ X.env.cells.lookup x = some a)) → Q () s') (hf : X.fn x = true ∨ X.env.scope.names.lookup x = some .local := by first | exact .inl rfl | exact .inr rfl | assumption) : wpAny M A (storeName X.env x u) Q E s := by
  obtain ⟨m, hn, hl⟩ := id I.loc
  have hcls : (X.env.scope.kind == .class || (X.env.scope.kind == .module && X.env.locals != X.env.globals)) = false := by rw [I.ok.kind]; rfl
  have hiσ : i < σ.length := by rw [I.len]; exact (List.getElem?_eq_some_iff.mp hi).1
  have cne := I.cne
  have tracked : ∀ {a : Addr} {h' : Heap}, (∃ o, s.heap.get? a = some o ∧ H a = none) → Heap.SameBut a s.heap h' → HOk X.prog X.w H h' := fun {a h'} ha hs b ob e => by
    obtain ⟨_, _, hfree⟩ := ha
    refine (I.hok b ob e).stay (fun c w' hc q => (hs.2 c ?_).trans q) (fun _ q => q) fun _ _ q => q
    rintro rfl
    rcases hc with rfl | hc
    · rw [hfree] at e; cases e
    · rw [hfree] at hc; cases hc
  rcases hx with hk | hk
  · refine wpAny_storeName_local hk hn (fun h' hn' hs => ?_) hcls
    obtain ⟨oL, _, _, hoL, _⟩ := id hn
    refine h _ ⟨I.ok, I.os, I.bare, ⟨fun b o e n hb hx => ?_, fun b o e n hb hx => ?_, I.base.free, fun b o e hx => ?_, I.base.tups, I.base.frzs, I.base.tbls⟩, ⟨_, hn', fun j y v' e1 e2 e3 => ?_⟩, fun y c e => ?_, I.free, I.freeC, fun p hp => ?_, tracked ⟨oL, hoL, I.free⟩ hs, by simpa using I.len⟩ ⟨_, hs, .inl rfl⟩
    · exact (hs.2 b (Nat.ne_of_lt (Nat.lt_of_lt_of_le (Heap.lt_size e) I.ok.above))).trans (I.base.keep b o e n hb hx)
    · obtain ⟨sl, e1⟩ := I.base.slot b o e n hb hx
      exact ⟨sl, (hs.2 b (Nat.ne_of_lt (Nat.lt_of_lt_of_le (Heap.lt_size e) I.ok.above))).trans e1⟩
    · obtain ⟨o', e1⟩ := I.base.there b o e hx
      exact ⟨o', (hs.2 b (Nat.ne_of_lt (Nat.lt_of_lt_of_le (Heap.lt_size e) I.ok.above))).trans e1⟩
    · by_cases hj : j = i
      · subst hj
        rw [hi] at e1; cases e1
        rw [List.getElem?_set_self hiσ] at e2
        cases e2
        exact ⟨u, r, .inl ⟨hk, by simp⟩⟩
      · rw [List.getElem?_set_ne (Ne.symm hj)] at e2
        obtain ⟨u', r', q⟩ := hl j y v' e1 e2 e3
        refine ⟨u', r', ?_⟩
        rcases q with ⟨k, e⟩ | ⟨k, c, e, z⟩
        · refine .inl ⟨k, ?_⟩
          have : y ≠ x := fun e => hj (nodup_ix hN e1 (e ▸ hi))
          simp [this, e]
        · exact .inr ⟨k, c, e, z.sameBut hs (cne y c e)⟩
    · obtain ⟨w', z⟩ := I.cell y c e
      exact ⟨w', z.sameBut hs (cne y c e)⟩
    · obtain ⟨e, n, ne, nf, d⟩ := I.pin p hp
      exact ⟨(hs.2 p.1 ne).trans e, n, ne, nf, d⟩
  · have hfn : X.fn x = true := by
      rcases hf with z | z
      · exact z
      · rw [z] at hk; cases hk
    obtain ⟨c, hc⟩ := I.ok.has x (.inl hk)
    obtain ⟨w', z⟩ := I.cell x c hc
    refine wpAny_storeName_cell I.ok.kind hk hc z (fun h' hc' hs => ?_)
    obtain ⟨oc, hoc, hocd⟩ := id z
    refine h { s with heap := h' } ⟨I.ok, I.os, I.bare, ⟨fun b o e n hb hx => ?_, fun b o e n hb hx => ?_, I.base.free, fun b o e hx => ?_, I.base.tups, I.base.frzs, I.base.tbls⟩, ⟨m, hn.sameBut hs (Ne.symm (cne x c hc)), fun j y v' e1 e2 e3 => ?_⟩, fun y c' e => ?_, I.free, I.freeC, fun p hp => ?_, tracked ⟨oc, hoc, I.freeC x c hc⟩ hs, by simpa using I.len⟩ ⟨c, hs, .inr hc⟩
    · exact (hs.2 b (Nat.ne_of_lt (Nat.lt_of_lt_of_le (Heap.lt_size e) (I.ok.cab x c hfn hc)))).trans (I.base.keep b o e n hb hx)
    · obtain ⟨sl, e1⟩ := I.base.slot b o e n hb hx
      exact ⟨sl, (hs.2 b (Nat.ne_of_lt (Nat.lt_of_lt_of_le (Heap.lt_size e) (I.ok.cab x c hfn hc)))).trans e1⟩
    · obtain ⟨o', e1⟩ := I.base.there b o e hx
      exact ⟨o', (hs.2 b (Nat.ne_of_lt (Nat.lt_of_lt_of_le (Heap.lt_size e) (I.ok.cab x c hfn hc)))).trans e1⟩
    · by_cases hj : j = i
      · subst hj
        rw [hi] at e1; cases e1
        rw [List.getElem?_set_self hiσ] at e2
        cases e2
        exact ⟨u, r, .inr ⟨.inl hk, c, hc, hc'⟩⟩
      · rw [List.getElem?_set_ne (Ne.symm hj)] at e2
        obtain ⟨u', r', q⟩ := hl j y v' e1 e2 e3
        refine ⟨u', r', ?_⟩
        rcases q with q | ⟨k, c', e, z'⟩
        · exact .inl q
        · refine .inr ⟨k, c', e, z'.sameBut hs ?_⟩
          rintro rfl
          exact hj (nodup_ix hN e1 (I.ok.inj _ _ _ e hc ▸ hi))
    · by_cases hcc : c' = c
      · subst hcc; exact ⟨_, hc'⟩
      · obtain ⟨w2, z2⟩ := I.cell y c' e
        exact ⟨w2, z2.sameBut hs hcc⟩
    · obtain ⟨e, n, ne, nf, d⟩ := I.pin p hp
      refine ⟨(hs.2 p.1 ?_).trans e, n, ne, nf, d⟩
      intro q
      rw [q, hoc] at e
      have q' : oc = p.2 := Option.some.inj e
      exact d w' (by rw [← q']; exact hocd)
theorem store_ok {M : Model} {A : Around} {E : Value → Shared → Prop} {i : Nat} {x : Str} {v : V} {u : Value} {Q : Unit → Shared → Prop} (I : Inv X pins σ H s) (hN : X.N.Nodup) (hi : X.N[i]? = some x) (hx : Loc X.env.scope x) (r : RelV v u)
    (h : ∀ s', Inv X pins (σ.set i (some v)) H s' → Q () s') (hf : X.fn x = true ∨ X.env.scope.names.lookup x = some .local := by first | exact .inl rfl | exact .inr rfl | assumption) : wpAny M A (storeName X.env x u) Q E s :=
  store_ok2 I hN hi hx r (fun s' I' _ => h s' I') hf
/-- behind a call or a block, the state as it is -/
theorem Inv.call' {s' : Shared} {ch : List Addr} (I : Inv X pins σ H s) (ho : s'.os = s.os) (u : Un (frs X.stack) ch H H' s.heap s'.heap) (hok : HOk X.prog X.w H' s'.heap) (hg : AllBare s'.gens)
    (hch : ∀ b ∈ ch, (b ∈ X.ex ∨ X.s_0.heap.objs.size ≤ b) ∧ b ≠ X.env.locals ∧ (∀ x c, X.env.cells.lookup x = some c → c ≠ b) ∧ ∀ p ∈ X.pn ++ pins, p.1 ≠ b) : Inv X pins σ H' s' := by
  obtain ⟨h', g', d', t', o'⟩ := s'
  have e : o' = s.os := ho
  subst e
  exact I.call (g' := g') (t' := t') (d' := d') u hok hg hch
end
/-! ### the judgements -/
/-- an exception: its class, its own dict's address (where it has one), the abstract heap behind it -/
abbrev XK := Value → Option Addr → Hp → Prop
abbrev St := List (Option V)
abbrev VK := V → Hp → Prop
/-- an expression's reading; a test's; an argument list's -/
abbrev TE := St → Hp → VK → Prop
abbrev TT := St → Hp → (Bool → Hp → Prop) → Prop
abbrev TA := St → Hp → (List V → Hp → Prop) → Prop
/-- what is wanted behind a statement -/
structure Ends where
  nx : St → Hp → Prop
  rt : VK
  bk : St → Hp → Prop := fun _ _ => False
  ct : St → Hp → Prop := fun _ _ => False
abbrev TS := Ends → St → Hp → Prop
def EP (X : Cx) (pins : List (Addr × Obj)) (σ : St) (Q : VK) (u : Value) (s' : Shared) : Prop := ∃ v H', Inv X pins σ H' s' ∧ RelV v u ∧ Q v H'
def TP (X : Cx) (pins : List (Addr × Obj)) (σ : St) (Q : Bool → Hp → Prop) (b : Bool) (s' : Shared) : Prop := ∃ H', Inv X pins σ H' s' ∧ Q b H'
def AP (X : Cx) (pins : List (Addr × Obj)) (σ : St) (Q : List V → Hp → Prop) (us : List Value) (s' : Shared) : Prop := ∃ vs H', Inv X pins σ H' s' ∧ Vals vs us ∧ Q vs H'
def SP (X : Cx) (pins : List (Addr × Obj)) (D : Ends) (f : Flow) (s' : Shared) : Prop :=
  match f with
  | .next => ∃ σ' H', Inv X pins σ' H' s' ∧ D.nx σ' H'
  | .brk => ∃ σ' H', Inv X pins σ' H' s' ∧ D.bk σ' H'
  | .cont => ∃ σ' H', Inv X pins σ' H' s' ∧ D.ct σ' H'
  | .ret u => ∃ v σ' H', Inv X pins σ' H' s' ∧ RelV v u ∧ D.rt v H'
def PE (X : Cx) (e : Expr) (t : TE) : Prop :=
  ∀ (pins : List (Addr × Obj)) (s : Shared) (σ : St) (H : Hp) (Q : VK), Inv X pins σ H s → t σ H Q → wpAny (model X.prog X.w) X.A (eval e X.env) (EP X pins σ Q) X.xe s
def PT (X : Cx) (e : Expr) (t : TT) : Prop :=
  ∀ (pins : List (Addr × Obj)) (s : Shared) (σ : St) (H : Hp) (Q : Bool → Hp → Prop), Inv X pins σ H s → t σ H Q → wpAny (model X.prog X.w) X.A (isTrue e X.env (eval e X.env)) (TP X pins σ Q) X.xe s
/-- a test whatever its 'whole' is (and, or) -/
def PW (X : Cx) (e : Expr) (t : TT) : Prop :=
  ∀ (whole : Sem Value) (pins : List (Addr × Obj)) (s : Shared) (σ : St) (H : Hp) (Q : Bool → Hp → Prop), Inv X pins σ H s → t σ H Q → wpAny (model X.prog X.w) X.A (isTrue e X.env whole) (TP X pins σ Q) X.xe s
theorem PW.pt {X : Cx} {e : Expr} {t : TT} (h : PW X e t) : PT X e t := h _
/-- an argument list (no star), from the left -/
def PA (X : Cx) (es : List Expr) (t : TA) : Prop :=
  ∀ (pos : Pos) (pins : List (Addr × Obj)) (s : Shared) (σ : St) (H : Hp) (Q : List V → Hp → Prop), Inv X pins σ H s → t σ H Q → wpAny (model X.prog X.w) X.A (spliced (backTo pos (starEach es X.env))) (AP X pins σ Q) X.xe s
def PS (X : Cx) (st : Stmt) (t : TS) : Prop :=
  ∀ (pins : List (Addr × Obj)) (s : Shared) (σ : St) (H : Hp) (D : Ends), Inv X pins σ H s → t D σ H → wpAny (model X.prog X.w) X.A (exec st X.env) (SP X pins D) X.xe s
def PSs (X : Cx) (st : List Stmt) (t : TS) : Prop :=
  ∀ (pins : List (Addr × Obj)) (s : Shared) (σ : St) (H : Hp) (D : Ends), Inv X pins σ H s → t D σ H → wpAny (model X.prog X.w) X.A (execs st X.env) (SP X pins D) X.xe s
/-- weaken the end -/
theorem thn {α : Type} {t : Sem α} {Q Q' : α → Shared → Prop} {M : Model} {A : Around} {E : Value → Shared → Prop} {s : Shared} (h : wpAny M A t Q E s) (hQ : ∀ a s, Q a s → Q' a s) : wpAny M A t Q' E s := wpAny_mono h hQ fun _ _ x => x
end L2
namespace L2
open PySem PySem.Spec PyProof.Rows
section
variable {X : Cx}
/-! ### names and constants -/
def tVar (i : Nat) : TE := fun σ H Q => ∃ v, σ[i]? = some (some v) ∧ Q v H
def tC (v : V) : TE := fun _ H Q => Q v H
theorem pe_var {i : Nat} {x : Str} {pos : Pos} (hN : X.N[i]? = some x) (hv : Vis X.env.scope x) (hd : (x == ("__debug__" : Str)) = false := by decide) (hcd : (x == ("__classdict__" : Str)) = false := by decide) : PE X (.Name x pos) (tVar i) := by
  intro pins s σ H Q I h
  obtain ⟨v, e, h⟩ := h
  obtain ⟨m, hn, hl⟩ := I.loc
  obtain ⟨u, r, l⟩ := hl i x v hN e hv
  have fin : EP X pins σ Q u s := ⟨v, H, I, r, h⟩
  rcases l with ⟨hk, hm⟩ | ⟨hk, c, hc, hcell⟩
  · exact wpAny_Name (wpAny_loadName_local I.ok.kind hk hn hm fin) hd
  · rcases hk with hk | hk
    · exact wpAny_Name (wpAny_loadName_cell I.ok.kind hk hc hcell fin) hd
    · exact wpAny_Name (wpAny_loadName_free I.ok.kind hk hc hcell fin hcd) hd
theorem pe_int {i j pos} : PE X (.Constant (.int i) j pos) (tC (.int i)) := fun _ _ _ H _ I h => wpAny_Constant_int ⟨.int i, H, I.tok _, ⟨_, rfl⟩, h⟩
theorem pe_bl {b j pos} : PE X (.Constant (.bool b) j pos) (tC (.bl b)) := fun _ _ _ H _ I h => Constant_bool ⟨.bl b, H, I, rfl, h⟩
theorem pe_non {j pos} : PE X (.Constant .none j pos) (tC .non) := fun _ _ _ H _ I h => Constant_none ⟨.non, H, I, rfl, h⟩
/-- a global name of the def -/
def Gl (X : Cx) (x : Str) : Prop := X.env.kindOf x = some .globalImplicit
theorem ld_glob {E : Value → Shared → Prop} {pins : List (Addr × Obj)} {s : Shared} {σ : St} {H : Hp} {x : Str} {u : Value} {pos : Pos} {Q : Value → Shared → Prop} (I : Inv X pins σ H s) (hg : Gl X x) (hm : X.mg x = some u) (h : Q u s)
    (hd : (x == ("__debug__" : Str)) = false := by decide) : wpAny (model X.prog X.w) X.A (eval (.Name x pos) X.env) Q E s :=
  Calls.Name_function_global I.ok.kind hg (Calls.loadGlobal_global (by rw [I.ok.glob]; exact I.mod.glob.keeps I.bk) hm h) hd
theorem ld_blt {E : Value → Shared → Prop} {pins : List (Addr × Obj)} {s : Shared} {σ : St} {H : Hp} {x : Str} {u : Value} {pos : Pos} {Q : Value → Shared → Prop} (I : Inv X pins σ H s) (hg : Gl X x) (hm : X.mg x = none) (hv : bootBuiltins x = some u) (h : Q u s)
    (hn : x ≠ "__name__" := by decide) (hd : (x == ("__debug__" : Str)) = false := by decide) : wpAny (model X.prog X.w) X.A (eval (.Name x pos) X.env) Q E s := by
  obtain ⟨mb, h1, h2⟩ := I.mod.blt
  exact Calls.Name_function_global I.ok.kind hg (Calls.loadGlobal_builtin (by rw [I.ok.glob]; exact I.mod.glob.keeps I.bk) hm (by rw [I.ok.blt]; exact h1.keeps I.bk) ((h2 x hn).trans hv) h) hd
/-- a module's constant, a class, a function, as a value -/
theorem pe_glob {x : Str} {v : V} {u : Value} {pos : Pos} (hg : Gl X x) (hm : X.mg x = some u) (r : RelV v u) (hd : (x == ("__debug__" : Str)) = false := by decide) : PE X (.Name x pos) (tC v) :=
  fun _ _ _ H _ I h => ld_glob I hg hm ⟨v, H, I, r, h⟩ hd
/-! ### arithmetic -/
variable {a b : Expr} {ta tb : TE} {pos : Pos}
/-! ### comparisons -/
def PC (X : Cx) (op : CmpOp) (a b : Expr) (t : TE) : Prop :=
  ∀ (pins : List (Addr × Obj)) (s : Shared) (σ : St) (H : Hp) (Q : VK), Inv X pins σ H s → t σ H Q →
    wpAny (model X.prog X.w) X.A (eval a X.env) (fun v s₁ => wpAny (model X.prog X.w) X.A (eval b X.env) (fun u s₂ => wpAny (model X.prog X.w) X.A (compareOp op v u) (EP X pins σ Q) X.xe s₂) X.xe s₁) X.xe s
theorem nobehind (b : Expr) {op : CmpOp} (h : op ≠ .In) (h2 : op ≠ .NotIn) : behindInMarks op b = false := by
  have e1 : (op == CmpOp.In) = false := by cases op <;> first | rfl | exact absurd rfl h
  have e2 : (op == CmpOp.NotIn) = false := by cases op <;> first | rfl | exact absurd rfl h2
  cases b <;> simp [behindInMarks, e1, e2]
/-- is None -/
def tIsN (ta : TE) : TE := fun σ H Q => ta σ H fun x H1 => Q (.bl (decide (x = .non))) H1
theorem RelV.none_iff {x : V} {v : Value} (r : RelV x v) : (v == Value.none) = decide (x = .non) := by
  cases x with
  | non => cases r; rfl
  | bl _ => cases r; rfl
  | int _ => obtain ⟨t, rfl⟩ := r; rfl
  | str _ => obtain ⟨t, rfl⟩ := r; rfl
  | byt _ => obtain ⟨t, rfl⟩ := r; rfl
  | flt _ => obtain ⟨t, rfl⟩ := r; rfl
  | ref _ => cases r; rfl
  | ty _ => cases r; rfl
theorem pc_isN {j pos'} (ha : PE X a ta) : PC X .Is a (.Constant .none j pos') (tIsN ta) := by
  intro pins s σ H Q I h
  refine thn (ha pins s σ H _ I h) fun v s1 ⟨x, H1, I1, r1, q1⟩ => ?_
  exact Constant_none (is_none_gen ⟨.bl _, H1, I1, by rw [r1.none_iff]; rfl, q1⟩)
/-- a comparison as a value, as a test -/
def tB (t : TE) : TT := fun σ H Q => t σ H fun x H1 => ∃ c, x = .bl c ∧ Q c H1
theorem pe_cmp {op : CmpOp} {t : TE} (h : PC X op a b t) (h1 : behindInMarks op b = false := by first | exact nobehind _ (by decide) (by decide) | rfl) : PE X (.Compare a [op] [b] pos) t := fun pins s σ H Q I hw => wpAny_Compare1 (h pins s σ H Q I hw) h1
theorem pt_cmp {op : CmpOp} {t : TE} (h : PC X op a b t) (h1 : behindInMarks op b = false := by first | exact nobehind _ (by decide) (by decide) | rfl) : PT X (.Compare a [op] [b] pos) (tB t) := by
  intro pins s σ H Q I hw
  refine wpAny_isTrue_Compare1 (thn (h pins s σ H _ I hw) fun v s1 h1 => thn h1 fun u s2 h2 => thn h2 fun c s3 ⟨x, H1, I1, r1, q1⟩ => ?_) h1
  obtain ⟨d, rfl, q⟩ := q1
  cases r1
  exact wpAny_truthy_bool ⟨H1, I1, q⟩
/-- an expression whose value is a bool, as a test -/
theorem pt_val {e : Expr} {t : TE} (h : PE X e t) (he : ∀ whole, isTrue e X.env whole = (do let v ← whole; standAt e.pos; holding [v] (truthy v)) := by intro _; rfl) : PT X e (tB t) := by
  intro pins s σ H Q I hw
  refine isTrue_plain (thn (h pins s σ H _ I hw) fun v s1 ⟨x, H1, I1, r1, q1⟩ => ?_) (he _)
  obtain ⟨d, rfl, q⟩ := q1
  cases r1
  exact wpAny_truthy_bool ⟨H1, I1, q⟩
/-! ### and, or, not -/
variable {tA tB' : TT} {rest : List Expr}
def tAnd (t u : TT) : TT := fun σ H Q => t σ H fun c H1 => if c = true then u σ H1 Q else Q false H1
def tOr (t u : TT) : TT := fun σ H Q => t σ H fun c H1 => if c = true then Q true H1 else u σ H1 Q
def tNot (t : TT) : TT := fun σ H Q => t σ H fun c H1 => Q (!c) H1
theorem pw_and1 (ha : PT X a tA) : PW X (.BoolOp .And [a] pos) tA := by
  intro wh pins s σ H Q I h
  refine isTrue_and (thn (ha pins s σ H Q I h) fun c s1 e => ?_)
  cases c with
  | true => exact isTrue_and_nil e
  | false => exact e
theorem pw_or1 (ha : PT X a tA) : PW X (.BoolOp .Or [a] pos) tA := by
  intro wh pins s σ H Q I h
  refine isTrue_or (thn (ha pins s σ H Q I h) fun c s1 e => ?_)
  cases c with
  | false => exact isTrue_or_nil e
  | true => exact e
theorem pw_and (ha : PT X a tA) (hb : PW X (.BoolOp .And (b :: rest) pos) tB') : PW X (.BoolOp .And (a :: b :: rest) pos) (tAnd tA tB') := by
  intro wh pins s σ H Q I h
  refine isTrue_and (thn (ha pins s σ H _ I h) fun c s1 ⟨H1, I1, q1⟩ => ?_)
  cases c with
  | true => exact hb wh pins s1 σ H1 Q I1 q1
  | false => exact ⟨H1, I1, q1⟩
theorem pw_or (ha : PT X a tA) (hb : PW X (.BoolOp .Or (b :: rest) pos) tB') : PW X (.BoolOp .Or (a :: b :: rest) pos) (tOr tA tB') := by
  intro wh pins s σ H Q I h
  refine isTrue_or (thn (ha pins s σ H _ I h) fun c s1 ⟨H1, I1, q1⟩ => ?_)
  cases c with
  | true => exact ⟨H1, I1, q1⟩
  | false => exact hb wh pins s1 σ H1 Q I1 q1
theorem pt_not (ha : PT X a tA) : PT X (.UnaryOp .Not a pos) (tNot tA) := by
  intro pins s σ H Q I h
  exact isTrue_not (ha pins s σ H (fun c H1 => Q (!c) H1) I h)
/-- .. as values (bools) -/
def tAndV (ta tb : TE) : TE := fun σ H Q => ta σ H fun x H1 => ∃ c, x = .bl c ∧ if c = true then tb σ H1 Q else Q (.bl false) H1
def tNotV (ta : TE) : TE := fun σ H Q => ta σ H fun x H1 => ∃ c, x = .bl c ∧ Q (.bl (!c)) H1
theorem pe_one {op} {t : TE} (h : PE X a t) : PE X (.BoolOp op [a] pos) t := fun pins s σ H Q I hw => BoolOp_one (h pins s σ H Q I hw)
theorem pe_and (ha : PE X a ta) (hb : PE X (.BoolOp .And (b :: rest) pos) tb) : PE X (.BoolOp .And (a :: b :: rest) pos) (tAndV ta tb) := by
  intro pins s σ H Q I h
  refine BoolOp_and (thn (ha pins s σ H _ I h) fun v s1 ⟨x, H1, I1, r1, q1⟩ => ?_)
  obtain ⟨c, rfl, q1⟩ := q1
  cases r1
  refine wpAny_truthy_bool ?_
  cases c with
  | true => exact hb pins s1 σ H1 Q I1 q1
  | false => exact ⟨.bl false, H1, I1, rfl, q1⟩
theorem pe_not (ha : PE X a ta) : PE X (.UnaryOp .Not a pos) (tNotV ta) := by
  intro pins s σ H Q I h
  refine UnaryOp_ (thn (ha pins s σ H _ I h) fun v s1 ⟨x, H1, I1, r1, q1⟩ => ?_)
  obtain ⟨c, rfl, q1⟩ := q1
  cases r1
  exact not_of (wpAny_truthy_bool ⟨.bl (!c), H1, I1, rfl, q1⟩)
/-- a if t else b -/
def tIf (t : TT) (ta tb : TE) : TE := fun σ H Q => t σ H fun c H1 => if c = true then ta σ H1 Q else tb σ H1 Q
theorem pe_ifExp {c : Expr} (hc : PT X c tA) (ha : PE X a ta) (hb : PE X b tb) : PE X (.IfExp c a b pos) (tIf tA ta tb) := by
  intro pins s σ H Q I h
  refine wpAny_IfExp (thn (hc pins s σ H _ I h) fun d s1 ⟨H1, I1, q1⟩ => ?_)
  cases d with
  | true => exact ha pins s1 σ H1 Q I1 q1
  | false => exact hb pins s1 σ H1 Q I1 q1
end
end L2
namespace L2
open PySem PySem.Spec PyProof.Rows
/-! ### a list, a tuple that is read: tracked, frozen, or an object of the module -/
def SqL (K : PySem.W.Frag) (H : Hp) (a : Addr) (xs : List V) : Prop :=
  Rd H a (.lst xs) ∨
    ∃ (o : Obj) (its : Array Value) (n : Nat), K.lookup a = some o ∧ o.cls = .type "list" ∧ o.dict = none ∧ o.data = .seq its n ∧ its.size ≤ sizeLine ∧ Vals xs its.toList
def SqT (K : PySem.W.Frag) (H : Hp) (a : Addr) (xs : List V) : Prop :=
  Rd H a (.tup xs) ∨
    ∃ (o : Obj) (its : Array Value) (n : Nat), K.lookup a = some o ∧ o.cls = .type "tuple" ∧ o.data = .seq its n ∧ its.size ≤ sizeLine ∧ Vals xs its.toList
def absV : Value → Option V
  | .none => some .non
  | .bool b => some (.bl b)
  | .int i _ => some (.int i)
  | .str x _ => some (.str x)
  | .bytes b _ => some (.byt b)
  | .float b _ => some (.flt b)
  | .ref a => some (.ref a)
  | .type n => some (.ty n)
  | _ => none
theorem RelV.abs {x : V} {u : Value} (r : RelV x u) : absV u = some x := by
  cases x with
  | non => cases r; rfl
  | bl _ => cases r; rfl
  | int _ => obtain ⟨t, rfl⟩ := r; rfl
  | str _ => obtain ⟨t, rfl⟩ := r; rfl
  | byt _ => obtain ⟨t, rfl⟩ := r; rfl
  | flt _ => obtain ⟨t, rfl⟩ := r; rfl
  | ref _ => cases r; rfl
  | ty _ => cases r; rfl
theorem RelV.inj {x y : V} {u : Value} (r : RelV x u) (q : RelV y u) : x = y := Option.some.inj (r.abs.symm.trans q.abs)
theorem Vals.inj : ∀ {xs ys : List V} {us : List Value}, Vals xs us → Vals ys us → xs = ys
  | _, _, _, .nil, .nil => rfl
  | _, _, _, .cons r t, .cons r' t' => by rw [r.inj r', Vals.inj t t']
section
variable {X : Cx} {pins : List (Addr × Obj)} {σ : St} {H : Hp} {s : Shared} {a : Addr} {xs ys : List V}
theorem SqL.of {K : PySem.W.Frag} (h : H a = some (.lst xs)) : SqL K H a xs := .inl (.inl h)
theorem SqT.of {K : PySem.W.Frag} (h : H a = some (.tup xs)) : SqT K H a xs := .inl (.inl h)
theorem Inv.list (I : Inv X pins σ H s) (h : SqL X.K H a xs) : ∃ its : List Value, Vals xs its ∧ PlainL s.heap a its.toArray ∧ xs.length ≤ sizeLine := by
  rcases h with h | ⟨o, its, n, hk, hc, hd, hs, hz, r⟩
  · obtain ⟨z, its, n, r, e⟩ := h.ok I.hok
    exact ⟨its, r, ⟨_, n, e, rfl, rfl, rfl⟩, z⟩
  · refine ⟨its.toList, r, ⟨o, n, I.kIn a o hk, hc, hd, by simpa using hs⟩, ?_⟩
    have e := r.length
    simp only [Array.length_toList] at e
    omega
theorem Inv.tuple (I : Inv X pins σ H s) (h : SqT X.K H a xs) : ∃ its : List Value, Vals xs its ∧ IsTup s.heap a its.toArray ∧ xs.length ≤ sizeLine := by
  rcases h with h | ⟨o, its, n, hk, hc, hs, hz, r⟩
  · obtain ⟨z, its, r, p⟩ := h.ok I.hok
    exact ⟨its, r, p, z⟩
  · refine ⟨its.toList, r, ⟨o, I.kIn a o hk, hc, n, by simpa using hs⟩, ?_⟩
    have e := r.length
    simp only [Array.length_toList] at e
    omega
theorem Inv.list_inj (I : Inv X pins σ H s) (h : SqL X.K H a xs) (h' : SqL X.K H a ys) : xs = ys := by
  obtain ⟨its, r, ⟨o, n, e, _, _, d⟩, _⟩ := I.list h
  obtain ⟨its', r', ⟨o', n', e', _, _, d'⟩, _⟩ := I.list h'
  rw [e] at e'; cases e'
  rw [d] at d'
  injection d' with d1 _
  have : its = its' := by simpa using congrArg Array.toList d1
  subst this
  exact r.inj r'
end
/-! ### another wish about exceptions -/
abbrev Cx.wish (X : Cx) (E : Value → Shared → Prop) : Cx := { X with xe := E }
/-- no exception leaves -/
abbrev Cx.nox (X : Cx) : Cx := X.wish fun _ _ => False
theorem Cx.Ok.wish {X : Cx} (ok : X.Ok) (E : Value → Shared → Prop) : (X.wish E).Ok :=
  ⟨ok.mod, ok.kind, ok.glob, ok.blt, ok.above, ok.inj, ok.has, ok.cab, ok.hd, ok.frames, ok.stk, ok.exf, ok.bs, ok.bsz, ok.noex, ok.exfs, ok.funs, ok.frf⟩
theorem Cx.Ok.unwish {X : Cx} {E : Value → Shared → Prop} (ok : (X.wish E).Ok) : X.Ok :=
  ⟨ok.mod, ok.kind, ok.glob, ok.blt, ok.above, ok.inj, ok.has, ok.cab, ok.hd, ok.frames, ok.stk, ok.exf, ok.bs, ok.bsz, ok.noex, ok.exfs, ok.funs, ok.frf⟩
section
variable {X : Cx} {pins : List (Addr × Obj)} {σ : St} {H : Hp} {s : Shared} {E : Value → Shared → Prop}
theorem Inv.wish (I : Inv X pins σ H s) (E : Value → Shared → Prop) : Inv (X.wish E) pins σ H s := ⟨I.ok.wish E, I.os, I.bare, I.base, I.loc, I.cell, I.free, I.freeC, I.pin, I.hok, I.len⟩
theorem Inv.unwish (I : Inv (X.wish E) pins σ H s) : Inv X pins σ H s := ⟨I.ok.unwish, I.os, I.bare, I.base, I.loc, I.cell, I.free, I.freeC, I.pin, I.hok, I.len⟩
theorem SP.unwish {D : Ends} {f : Flow} {s' : Shared} (h : SP (X.wish E) pins D f s') : SP X pins D f s' := by
  cases f with
  | next => obtain ⟨σ', H', I, q⟩ := h; exact ⟨σ', H', I.unwish, q⟩
  | brk => obtain ⟨σ', H', I, q⟩ := h; exact ⟨σ', H', I.unwish, q⟩
  | cont => obtain ⟨σ', H', I, q⟩ := h; exact ⟨σ', H', I.unwish, q⟩
  | ret u => obtain ⟨v, σ', H', I, r, q⟩ := h; exact ⟨v, σ', H', I.unwish, r, q⟩
theorem PSs.nox {st : List Stmt} {t : TS} (h : PSs X.nox st t) : PSs X st t := fun pins s σ H D I hw =>
  wpAny_mono (h pins s σ H D (I.wish _) hw) (fun _ _ q => q.unwish) fun _ _ z => False.elim z
end
/-! ### blocks and small statements -/
section
variable {X : Cx} {st : Stmt} {rest : List Stmt} {t u : TS} {e : Expr} {te : TE} {pos : Pos}
def tNext : TS := fun D σ H => D.nx σ H
def tSeq (t u : TS) : TS := fun D σ H => t { D with nx := u D } σ H
theorem pss_nil : PSs X [] tNext := fun _ _ σ H _ I h => wpAny_execs_nil ⟨σ, H, I, h⟩
theorem pss_cons (h1 : PS X st t) (h2 : PSs X rest u) : PSs X (st :: rest) (tSeq t u) := by
  intro pins s σ H D I h
  refine wpAny_execs_cons (thn (h1 pins s σ H { D with nx := u D } I h) fun f s1 q => ?_)
  cases f with
  | next =>
    obtain ⟨σ', H', I', q⟩ := q
    exact h2 pins s1 σ' H' D I' q
  | ret v => exact q
  | brk => exact q
  | cont => exact q
theorem pss_one (h1 : PS X st t) : PSs X [st] t := by
  intro pins s σ H D I h
  refine wpAny_execs_cons (thn (h1 pins s σ H D I h) fun f s1 q => ?_)
  cases f with
  | next => exact wpAny_execs_nil q
  | ret v => exact q
  | brk => exact q
  | cont => exact q
/-- in a def's body nothing is shown -/
theorem Inv.quiet {pins : List (Addr × Obj)} {σ : St} {H : Hp} {s : Shared} (I : Inv X pins σ H s) : interactive X.env = false := by simp [interactive, I.ok.kind]
/-- an expression whose value is dropped -/
def tDrop (te : TE) : TS := fun D σ H => te σ H fun _ H1 => D.nx σ H1
theorem ps_expr (he : PE X e te) (hs : swapsWith e none pos.line X.env = pure false := by rfl) : PS X (.Expr e pos) (tDrop te) := by
  intro pins s σ H D I h
  exact wpAny_Expr_any (thn (he pins s σ H _ I h) fun v s1 ⟨x, H1, I1, r1, q1⟩ => ⟨σ, H1, I1, q1⟩) I.quiet hs
def tRet (te : TE) : TS := fun D σ H => te σ H D.rt
theorem ps_ret (he : PE X e te) : PS X (.Return (some e) pos) (tRet te) := by
  intro pins s σ H D I h
  exact wpAny_Return_some (thn (he pins s σ H _ I h) fun v s1 ⟨x, H1, I1, r1, q1⟩ => ⟨x, σ, H1, I1, r1, q1⟩)
def tIfS (c : TT) (t u : TS) : TS := fun D σ H => c σ H fun b H1 => if b = true then t D σ H1 else u D σ H1
theorem ps_if {c : Expr} {a b : List Stmt} {tc : TT} (hc : PT X c tc) (ha : PSs X a t) (hb : PSs X b u) : PS X (.If c a b pos) (tIfS tc t u) := by
  intro pins s σ H D I h
  refine wpAny_If (thn (hc pins s σ H _ I h) fun d s1 ⟨H1, I1, q1⟩ => ?_)
  cases d with
  | true => exact ha pins s1 σ H1 D I1 q1
  | false => exact hb pins s1 σ H1 D I1 q1
end
/-! ### targets -/
abbrev TG := V → St → Hp → (St → Hp → Prop) → Prop
abbrev TGs := List V → St → Hp → (St → Hp → Prop) → Prop
def PG (X : Cx) (target : Expr) (t : TG) : Prop :=
  ∀ (pins : List (Addr × Obj)) (s : Shared) (σ : St) (H : Hp) (v : V) (u : Value) (Q : St → Hp → Prop), Inv X pins σ H s → RelV v u → t v σ H Q →
    wpAny (model X.prog X.w) X.A (assign target X.env u) (fun _ s' => ∃ σ' H', Inv X pins σ' H' s' ∧ Q σ' H') X.xe s
/-- several targets, one after another -/
def PGs (X : Cx) (ts : List Expr) (t : TGs) : Prop :=
  ∀ (pins : List (Addr × Obj)) (s : Shared) (σ : St) (H : Hp) (vs : List V) (us : List Value) (Q : St → Hp → Prop), Inv X pins σ H s → Vals vs us → t vs σ H Q →
    wpAny (model X.prog X.w) X.A (assignInOrder ((assignEach ts X.env).map (·.2)) us) (fun _ s' => ∃ σ' H', Inv X pins σ' H' s' ∧ Q σ' H') X.xe s
/-- o[i] = v, by values -/
abbrev TSet := V → V → V → Hp → (Hp → Prop) → Prop
def PSet (X : Cx) (t : TSet) : Prop :=
  ∀ (pins : List (Addr × Obj)) (s : Shared) (σ : St) (H : Hp) (o i v : V) (ov iv u : Value) (Q : Hp → Prop), Inv X pins σ H s → RelV o ov → RelV i iv → RelV v u → t o i v H Q →
    wpAny (model X.prog X.w) X.A (setItem ov iv u) (fun _ s' => ∃ H', Inv X pins σ H' s' ∧ Q H') X.xe s
section
variable {X : Cx} {pos : Pos}
def gName (i : Nat) : TG := fun v σ H Q => Q (σ.set i (some v)) H
theorem pg_name {i : Nat} {x : Str} (hN : X.N.Nodup) (hi : X.N[i]? = some x) (hx : Loc X.env.scope x) (hf : X.fn x = true ∨ X.env.scope.names.lookup x = some .local := by first | exact .inl rfl | exact .inr rfl | assumption) : PG X (.Name x pos) (gName i) := by
  intro pins s σ H v u Q I r h
  exact wpAny_assign_Name (store_ok I hN hi hx r (fun s' I' => ⟨_, H, I', h⟩) hf)
def gNil : TGs := fun vs σ H Q => vs = [] ∧ Q σ H
def gCons (t : TG) (u : TGs) : TGs := fun vs σ H Q => ∃ v r, vs = v :: r ∧ t v σ H fun σ' H' => u r σ' H' Q
theorem pgs_nil : PGs X [] gNil := by
  intro pins s σ H vs us Q I r h
  obtain ⟨e, h⟩ := h
  subst e
  cases r
  exact assignInOrder_nil ⟨σ, H, I, h⟩
theorem pgs_cons {e : Expr} {es : List Expr} {t : TG} {u : TGs} (h1 : PG X e t) (h2 : PGs X es u)
    (hs : (assignEach (e :: es) X.env).map (·.2) = assign e X.env :: (assignEach es X.env).map (·.2) := by rfl) : PGs X (e :: es) (gCons t u) := by
  intro pins s σ H vs us Q I r h
  obtain ⟨v, vr, e1, h⟩ := h
  subst e1
  cases r with
  | cons r rr =>
    rw [hs]
    refine assignInOrder_cons (thn (h1 pins s σ H _ _ _ I r h) fun _ s1 ⟨σ1, H1, I1, q1⟩ => ?_)
    exact h2 pins s1 σ1 H1 _ _ Q I1 rr q1
/-- (a, b, ..) = a tuple of that length -/
def gTup (K : PySem.W.Frag) (n : Nat) (t : TGs) : TG := fun v σ H Q => ∃ a xs, v = .ref a ∧ SqT K H a xs ∧ xs.length = n ∧ t xs σ H Q
theorem pg_tup {es : List Expr} {k : Nat} {t : TGs} {n : Nat} (hc : X.calm = true) (h : PGs X es t)
    (hn : (assignEach es X.env).length = n := by rfl) (hst : (assignEach es X.env).findIdx? (·.1) = none := by rfl) : PG X (.Tuple es k pos) (gTup X.K n t) := by
  intro pins s σ H v u Q I r hw
  obtain ⟨a, xs, e1, hq, hl, hw⟩ := hw
  subst e1
  cases r
  obtain ⟨its, rv, ht, hz⟩ := I.tuple hq
  refine assign_Tuple_tuple (I.ok.hd hc) ht (by simp [hn, ← hl, rv.length]) hst fun h' hx => ?_
  have I1 : Inv X pins σ H { s with heap := h' } := I.kept (t' := s.toks) fun b o e => hx b o (Nat.ne_of_lt (Heap.lt_size e)) e
  exact h pins _ σ H xs _ Q I1 (by simpa using rv) hw
/-- o[i] = .. -/
def gSub (to ti : TE) (t : TSet) : TG := fun v σ H Q => to σ H fun o H1 => ti σ H1 fun i H2 => t o i v H2 fun H3 => Q σ H3
theorem pg_sub {o i : Expr} {to ti : TE} {t : TSet} (ho : PE X o to) (hi : PE X i ti) (hs : PSet X t)
    (ha : ∀ v, assign (.Subscript o i pos) X.env v = (do
      let ov ← holding [v] (eval o X.env)
      let iv ← holding [v, ov] (eval i X.env)
      standAt pos
      holding [v, ov, iv] (setItem ov iv v)
      release [v, ov, iv] []) := by intro _; rfl) : PG X (.Subscript o i pos) (gSub to ti t) := by
  intro pins s σ H v u Q I r h
  rw [ha]
  refine wpAny_bind (wpAny_holding (thn (ho pins s σ H _ I h) fun ov s1 ⟨x, H1, I1, r1, q1⟩ => ?_))
  refine wpAny_bind (wpAny_holding (thn (hi pins s1 σ H1 _ I1 q1) fun iv s2 ⟨y, H2, I2, r2, q2⟩ => ?_))
  refine wpAny_bind (wpAny_standAt (wpAny_bind (wpAny_holding (thn (hs pins s2 σ H2 x y v ov iv u _ I2 r1 r2 r q2) fun _ s3 ⟨H3, I3, q3⟩ => ?_))))
  exact wpAny_release ⟨σ, H3, I3, q3⟩
/-- target = value -/
def tAsg (te : TE) (g : TG) : TS := fun D σ H => te σ H fun x H1 => g x σ H1 D.nx
theorem ps_asg {tg e : Expr} {te : TE} {g : TG} (he : PE X e te) (hg : PG X tg g) (hs : swapsWithSole [tg] e pos.line X.env = pure false := by rfl) (hw : swappedStores [tg] e X.env = pure none := by rfl)
    (h1 : (assignEach [tg] X.env).map (·.2) = [assign tg X.env] := by rfl) : PS X (.Assign [tg] e pos) (tAsg te g) := by
  intro pins s σ H D I h
  refine wpAny_Assign_stores (thn (he pins s σ H _ I h) fun v s1 ⟨x, H1, I1, r1, q1⟩ => ?_) hs hw
  rw [h1]
  exact thn (hg pins s1 σ H1 x v _ I1 r1 q1) fun _ s2 q => q
/-- name = value -/
theorem ps_set {i : Nat} {x : Str} {e : Expr} {te : TE} {pos' : Pos} (hN : X.N.Nodup) (hi : X.N[i]? = some x) (hx : Loc X.env.scope x) (he : PE X e te) (hs : swapsWith e (some (.Name x pos')) pos.line X.env = pure false := by rfl) (hf : X.fn x = true ∨ X.env.scope.names.lookup x = some .local := by first | exact .inl rfl | exact .inr rfl | assumption) :
    PS X (.Assign [.Name x pos'] e pos) (tAsg te (gName i)) := by
  intro pins s σ H D I h
  refine wpAny_Assign_Name (thn (he pins s σ H _ I h) fun v s1 ⟨y, H1, I1, r1, q1⟩ => ?_) hs
  exact store_ok I1 hN hi hx r1 (fun s2 I2 => ⟨_, H1, I2, q1⟩) hf
end
/-! ### while -/
section
variable {X : Cx} {pos : Pos}
/-- the invariant W with its measure -/
def tWhile (c : TT) (tb : TS) : TS := fun D σ H => ∃ W : Nat → St → Hp → Prop, (∃ m, W m σ H) ∧ ∀ m σ H, W m σ H →
  c σ H fun b H1 => if b = true then ∃ N : St → Hp → Prop, (∀ σ' H', N σ' H' → ∃ m', m' < m ∧ W m' σ' H') ∧ tb { D with nx := N, ct := N, bk := D.nx } σ H1 else D.nx σ H1
theorem ps_while {c : Expr} {body : List Stmt} {tc : TT} {tb : TS} (hp : PassesOwn (model X.prog X.w) X.A X.env X.xe) (hc : PT X c tc) (hb : PSs X body tb) : PS X (.While c body [] pos) (tWhile tc tb) := by
  intro pins s σ H D I h
  obtain ⟨W, ⟨m0, w0⟩, turn⟩ := h
  refine wpAny_While (codeAny_whileLoop (fun n s' => ∃ σ' H', Inv X pins σ' H' s' ∧ W n σ' H') ?_ m0 ⟨σ, H, I, w0⟩)
  rintro n s1 ⟨σ1, H1, I1, w1⟩
  refine wpAny_passesOwn hp (thn (hc pins s1 σ1 H1 _ I1 (turn n σ1 H1 w1)) fun b s2 ⟨H2, I2, q2⟩ => ?_)
  cases b with
  | true =>
    obtain ⟨N, hN, q2⟩ := q2
    rw [if_pos rfl]
    refine wpAny_passesOwn hp (thn (hb pins s2 σ1 H2 _ I2 q2) fun f s3 q3 => ?_)
    cases f with
    | next =>
      obtain ⟨σ3, H3, I3, n3⟩ := q3
      obtain ⟨m', hm, w3⟩ := hN σ3 H3 n3
      exact ⟨m', hm, σ3, H3, I3, w3⟩
    | cont =>
      obtain ⟨σ3, H3, I3, n3⟩ := q3
      obtain ⟨m', hm, w3⟩ := hN σ3 H3 n3
      exact ⟨m', hm, σ3, H3, I3, w3⟩
    | brk => exact q3
    | ret v => exact q3
  | false =>
    rw [if_neg Bool.false_ne_true]
    exact wpAny_execs_nil ⟨σ1, H2, I2, q2⟩
end
/-! ### what a loop or a comprehension walks -/
/-- at turn i: it yields x (the heap may grow), or it stops -/
structure It where
  go : Nat → Hp → Prop
  yld : Nat → Hp → V → Hp → Prop
  stop : Nat → Hp → Prop
/-- the iterator's own objects may turn: they are not the frame's, not pinned, younger than the entry (or a comprehension's own) -/
def FpOk (X : Cx) (pins : List (Addr × Obj)) (H : Hp) (b : Addr) : Prop :=
  H b = none ∧ b ≠ X.env.locals ∧ b ∉ X.fs ∧ (b ∈ X.ex ∨ X.s_0.heap.objs.size ≤ b) ∧ (∀ x c, X.env.cells.lookup x = some c → c ≠ b) ∧ ∀ p ∈ X.pn ++ pins, p.1 ≠ b
theorem Inv.fpOk {X : Cx} {pins : List (Addr × Obj)} {σ : St} {H H' : Hp} {s : Shared} {b : Addr} (I : Inv X pins σ H s) (hb : s.heap.objs.size ≤ b) (hn : H' b = none) : FpOk X pins H' b := by
  refine ⟨hn, Nat.ne_of_gt (Nat.lt_of_lt_of_le I.lt hb), I.nofs hb, .inr (Nat.le_trans I.sz hb), fun x c e z => ?_, fun p hp z => ?_⟩
  · obtain ⟨v, q⟩ := I.cell x c e
    exact absurd (Nat.lt_of_lt_of_le q.lt (by rw [z]; exact hb)) (Nat.lt_irrefl _)
  · exact absurd (Nat.lt_of_lt_of_le (Heap.lt_size (I.pin p hp).1) (by rw [z]; exact hb)) (Nat.lt_irrefl _)
structure Turn (P : Program) (w : World) (K : PySem.W.Frag) (tg : Expr) (J : It) (fp : List Addr) (it : Addr) (tn : Nat → Heap → Prop) : Prop where
  mem : it ∈ fp
  obj : ∀ i h, tn i h → ∀ b ∈ fp, ∃ o, h.get? b = some o ∧ ∀ v, o.data ≠ .cell v
  keep : ∀ i h h', tn i h → (∀ b ∈ fp, ∀ o, h.get? b = some o → h'.get? b = some o) → tn i h'
  item : ∀ (X : Cx), X.prog = P → X.w = w → X.K = K → X.calm = true → ∀ (i : Nat) (pins : List (Addr × Obj)) (s : Shared) (σ : St) (H : Hp) (E : Value → Shared → Prop), Inv X pins σ H s → (∀ b ∈ fp, FpOk X pins H b) → tn i s.heap → J.go i H →
    wpAny (model P w) X.A (pyNext (.ref it)) (fun r s1 => ∃ u, r = some u ∧
      wpAny (model P w) X.A (letOwnedTupleGo tg (.ref it) u) (fun _ s2 => ∃ x H', Inv X pins σ H' s2 ∧ RelV x u ∧ J.yld i H x H' ∧ tn (i + 1) s2.heap ∧ ∀ b ∈ fp, H' b = none) E s1) E s
  done : ∀ (X : Cx), X.prog = P → X.w = w → X.K = K → X.calm = true → ∀ (i : Nat) (pins : List (Addr × Obj)) (s : Shared) (σ : St) (H : Hp) (E : Value → Shared → Prop), Inv X pins σ H s → (∀ b ∈ fp, FpOk X pins H b) → tn i s.heap → J.stop i H →
    wpAny (model P w) X.A (pyNext (.ref it)) (fun r s1 => r = none ∧ Inv X pins σ H s1) E s
  self : ∀ (A : Around) (i : Nat) (s : Shared) (Q : Value → Shared → Prop) (E : Value → Shared → Prop), tn i s.heap → Q (.ref it) s → wpAny (model P w) A (pyIter (.ref it)) Q E s
abbrev TI := St → Hp → (It → Hp → Prop) → Prop
/-- an iterator has come -/
def PIE (X : Cx) (pins : List (Addr × Obj)) (σ : St) (tg : Expr) (R : It → Hp → Prop) (itv : Value) (s2 : Shared) : Prop :=
  ∃ (it : Addr) (fp : List Addr) (tn : Nat → Heap → Prop) (J : It) (H' : Hp), itv = .ref it ∧ Inv X pins σ H' s2 ∧ Turn X.prog X.w X.K tg J fp it tn ∧ tn 0 s2.heap ∧ (∀ b ∈ fp, FpOk X pins H' b) ∧ R J H'
def PI (X : Cx) (tg iter : Expr) (wi : TI) : Prop :=
  ∀ (pins : List (Addr × Obj)) (s : Shared) (σ : St) (H : Hp) (R : It → Hp → Prop), Inv X pins σ H s → wi σ H R →
    wpAny (model X.prog X.w) X.A (eval iter X.env) (fun v s1 => wpAny (model X.prog X.w) X.A (pyIter v) (PIE X pins σ tg R) X.xe s1) X.xe s
/-- the step ahead of the store is nothing for an iterator that keeps no tuple -/
theorem go_of {M : Model} {A : Around} {E : Value → Shared → Prop} {s : Shared} {tg : Expr} {it : Addr} {u : Value} {o : Obj} {n : String} {vs : Array Value} {Q : Unit → Shared → Prop} (ho : s.heap.get? it = some o) (hc : o.cls = .type n) (hd : o.data = .fields vs)
    (hn : ["enumerate", "zip", "dict_itemiterator", "dict_reverseitemiterator", "odict_iterator", "itertools.zip_longest", "itertools.pairwise"].contains n = false) (hQ : Q () s) : wpAny M A (letOwnedTupleGo tg (.ref it) u) Q E s := by
  unfold letOwnedTupleGo
  cases tg <;> first
    | exact wpAny_pure hQ
    | (cases u <;> first
        | exact wpAny_pure hQ
        | (refine wpAny_bind (wpAny_load ho ?_)
           rw [hc, hd]
           show wpAny M A (if (["enumerate", "zip", "dict_itemiterator", "dict_reverseitemiterator", "odict_iterator", "itertools.zip_longest", "itertools.pairwise"].contains n && vs[0]? == some (rawInt _)) = true then _ else _) Q E s
           rw [if_neg (by intro h; rw [hn, Bool.false_and] at h; cases h)]
           exact wpAny_pure hQ))
/-- the list at a, as it stands at each turn (a loop may append to it) -/
def Itl (K : PySem.W.Frag) (a : Addr) : It :=
  ⟨fun i H => ∃ xs x, SqL K H a xs ∧ xs[i]? = some x, fun i H x H' => H' = H ∧ ∀ xs, SqL K H a xs → xs[i]? = some x, fun i H => ∃ xs, SqL K H a xs ∧ xs.length ≤ i⟩
/-- lo, lo + 1, .. (n of them) -/
def Itr (lo : Int) (n : Nat) : It := ⟨fun i _ => i < n, fun i H x H' => H' = H ∧ x = .int (lo + i), fun i _ => n ≤ i⟩
theorem turn_list {P : Program} {w : World} {K : PySem.W.Frag} {tg : Expr} (a it : Addr) : Turn P w K tg (Itl K a) [it] it (fun i h => h.IsListIter it a i) where
  mem := by simp
  obj := fun i h st b hb => by
    have e : b = it := by simpa using hb
    subst e
    obtain ⟨o, e, c, d⟩ := st
    exact ⟨o, e, fun v z => by rw [d] at z; cases z⟩
  keep := fun i h h' st k => st.at fun o e => k it (by simp) o e
  item := by
    intro X hP hw hK hc i pins s σ H E I hf st hg
    subst hP hw hK
    obtain ⟨xs, x, hq, hx⟩ := hg
    obtain ⟨its, rv, p, hz⟩ := I.list hq
    obtain ⟨u, hu, ru⟩ := rv.get hx
    obtain ⟨f0, f1, f2, f3, f4, f5⟩ := hf it (by simp)
    refine wpAny_pyNext_list_item st p.isList (x := u) (by simpa using hu) fun h' st' sb => ?_
    have I1 : Inv X pins σ H { s with heap := h' } := I.turned (t' := s.toks) (fun b o hb e => (sb.2 b hb).trans e) f0 f1 f3 f4 f5
    obtain ⟨o, e, c, d⟩ := id st'
    exact ⟨u, rfl, go_of (s := { s with heap := h' }) e c d (by decide) ⟨x, H, I1, ru, ⟨rfl, fun ys hy => by rw [I.list_inj hy hq]; exact hx⟩, st', fun b hb => (hf b hb).1⟩⟩
  done := by
    intro X hP hw hK hc i pins s σ H E I hf st hg
    subst hP hw hK
    obtain ⟨xs, hq, hx⟩ := hg
    obtain ⟨its, rv, p, hz⟩ := I.list hq
    obtain ⟨f0, f1, f2, f3, f4, f5⟩ := hf it (by simp)
    have hl := rv.length
    exact wpAny_pyNext_list_end (I.ok.hd hc) st p.isList (by simp; omega) fun h' eb => ⟨rfl, I.turned (t' := s.toks) (fun b o hb e => eb b o hb e) f0 f1 f3 f4 f5⟩
  self := fun _ _ _ _ _ st h => wpAny_pyIter_listiter st h
theorem turn_range {P : Program} {w : World} {K : PySem.W.Frag} {tg : Expr} (it : Addr) (lo : Int) (n : Nat) : Turn P w K tg (Itr lo n) [it] it (fun i h => IsRangeIter h it (lo + (i : Nat) * 1) ((n : Int) - (i : Nat)) 1) where
  mem := by simp
  obj := fun i h st b hb => by
    have e : b = it := by simpa using hb
    subst e
    exact ⟨_, st, fun v z => by
      have z' : Data.fields _ = Data.cell v := z
      cases z'⟩
  keep := fun i h h' st k => k it (by simp) _ st
  item := by
    intro X hP hw hK hc i pins s σ H E I hf st hg
    subst hP hw hK
    obtain ⟨f0, f1, f2, f3, f4, f5⟩ := hf it (by simp)
    have W := Walks.range (prog := X.prog) (w := X.w) (I.ok.hd hc) it lo 1 n
    refine W.item i s _ _ hg st fun v h' tk hv st' kk => ?_
    obtain ⟨t, rfl⟩ := hv
    have I1 : Inv X pins σ H { s with heap := h', toks := tk } := I.turned (fun b o hb e => kk b o (by simpa using hb) e) f0 f1 f3 f4 f5
    refine ⟨_, rfl, go_of (s := { s with heap := h', toks := tk }) (n := "range_iterator") st' rfl rfl (by decide) ⟨.int (lo + i), H, I1, ⟨t, ?_⟩, ⟨rfl, rfl⟩, st', fun b hb => (hf b hb).1⟩⟩
    rw [Int.mul_one]
  done := by
    intro X hP hw hK hc i pins s σ H E I hf st hg
    subst hP hw hK
    obtain ⟨f0, f1, f2, f3, f4, f5⟩ := hf it (by simp)
    exact wpAny_pyNext_range_end (I.ok.hd hc) st (by have : n ≤ i := hg; omega) fun h' eb => ⟨rfl, I.turned (t' := s.toks) (fun b o hb e => eb b o hb e) f0 f1 f3 f4 f5⟩
  self := fun _ _ _ _ _ st h => wpAny_pyIter_rangeiter st h
end L2
namespace L2
open PySem PySem.Spec PyProof.Rows
section
variable {X : Cx} {tg : Expr}
def iList (K : PySem.W.Frag) (tl : TE) : TI := fun σ H R => tl σ H fun x H1 => ∃ a, x = .ref a ∧ (∃ xs, SqL K H1 a xs) ∧ R (Itl K a) H1
theorem pi_list {l : Expr} {tl : TE} (hl : PE X l tl) : PI X tg l (iList X.K tl) := by
  intro pins s σ H R I h
  refine thn (hl pins s σ H _ I h) fun v s1 ⟨x, H1, I1, r1, q1⟩ => ?_
  obtain ⟨a, e, ⟨xs, hq⟩, q⟩ := q1
  subst e
  cases r1
  obtain ⟨its, rv, p, hz⟩ := I1.list hq
  refine wpAny_pyIter_list p.isList ?_
  refine ⟨s1.heap.objs.size, [s1.heap.objs.size], _, _, H1, rfl, I1.kept (t' := s1.toks) fun b o e => Heap.get?_push_of_some _ e, turn_list a _, ⟨_, Heap.get?_push_size _ rfl, rfl, rfl⟩, fun b hb => ?_, q⟩
  have e : b = s1.heap.objs.size := by simpa using hb
  subst e
  exact I1.fpOk (Nat.le_refl _) (I1.hok.fresh (Nat.le_refl _))
/-- a range object just made, walked -/
theorem range_it {pins : List (Addr × Obj)} {σ : St} {H : Hp} {s : Shared} {R : It → Hp → Prop} {E : Value → Shared → Prop} {lo hi : Int} {t u v : Tok} {tk : Nat} (I : Inv X pins σ H s) (h1 : -(2 ^ 62) ≤ lo) (h2 : lo < 2 ^ 62) (h3 : -(2 ^ 62) ≤ hi) (h4 : hi < 2 ^ 62)
    (q : R (Itr lo (hi - lo).toNat) H) : wpAny (model X.prog X.w) X.A (pyIter (.ref s.heap.objs.size)) (PIE X pins σ tg R) E { s with heap := s.heap.push { cls := .type "range", data := .fields #[.int lo t, .int hi u, .int 1 v] }, toks := tk } := by
  refine wpAny_pyIter_range (IsRange.new ..) (small_one h1 h2 h3 h4) ?_
  have I1 : Inv X pins σ H { s with heap := s.heap.push { cls := .type "range", data := .fields #[.int lo t, .int hi u, .int 1 v] }, toks := tk } := I.kept fun b o e => Heap.get?_push_of_some _ e
  refine ⟨(s.heap.push { cls := .type "range", data := .fields #[.int lo t, .int hi u, .int 1 v] }).objs.size, [(s.heap.push { cls := .type "range", data := .fields #[.int lo t, .int hi u, .int 1 v] }).objs.size], _, _, H, rfl,
    I1.kept (t' := tk) fun b o e => Heap.get?_push_of_some _ e, turn_range _ lo (hi - lo).toNat, ?_, fun b hb => ?_, q⟩
  · have e1 : lo + ((0 : Nat) : Int) * 1 = lo := by simp
    have e2 : (((hi - lo).toNat : Nat) : Int) - ((0 : Nat) : Int) = Builtin.Range.rangeSize lo hi 1 := by rw [rangeSize_one]; split <;> omega
    show IsRangeIter _ _ (lo + ((0 : Nat) : Int) * 1) ((((hi - lo).toNat : Nat) : Int) - ((0 : Nat) : Int)) 1
    rw [e1, e2]
    exact Heap.get?_push_size _ rfl
  · have e : b = (s.heap.push { cls := .type "range", data := .fields #[.int lo t, .int hi u, .int 1 v] }).objs.size := by simpa using hb
    subst e
    exact I1.fpOk (Nat.le_refl _) (I1.hok.fresh (Nat.le_refl _))
def iRng1 (ta : TA) : TI := fun σ H R => ta σ H fun vs H1 => ∃ j : Int, vs = [.int j] ∧ -(2 ^ 62) ≤ j ∧ j < 2 ^ 62 ∧ R (Itr 0 j.toNat) H1
def iRng2 (ta : TA) : TI := fun σ H R => ta σ H fun vs H1 => ∃ i j : Int, vs = [.int i, .int j] ∧ (-(2 ^ 62) ≤ i ∧ i < 2 ^ 62 ∧ -(2 ^ 62) ≤ j ∧ j < 2 ^ 62) ∧ R (Itr i (j - i).toNat) H1
theorem pi_range1 {a : Expr} {ta : TA} {p pos : Pos} (hg : Gl X "range") (hm : X.mg "range" = none) (ha : PA X [a] ta) (hs : starEach [a] X.env = [(false, eval a X.env)] := by rfl) : PI X tg (.Call (.Name "range" p) [a] [] pos) (iRng1 ta) := by
  intro pins s σ H R I h
  refine Call_ (ld_blt I hg hm boot_range (PyProof.Rows.callWith_type1 (thn (ha pos pins s σ H _ I h) fun us s1 ⟨vs, H1, I1, r1, q1⟩ => ?_) hs rfl))
  obtain ⟨j, e, q1, q2, q⟩ := q1
  subst e
  cases r1 with
  | cons r rr =>
    cases rr
    obtain ⟨t, rfl⟩ := r
    exact call_range_1 (range_it I1 (by omega) (by omega) q1 q2 (by simpa using q))
theorem pi_range2 {a b : Expr} {ta : TA} {p pos : Pos} (hg : Gl X "range") (hm : X.mg "range" = none) (ha : PA X [a, b] ta) (hs : starEach [a, b] X.env = [(false, eval a X.env), (false, eval b X.env)] := by rfl) (hs2 : starEach [b] X.env = [(false, eval b X.env)] := by rfl) :
    PI X tg (.Call (.Name "range" p) [a, b] [] pos) (iRng2 ta) := by
  intro pins s σ H R I h
  refine Call_ (ld_blt I hg hm boot_range (PyProof.Rows.callWith_type1 (thn (ha pos pins s σ H _ I h) fun us s1 ⟨vs, H1, I1, r1, q1⟩ => ?_) (by rw [hs, hs2]) (by rw [hs2]; rfl)))
  obtain ⟨i, j, e, ⟨q1, q2, q3, q4⟩, q⟩ := q1
  subst e
  cases r1 with
  | cons r rr =>
    cases rr with
    | cons r' rr =>
      cases rr
      obtain ⟨t, rfl⟩ := r
      obtain ⟨t', rfl⟩ := r'
      exact call_range_2 (range_it I1 q1 q2 q3 q4 q)
/-! ### for -/
/-- W: the invariant by the turn and a measure; N: what the body is to reach -/
def tFor (wi : TI) (g : TG) (tb : TS) : TS := fun D σ H => wi σ H fun J H1 => ∃ W : Nat → Nat → St → Hp → Prop, (∃ m, W 0 m σ H1) ∧ ∀ i m σ H, W i m σ H →
  (J.stop i H ∧ D.nx σ H) ∨ (J.go i H ∧ ∃ N : St → Hp → Prop, (∀ σ' H', N σ' H' → ∃ m', m' < m ∧ W (i + 1) m' σ' H') ∧ ∀ x H', J.yld i H x H' → g x σ H' fun σ2 H2 => tb { D with nx := N, ct := N, bk := D.nx } σ2 H2)
/-- the records at fp as they stand -/
def pinsAt (fp : List Addr) (h : Heap) : List (Addr × Obj) := fp.filterMap fun b => (h.get? b).map fun o => (b, o)
theorem mem_pinsAt {fp : List Addr} {h : Heap} {b : Addr} {o : Obj} (hb : b ∈ fp) (e : h.get? b = some o) : (b, o) ∈ pinsAt fp h := List.mem_filterMap.mpr ⟨b, hb, by rw [e]; rfl⟩
theorem of_pinsAt {fp : List Addr} {h : Heap} {p : Addr × Obj} (hp : p ∈ pinsAt fp h) : p.1 ∈ fp ∧ h.get? p.1 = some p.2 := by
  obtain ⟨b, hb, e⟩ := List.mem_filterMap.mp hp
  cases q : h.get? b with
  | none => rw [q] at e; cases e
  | some o =>
    rw [q] at e
    have e' : (b, o) = p := Option.some.inj e
    subst e'
    exact ⟨hb, q⟩
theorem Inv.pinned {pins : List (Addr × Obj)} {σ : St} {H : Hp} {s : Shared} {fp : List Addr} (I : Inv X pins σ H s) (hf : ∀ b ∈ fp, FpOk X pins H b) (ho : ∀ b ∈ fp, ∃ o, s.heap.get? b = some o ∧ ∀ v, o.data ≠ .cell v) : Inv X (pins ++ pinsAt fp s.heap) σ H s :=
  I.pins_of fun p hp => (List.mem_append.mp hp).elim (fun z => I.pin p (List.mem_append_right _ z)) fun z => by
    obtain ⟨hb, e⟩ := of_pinsAt z
    obtain ⟨f0, f1, f2, _⟩ := hf p.1 hb
    obtain ⟨o, e', d⟩ := ho p.1 hb
    rw [e] at e'; cases e'
    exact ⟨e, f0, f1, f2, d⟩
theorem Inv.unpinned {pins pl : List (Addr × Obj)} {σ : St} {H : Hp} {s : Shared} (I : Inv X (pins ++ pl) σ H s) : Inv X pins σ H s := I.pins_of fun p hp => I.pin p (List.mem_append_right _ (List.mem_append_left _ hp))
theorem ps_for {iter : Expr} {body : List Stmt} {wi : TI} {g : TG} {tb : TS} {pos : Pos} (hp : PassesOwn (model X.prog X.w) X.A X.env X.xe) (hc : X.calm = true) (hi : PI X tg iter wi) (hg : PG X tg g) (hb : PSs X body tb)
    (hs : ∀ x, foldedSetIterable iter X.env x = pure x := by intro _; rfl) : PS X (.For tg iter body [] pos) (tFor wi g tb) := by
  intro pins s σ H D I h
  refine wpAny_For (thn (hi pins s σ H _ I h) fun v s1 h1 => thn h1 fun itv s2 h2 => ?_) hs
  obtain ⟨it, fp, tn, J, H2, e, I2, T, st2, f2, W, ⟨m0, w0⟩, turn⟩ := h2
  subst e
  -- what stays true of the iterator's objects through the loop
  have stat : ∀ {H' : Hp}, (∀ b ∈ fp, H' b = none) → ∀ b ∈ fp, FpOk X pins H' b := fun hn b hb => ⟨hn b hb, (f2 b hb).2⟩
  refine codeAny_forLoop_any (fun n s' => ∃ i σ' H', Inv X pins σ' H' s' ∧ tn i s'.heap ∧ (∀ b ∈ fp, H' b = none) ∧ W i n σ' H') ?_ m0 ⟨0, σ, H2, I2, st2, fun b hb => (f2 b hb).1, w0⟩
  rintro n s3 ⟨i, σ3, H3, I3, st3, fr3, w3⟩
  rcases turn i n σ3 H3 w3 with ⟨stop, qn⟩ | ⟨go, N, hN, step⟩
  · refine wpAny_passesOwn hp (thn (T.done X rfl rfl rfl hc i pins s3 σ3 H3 X.xe I3 (stat fr3) st3 stop) fun r s4 ⟨hr, I4⟩ => ?_)
    subst hr
    exact wpAny_execs_nil ⟨σ3, H3, I4, qn⟩
  · refine wpAny_passesOwn hp (thn (T.item X rfl rfl rfl hc i pins s3 σ3 H3 X.xe I3 (stat fr3) st3 go) fun r s4 ⟨u, hr, h4⟩ => ?_)
    subst hr
    refine wpAny_passesOwn hp (thn h4 fun _ s5 ⟨x, H5, I5, r5, y5, st5, fr5⟩ => ?_)
    have I5' := I5.pinned (stat fr5) (T.obj _ _ st5)
    refine wpAny_passesOwn hp (thn (hg _ s5 σ3 H5 x u _ I5' r5 (step x H5 y5)) fun _ s6 ⟨σ6, H6, I6, q6⟩ => ?_)
    refine wpAny_passesOwn hp (thn (hb _ s6 σ6 H6 _ I6 q6) fun f s7 q7 => ?_)
    have again : ∀ {σ7 : St} {H7 : Hp}, Inv X (pins ++ pinsAt fp s5.heap) σ7 H7 s7 → N σ7 H7 → ∃ m, m < n ∧ ∃ i σ' H', Inv X pins σ' H' s7 ∧ tn i s7.heap ∧ (∀ b ∈ fp, H' b = none) ∧ W i m σ' H' := fun {σ7 H7} I7 n7 => by
      obtain ⟨m', hm, w7⟩ := hN σ7 H7 n7
      refine ⟨m', hm, i + 1, σ7, H7, I7.unpinned, T.keep _ _ _ st5 fun b hb o e => (I7.pin (b, o) (List.mem_append_right _ (List.mem_append_right _ (mem_pinsAt hb e)))).1, fun b hb => ?_, w7⟩
      obtain ⟨o, e, d⟩ := T.obj _ _ st5 b hb
      exact (I7.pin (b, o) (List.mem_append_right _ (List.mem_append_right _ (mem_pinsAt hb e)))).2.1
    cases f with
    | next => obtain ⟨σ7, H7, I7, n7⟩ := q7; exact again I7 n7
    | cont => obtain ⟨σ7, H7, I7, n7⟩ := q7; exact again I7 n7
    | brk => obtain ⟨σ7, H7, I7, q7⟩ := q7; exact ⟨σ7, H7, I7.unpinned, q7⟩
    | ret v => obtain ⟨x7, σ7, H7, I7, r7, q7⟩ := q7; exact ⟨x7, σ7, H7, I7.unpinned, r7, q7⟩
end
/-! ### the forms one uses -/
/-- over a list that the body leaves as it is -/
theorem for_list {K : PySem.W.Frag} {a : Addr} {xs : List V} {g : TG} {tb : TS} {D : Ends} {σ : St} {H : Hp} (Pv : Nat → St → Hp → Prop) (h0 : Pv 0 σ H) (hl : ∀ i σ H, i ≤ xs.length → Pv i σ H → SqL K H a xs)
    (hs : ∀ i x σ H, xs[i]? = some x → Pv i σ H → g x σ H fun σ2 H2 => tb { D with nx := Pv (i + 1), ct := Pv (i + 1), bk := D.nx } σ2 H2) (hd : ∀ σ H, Pv xs.length σ H → D.nx σ H) :
    ∃ W : Nat → Nat → St → Hp → Prop, (∃ m, W 0 m σ H) ∧ ∀ i m σ H, W i m σ H →
      ((Itl K a).stop i H ∧ D.nx σ H) ∨ ((Itl K a).go i H ∧ ∃ N : St → Hp → Prop, (∀ σ' H', N σ' H' → ∃ m', m' < m ∧ W (i + 1) m' σ' H') ∧ ∀ x H', (Itl K a).yld i H x H' → g x σ H' fun σ2 H2 => tb { D with nx := N, ct := N, bk := D.nx } σ2 H2) := by
  refine ⟨fun i m σ H => m = xs.length - i ∧ i ≤ xs.length ∧ Pv i σ H, ⟨xs.length, by simp, Nat.zero_le _, h0⟩, ?_⟩
  rintro i m σ H ⟨rfl, hi, p⟩
  have q := hl i σ H hi p
  by_cases hlt : i < xs.length
  · refine .inr ⟨⟨xs, xs[i], q, by simp [hlt]⟩, Pv (i + 1), fun σ' H' p' => ⟨xs.length - (i + 1), by omega, rfl, hlt, p'⟩, fun x H' y => ?_⟩
    obtain ⟨e, y⟩ := y
    subst e
    exact hs i x σ _ (y xs q) p
  · have e : i = xs.length := by omega
    subst e
    exact .inl ⟨⟨xs, q, Nat.le_refl _⟩, hd σ H p⟩
theorem for_range {lo : Int} {n : Nat} {g : TG} {tb : TS} {D : Ends} {σ : St} {H : Hp} (Pv : Nat → St → Hp → Prop) (h0 : Pv 0 σ H)
    (hs : ∀ i σ H, i < n → Pv i σ H → g (.int (lo + i)) σ H fun σ2 H2 => tb { D with nx := Pv (i + 1), ct := Pv (i + 1), bk := D.nx } σ2 H2) (hd : ∀ σ H, Pv n σ H → D.nx σ H) :
    ∃ W : Nat → Nat → St → Hp → Prop, (∃ m, W 0 m σ H) ∧ ∀ i m σ H, W i m σ H →
      ((Itr lo n).stop i H ∧ D.nx σ H) ∨ ((Itr lo n).go i H ∧ ∃ N : St → Hp → Prop, (∀ σ' H', N σ' H' → ∃ m', m' < m ∧ W (i + 1) m' σ' H') ∧ ∀ x H', (Itr lo n).yld i H x H' → g x σ H' fun σ2 H2 => tb { D with nx := N, ct := N, bk := D.nx } σ2 H2) := by
  refine ⟨fun i m σ H => m = n - i ∧ i ≤ n ∧ Pv i σ H, ⟨n, by simp, Nat.zero_le _, h0⟩, ?_⟩
  rintro i m σ H ⟨rfl, hi, p⟩
  by_cases hlt : i < n
  · refine .inr ⟨hlt, Pv (i + 1), fun σ' H' p' => ⟨n - (i + 1), by omega, rfl, hlt, p'⟩, fun x H' y => ?_⟩
    obtain ⟨e, y⟩ := y
    subst e y
    exact hs i σ _ hlt p
  · have e : i = n := by omega
    subst e
    exact .inl ⟨Nat.le_refl _, hd σ H p⟩
end L2
namespace L2
open PySem PySem.Spec PyProof.Rows
abbrev R2 := V → V → Hp → VK → Prop
/-- a two-place operation on values: f is binaryOp op, inplaceOp op or compareOp op -/
def OpR (X : Cx) (f : Value → Value → Sem Value) (r : R2) : Prop :=
  ∀ (pins : List (Addr × Obj)) (s : Shared) (σ : St) (H : Hp) (x y : V) (v u : Value) (Q : VK), Inv X pins σ H s → RelV x v → RelV y u → r x y H Q →
    wpAny (model X.prog X.w) X.A (f v u) (EP X pins σ Q) X.xe s
/-- a one-place operation -/
def UnR (X : Cx) (f : Value → Sem Value) (r : V → Hp → VK → Prop) : Prop :=
  ∀ (pins : List (Addr × Obj)) (s : Shared) (σ : St) (H : Hp) (x : V) (v : Value) (Q : VK), Inv X pins σ H s → RelV x v → r x H Q →
    wpAny (model X.prog X.w) X.A (f v) (EP X pins σ Q) X.xe s
/-- a call of a value that is known (a builtin, a type) with values -/
def CallR (X : Cx) (f : Value) (r : List V → Hp → VK → Prop) : Prop :=
  ∀ (pins : List (Addr × Obj)) (s : Shared) (σ : St) (H : Hp) (xs : List V) (us : List Value) (Q : VK), Inv X pins σ H s → Vals xs us → r xs H Q →
    wpAny (model X.prog X.w) X.A (call f us) (EP X pins σ Q) X.xe s
/-- a value's truth -/
def TruR (X : Cx) (r : V → Hp → (Bool → Hp → Prop) → Prop) : Prop :=
  ∀ (pins : List (Addr × Obj)) (s : Shared) (σ : St) (H : Hp) (x : V) (v : Value) (Q : Bool → Hp → Prop), Inv X pins σ H s → RelV x v → r x H Q →
    wpAny (model X.prog X.w) X.A (truthy v) (TP X pins σ Q) X.xe s
def tOp (r : R2) (ta tb : TE) : TE := fun σ H Q => ta σ H fun x H1 => tb σ H1 fun y H2 => r x y H2 Q
def tUn (r : V → Hp → VK → Prop) (ta : TE) : TE := fun σ H Q => ta σ H fun x H1 => r x H1 Q
/-- ints in, under C, and a value out -/
def rI (C : Int → Int → Prop) (g : Int → Int → V) : R2 := fun x y H Q => ∃ i j, x = .int i ∧ y = .int j ∧ C i j ∧ Q (g i j) H
def rI0 (g : Int → Int → V) : R2 := fun x y H Q => ∃ i j, x = .int i ∧ y = .int j ∧ Q (g i j) H
def rU (g : Int → V) : V → Hp → VK → Prop := fun x H Q => ∃ i, x = .int i ∧ Q (g i) H
section
variable {X : Cx} {a b c : Expr} {ta tb tc : TE} {pos : Pos}
theorem binT (ha : PE X a ta) (hb : PE X b tb) {pins : List (Addr × Obj)} {s : Shared} {σ : St} {H : Hp} {R : V → V → Hp → Prop} (I : Inv X pins σ H s)
    (h : ta σ H fun x H1 => tb σ H1 fun y H2 => R x y H2) {Q : Value → Shared → Prop} {f : Value → Value → Sem Value}
    (hf : ∀ v u s2 x y H2, Inv X pins σ H2 s2 → RelV x v → RelV y u → R x y H2 → wpAny (model X.prog X.w) X.A (f v u) Q X.xe s2) :
    wpAny (model X.prog X.w) X.A (eval a X.env) (fun v s₁ => wpAny (model X.prog X.w) X.A (eval b X.env) (fun u s₂ => wpAny (model X.prog X.w) X.A (f v u) Q X.xe s₂) X.xe s₁) X.xe s := by
  refine thn (ha pins s σ H _ I h) fun v s1 ⟨x, H1, I1, r1, q1⟩ => ?_
  refine thn (hb pins s1 σ H1 _ I1 q1) fun u s2 ⟨y, H2, I2, r2, q2⟩ => ?_
  exact hf v u s2 x y H2 I2 r1 r2 q2
theorem pe_op {op : Operator} {r : R2} (ho : OpR X (binaryOp op) r) (ha : PE X a ta) (hb : PE X b tb) : PE X (.BinOp a op b pos) (tOp r ta tb) := by
  intro pins s σ H Q I h
  exact wpAny_BinOp (binT ha hb I h fun v u s2 x y H2 I2 rx ry q => ho pins s2 σ H2 x y v u Q I2 rx ry q)
theorem pe_un {op : UnaryOp} {r : V → Hp → VK → Prop} (ho : UnR X (unaryOp op) r) (ha : PE X a ta) : PE X (.UnaryOp op a pos) (tUn r ta) := by
  intro pins s σ H Q I h
  exact UnaryOp_ (thn (ha pins s σ H _ I h) fun v s1 ⟨x, H1, I1, r1, q1⟩ => ho pins s1 σ H1 x v Q I1 r1 q1)
/-! ### ints -/
theorem opI {f : Value → Value → Sem Value} {C : Int → Int → Prop} {g : Int → Int → Int}
    (rule : ∀ (i j : Int) (t u : Tok) (s : Shared) (Q : Value → Shared → Prop) (E : Value → Shared → Prop), C i j → Q (.int (g i j) s.toks) { s with toks := s.toks + 1 } → wpAny (model X.prog X.w) X.A (f (.int i t) (.int j u)) Q E s) :
    OpR X f (rI C fun i j => .int (g i j)) := by
  intro pins s σ H x y v u Q I rx ry h
  obtain ⟨i, j, rfl, rfl, hc, q⟩ := h
  obtain ⟨t, rfl⟩ := rx
  obtain ⟨t', rfl⟩ := ry
  exact rule i j t t' s _ _ hc ⟨.int (g i j), H, I.tok _, ⟨_, rfl⟩, q⟩
theorem opI0 {f : Value → Value → Sem Value} {g : Int → Int → Int}
    (rule : ∀ (i j : Int) (t u : Tok) (s : Shared) (Q : Value → Shared → Prop) (E : Value → Shared → Prop), Q (.int (g i j) s.toks) { s with toks := s.toks + 1 } → wpAny (model X.prog X.w) X.A (f (.int i t) (.int j u)) Q E s) :
    OpR X f (rI0 fun i j => .int (g i j)) := by
  intro pins s σ H x y v u Q I rx ry h
  obtain ⟨i, j, rfl, rfl, q⟩ := h
  obtain ⟨t, rfl⟩ := rx
  obtain ⟨t', rfl⟩ := ry
  exact rule i j t t' s _ _ ⟨.int (g i j), H, I.tok _, ⟨_, rfl⟩, q⟩
theorem opB0 {f : Value → Value → Sem Value} {g : Int → Int → Bool}
    (rule : ∀ (i j : Int) (t u : Tok) (s : Shared) (Q : Value → Shared → Prop) (E : Value → Shared → Prop), Q (.bool (g i j)) s → wpAny (model X.prog X.w) X.A (f (.int i t) (.int j u)) Q E s) :
    OpR X f (rI0 fun i j => .bl (g i j)) := by
  intro pins s σ H x y v u Q I rx ry h
  obtain ⟨i, j, rfl, rfl, q⟩ := h
  obtain ⟨t, rfl⟩ := rx
  obtain ⟨t', rfl⟩ := ry
  exact rule i j t t' s _ _ ⟨.bl (g i j), H, I, rfl, q⟩
def CDiv (i j : Int) : Prop := 0 < j ∧ j < 1073741824
def CMul (i j : Int) : Prop := (-(2 ^ 64) < i ∧ i < 2 ^ 64) ∨ (-(2 ^ 64) < j ∧ j < 2 ^ 64)
theorem CMul.ok {i j : Int} (h : CMul i j) : IntMulOk i j := by
  rcases h with ⟨h1, h2⟩ | ⟨h1, h2⟩
  · exact .of_left (intBits_le_64 h1 h2)
  · exact .of_right (intBits_le_64 h1 h2)
theorem op_add : OpR X (binaryOp .Add) (rI0 fun i j => .int (i + j)) := opI0 fun _ _ _ _ _ _ _ q => add_int q
theorem op_sub : OpR X (binaryOp .Sub) (rI0 fun i j => .int (i - j)) := opI0 fun _ _ _ _ _ _ _ q => sub_int q
theorem op_mul : OpR X (binaryOp .Mult) (rI CMul fun i j => .int (i * j)) := opI fun _ _ _ _ _ _ _ hc q => mul_int q hc.ok
/-- // by a positive divisor -/
theorem op_fdiv : OpR X (binaryOp .FloorDiv) (rI CDiv fun i j => .int (i / j)) := opI fun i j _ _ _ _ _ hc q => by
  have h1 : (0 : Int) < j := hc.1
  have h2 : j < 1073741824 := hc.2
  exact floordiv_int (by omega) (by rw [Int.fdiv_eq_ediv_of_nonneg i (by omega)]; exact q) (.inl (PyProof.noPylong_small (by omega)))
/-- % by a positive divisor of any size -/
theorem op_mod : OpR X (binaryOp .Mod) (rI (fun _ j => 0 < j) fun i j => .int (i % j)) := opI fun i j _ _ _ _ _ hc q => by
  have h1 : (0 : Int) < j := hc
  exact mod_int' (by omega) (by rw [Int.fmod_eq_emod_of_nonneg i (by omega)]; exact q)
theorem unI {f : Value → Sem Value} {g : Int → Int}
    (rule : ∀ (i : Int) (t : Tok) (s : Shared) (Q : Value → Shared → Prop) (E : Value → Shared → Prop), Q (.int (g i) s.toks) { s with toks := s.toks + 1 } → wpAny (model X.prog X.w) X.A (f (.int i t)) Q E s) :
    UnR X f (rU fun i => .int (g i)) := by
  intro pins s σ H x v Q I rx h
  obtain ⟨i, rfl, q⟩ := h
  obtain ⟨t, rfl⟩ := rx
  exact rule i t s _ _ ⟨.int (g i), H, I.tok _, ⟨_, rfl⟩, q⟩
theorem un_neg : UnR X (unaryOp .USub) (rU fun i => .int (-i)) := unI fun _ _ _ _ _ q => neg_int q
/-! ### bools among ints: n += (a < b) -/
end
/-! ### comparisons -/
/-- the scalars that == tells apart as data does -/
def scal : V → V → Bool
  | .non, .non => true | .non, .int _ => true | .int _, .non => true | .non, .bl _ => true | .bl _, .non => true | .non, .str _ => true | .str _, .non => true
  | .int _, .int _ => true | .bl _, .bl _ => true | .str _, .str _ => true | .byt _, .byt _ => true
  | .int _, .str _ => true | .str _, .int _ => true | .bl _, .str _ => true | .str _, .bl _ => true
  | _, _ => false
def rEq : R2 := fun x y H Q => scal x y = true ∧ Q (.bl (decide (x = y))) H
def rNe : R2 := fun x y H Q => scal x y = true ∧ Q (.bl (!decide (x = y))) H
theorem dec_int {i j : Int} : decide (V.int i = V.int j) = (i == j) := by
  rw [Bool.eq_iff_iff]
  simp
theorem dec_bl {i j : Bool} : decide (V.bl i = V.bl j) = (i == j) := by
  rw [Bool.eq_iff_iff]
  simp
theorem dec_str {i j : Str} : decide (V.str i = V.str j) = (i == j) := by
  rw [Bool.eq_iff_iff]
  simp
theorem dec_byt {i j : Array UInt8} : decide (V.byt i = V.byt j) = (i.toList == j.toList) := by
  rw [Bool.eq_iff_iff]
  cases i
  cases j
  simp
section
variable {X : Cx} {a b c : Expr} {ta tb tc : TE} {pos : Pos}
theorem fin_bl {pins : List (Addr × Obj)} {σ : St} {H : Hp} {s : Shared} {Q : VK} {k k' : Bool} (I : Inv X pins σ H s) (q : Q (.bl k) H) (e : k = k') : EP X pins σ Q (.bool k') s := by
  subst e
  exact ⟨.bl k, H, I, rfl, q⟩
theorem op_eq : OpR X (compareOp .Eq) rEq := by
  intro pins s σ H x y v u Q I rx ry h
  obtain ⟨hs, q⟩ := h
  cases x with
  | non =>
    cases rx
    cases y with
    | non => cases ry; exact PySem.EqNone.eq_none_none (fin_bl I q (by simp))
    | bl j => cases ry; exact PySem.EqNone.eq_none_bool (fin_bl I q (by simp))
    | int j => obtain ⟨t', rfl⟩ := ry; exact PySem.EqNone.eq_none_int (fin_bl I q (by simp))
    | str j => obtain ⟨t', rfl⟩ := ry; exact PySem.EqNone.eq_none_str (fin_bl I q (by simp))
    | _ => exact absurd (show false = true from hs) Bool.false_ne_true
  | bl i =>
    cases rx
    cases y with
    | non => cases ry; exact PySem.EqNone.eq_bool_none (fin_bl I q (by simp))
    | bl j => cases ry; exact eq_bool (fin_bl I q dec_bl)
    | str j => obtain ⟨t', rfl⟩ := ry; exact PySem.EqMixed.eq_bool_str (fin_bl I q (by simp))
    | _ => exact absurd (show false = true from hs) Bool.false_ne_true
  | int i =>
    obtain ⟨t, rfl⟩ := rx
    cases y with
    | non => cases ry; exact PySem.EqNone.eq_int_none (fin_bl I q (by simp))
    | int j => obtain ⟨t', rfl⟩ := ry; exact eq_int (fin_bl I q dec_int)
    | str j => obtain ⟨t', rfl⟩ := ry; exact PySem.EqMixed.eq_int_str (fin_bl I q (by simp))
    | _ => exact absurd (show false = true from hs) Bool.false_ne_true
  | str i =>
    obtain ⟨t, rfl⟩ := rx
    cases y with
    | non => cases ry; exact PySem.EqNone.eq_str_none (fin_bl I q (by simp))
    | bl j => cases ry; exact PySem.EqMixed.eq_str_bool (fin_bl I q (by simp))
    | int j => obtain ⟨t', rfl⟩ := ry; exact PySem.EqMixed.eq_str_int (fin_bl I q (by simp))
    | str j => obtain ⟨t', rfl⟩ := ry; exact eq_str (fin_bl I q dec_str)
    | _ => exact absurd (show false = true from hs) Bool.false_ne_true
  | byt i =>
    obtain ⟨t, rfl⟩ := rx
    cases y with
    | byt j => obtain ⟨t', rfl⟩ := ry; exact PySem.W.eq_bytes (fin_bl I q dec_byt)
    | _ => exact absurd (show false = true from hs) Bool.false_ne_true
  | _ => cases y <;> exact absurd (show false = true from hs) Bool.false_ne_true
theorem op_ne : OpR X (compareOp .NotEq) rNe := by
  intro pins s σ H x y v u Q I rx ry h
  obtain ⟨hs, q⟩ := h
  cases x with
  | non =>
    cases rx
    cases y with
    | non => cases ry; exact PySem.EqNone.ne_none_none (fin_bl I q (by simp))
    | bl j => cases ry; exact PySem.EqNone.ne_none_bool (fin_bl I q (by simp))
    | int j => obtain ⟨t', rfl⟩ := ry; exact PySem.EqNone.ne_none_int (fin_bl I q (by simp))
    | str j => obtain ⟨t', rfl⟩ := ry; exact PySem.EqNone.ne_none_str (fin_bl I q (by simp))
    | _ => exact absurd (show false = true from hs) Bool.false_ne_true
  | bl i =>
    cases rx
    cases y with
    | non => cases ry; exact PySem.EqNone.ne_bool_none (fin_bl I q (by simp))
    | bl j => cases ry; exact ne_bool (fin_bl I q (congrArg not dec_bl))
    | str j => obtain ⟨t', rfl⟩ := ry; exact PySem.EqMixed.ne_bool_str (fin_bl I q (by simp))
    | _ => exact absurd (show false = true from hs) Bool.false_ne_true
  | int i =>
    obtain ⟨t, rfl⟩ := rx
    cases y with
    | non => cases ry; exact PySem.EqNone.ne_int_none (fin_bl I q (by simp))
    | int j => obtain ⟨t', rfl⟩ := ry; exact ne_int (fin_bl I q (congrArg not dec_int))
    | str j => obtain ⟨t', rfl⟩ := ry; exact PySem.EqMixed.ne_int_str (fin_bl I q (by simp))
    | _ => exact absurd (show false = true from hs) Bool.false_ne_true
  | str i =>
    obtain ⟨t, rfl⟩ := rx
    cases y with
    | non => cases ry; exact PySem.EqNone.ne_str_none (fin_bl I q (by simp))
    | bl j => cases ry; exact PySem.EqMixed.ne_str_bool (fin_bl I q (by simp))
    | int j => obtain ⟨t', rfl⟩ := ry; exact PySem.EqMixed.ne_str_int (fin_bl I q (by simp))
    | str j => obtain ⟨t', rfl⟩ := ry; exact ne_str (fin_bl I q (congrArg not dec_str))
    | _ => exact absurd (show false = true from hs) Bool.false_ne_true
  | byt i =>
    obtain ⟨t, rfl⟩ := rx
    cases y with
    | byt j => obtain ⟨t', rfl⟩ := ry; exact PySem.W.ne_bytes (fin_bl I q (congrArg not dec_byt))
    | _ => exact absurd (show false = true from hs) Bool.false_ne_true
  | _ => cases y <;> exact absurd (show false = true from hs) Bool.false_ne_true
theorem op_lt : OpR X (compareOp .Lt) (rI0 fun i j => .bl (decide (i < j))) := opB0 fun _ _ _ _ _ _ _ q => lt_int q
theorem op_gt : OpR X (compareOp .Gt) (rI0 fun i j => .bl (decide (j < i))) := opB0 fun _ _ _ _ _ _ _ q => gt_int q
theorem nomark (b : Expr) {op : CmpOp} (h : op ≠ .In := by decide) (h2 : op ≠ .NotIn := by decide) : behindInMarks op b = false := by
  have e1 : (op == CmpOp.In) = false := by cases op <;> first | rfl | exact absurd rfl h
  have e2 : (op == CmpOp.NotIn) = false := by cases op <;> first | rfl | exact absurd rfl h2
  cases b <;> simp [behindInMarks, e1, e2]
/-- a comparison as a value; hm: nomark b, or (for in, not in) by with_unfolding_all rfl -/
theorem pe_cmpR {op : CmpOp} {r : R2} (ho : OpR X (compareOp op) r) (ha : PE X a ta) (hb : PE X b tb) (hm : behindInMarks op b = false) : PE X (.Compare a [op] [b] pos) (tOp r ta tb) := by
  intro pins s σ H Q I h
  exact wpAny_Compare1 (binT ha hb I h fun v u s2 x y H2 I2 rx ry q => ho pins s2 σ H2 x y v u Q I2 rx ry q) hm
/-- a reading of a value as a test -/
def tTest (t : TE) : TT := fun σ H Q => t σ H fun x H' => ∃ k, x = .bl k ∧ Q k H'
theorem pt_cmpR {op : CmpOp} {r : R2} (ho : OpR X (compareOp op) r) (ha : PE X a ta) (hb : PE X b tb) (hm : behindInMarks op b = false) : PT X (.Compare a [op] [b] pos) (tTest (tOp r ta tb)) := by
  intro pins s σ H Q I h
  refine wpAny_isTrue_Compare1 (thn (ha pins s σ H _ I h) fun v s1 ⟨x, H1, I1, r1, q1⟩ => thn (hb pins s1 σ H1 _ I1 q1) fun u s2 ⟨y, H2, I2, r2, q2⟩ =>
    thn (ho pins s2 σ H2 x y v u _ I2 r1 r2 q2) fun c s3 ⟨z, H3, I3, r3, k, e, q3⟩ => ?_) hm
  subst e
  cases r3
  exact wpAny_truthy_bool ⟨H3, I3, q3⟩
/-! ### truth -/
/-- a value's truth by the abstract heap -/
def TruV (K : PySem.W.Frag) (x : V) (H : Hp) (k : Bool) : Prop :=
  match x with
  | .non => k = false
  | .bl b => k = b
  | .int i => k = (i != 0)
  | .str y => y.length ≤ sizeLine ∧ k = ((y.length : Int) != 0)
  | .byt y => y.size ≤ sizeLine ∧ k = ((y.size : Int) != 0)
  | .ref p => (∃ xs, SqL K H p xs ∧ k = !xs.isEmpty) ∨ (∃ xs, SqT K H p xs ∧ k = !xs.isEmpty) ∨ ∃ kvs, H p = some (.dK kvs) ∧ k = !kvs.isEmpty
  | _ => False
theorem isEmpty_kv {κ : Type} {kvs : List (κ × V)} {vs : List (κ × Value)} (r : KV kvs vs) : (!vs.isEmpty) = !kvs.isEmpty := by
  cases r <;> rfl
theorem isEmpty_of {xs : List V} {its : List Value} (r : Vals xs its) : (!its.toArray.isEmpty) = !xs.isEmpty := by
  cases r <;> simp
theorem line63 : (sizeLine : Nat) < 2 ^ 63 := by rw [sizeLine_eq]; decide
theorem tru_ok : TruR X (fun x H Q => ∃ k, TruV X.K x H k ∧ Q k H) := by
  intro pins s σ H x v Q I rx h
  obtain ⟨k, e, q⟩ := h
  have hl := line63
  have hs : sizeLine = 16777216 := sizeLine_eq
  cases x with
  | non =>
    cases rx
    have e' : k = false := e
    subst e'
    exact truthy_none ⟨H, I, q⟩
  | bl b =>
    cases rx
    have e' : k = b := e
    subst e'
    exact wpAny_truthy_bool ⟨H, I, q⟩
  | int i =>
    obtain ⟨t, rfl⟩ := rx
    have e' : k = (i != 0) := e
    subst e'
    exact PySem.P.truthy_int ⟨H, I, q⟩
  | str y =>
    obtain ⟨t, rfl⟩ := rx
    obtain ⟨hy, e'⟩ : y.length ≤ sizeLine ∧ k = ((y.length : Int) != 0) := e
    subst e'
    exact PySem.P.truthy_str (by omega) ⟨H, I.tok _, q⟩
  | byt y =>
    obtain ⟨t, rfl⟩ := rx
    obtain ⟨hy, e'⟩ : y.size ≤ sizeLine ∧ k = ((y.size : Int) != 0) := e
    subst e'
    exact PySem.W.truthy_bytes (by omega) ⟨H, I.tok _, q⟩
  | ref p =>
    cases rx
    have e' : (∃ xs, SqL X.K H p xs ∧ k = !xs.isEmpty) ∨ (∃ xs, SqT X.K H p xs ∧ k = !xs.isEmpty) ∨ ∃ kvs, H p = some (.dK kvs) ∧ k = !kvs.isEmpty := e
    rcases e' with ⟨xs, hx, e'⟩ | ⟨xs, hx, e'⟩ | ⟨kvs, hx, e'⟩
    · subst e'
      obtain ⟨its, r, pl, hz⟩ := I.list hx
      have hlen := r.length
      exact wpAny_truthy_list pl.isList (by simp only [List.size_toArray]; omega) ⟨H, I.tok _, by rw [isEmpty_of r]; exact q⟩
    · subst e'
      obtain ⟨its, r, pl, hz⟩ := I.tuple hx
      have hlen := r.length
      exact truthy_tuple pl (by simp only [List.size_toArray]; omega) ⟨H, I.tok _, by rw [isEmpty_of r]; exact q⟩
    · subst e'
      obtain ⟨hz, hS, vs, r, m⟩ : kvs.length ≤ sizeLine ∧ (p == sysModules) = false ∧ ∃ vs, KV kvs vs ∧ s.heap.DictOf (mixKind X.prog X.w) p vs := I.hok p _ hx
      have hlen : kvs.length = vs.length := Paired.length r
      exact wpAny_truthy_dict hS m (by omega) ⟨H, I.tok _, by rw [isEmpty_kv r]; exact q⟩
  | _ => exact (show False from e).elim
/-- any expression whose test is its value's truth (a name, a call, a subscript, a field ..: he by fun _ => rfl) -/
theorem pt_truth (ha : PE X a ta) (he : ∀ whole, isTrue a X.env whole = (do let v ← whole; standAt a.pos; holding [v] (truthy v))) :
    PT X a (fun σ H Q => ta σ H fun x H' => ∃ k, TruV X.K x H' k ∧ Q k H') := by
  intro pins s σ H Q I h
  exact isTrue_plain (thn (ha pins s σ H _ I h) fun v s1 ⟨x, H1, I1, r1, q1⟩ => tru_ok pins s1 σ H1 x v Q I1 r1 q1) (he _)
/-! ### strs and bytes -/
/-! ### scalar builtins, by CallR -/
theorem vals1 {x : V} {us : List Value} (r : Vals [x] us) : ∃ u, us = [u] ∧ RelV x u := by
  cases r with
  | cons r1 r2 => cases r2; exact ⟨_, rfl, r1⟩
end
end L2
namespace L2
open PySem PySem.Spec PyProof.Rows
/-! ### an instance, its attributes a map -/
section
variable {prog : Program} {w : World} {A : Around} {E : Value → Shared → Prop} {s : Shared} {K : PySem.W.Frag} {x dx C f : Addr} {mA : Str → Option Value} {name : Str} {v : Value}
end
/-! ### the attributes as a list of pairs -/
theorem RelO.some_of {v : V} {o : Option Value} (r : RelO (some v) o) : ∃ u, o = some u ∧ RelV v u := by
  cases o with
  | none => exact (show False from r).elim
  | some u => exact ⟨u, rfl, r⟩
section
variable {P : Program} {w : World} {H H' : Hp} {h h' : Heap} {a C dx : Addr} {fs fs' : List (Str × V)}
end
/-! ### what of the text a class must have -/
section
variable {X : Cx} {pins : List (Addr × Obj)} {σ : St} {H : Hp} {s : Shared} {a C dx : Addr} {fs : List (Str × V)} {f : Str} {v : V} {A : Around} {E : Value → Shared → Prop}
end
/-! ### readings and rules -/
section
variable {X : Cx} {o e value : Expr} {f : Str} {pos pos' tpos : Pos} {ta tv : TE}
end
/-! ### isinstance -/
section
variable {X : Cx} {pins : List (Addr × Obj)} {σ : St} {H : Hp} {s : Shared} {A : Around} {E : Value → Shared → Prop} {Q : Value → Shared → Prop} {c : Value} {b : Bool}
end
end L2
namespace L2
open PySem PySem.Spec PyProof.Rows
/-! ### room -/
structure Room (k : Nat) (A : Around) : Prop where
  hd : A.handled = none
  dp : A.depth + 3 * k + 5 < recursionLimit
  un : A.units + 16 * k + 200 < cLine
theorem Room.mono {j k : Nat} {A : Around} (r : Room k A) (h : j ≤ k) : Room j A := ⟨r.hd, by have := r.dp; omega, by have := r.un; omega⟩
theorem Room.deeper {k : Nat} {A : Around} (r : Room (k + 1) A) (env : Env) : Room k (A.deeper env) :=
  ⟨r.hd, by have := r.dp; show A.depth + 1 + 3 * k + 5 < _; omega, by have := r.un; show A.units + 3 + 16 * k + 200 < _; omega⟩
theorem Room.depth {k : Nat} {A : Around} (r : Room k A) : A.depth < recursionLimit := by have := r.dp; omega
theorem Room.units {k : Nat} {A : Around} (r : Room k A) : A.units + 64 < cLine := by have := r.un; omega
/-! ### argument lists and displays -/
def tNil : TA := fun _ H Q => Q [] H
def tCons (ta : TE) (tr : TA) : TA := fun σ H Q => ta σ H fun x H1 => tr σ H1 fun xs H2 => Q (x :: xs) H2
section
variable {X : Cx} {e : Expr} {es : List Expr} {te : TE} {t : TA} {pos : Pos}
theorem pa_nil : PA X [] tNil := fun _ _ _ _ H Q I h => Calls.spliced_nil ⟨[], H, I, .nil, h⟩
theorem pa_cons (ha : PE X e te) (hr : PA X es t) (hs : starEach (e :: es) X.env = (false, eval e X.env) :: starEach es X.env := by rfl) : PA X (e :: es) (tCons te t) := by
  intro pos pins s σ H Q I h
  rw [hs]
  show wpAny _ _ (spliced ((false, eval e X.env) :: backTo pos (starEach es X.env))) _ _ s
  refine Calls.spliced_cons (thn (ha pins s σ H _ I h) fun u s1 ⟨x, H1, I1, r1, q1⟩ => ?_)
  exact thn (hr pos pins s1 σ H1 _ I1 q1) fun us s2 ⟨xs, H2, I2, r2, q2⟩ => ⟨x :: xs, H2, I2, .cons r1 r2, q2⟩
/-- a tuple, a list of written items -/
def tTup (t : TA) : TE := fun σ H Q => t σ H fun xs H1 => xs.length ≤ sizeLine ∧ ∀ p, H1 p = none → Q (.ref p) (upd H1 p (.tup xs))
def tLst (t : TA) : TE := fun σ H Q => t σ H fun xs H1 => xs.length ≤ sizeLine ∧ ∀ p, H1 p = none → Q (.ref p) (upd H1 p (.lst xs))
theorem pe_tup {x1} (h : PA X es t) : PE X (.Tuple es x1 pos) (tTup t) := by
  intro pins s σ H Q I hq
  refine wpAny_Tuple_spliced (thn (h pos pins s σ H _ I hq) fun us s1 ⟨xs, H1, I1, r, z, q⟩ => ⟨by rw [← r.length]; exact z, ?_⟩)
  have hf : H1 s1.heap.objs.size = none := I1.hok.fresh (Nat.le_refl _)
  refine ⟨.ref s1.heap.objs.size, upd H1 s1.heap.objs.size (.tup xs), I1.laid (t' := s1.toks) (fun b u e => Heap.get?_push_of_some _ e) (Nat.le_refl _) ?_, rfl, q _ hf⟩
  exact ⟨z, us, r, ⟨_, Heap.get?_push_size _ rfl, rfl, _, rfl⟩⟩
theorem pe_lst (h : PA X es t) : PE X (.List es pos) (tLst t) := by
  intro pins s σ H Q I hq
  refine wpAny_List_spliced (thn (h pos pins s σ H _ I hq) fun us s1 ⟨xs, H1, I1, r, z, q⟩ => ⟨by rw [← r.length]; exact z, ?_⟩)
  have hf : H1 s1.heap.objs.size = none := I1.hok.fresh (Nat.le_refl _)
  refine ⟨.ref s1.heap.objs.size, upd H1 s1.heap.objs.size (.lst xs), I1.laid (t' := s1.toks) (fun b u e => Heap.get?_push_of_some _ e) (Nat.le_refl _) ?_, rfl, q _ hf⟩
  exact ⟨z, us, 0, r, Heap.get?_push_size _ rfl⟩
end
/-! ### what a def promises -/
/-- a def's promise: the bound arguments in the parameters' order, the heap, the wanted end, the wanted exception -/
abbrev Sp := List V → Hp → VK → XK → Prop
/-- how an exception lies behind a call (file 08 gives it): the callers' frames, abstract heap and state ahead of the call, the wish, the exception, the state -/
abbrev CXT := List Env → Hp → Shared → XK → Value → Shared → Prop
/-- the state at a call -/
structure Env0 (P : Program) (w : World) (K : PySem.W.Frag) (mg : Str → Option Value) (base : Heap) (A : Around) (outer : List Env) (s : Shared) (H : Hp) : Prop where
  frames : A.frames = some outer
  mod : Mod K mg base
  bs : ∀ b o, base.get? b = some o → s.heap.get? b = some o ∧ H b = none
  bsz : base.objs.size ≤ s.heap.objs.size
  funs : s.heap.FunFrames base outer
  frf : ∀ b ∈ frs outer, H b = none
  hok : HOk P w H s.heap
  bare : AllBare s.gens
/-- a call's end -/
def CE (outer : List Env) (P : Program) (w : World) (H : Hp) (s : Shared) (Q : VK) (u : Value) (s' : Shared) : Prop :=
  ∃ v H', s'.os = s.os ∧ AllBare s'.gens ∧ Un (frs outer) [] H H' s.heap s'.heap ∧ HOk P w H' s'.heap ∧ RelV v u ∧ Q v H'
def CR (CX : CXT) (outer : List Env) (P : Program) (w : World) (H : Hp) (s : Shared) (Q : VK) (E : XK) (r : Result) (s' : Shared) : Prop :=
  match r with
  | .ok (.ret u) => CE outer P w H s Q u s'
  | .ok _ => False
  | .error e => CX outer H s E e s'
structure FnOk (P : Program) (w : World) (K : PySem.W.Frag) (mg : Str → Option Value) (base : Heap) (CX : CXT) (k : Nat) (f : Addr) (fd : FuncData) (ps : List Str) (sp : Sp) : Prop where
  len : ∀ vs H Q E, sp vs H Q E → vs.length = ps.length
  run : ∀ (A : Around) (outer : List Env) (s : Shared) (H : Hp) (args : Args) (us : List Value) (vs : List V) (Q : VK) (E : XK), Room k A → Env0 P w K mg base A outer s H → BindsTo s fd args (ps.zip us) → Vals vs us → sp vs H Q E →
    codeAny (model P w) A (.call (.ref f) args) (CR CX outer P w H s Q E) s
section
variable {X : Cx} {pins : List (Addr × Obj)} {σ : St} {H : Hp} {s s' : Shared}
/-- from a body: what a callee wants -/
theorem Inv.env0 (I : Inv X pins σ H s) : Env0 X.prog X.w X.K X.mg X.base X.A X.stack s H :=
  ⟨I.ok.frames, I.ok.mod, I.bs, Nat.le_trans I.ok.bsz I.sz, I.stack, I.stkFree, I.hok, I.bare⟩
/-- behind a call -/
theorem Inv.after {Q : VK} {u : Value} (I : Inv X pins σ H s) (h : CE X.stack X.prog X.w H s Q u s') : EP X pins σ Q u s' := by
  obtain ⟨v, H', os, bare, un, hok, r, q⟩ := h
  obtain ⟨hh, g, d, t, os'⟩ := s'
  obtain rfl : os' = s.os := os
  exact ⟨v, H', I.call (h' := hh) (g' := g) (d' := d) (t' := t) (ch := []) un hok bare (fun b z => absurd z (by simp)), r, q⟩
end
/-! ### calls -/
/-- f(..): the written arguments, then the defaults dvs; E: what is wanted of an exception -/
def tCall (sp : Sp) (dvs : List V) (E : XK) (t : TA) : TE := fun σ H Q => t σ H fun vs H1 => sp (vs ++ dvs) H1 Q E
/-- how the parameters are bound: us the positional arguments, kw the keywords' values by name, ds the defaults that fill up -/
def Binds (K : PySem.W.Frag) (fd : FuncData) (ps : List Str) (ds : List Value) : Prop :=
  ∀ (s : Shared) (us : List Value), K.In s.heap → (us ++ ds).length = ps.length → BindsTo s fd ⟨us, []⟩ (ps.zip (us ++ ds))
/-- every parameter is given -/
theorem Binds.all {K : PySem.W.Frag} {fd : FuncData} {ps : List Str} (h : ∀ us : List Value, us.length = ps.length → bindArgs fd ⟨us, []⟩ = pure (ps.zip us)) : Binds K fd ps [] := fun s us _ hl => by
  rw [List.append_nil] at hl ⊢
  exact .of_eq (h us hl)
/-- an exception of a callee reaches what this body wants of exceptions -/
def Passes (CX : CXT) (X : Cx) (E : XK) : Prop := ∀ (pins : List (Addr × Obj)) (σ : St) (H : Hp) (s : Shared) (e : Value) (s' : Shared), Inv X pins σ H s → CX X.stack H s E e s' → X.xe e s'
section
variable {X : Cx} {CX : CXT} {k : Nat} {f C : Addr} {fd : FuncData} {ps : List Str} {sp : Sp} {dvs : List V} {ds : List Value} {E : XK} {x m : Str} {p pos apos : Pos} {e o : Expr} {es : List Expr} {ta : TE} {t : TA}
/-- the callee runs -/
theorem run_fn {pins : List (Addr × Obj)} {σ : St} {H : Hp} {s : Shared} {Q : VK} {us : List Value} {vs : List V} (F : FnOk X.prog X.w X.K X.mg X.base CX k f fd ps sp) (hr : Room k X.A) (hb : Binds X.K fd ps ds) (hd : Vals dvs ds) (hx : Passes CX X E)
    (I : Inv X pins σ H s) (r : Vals vs us) (h : sp (vs ++ dvs) H Q E) : wpAny (model X.prog X.w) X.A (call (.ref f) us) (EP X pins σ Q) X.xe s := by
  have r2 : Vals (vs ++ dvs) (us ++ ds) := r.append hd
  have hl : (us ++ ds).length = ps.length := by rw [← r2.length]; exact F.len _ _ _ _ h
  refine wpAny_call (codeAny_mono (F.run X.A X.stack s H ⟨us, []⟩ (us ++ ds) (vs ++ dvs) Q E hr I.env0 (hb s us I.kIn hl) r2 h) fun r s' hq => ?_)
  cases r with
  | error e => exact hx pins σ H s e s' I hq
  | ok fl =>
    cases fl with
    | ret u => exact I.after hq
    | next => exact False.elim hq
    | brk => exact False.elim hq
    | cont => exact False.elim hq
theorem pe_call (F : FnOk X.prog X.w X.K X.mg X.base CX k f fd ps sp) (hr : Room k X.A) (hg : Gl X x) (hm : X.mg x = some (.ref f)) (hk : PySem.W.keepIn X.K (.ref f) = true) (hb : Binds X.K fd ps ds) (hd : Vals dvs ds) (hx : Passes CX X E)
    (ha : PA X (e :: es) t) (hdb : (x == ("__debug__" : Str)) = false := by decide) (he : starEach (e :: es) X.env = (false, eval e X.env) :: starEach es X.env := by rfl) (hpl : (backTo pos (starEach es X.env)).any (·.1) = false := by rfl) :
    PE X (.Call (.Name x p) (e :: es) [] pos) (tCall sp dvs E t) := by
  intro pins s σ H Q I h
  refine wpAny_Call_Name_kw (ld_glob I hg hm ?_ hdb)
  refine PySem.W.callWith_K (h₀ := X.base) I.ok.mod.kin hk (thn (ha pos pins s σ H _ I h) fun us s1 ⟨vs, H1, I1, r, q⟩ => ⟨I1.kIn, ?_⟩) he hpl
  exact run_fn F hr hb hd hx I1 r q
end
/-! ### keywords -/
section
variable {X : Cx} {CX : CXT} {k : Nat} {f C : Addr} {fd : FuncData} {ps ks : List Str} {sp : Sp} {E : XK} {x m : Str} {p pos apos kpos : Pos} {e o : Expr} {es : List Expr} {kws : List Keyword} {te ta : TE} {t tk : TA} {nm : Option Str}
variable {g : List Value → List Value → List Value} {gV : List V → List V → List V}
end
/-! ### a def's body keeps its promise -/
/-- names: the parameters first -/
structure FnScope (N P : List Str) (sc : Scope) : Prop where
  kind : sc.kind = .function
  co : sc.isCoroutine = false
  gen : sc.isGenerator = false
  nd : N.Nodup
  pre : N.take P.length = P
  par : ∀ x ∈ P, sc.names.lookup x = some .local ∨ sc.names.lookup x = some .cell
  nofree : ∀ y ∈ sc.names, y.2 ≠ .free
theorem bindL_out {kindOf : Str → Option NameKind} {x : Str} : ∀ {binds : List (Str × Value)} {m : Str → Option Value}, (∀ v, (x, v) ∉ binds) → bindL kindOf binds m x = m x
  | [], _, _ => rfl
  | (n, v) :: r, m, h => by
    unfold bindL
    rw [bindL_out fun w hw => h w (List.mem_cons_of_mem _ hw)]
    split
    · have : x ≠ n := by rintro rfl; exact h v List.mem_cons_self
      simp [this]
    · rfl
theorem bindC_out {kindOf : Str → Option NameKind} {x : Str} : ∀ {binds : List (Str × Value)} {m : Str → Option Value}, (∀ v, (x, v) ∉ binds) → bindC kindOf binds m x = m x
  | [], _, _ => rfl
  | (n, v) :: r, m, h => by
    unfold bindC
    rw [bindC_out fun w hw => h w (List.mem_cons_of_mem _ hw)]
    split
    · rfl
    · have : x ≠ n := by rintro rfl; exact h v List.mem_cons_self
      simp [this]
theorem bindL_get {kindOf : Str → Option NameKind} {x : Str} {v : Value} : ∀ {P : List Str} {vs : List Value} {i : Nat} {m : Str → Option Value}, P.Nodup → P[i]? = some x → vs[i]? = some v → kindOf x = some .local →
    bindL kindOf (P.zip vs) m x = some v
  | [], _, _, _, _, h, _, _ => by simp at h
  | _ :: _, [], _, _, _, _, h, _ => by simp at h
  | p :: P, w :: vs, 0, m, nd, h1, h2, hk => by
    simp at h1 h2; subst h1; subst h2
    show bindL kindOf ((p, w) :: P.zip vs) m p = _
    unfold bindL
    rw [bindL_out fun v hv => (List.nodup_cons.mp nd).1 (List.of_mem_zip hv).1, if_pos hk]
    simp
  | p :: P, w :: vs, i + 1, m, nd, h1, h2, hk => by
    show bindL kindOf ((p, w) :: P.zip vs) m x = _
    unfold bindL
    exact bindL_get (i := i) (List.nodup_cons.mp nd).2 (by simpa using h1) (by simpa using h2) hk
theorem bindC_get {kindOf : Str → Option NameKind} {x : Str} {v : Value} : ∀ {P : List Str} {vs : List Value} {i : Nat} {m : Str → Option Value}, P.Nodup → P[i]? = some x → vs[i]? = some v → kindOf x ≠ some .local →
    bindC kindOf (P.zip vs) m x = some v
  | [], _, _, _, _, h, _, _ => by simp at h
  | _ :: _, [], _, _, _, _, h, _ => by simp at h
  | p :: P, w :: vs, 0, m, nd, h1, h2, hk => by
    simp at h1 h2; subst h1; subst h2
    show bindC kindOf ((p, w) :: P.zip vs) m p = _
    unfold bindC
    rw [bindC_out fun v hv => (List.nodup_cons.mp nd).1 (List.of_mem_zip hv).1, if_neg hk]
    simp
  | p :: P, w :: vs, i + 1, m, nd, h1, h2, hk => by
    show bindC kindOf ((p, w) :: P.zip vs) m x = _
    unfold bindC
    exact bindC_get (i := i) (List.nodup_cons.mp nd).2 (by simpa using h1) (by simpa using h2) hk
/-- the names' values at the entry -/
def start (N : List Str) (vs : List V) : St := vs.map some ++ List.replicate (N.length - vs.length) none
/-- the context of a def's body, at its entry; an exception leaves the frame, then lies as CX says -/
def cxOf (CX : CXT) (P : Program) (w : World) (K : PySem.W.Frag) (mg : Str → Option Value) (base : Heap) (N : List Str) (qual : Str) (scope : Scope) (f : Addr) (cd : Value) (A : Around) (outer : List Env) (s : Shared) (H : Hp) (E : XK) : Cx where
  prog := P
  w := w
  K := K
  mg := mg
  base := base
  A := A.deeper (envOfC qual scope s.heap.objs.size f cd)
  N := N
  s_0 := s
  H_0 := H
  env := envOfC qual scope s.heap.objs.size f cd
  outer := outer
  stack := envOfC qual scope s.heap.objs.size f cd :: outer
  ex := []
  calm := true
  fn := fun _ => true
  pn := []
  xe := fun e s' => wpAny (model P w) (A.deeper (envOfC qual scope s.heap.objs.size f cd)) (leaving (envOfC qual scope s.heap.objs.size f cd) e) (fun _ s'' => CX outer H s E e s'') (fun e' s'' => CX outer H s E e' s'') s'
theorem cell_has {sc : Scope} {n : Nat} {x : Str} (h : sc.names.lookup x = some .cell) : ∃ c, (cellsFrom n sc.names []).lookup x = some c := by
  have q := PySem.W.cellsFrom_some sc.names n [] (.inl h)
  exact Option.isSome_iff_exists.mp q
theorem inv_start {CX : CXT} {P : Program} {w : World} {K : PySem.W.Frag} {mg : Str → Option Value} {base : Heap} {N ps : List Str} {qual : Str} {scope : Scope} {f : Addr} {cd : Value} {A : Around} {outer : List Env} {s s1 : Shared} {H : Hp} {E : XK} {us : List Value} {vs : List V}
    (S : FnScope N ps scope) (hd : A.handled = none) (e0 : Env0 P w K mg base A outer s H) (hl : vs.length = ps.length) (r : Vals vs us)
    (x : InCallC s s.heap.objs.size (bindL (envOfC qual scope s.heap.objs.size f cd).kindOf (ps.zip us) fun _ => none) (cellsFrom (s.heap.objs.size + 1) scope.names []) (bindC (envOfC qual scope s.heap.objs.size f cd).kindOf (ps.zip us) fun _ => none) s1) :
    Inv (cxOf CX P w K mg base N qual scope f cd A outer s H E) [] (start N vs) H s1 := by
  have hpl : ps.length ≤ N.length := by have := congrArg List.length S.pre; rw [List.length_take] at this; omega
  obtain ⟨h1, tk, rfl, hk⟩ := x.done
  have noA : ∀ b : Addr, b ∉ (cxOf CX P w K mg base N qual scope f cd A outer s H E).ex := fun b z => absurd (show b ∈ ([] : List Addr) from z) (by simp)
  refine ⟨⟨e0.mod, S.kind, rfl, rfl, Nat.le_refl _, fun y z c h1 h2 => ?_, fun y hy => ?_, fun y c _ h => ?_, fun _ => hd, Around.frames_deeper e0.frames, .inr ⟨rfl, rfl⟩, fun b z => absurd z (noA b), e0.bs, e0.bsz, fun b _ _ => noA b, fun b z => absurd z (noA b), e0.funs, e0.frf⟩,
    rfl, e0.bare, Un.kept hk, ⟨_, x.toInCall.ns, fun i y v h1 h2 h3 => ?_⟩, fun y c h => ⟨_, x.cell y c h⟩, e0.hok.fresh (Nat.le_refl _), fun y c h => ?_, fun p hp => absurd (show p ∈ ([] : List (Addr × Obj)) from hp) (by simp), e0.hok.kept hk, ?_⟩
  · exact name_of_addr x.apart (PySem.mem_of_lookup h1) (PySem.mem_of_lookup h2)
  · have hy : scope.names.lookup y = some .cell ∨ scope.names.lookup y = some .free := hy
    rcases hy with hy | hy
    · exact cell_has hy
    · exact absurd rfl (S.nofree _ (PySem.mem_of_lookup hy))
  · exact Nat.le_of_lt (x.above y c (PySem.mem_of_lookup h))
  · have hi : i < vs.length := by
      unfold start at h2
      by_cases hi : i < vs.length
      · exact hi
      · rw [List.getElem?_append_right (by simpa using hi)] at h2
        rw [List.getElem?_replicate] at h2
        split at h2 <;> cases h2
    have ha : vs[i]? = some v := by
      unfold start at h2
      rw [List.getElem?_append_left (by simpa using hi), List.getElem?_map] at h2
      cases e : vs[i]? with
      | none => rw [e] at h2; cases h2
      | some a => rw [e] at h2; cases h2; rfl
    obtain ⟨u, hu, rv⟩ := r.get ha
    have hp : ps[i]? = some y := by
      rw [← S.pre, List.getElem?_take_of_lt (by omega)]; exact h1
    have ndP : ps.Nodup := by rw [← S.pre]; exact S.nd.sublist (List.take_sublist _ _)
    refine ⟨u, rv, ?_⟩
    rcases S.par y (List.mem_of_getElem? hp) with k | k
    · exact .inl ⟨k, bindL_get ndP hp hu k⟩
    · obtain ⟨c, e⟩ := cell_has (n := s.heap.objs.size + 1) k
      refine .inr ⟨.inl k, c, e, ?_⟩
      have q := x.cell y c e
      rw [bindC_get ndP hp hu (by show scope.names.lookup y ≠ _; rw [k]; decide)] at q
      exact q
  · exact e0.hok.fresh (Nat.le_of_lt (x.above y c (PySem.mem_of_lookup h)))
  · unfold start
    show _ = N.length
    rw [List.length_append, List.length_map, List.length_replicate]
    omega
/-- THE RULE: a def (or a method) of the text, by its body. The body's reading t is chosen for each entry; it is run at the parameters' values -/
theorem fn_of {CX : CXT} {P : Program} {w : World} {K : PySem.W.Frag} {mg : Str → Option Value} {base : Heap} {k : Nat} {f : Addr} {name qual : Str} {params : Arguments} {body : List Stmt} {scope : Scope} {dV kV doc pm cdv ct oc : Value} {an od : Option Addr}
    {osl : Array (Option Value)} {N ps : List Str} {sp : Sp} (lk : K.lookup f = some ⟨oc, od, .func (PySem.W.fnOf name qual params body scope dV kV doc pm an cdv ct), osl⟩) (hcd : PySem.W.codeIn K cdv qual = true) (S : FnScope N ps scope)
    (len : ∀ vs H Q E, sp vs H Q E → vs.length = ps.length)
    (hbody : ∀ (A : Around) (outer : List Env) (s : Shared) (H : Hp) (vs : List V) (Q : VK) (E : XK), Room k (A.deeper (envOfC qual scope s.heap.objs.size f cdv)) → sp vs H Q E →
      ∃ t, PSs (cxOf CX P w K mg base N qual scope f cdv A outer s H E) body t ∧ t { nx := fun _ H' => Q .non H', rt := Q } (start N vs) H) :
    FnOk P w K mg base CX (k + 1) f (PySem.W.fnOf name qual params body scope dV kV doc pm an cdv ct) ps sp := by
  refine ⟨len, fun A outer s H args us vs Q E hr e0 hb r hsp => ?_⟩
  have hl := len _ _ _ _ hsp
  have KX : K.In s.heap := e0.mod.kin.keeps fun b o e => (e0.bs b o e).1
  have lim : s.heap.NoLimit := e0.mod.nolimit.keeps fun b o e => (e0.bs b o e).1
  have hkind : ∀ y ∈ ps.zip us, scope.names.lookup y.1 = some .local ∨ (scope.names.lookup y.1 = some .cell ∧ ((cellsFrom (s.heap.objs.size + 1) scope.names []).lookup y.1).isSome = true) := fun ⟨n, v⟩ hy => by
    rcases S.par n (List.of_mem_zip hy).1 with q | q
    · exact .inl q
    · exact .inr ⟨q, PySem.W.cellsFrom_some _ _ _ (.inl q)⟩
  refine codeAny_call_function hr.depth (KX _ _ lk) rfl S.co S.gen rfl (PySem.W.codeRec_of KX hcd) (hb _ _ _ _ ?_)
  refine wpAny_newFunctionEnv_cells S.kind hkind fun env he s1 x => ?_
  subst he
  refine ⟨lim.keeps x.toInCall.keep, codeAny_func ?_⟩
  obtain ⟨t, ht, hq⟩ := hbody A outer s H vs Q E (hr.deeper _) hsp
  have I : Inv (cxOf CX P w K mg base N qual scope f cdv A outer s H E) [] (start N vs) H s1 := inv_start S hr.hd e0 hl r x
  refine wpAny_mono (ht [] s1 (start N vs) H _ I hq) (fun fl s' hs => ?_) fun e s' hs => hs
  have fin : ∀ {σ' : St} {H' : Hp} {v : V} {u : Value}, Inv (cxOf CX P w K mg base N qual scope f cdv A outer s H E) [] σ' H' s' → RelV v u → Q v H' → CE outer P w H s Q u s' :=
    fun {σ' H' v u} J rv q => ⟨v, H', J.os, J.bare, J.base, J.hok, rv, q⟩
  cases fl with
  | ret u =>
    obtain ⟨v, σ', H', J, rv, q⟩ := hs
    exact fin J rv q
  | next =>
    obtain ⟨σ', H', J, q⟩ := hs
    exact fin (v := V.non) (u := Value.none) J rfl q
  | brk =>
    obtain ⟨_, _, _, q⟩ := hs
    exact False.elim q
  | cont =>
    obtain ⟨_, _, _, q⟩ := hs
    exact False.elim q
end L2
namespace L2
open PySem PySem.Spec PyProof.Rows
section
variable {X : Cx} {x : Str} {p pos : Pos} {e : Expr} {es : List Expr} {t : TA} {id T : String} {r : List V → Hp → VK → Prop}
def tCB (r : List V → Hp → VK → Prop) (t : TA) : TE := fun σ H Q => t σ H fun vs H1 => r vs H1 Q
/-- f(e, ..), f a built-in function -/
theorem pe_callB (hc : CallR X (.builtin id) r) (hg : Gl X x) (hm : X.mg x = none) (hv : bootBuiltins x = some (.builtin id)) (ha : PA X (e :: es) t) (hn : x ≠ "__name__" := by decide) (hdb : (x == ("__debug__" : Str)) = false := by decide)
    (he : starEach (e :: es) X.env = (false, eval e X.env) :: starEach es X.env := by rfl) (hpl : (backTo pos (starEach es X.env)).any (·.1) = false := by rfl) : PE X (.Call (.Name x p) (e :: es) [] pos) (tCB r t) := by
  intro pins s σ H Q I h
  refine wpAny_Call_Name_kw (ld_blt I hg hm hv ?_ hn hdb)
  exact PyProof.Rows.callWith_builtin1 (thn (ha pos pins s σ H _ I h) fun us s1 ⟨vs, H1, I1, r1, q1⟩ => hc pins s1 σ H1 vs us Q I1 r1 q1) he hpl
/-- T(e, ..), T a built-in type -/
theorem pe_callTy (hc : CallR X (.type T) r) (hg : Gl X x) (hm : X.mg x = none) (hv : bootBuiltins x = some (.type T)) (ha : PA X (e :: es) t) (hn : x ≠ "__name__" := by decide) (hdb : (x == ("__debug__" : Str)) = false := by decide)
    (he : starEach (e :: es) X.env = (false, eval e X.env) :: starEach es X.env := by rfl) (hpl : (backTo pos (starEach es X.env)).any (·.1) = false := by rfl) : PE X (.Call (.Name x p) (e :: es) [] pos) (tCB r t) := by
  intro pins s σ H Q I h
  refine wpAny_Call_Name_kw (ld_blt I hg hm hv ?_ hn hdb)
  exact PyProof.Rows.callWith_type1 (thn (ha pos pins s σ H _ I h) fun us s1 ⟨vs, H1, I1, r1, q1⟩ => hc pins s1 σ H1 vs us Q I1 r1 q1) he hpl
end
end L2
namespace HT
open PySem PyProof.Rows
section
open PySem.SeqAt
open PySem.AutoSeq1 (wpAny_loadPart')
open PySem.MeetsSeq PySem.MeetsSeq2 PySem.MeetsSeq3
end
section
variable {prog : Program} {w : World} {A : Around} {E : Value → Shared → Prop} {s : Shared}
/-! ### t[a:b], not the whole -/
/-- a slice's bound as a place among n (d where it is left out) -/
def sIx (n d : Nat) : Option Int → Nat
  | none => d
  | some v => if v < 0 then (v + (n : Int)).toNat else min v.toNat n
theorem sIx_none (n d : Nat) : sIx n d none = d := rfl
theorem sIx_nat (n d k : Nat) : sIx n d (some (k : Int)) = min k n := by
  show (if (k : Int) < 0 then ((k : Int) + (n : Int)).toNat else min (k : Int).toNat n) = min k n
  rw [if_neg (by omega), Int.toNat_natCast]
end
end HT
namespace L2
open PySem PySem.Spec PyProof.Rows
/-! ### the parts of a slice -/
abbrev TO := St → Hp → (Option Int → Hp → Prop) → Prop
/-- a slice's part (left out, or an int) -/
def PO (X : Cx) (e : Option Expr) (t : TO) : Prop :=
  ∀ (pins : List (Addr × Obj)) (s : Shared) (σ : St) (H : Hp) (Q : Option Int → Hp → Prop), Inv X pins σ H s → t σ H Q →
    wpAny (model X.prog X.w) X.A (evalPart e X.env) (fun u s' => ∃ o H', Inv X pins σ H' s' ∧ IsPart u o ∧ Q o H') X.xe s
def tNoPart : TO := fun _ H Q => Q none H
def tPart (t : TE) : TO := fun σ H Q => t σ H fun x H1 => ∃ i, x = .int i ∧ Q (some i) H1
section
variable {X : Cx} {e : Expr} {te : TE} {lo hi : Option Expr} {tl th : TO} {pos p2 : Pos}
theorem po_none : PO X none tNoPart := by
  intro pins s σ H Q I h
  rw [evalPart_none]
  exact wpAny_pure ⟨none, H, I, .none, h⟩
theorem po_some (h : PE X e te) : PO X (some e) (tPart te) := by
  intro pins s σ H Q I hw
  rw [evalPart_some]
  refine thn (h pins s σ H _ I hw) fun u s1 ⟨x, H1, I1, r1, q1⟩ => ?_
  obtain ⟨i, rfl, q⟩ := q1
  obtain ⟨t, rfl⟩ := r1
  exact ⟨some i, H1, I1, .int i t, q⟩
/-- what a slice of a value is, by values: the slice object stands at sl -/
def SlR (X : Cx) (r : V → Option Int → Option Int → Hp → VK → Prop) : Prop :=
  ∀ (pins : List (Addr × Obj)) (s : Shared) (σ : St) (H : Hp) (x : V) (v vl vu : Value) (lo hi : Option Int) (sl : Addr) (Q : VK), Inv X pins σ H s → RelV x v → s.heap.IsSliceOf sl vl vu .none → IsPart vl lo → IsPart vu hi → r x lo hi H Q →
    ∃ T id, typeLookup (.type T) "__getitem__" = pure (some (.builtin id)) ∧ s.TypeIs v T ∧ wpAny (model X.prog X.w) X.A (getItem v (.ref sl)) (EP X pins σ Q) X.xe s
def tSl (r : V → Option Int → Option Int → Hp → VK → Prop) (te : TE) (tl th : TO) : TE := fun σ H Q => te σ H fun x H1 => tl σ H1 fun l H2 => th σ H2 fun u H3 => r x l u H3 Q
/-- a[lo:hi], any a -/
theorem pe_slice {r : V → Option Int → Option Int → Hp → VK → Prop} (hr : SlR X r) (he : PE X e te) (hl : PO X lo tl) (hu : PO X hi th) : PE X (.Subscript e (.Slice lo hi none p2) pos) (tSl r te tl th) := by
  intro pins s σ H Q I h
  refine Subscript_ (thn (he pins s σ H _ I h) fun v s1 ⟨x, H1, I1, r1, q1⟩ => ?_)
  refine wpAny_Slice (thn (hl pins s1 σ H1 _ I1 q1) fun vl s2 ⟨l, H2, I2, pl, q2⟩ => thn (hu pins s2 σ H2 _ I2 q2) fun vu s3 ⟨u, H3, I3, pu, q3⟩ => ?_)
  rw [evalPart_none]
  refine wpAny_pure ?_
  have I4 : Inv X pins σ H3 { s3 with heap := s3.heap.push { cls := .type "slice", data := .fields #[vl, vu, .none] } } := I3.kept (t' := s3.toks) fun b ob q => Heap.get?_push_of_some _ q
  obtain ⟨T, id, hT, ht, hg⟩ := hr pins { s3 with heap := s3.heap.push { cls := .type "slice", data := .fields #[vl, vu, .none] } } σ H3 x v vl vu l u s3.heap.objs.size Q I4 r1 (Heap.IsSliceOf.new ..) pl pu q3
  show wpAny (model X.prog X.w) X.A (subscriptTail e (.Slice lo hi none p2) v (.ref s3.heap.objs.size)) (EP X pins σ Q) X.xe { s3 with heap := s3.heap.push { cls := .type "slice", data := .fields #[vl, vu, .none] } }
  exact tail_any (ops := [.ref s3.heap.objs.size, v]) ht hT hg (by with_unfolding_all rfl)
/-- the items of xs[lo:hi] -/
def cutV (xs : List V) (lo hi : Option Int) : List V := (xs.drop (HT.sIx xs.length 0 lo)).take (HT.sIx xs.length xs.length hi - HT.sIx xs.length 0 lo)
theorem cutV_length (xs : List V) (lo hi : Option Int) : (cutV xs lo hi).length ≤ xs.length := by
  unfold cutV
  rw [List.length_take, List.length_drop]
  omega
/-! ### t < u, t + u -/
end
end L2
namespace L2
open PySem PySem.Spec PyProof.Rows
/-! ### places -/
/-- the place that an index of any sign means -/
def ixN (n : Nat) (i : Int) : Option Nat := if 0 ≤ i then (if i < n then some i.toNat else none) else if -(n : Int) ≤ i then some (i + n).toNat else none
def atI {α : Type} (xs : List α) (i : Int) : Option α := (ixN xs.length i).bind fun j => xs[j]?
theorem ixN_seq {n : Nat} {i : Int} {j : Nat} (h : ixN n i = some j) : seqIndex? i n = some j ∧ j < n ∧ -(n : Int) ≤ i ∧ i < n := by
  unfold ixN at h
  by_cases h0 : 0 ≤ i
  · rw [if_pos h0] at h
    by_cases h1 : i < n
    · rw [if_pos h1] at h
      have e : i.toNat = j := Option.some.inj h
      exact ⟨by rw [seqIndex_of h0 h1, e], by omega, by omega, h1⟩
    · rw [if_neg h1] at h; cases h
  · rw [if_neg h0] at h
    by_cases h1 : -(n : Int) ≤ i
    · rw [if_pos h1] at h
      have e : (i + n).toNat = j := Option.some.inj h
      exact ⟨by rw [seqIndex_neg (by omega) h1, e], by omega, h1, by omega⟩
    · rw [if_neg h1] at h; cases h
theorem atI_get {α : Type} {xs : List α} {i : Int} {v : α} (h : atI xs i = some v) : ∃ j, seqIndex? i xs.length = some j ∧ xs[j]? = some v ∧ j < xs.length ∧ -(xs.length : Int) ≤ i ∧ i < xs.length := by
  unfold atI at h
  cases e : ixN xs.length i with
  | none => rw [e] at h; cases h
  | some j =>
    rw [e] at h
    obtain ⟨h1, h2, h3, h4⟩ := ixN_seq e
    exact ⟨j, h1, h, h2, h3, h4⟩
theorem atI_nat {α : Type} {xs : List α} {j : Nat} {v : α} (h : xs[j]? = some v) : atI xs (j : Int) = some v := by
  have hj : j < xs.length := (List.getElem?_eq_some_iff.mp h).1
  have e : ixN xs.length (j : Int) = some j := by
    unfold ixN
    rw [if_pos (by omega), if_pos (by omega)]; simp
  unfold atI; rw [e]; exact h
/-! ### what may be subscripted -/
/-- what stands as an index of a plain subscript -/
def PlainIx (b : Expr) : Prop := ∀ o i, subscripted b false o i = operate [o, i] (getItem o i)
/-- a subscript by values -/
def IxR (X : Cx) (r : R2) : Prop :=
  ∀ (value slice : Expr) (pins : List (Addr × Obj)) (s : Shared) (σ : St) (H : Hp) (x y : V) (v u : Value) (Q : VK), Inv X pins σ H s → RelV x v → RelV y u → r x y H Q →
    subscripted slice false v u = operate [v, u] (getItem v u) → wpAny (model X.prog X.w) X.A (subscriptTail value slice v u) (EP X pins σ Q) X.xe s
/-- a call of a builtin's method by values: the receiver, the arguments -/
def MtR (X : Cx) (id : String) (r : V → List V → Hp → VK → Prop) : Prop :=
  ∀ (pins : List (Addr × Obj)) (s : Shared) (σ : St) (H : Hp) (x : V) (xs : List V) (v : Value) (us : List Value) (Q : VK), Inv X pins σ H s → RelV x v → Vals xs us → r x xs H Q →
    wpAny (model X.prog X.w) X.A (call (.builtin id) (v :: us)) (EP X pins σ Q) X.xe s
section
variable {X : Cx} {a b : Expr} {ta tb : TE} {pos : Pos}
/-- a[b] -/
theorem pe_ix {r : R2} (hr : IxR X r) (ha : PE X a ta) (hb : PE X b tb) (hs : PlainIx b) : PE X (.Subscript a b pos) (tOp r ta tb) := by
  intro pins s σ H Q I h
  exact Subscript_ (binT ha hb I h fun v u s2 x y H2 I2 rx ry q => hr a b pins s2 σ H2 x y v u Q I2 rx ry q (hs _ _))
def rIxL (K : PySem.W.Frag) : R2 := fun x y H Q => ∃ p xs i v, x = .ref p ∧ y = .int i ∧ SqL K H p xs ∧ atI xs i = some v ∧ Q v H
def rIxT (K : PySem.W.Frag) : R2 := fun x y H Q => ∃ p xs i v, x = .ref p ∧ y = .int i ∧ SqT K H p xs ∧ atI xs i = some v ∧ Q v H
theorem ix_list : IxR X (rIxL X.K) := by
  intro value slice pins s σ H x y v u Q I rx ry h hs
  obtain ⟨p, xs, i, z, rfl, rfl, hq, he, q⟩ := h
  cases rx
  obtain ⟨t, rfl⟩ := ry
  obtain ⟨its, r, pl, hz⟩ := I.list hq
  obtain ⟨j, h1, h2, h3, h4, h5⟩ := atI_get he
  obtain ⟨w, ew, rw'⟩ := r.get h2
  have hl := r.length
  have hn := line63
  have fin : EP X pins σ Q w s := ⟨z, H, I, rw', q⟩
  by_cases h0 : 0 ≤ i
  · have hj : i.toNat = j := by
      rw [seqIndex_of h0 h5] at h1
      exact Option.some.inj h1
    exact item_listR pl.isList h0 (by omega) (by rw [hj]; simpa using ew) fin hs
  · have hj : (i + (its.toArray.size : Int)).toNat = j := by
      rw [seqIndex_neg (by omega) h4] at h1
      rw [List.size_toArray, ← hl]
      exact Option.some.inj h1
    exact subscriptTail_builtinR (x := w) pl.isList.typeIs slot_list_getitem.lookup
      (wpAny_getItem_list_neg (Q := fun r s' => r = w ∧ EP X pins σ Q r s') pl.isList (by omega) (by rw [List.size_toArray] <;> omega) (by omega) (by rw [hj]; simpa using ew) ⟨rfl, fin⟩) hs
theorem ix_tup : IxR X (rIxT X.K) := by
  intro value slice pins s σ H x y v u Q I rx ry h hs
  obtain ⟨p, xs, i, z, rfl, rfl, hq, he, q⟩ := h
  cases rx
  obtain ⟨t, rfl⟩ := ry
  obtain ⟨its, r, pl, hz⟩ := I.tuple hq
  obtain ⟨j, h1, h2, h3, h4, h5⟩ := atI_get he
  obtain ⟨w, ew, rw'⟩ := r.get h2
  have hl := r.length
  have hn := line63
  have fin : EP X pins σ Q w s := ⟨z, H, I, rw', q⟩
  exact subscriptTail_builtinR (x := w) pl.typeIs slot_tuple_getitem.lookup
    (getItem_tuple (j := j) (Q := fun r s' => r = w ∧ EP X pins σ Q r s') pl (by omega) (by omega) (by rw [List.size_toArray, ← hl]; exact h1) (by simpa using ew) ⟨rfl, fin⟩) hs
/-! ### xs[i] = v, any sign -/
/-- the list's object behind a store -/
theorem mapSeq_set (its : List Value) (n j : Nat) (u : Value) : Obj.mapSeq (·.setIfInBounds j u) { cls := .type "list", data := .seq its.toArray n } = { cls := .type "list", data := .seq (its.set j u).toArray n } := by
  simp [Obj.mapSeq]
theorem Inv.lst {pins : List (Addr × Obj)} {σ : St} {H : Hp} {s : Shared} {p : Addr} {xs : List V} (I : Inv X pins σ H s) (h : H p = some (.lst xs)) :
    ∃ (its : List Value) (n : Nat), Vals xs its ∧ s.heap.get? p = some { cls := .type "list", data := .seq its.toArray n } ∧ xs.length ≤ sizeLine := by
  obtain ⟨z, its, n, r, e⟩ := I.hok p _ h
  exact ⟨its, n, r, e, z⟩
/-- the list at p is written by an update of its object -/
theorem Inv.lstUpd {pins : List (Addr × Obj)} {σ : St} {H : Hp} {s : Shared} {p : Addr} {xs ys : List V} {its its' : List Value} {n n' : Nat} {f : Obj → Obj} (I : Inv X pins σ H s) (h : H p = some (.lst xs))
    (ho : s.heap.get? p = some { cls := .type "list", data := .seq its.toArray n }) (hf : f { cls := .type "list", data := .seq its.toArray n } = { cls := .type "list", data := .seq its'.toArray n' }) (r : Vals ys its') (hz : ys.length ≤ sizeLine) (t : Nat) :
    Inv X pins σ (upd H p (.lst ys)) { s with heap := s.heap.update p f, toks := t } := by
  have e : (s.heap.update p f).get? p = some { cls := .type "list", data := .seq its'.toArray n' } := by
    rw [Heap.get?_update_self f ho (by rw [hf] <;> rfl), hf]
  refine I.write (x := p) (e := p) (by rw [h]; trivial) (.inl rfl) (fun b u hb q => (Heap.get?_update_other _ _ (Ne.symm hb)).trans q) ⟨_, e⟩ ?_
  exact ⟨hz, its', n', r, e⟩
def rSetL : V → V → V → Hp → (Hp → Prop) → Prop := fun o i v H Q => ∃ p xs k j, o = .ref p ∧ i = .int k ∧ H p = some (.lst xs) ∧ ixN xs.length k = some j ∧ Q (upd H p (.lst (xs.set j v)))
theorem set_list : PSet X rSetL := by
  intro pins s σ H o i v ov iv u Q I ro ri rv h
  obtain ⟨p, xs, k, j, rfl, rfl, hp, hj, q⟩ := h
  cases ro
  obtain ⟨t, rfl⟩ := ri
  obtain ⟨its, n, r, ho, hz⟩ := I.lst hp
  obtain ⟨h1, h2, h3, h4⟩ := ixN_seq hj
  have hl := r.length
  have hn := line63
  have I' : Inv X pins σ (upd H p (.lst (xs.set j v))) { s with heap := s.heap.update p (Obj.mapSeq (·.setIfInBounds j u)) } :=
    I.lstUpd hp ho (mapSeq_set its n j u) (r.set rv j) (by rw [List.length_set]; exact hz) s.toks
  by_cases h0 : 0 ≤ k
  · have hk : k.toNat = j := by
      rw [seqIndex_of h0 h4] at h1
      exact Option.some.inj h1
    exact PySem.W.ki_setAt ho h0 (by omega) (by rw [List.size_toArray, ← hl]; exact h4) (by rw [hk]; exact ⟨_, I', q⟩)
  · have hk : (k + (its.toArray.size : Int)).toNat = j := by
      rw [seqIndex_neg (by omega) h3] at h1
      rw [List.size_toArray, ← hl]
      exact Option.some.inj h1
    exact PySem.W.ki_setBack ho (by omega) (by rw [List.size_toArray, ← hl]; exact h3) (by omega) (by rw [hk]; exact ⟨_, I', q⟩)
/-! ### slices -/
theorem slice_bounds (lo hi : Option Int) (n : Nat) : (sliceBounds lo hi none n).1 = ((HT.sIx n 0 lo : Nat) : Int) ∧ (sliceBounds lo hi none n).2.1 = ((HT.sIx n n hi : Nat) : Int) ∧ (sliceBounds lo hi none n).2.2 = 1 := by
  refine ⟨?_, ?_, rfl⟩
  · cases lo with
    | none => simp [sliceBounds, HT.sIx]
    | some i =>
      simp only [sliceBounds, HT.sIx, Option.getD_none, show (1 : Int) > 0 by decide, if_true]
      by_cases h : i < 0
      · simp only [h, if_true] <;> omega
      · simp only [h, if_false] <;> omega
  · cases hi with
    | none => simp [sliceBounds, HT.sIx]
    | some i =>
      simp only [sliceBounds, HT.sIx, Option.getD_none, show (1 : Int) > 0 by decide, if_true]
      by_cases h : i < 0
      · simp only [h, if_true] <;> omega
      · simp only [h, if_false] <;> omega
theorem slicePick_cut (its : List Value) (lo hi : Option Int) : slicePick its.toArray lo hi none = ((its.drop (HT.sIx its.length 0 lo)).take (HT.sIx its.length its.length hi - HT.sIx its.length 0 lo)).toArray := by
  obtain ⟨h1, h2, h3⟩ := slice_bounds lo hi its.toArray.size
  unfold slicePick
  rw [h1, h2, h3]
  simp only [sliceRange_one, pick_run, List.size_toArray] <;> rfl
/-- xs[lo:hi] of a list: a new list -/
def rSlL (K : PySem.W.Frag) : V → Option Int → Option Int → Hp → VK → Prop := fun x lo hi H Q => ∃ a xs, x = .ref a ∧ SqL K H a xs ∧ ∀ p, H p = none → Q (.ref p) (upd H p (.lst (cutV xs lo hi)))
theorem sl_list : SlR X (rSlL X.K) := by
  intro pins s σ H x v vl vu lo hi sl Q I rx hs pl pu h
  obtain ⟨a, xs, rfl, hx, q⟩ := h
  cases rx
  obtain ⟨its, r, ht, hz⟩ := I.list hx
  have hlen := r.length
  refine ⟨"list", _, slot_list_getitem.lookup, ht.isList.typeIs, ?_⟩
  refine wpAny_getItem_list_slice ht.isList hs pl pu .none (by simp) ?_ (by rw [List.size_toArray] <;> omega)
  rw [slicePick_cut, ← hlen]
  refine ⟨.ref s.heap.objs.size, _, I.laid (t' := s.toks) (o := .lst (cutV xs lo hi)) (fun b ob q => Heap.get?_push_of_some _ q) (Nat.le_refl _) ?_, rfl, q _ (I.hok.fresh (Nat.le_refl _))⟩
  exact ⟨Nat.le_trans (cutV_length xs lo hi) hz, _, 0, (r.drop (HT.sIx xs.length 0 lo)).take (HT.sIx xs.length xs.length hi - HT.sIx xs.length 0 lo), Heap.get?_push_size _ rfl⟩
/-! ### in, not in: flat items -/
def flatV : V → Bool
  | .non => true
  | .bl _ => true
  | .int _ => true
  | .str _ => true
  | _ => false
/-- == of flat values -/
def eqV : V → V → Bool
  | .non, .non => true
  | .bl a, .bl b => a == b
  | .bl a, .int b => (if a then 1 else 0) == b
  | .int a, .bl b => a == (if b then 1 else 0)
  | .int a, .int b => a == b
  | .str a, .str b => a == b
  | _, _ => false
theorem eqAt_V {A : Around} {s : Shared} {y x : V} {u v : Value} (ry : RelV y u) (rx : RelV x v) (fy : flatV y = true) (fx : flatV x = true) : SeqAt.EqAt A s u v (eqV y x) := by
  cases y with
  | non =>
    cases ry
    cases x with
    | non => cases rx; exact SeqAt.EqAt.same _
    | bl b => cases rx; exact SeqAt.EqAt.none_bool b
    | int b => obtain ⟨t, rfl⟩ := rx; exact SeqAt.EqAt.none_int b t
    | str b => obtain ⟨t, rfl⟩ := rx; exact SeqAt.EqAt.none_str b t
    | _ => exact absurd (show false = true from fx) Bool.false_ne_true
  | bl a =>
    cases ry
    cases x with
    | non => cases rx; exact SeqAt.EqAt.bool_none a
    | bl b => cases rx; exact SeqAt.EqAt.bool_bool a b
    | int b => obtain ⟨t, rfl⟩ := rx; exact SeqAt.EqAt.bool_int a b t
    | str b => obtain ⟨t, rfl⟩ := rx; exact SeqAt.EqAt.bool_str a b t
    | _ => exact absurd (show false = true from fx) Bool.false_ne_true
  | int a =>
    obtain ⟨t', rfl⟩ := ry
    cases x with
    | non => cases rx; exact SeqAt.EqAt.int_none a t'
    | bl b => cases rx; exact SeqAt.EqAt.int_bool a t' b
    | int b => obtain ⟨t, rfl⟩ := rx; exact SeqAt.EqAt.int_int a t' b t
    | str b => obtain ⟨t, rfl⟩ := rx; exact SeqAt.EqAt.int_str a t' b t
    | _ => exact absurd (show false = true from fx) Bool.false_ne_true
  | str a =>
    obtain ⟨t', rfl⟩ := ry
    cases x with
    | non => cases rx; exact SeqAt.EqAt.str_none a t'
    | bl b => cases rx; exact SeqAt.EqAt.str_bool a t' b
    | int b => obtain ⟨t, rfl⟩ := rx; exact SeqAt.EqAt.str_int a t' b t
    | str b => obtain ⟨t, rfl⟩ := rx; exact SeqAt.EqAt.str_str a t' b t
    | _ => exact absurd (show false = true from fx) Bool.false_ne_true
  | _ => exact absurd (show false = true from fy) Bool.false_ne_true
/-- the items' answers, read off the values (a value's own answer does not lean on its token) -/
def eqU (x : V) (u : Value) : Bool := match u with
  | .none => eqV .non x
  | .bool b => eqV (.bl b) x
  | .int i _ => eqV (.int i) x
  | .str z _ => eqV (.str z) x
  | _ => false
theorem eqU_of {x y : V} {u : Value} (r : RelV y u) (f : flatV y = true) : eqU x u = eqV y x := by
  cases y with
  | non => cases r; rfl
  | bl b => cases r; rfl
  | int i => obtain ⟨t, rfl⟩ := r; rfl
  | str z => obtain ⟨t, rfl⟩ := r; rfl
  | _ => exact absurd (show false = true from f) Bool.false_ne_true
theorem any_eqU {x : V} : ∀ {xs : List V} {us : List Value}, Vals xs us → xs.all flatV = true → us.any (eqU x) = xs.any fun y => eqV y x
  | _, _, .nil, _ => rfl
  | y :: xs, u :: us, .cons r t, f => by
    rw [List.all_cons, Bool.and_eq_true] at f
    rw [List.any_cons, List.any_cons, eqU_of r f.1, any_eqU t f.2]
theorem mem_eqAt {A : Around} {s : Shared} {x : V} {v : Value} (rx : RelV x v) (fx : flatV x = true) : ∀ {xs : List V} {us : List Value}, Vals xs us → xs.all flatV = true → ∀ u ∈ us, SeqAt.EqAt A s u v (eqU x u)
  | _, _, .nil, _ => fun u hu => by cases hu
  | y :: xs, u :: us, .cons r t, f => fun u' hu => by
    rw [List.all_cons, Bool.and_eq_true] at f
    rcases List.mem_cons.mp hu with rfl | hu
    · rw [eqU_of r f.1]; exact eqAt_V r rx f.1 fx
    · exact mem_eqAt rx fx t f.2 u' hu
def inV (x : V) (xs : List V) : Bool := xs.any fun y => eqV y x
/-- x in a list or tuple of flat items -/
def rIn (K : PySem.W.Frag) (neg : Bool) : R2 := fun x y H Q => ∃ p xs, y = .ref p ∧ (SqL K H p xs ∨ SqT K H p xs) ∧ flatV x = true ∧ xs.all flatV = true ∧ Q (.bl (if neg then !inV x xs else inV x xs)) H
theorem op_in_seq : OpR X (compareOp .In) (rIn X.K false) := by
  intro pins s σ H x y v u Q I rx ry h
  obtain ⟨p, xs, rfl, hq, fx, fs, q⟩ := h
  cases ry
  rcases hq with hq | hq
  · obtain ⟨its, r, pl, hz⟩ := I.list hq
    refine SeqAt.in_listAt (eqU x) pl.isList (fun w hw => mem_eqAt rx fx r fs w (by simpa using hw)) ⟨.bl _, H, I, rfl, ?_⟩
    rw [show its.toArray.any (eqU x) = its.any (eqU x) by simp, any_eqU r fs]
    exact q
  · obtain ⟨its, r, pl, hz⟩ := I.tuple hq
    refine SeqAt.in_tupleAt (eqU x) pl (fun w hw => mem_eqAt rx fx r fs w (by simpa using hw)) ⟨.bl _, H, I, rfl, ?_⟩
    rw [show its.toArray.any (eqU x) = its.any (eqU x) by simp, any_eqU r fs]
    exact q
theorem op_notIn_seq : OpR X (compareOp .NotIn) (rIn X.K true) := by
  intro pins s σ H x y v u Q I rx ry h
  obtain ⟨p, xs, rfl, hq, fx, fs, q⟩ := h
  cases ry
  rcases hq with hq | hq
  · obtain ⟨its, r, pl, hz⟩ := I.list hq
    refine SeqAt.notIn_listAt (eqU x) pl.isList (fun w hw => mem_eqAt rx fx r fs w (by simpa using hw)) ⟨.bl _, H, I, rfl, ?_⟩
    rw [show its.toArray.any (eqU x) = its.any (eqU x) by simp, any_eqU r fs]
    exact q
  · obtain ⟨its, r, pl, hz⟩ := I.tuple hq
    refine SeqAt.notIn_tupleAt (eqU x) pl (fun w hw => mem_eqAt rx fx r fs w (by simpa using hw)) ⟨.bl _, H, I, rfl, ?_⟩
    rw [show its.toArray.any (eqU x) = its.any (eqU x) by simp, any_eqU r fs]
    exact q
/-! ### len, list(x), tuple(x) of any list or tuple that is read -/
theorem call_len_seq : CallR X (.builtin "len") (fun xs H Q => ∃ p ys, xs = [.ref p] ∧ (SqL X.K H p ys ∨ SqT X.K H p ys) ∧ Q (.int ys.length) H) := by
  intro pins s σ H xs us Q I r h
  obtain ⟨p, ys, rfl, hq, q⟩ := h
  obtain ⟨u, rfl, rx⟩ := vals1 r
  cases rx
  have hn := line63
  rcases hq with hq | hq
  · obtain ⟨its, r', pl, hz⟩ := I.list hq
    have hlen := r'.length
    exact Calls.call_len_list pl.isList (by simp only [List.size_toArray] <;> omega) ⟨.int ys.length, H, I.tok _, ⟨s.toks + 1, by rw [List.size_toArray, hlen]⟩, q⟩
  · obtain ⟨its, r', pl, hz⟩ := I.tuple hq
    have hlen := r'.length
    exact len_tuple pl (by simp only [List.size_toArray] <;> omega) ⟨.int ys.length, H, I.tok _, ⟨s.toks + 1, by rw [List.size_toArray, hlen]⟩, q⟩
theorem call_list_of : CallR X (.type "list") (fun xs H Q => ∃ p ys, xs = [.ref p] ∧ (SqL X.K H p ys ∨ SqT X.K H p ys) ∧ ∀ l, H l = none → Q (.ref l) (upd H l (.lst ys))) := by
  intro pins s σ H xs us Q I r h
  obtain ⟨p, ys, rfl, hq, q⟩ := h
  obtain ⟨u, rfl, rx⟩ := vals1 r
  cases rx
  have fin : ∀ (its : List Value), Vals ys its → ys.length ≤ sizeLine → ∀ (h' : Heap) (c' : Nat), (∀ b o', s.heap.get? b = some o' → h'.get? b = some o') →
      h'.get? s.heap.objs.size = some { cls := .type "list", dict := none, data := .seq its.toArray c', slots := #[] } → EP X pins σ Q (.ref s.heap.objs.size) { s with heap := h' } := fun its r' hz h' c' kp e =>
    ⟨.ref s.heap.objs.size, _, I.laid (t' := s.toks) kp (Nat.le_refl _) (show ObjOk X.prog X.w _ h' _ (.lst ys) from ⟨hz, its, c', r', e⟩), rfl, q _ (I.hok.fresh (Nat.le_refl _))⟩
  rcases hq with hq | hq
  · obtain ⟨its, r', pl, hz⟩ := I.list hq
    have hlen := r'.length
    obtain ⟨o, ho, hc, n, hd⟩ := pl.isList
    exact call_list_seq p (.inl rfl) ho hc hd (fun h' c' kp e => fin its r' hz h' c' kp e) (by simp only [List.size_toArray] <;> omega)
  · obtain ⟨its, r', pl, hz⟩ := I.tuple hq
    have hlen := r'.length
    obtain ⟨o, ho, hc, n, hd⟩ := pl
    exact call_list_seq p (.inr rfl) ho hc hd (fun h' c' kp e => fin its r' hz h' c' kp e) (by simp only [List.size_toArray] <;> omega)
/-! ### the call of a builtin's method: o.m(..) -/
/-- the value is of that builtin type -/
def tyV (K : PySem.W.Frag) (T : String) (x : V) (H : Hp) : Prop := match x with
  | .str _ => T = "str"
  | .int _ => T = "int"
  | .ref p => (T = "list" ∧ ∃ xs, SqL K H p xs) ∨ (T = "tuple" ∧ ∃ o, K.lookup p = some o ∧ o.cls = .type "tuple" ∧ o.dict = none) ∨
      (T = "dict" ∧ ((∃ kvs, H p = some (.dK kvs)) ∨ ∃ kvs, H p = some (.dT kvs))) ∨ (T = "set" ∧ ∃ S n, H p = some (.set S n))
  | _ => False
theorem tyV_is {pins : List (Addr × Obj)} {σ : St} {H : Hp} {s : Shared} {T : String} {x : V} {v : Value} (I : Inv X pins σ H s) (r : RelV x v) (ty : tyV X.K T x H) :
    s.TypeIs v T ∧ ∀ a, v = .ref a → ∃ ob, s.heap.get? a = some ob ∧ ob.dict = none := by
  cases x with
  | str z =>
    obtain ⟨t, rfl⟩ := r
    cases (show T = "str" from ty)
    exact ⟨typeIs_str s z t, fun _ e => nomatch e⟩
  | int i =>
    obtain ⟨t, rfl⟩ := r
    cases (show T = "int" from ty)
    exact ⟨typeIs_int s i t, fun _ e => nomatch e⟩
  | ref p =>
    cases r
    rcases ty with ⟨rfl, xs, hq⟩ | ⟨rfl, o, hk, hc, hd⟩ | ⟨rfl, hk⟩ | ⟨rfl, S, n, hk⟩
    · obtain ⟨its, _, pl, _⟩ := I.list hq
      refine ⟨pl.isList.typeIs, fun a e => ?_⟩
      cases e
      obtain ⟨o, n, e, c, hd, _⟩ := pl
      exact ⟨o, e, hd⟩
    · refine ⟨⟨o, I.kIn p o hk, hc⟩, fun a e => ?_⟩
      cases e
      exact ⟨o, I.kIn _ o hk, hd⟩
    · have z : ∃ o, s.heap.get? p = some o ∧ o.ExactDict := by
        rcases hk with ⟨kvs, hk⟩ | ⟨kvs, hk⟩
        · obtain ⟨_, _, _, _, o, _, _, e, ex, _⟩ := I.hok p _ hk
          exact ⟨o, e, ex⟩
        · obtain ⟨_, _, _, _, o, _, _, e, ex, _⟩ := I.hok p _ hk
          exact ⟨o, e, ex⟩
      obtain ⟨o, e, ex⟩ := z
      refine ⟨⟨o, e, ex.1⟩, fun a e2 => ?_⟩
      cases e2
      exact ⟨o, e, ex.2.1⟩
    · obtain ⟨o, _, _, _, e, ex, _⟩ := I.hok p _ hk
      refine ⟨⟨o, e, ex.1⟩, fun a e2 => ?_⟩
      cases e2
      exact ⟨o, e, ex.2.1⟩
  | _ => exact False.elim ty
def tBM (K : PySem.W.Frag) (T : String) (r : V → List V → Hp → VK → Prop) (to : TE) (t : TA) : TE := fun σ H Q => to σ H fun x H1 => tyV K T x H1 ∧ t σ H1 fun xs H2 => r x xs H2 Q
variable {o e : Expr} {es : List Expr} {to : TE} {t : TA} {name : Str} {apos cpos : Pos} {T id : String} {r : V → List V → Hp → VK → Prop}
theorem pe_bm (pa : PlainAttrs T) (slot : Slot T name id) (hty : typeOf (.builtin id) = pure (.type "method_descriptor")) (hm : MtR X id r) (ho : PE X o to) (ha : PA X (e :: es) t)
    (hbase : attributeBase o name X.env (eval o X.env) = eval o X.env := by rfl)
    (hfew : ((backTo cpos (starEach (e :: es) X.env)).all (fun x => !x.1) && (backToKw cpos (keywordEach [] X.env)).all (fun x => x.1.isSome)
      && decide ((e :: es).length + ([] : List Keyword).length + (if ([] : List Keyword).isEmpty then 0 else 1) < 30)) = true := by rfl)
    (hline : (apos.endLine == cpos.line) = true := by rfl) (hs : starEach (e :: es) X.env = (false, eval e X.env) :: starEach es X.env := by rfl) (hplain : (backTo cpos (starEach es X.env)).any (·.1) = false := by rfl) :
    PE X (.Call (.Attribute o name apos) (e :: es) [] cpos) (tBM X.K T r to t) := by
  intro pins s σ H Q I h
  refine wpAny_Call_method_late hbase hfew hline rfl (thn (ho pins s σ H _ I h) fun v s1 ⟨x, H1, I1, r1, ty, q1⟩ => ?_)
  obtain ⟨h1, h2⟩ := tyV_is I1 r1 ty
  refine ⟨T, id, pa, slot, hty, h1, h2, ?_⟩
  have hA := ha cpos pins s1 σ H1 _ I1 q1
  rw [hs] at hA ⊢
  refine Calls.callWith_builtin (by show (false || (backTo cpos (starEach es X.env)).any (·.1)) = false; rw [hplain] <;> rfl) (Calls.evalArgs_plain ?_)
  exact thn hA fun us s2 ⟨vs, H2, I2, r2, q2⟩ => hm pins s2 σ H2 x vs v us Q I2 r1 r2 q2
end
end L2
namespace L2
open PySem PySem.Spec PyProof.Rows
def MtM (X : Cx) (id : String) (r : V → List V → Hp → VK → Prop) : Prop :=
  ∀ (pins : List (Addr × Obj)) (s : Shared) (σ : St) (H : Hp) (x : V) (xs : List V) (v : Value) (us : List Value) (Q : VK), Inv X pins σ H s → RelV x v → Vals xs us → r x xs H Q →
    wpAny (model X.prog X.w) X.A (call (.builtin id) (v :: us)) (EP X pins σ Q) X.xe s
/-! ### lists of values -/
theorem Vals.one : ∀ {x : V} {us : List Value}, Vals [x] us → ∃ u, us = [u] ∧ RelV x u
  | _, _, .cons r .nil => ⟨_, rfl, r⟩
theorem Vals.reverse {xs : List V} {us : List Value} (h : Vals xs us) : Vals xs.reverse us.reverse := by
  induction h with
  | nil => exact .nil
  | cons r t ih => rw [List.reverse_cons, List.reverse_cons]; exact Vals.append ih (.cons r .nil)
section
variable {X : Cx} {pins : List (Addr × Obj)} {σ : St} {H : Hp} {s : Shared} {l b : Addr} {xs ys zs : List V}
/-! ### the two steps: a tracked list is rewritten, a new list is laid -/
theorem Inv.lset {its its' : List Value} {n : Nat} {f : Array Value → Array Value} {t' : Nat} (I : Inv X pins σ H s) (hH : H l = some (.lst xs))
    (e : s.heap.get? l = some { cls := .type "list", data := .seq its.toArray n }) (hf : f its.toArray = its'.toArray) (hv : Vals ys its') (hz : ys.length ≤ sizeLine) :
    Inv X pins σ (upd H l (.lst ys)) { s with heap := s.heap.update l (Obj.mapSeq f), toks := t' } := by
  have q := PySem.IsL.update e f
  rw [hf] at q
  refine I.write (x := l) (e := l) (by rw [hH]; exact trivial) (.inl rfl) (fun b' u hb hu => (Heap.get?_update_other s.heap (Obj.mapSeq f) (Ne.symm hb)).trans hu) ⟨_, q⟩ ?_
  exact ⟨hz, its', _, hv, q⟩
theorem Inv.lnew {its : List Value} {t' : Nat} (I : Inv X pins σ H s) (hv : Vals ys its) (hz : ys.length ≤ sizeLine) :
    Inv X pins σ (upd H s.heap.objs.size (.lst ys)) { s with heap := s.heap.push { cls := .type "list", data := .seq its.toArray }, toks := t' } :=
  I.laid (fun _ _ q => Heap.get?_push_of_some _ q) (Nat.le_refl _) ⟨hz, its, 0, hv, Heap.get?_push_size _ rfl⟩
theorem Inv.fresh (I : Inv X pins σ H s) : H s.heap.objs.size = none := I.hok.fresh (Nat.le_refl _)
theorem Inv.lstM (I : Inv X pins σ H s) (hH : H l = some (.lst xs)) : xs.length ≤ sizeLine ∧ ∃ (its : List Value) (n : Nat), Vals xs its ∧ xs.length = its.length ∧ s.heap.get? l = some { cls := .type "list", data := .seq its.toArray n } := by
  obtain ⟨z, its, n, r, e⟩ := I.hok l _ hH
  exact ⟨z, its, n, r, r.length, e⟩
end
section
variable {X : Cx}
/-! ### methods -/
def rAppend : V → List V → Hp → VK → Prop := fun x vs H Q => ∃ l xs y, x = .ref l ∧ vs = [y] ∧ H l = some (.lst xs) ∧ xs.length < sizeLine ∧ Q .non (upd H l (.lst (xs ++ [y])))
theorem mt_append : MtM X "list.append" rAppend := by
  intro pins s σ H x vs v us Q I rx rv h
  obtain ⟨l, xs, y, rfl, rfl, hH, hz, q⟩ := h
  cases rx
  obtain ⟨u, rfl, ru⟩ := rv.one
  obtain ⟨z, its, n, r, hl, e⟩ := I.lstM hH
  refine call_meets F.slot_list_append ⟨_, e, rfl⟩ F.entry_list_append (F.args_list_append_2 _ _) (PySem.list_append l its.toArray n u (by rw [List.size_toArray]; omega)) ⟨e, ?_⟩
  refine ⟨.non, _, I.lset (its' := its ++ [u]) hH e (by simp) (r.append (.cons ru .nil)) ?_, rfl, q⟩
  rw [List.length_append, List.length_singleton]
  omega
/-! ### list + list, list += list, list * int -/
def rCat : R2 := fun x y H Q => ∃ l b xs zs, x = .ref l ∧ y = .ref b ∧ H l = some (.lst xs) ∧ H b = some (.lst zs) ∧ xs.length + zs.length ≤ sizeLine ∧ ∀ p, H p = none → Q (.ref p) (upd H p (.lst (xs ++ zs)))
theorem op_cat : OpR X (binaryOp .Add) rCat := by
  intro pins s σ H x y v u Q I rx ry h
  obtain ⟨l, b, xs, zs, rfl, rfl, hH, hB, hz, q⟩ := h
  cases rx
  cases ry
  obtain ⟨z, its, n, r, hl, e⟩ := I.lstM hH
  obtain ⟨z2, its2, n2, r2, hl2, e2⟩ := I.lstM hB
  refine PySem.P.add_list e e2 ?_ (by rw [List.size_toArray, List.size_toArray]; omega)
  have ea : its.toArray ++ its2.toArray = (its ++ its2).toArray := by simp
  rw [ea]
  exact ⟨.ref _, _, I.lnew (t' := s.toks) (r.append r2) (by rw [List.length_append]; omega), rfl, q _ I.fresh⟩
/-! ### del xs[i] -/
end
/-! ### xs[a:b] = ys -/
section
variable {prog : Program} {w : World} {A : Around} {E : Value → Shared → Prop} {s : Shared}
set_option maxRecDepth 100000 in
end
section
variable {X : Cx}
end
end L2
namespace L2
open PySem PySem.Spec PyProof.Rows
theorem Vals.bls : ∀ {bs : List Bool} {us : List Value}, Vals (bs.map V.bl) us → us = bs.map Value.bool
  | [], us, h => by
    rw [List.map_nil] at h
    cases h
    rfl
  | b :: bs, us, h => by
    rw [List.map_cons] at h
    cases h with
    | cons r t =>
      cases r
      rw [Vals.bls t, List.map_cons]
theorem Vals.ref1 {a : Addr} {us : List Value} (r : Vals [V.ref a] us) : us = [Value.ref a] := by
  cases r with
  | cons r t =>
    cases t
    cases r
    rfl
/-! ### the library's walks over a list of ints, kept objects alone -/
section
variable {prog : Program} {w : World} {A : Around} {E : Value → Shared → Prop} {s : Shared} {l : Addr} {its : List Value} {ns : List Int} {Q : Value → Shared → Prop}
end
/-! ### the calls, by values (CallR of 03t; MtR of 06l) -/
section
variable {X : Cx}
/-! sorted, sort (fewer than 64 items: the library's own bound) -/
end
/-! ### list.index, flat items -/
section
variable {X : Cx}
def rIndex (K : PySem.W.Frag) : V → List V → Hp → VK → Prop := fun x xs H Q => ∃ (a : Addr) (ys : List V) (y : V) (j : Nat) (z : V), x = V.ref a ∧ xs = [y] ∧ SqL K H a ys ∧ flatV y = true ∧ ys.all flatV = true ∧ ys[j]? = some z ∧ eqV z y = true ∧
  (∀ (m : Nat) (z' : V), m < j → ys[m]? = some z' → eqV z' y = false) ∧ Q (.int (j : Nat)) H
theorem flat_at {ys : List V} (f : ys.all flatV = true) {j : Nat} {z : V} (h : ys[j]? = some z) : flatV z = true := List.all_eq_true.mp f z (List.mem_of_getElem? h)
theorem mt_index : MtR X "list.index" (rIndex X.K) := by
  intro pins s σ H x xs v us Q I rx rxs h
  obtain ⟨a, ys, y, j, z, rfl, rfl, hs, fy, fys, hz, hzj, hno, q⟩ := h
  cases rx
  cases rxs with
  | cons ry rt =>
    rename_i uy ut
    cases rt
    obtain ⟨its, rv, ⟨⟨cls, dd, data, sl⟩, n, ho, hc, hdn, hd⟩, hlen⟩ := I.list hs
    simp only at hc hd
    subst hc hd
    obtain ⟨u, hu, ru⟩ := rv.get hz
    obtain ⟨hjl, hje⟩ := List.getElem?_eq_some_iff.mp hu
    have hvl := rv.length
    have hj : j < its.toArray.size := by simpa using hjl
    have hsl := sizeLine_eq
    refine call_meets PySem.F.slot_list_index ⟨_, ho, rfl⟩ PySem.F.entry_list_index (PySem.F.args_list_index_2 _ _)
      (SeqAt.list_indexAt a its.toArray n dd sl uy (eqU y) j hj (by omega) ?_ ?_) ⟨ho, fun u' hu' => mem_eqAt ry fy rv fys u' (by simpa using hu'), ?_⟩
    · have e1 : its.toArray[j] = u := by simpa using hje
      rw [e1, eqU_of ru (flat_at fys hz)]
      exact hzj
    · intro m hm hmj
      have hml : m < its.length := by simpa using hm
      have hmy : m < ys.length := by omega
      have hy' : ys[m]? = some ys[m] := List.getElem?_eq_getElem hmy
      obtain ⟨u2, hu2, ru2⟩ := rv.get hy'
      obtain ⟨_, hme⟩ := List.getElem?_eq_some_iff.mp hu2
      have e1 : its.toArray[m] = u2 := by simpa using hme
      rw [e1, eqU_of ru2 (flat_at fys hy')]
      exact hno m _ hmj hy'
    · exact ⟨.int (j : Nat), H, I.tok _, ⟨_, rfl⟩, q⟩
end
/-! ### type(x) of an own instance; is, is not of a module's class -/
section
variable {X : Cx}
end
/-! ### any(xs), all(xs) of a list of bools -/
theorem iter_any {prog : Program} {w : World} {A : Around} {E : Value → Shared → Prop} {s : Shared} {l : Addr} {items : Array Value} {Q : Value → Shared → Prop} (hl : s.heap.IsList l items)
    (h : ∀ s₂ : Shared, s₂ = { s with heap := s.heap.push { cls := .type "list_iterator", data := .fields #[.ref l, .int 0 0] } } →
      (s₂.heap.IsListIter s.heap.objs.size l 0 ∧ s₂.heap.IsList l items) → l ≠ s.heap.objs.size → Q (.ref s.heap.objs.size) s₂) : wpAny (model prog w) A (pyIter (.ref l)) Q E s := by
  have hlt : l < s.heap.objs.size := by obtain ⟨_, e, _⟩ := hl; exact Heap.lt_size e
  exact wpAny_pyIter_list hl (h _ rfl ⟨⟨_, Heap.get?_push_size _ rfl, rfl, rfl⟩, hl.push _⟩ (Nat.ne_of_lt hlt))
theorem truth_bools {prog : Program} {w : World} {A : Around} {bs : List Bool} {its : List Value} (e : its = bs.map Value.bool) :
    TruthOf prog w A (fun i v => its.toArray[i]? = some v) (fun i => bs.getD i false) := fun i v s Q E hv hq => by
  have hv' : its[i]? = some v := by simpa using hv
  rw [e, List.getElem?_map] at hv'
  obtain ⟨b, hb, rfl⟩ := Option.map_eq_some_iff.mp hv'
  have hg : bs.getD i false = b := by rw [List.getD_eq_getElem?_getD, hb] <;> rfl
  have hq' : Q (bs.getD i false) s := hq
  rw [hg] at hq'
  exact wpAny_truthy_bool hq'
theorem any_range : ∀ bs : List Bool, (List.range bs.length).any (fun i => bs.getD i false) = bs.any id
  | [] => rfl
  | b :: bs => by
    rw [List.length_cons, List.range_succ_eq_map, List.any_cons, List.any_map, List.any_cons, ← any_range bs]
    all_goals rfl
section
variable {X : Cx}
def rAny (K : PySem.W.Frag) : List V → Hp → VK → Prop := fun vs H Q => ∃ (a : Addr) (bs : List Bool), vs = [V.ref a] ∧ SqL K H a (bs.map V.bl) ∧ Q (.bl (bs.any id)) H
theorem cr_any (hc : X.calm = true) : CallR X (.builtin "any") (rAny X.K) := by
  intro pins s σ H vs us Q I r h
  obtain ⟨a, bs, rfl, hs, q⟩ := h
  obtain ⟨its, rv, hl, _⟩ := I.list hs
  rw [Vals.ref1 r]
  have hb := rv.bls
  refine call_any_walk (iter_any hl.isList fun s₂ e2 st hne => ?_)
  subst e2
  refine ⟨_, _, _, _, _, _, _, rfl, Walks.list (A := X.A.in1) (I.ok.hd hc) _ a hne its.toArray, st, truth_bools hb, fun h' tk hk => ?_⟩
  refine ⟨.bl _, H, I.kept fun b o eo => hk b o (fun hmem => ?_) (Heap.get?_push_of_some _ eo), ?_, q⟩
  · rcases List.mem_cons.mp hmem with e1 | hmem
    · exact absurd (e1 ▸ Heap.lt_size eo) (Nat.lt_irrefl _)
    · cases hmem
  · show Value.bool _ = Value.bool _
    rw [← any_range, hb, List.size_toArray, List.length_map]
end
/-! ### == and != of data at any depth: none, bools, ints, texts, lists, tuples -/
mutual
inductive Dp (K : PySem.W.Frag) (H : Hp) : V → PyData → Prop
  | non : Dp K H .non .none
  | bl (b : Bool) : Dp K H (.bl b) (.bool b)
  | int (i : Int) : Dp K H (.int i) (.int i)
  | str (x : Str) : Dp K H (.str x) (.str x)
  | lst {a : Addr} {xs : List V} {ds : List PyData} : SqL K H a xs → DpAll K H xs ds → Dp K H (.ref a) (.list ds)
  | tup {a : Addr} {xs : List V} {ds : List PyData} : SqT K H a xs → DpAll K H xs ds → Dp K H (.ref a) (.tuple ds)
inductive DpAll (K : PySem.W.Frag) (H : Hp) : List V → List PyData → Prop
  | nil : DpAll K H [] []
  | cons {v : V} {vs : List V} {d : PyData} {ds : List PyData} : Dp K H v d → DpAll K H vs ds → DpAll K H (v :: vs) (d :: ds)
end
section
variable {X : Cx} {pins : List (Addr × Obj)} {σ : St} {H : Hp} {s : Shared}
mutual
theorem Dp.reads (I : Inv X pins σ H s) : ∀ (d : PyData) (v : V) (u : Value), Dp X.K H v d → RelV v u → ∃ as, Reads s.heap u d as
  | .none, _, _, h, r => by
    cases h
    cases r
    exact ⟨_, Reads.none⟩
  | .bool b, _, _, h, r => by
    cases h
    cases r
    exact ⟨_, Reads.bool b⟩
  | .int i, _, _, h, r => by
    cases h
    obtain ⟨t, rfl⟩ := r
    exact ⟨_, Reads.int i t⟩
  | .str x, _, _, h, r => by
    cases h
    obtain ⟨t, rfl⟩ := r
    exact ⟨_, Reads.str x t⟩
  | .list ds, _, _, h, r => by
    cases h with
    | lst hs ha =>
      cases r
      obtain ⟨its, rv, ⟨o, n, ho, hc, _, hd⟩, _⟩ := I.list hs
      obtain ⟨as, hr⟩ := Dp.readsAll I ds _ its ha rv
      exact ⟨_, Reads.list ho hc hd hr⟩
  | .tuple ds, _, _, h, r => by
    cases h with
    | tup hs ha =>
      cases r
      obtain ⟨its, rv, ⟨o, ho, hc, n, hd⟩, _⟩ := I.tuple hs
      obtain ⟨as, hr⟩ := Dp.readsAll I ds _ its ha rv
      exact ⟨_, Reads.tuple ho hc hd hr⟩
  | .dict _, _, _, h, _ => by cases h
theorem Dp.readsAll (I : Inv X pins σ H s) : ∀ (ds : List PyData) (vs : List V) (us : List Value), DpAll X.K H vs ds → Vals vs us → ∃ as, ReadsAll s.heap us ds as
  | [], _, _, h, r => by
    cases h
    cases r
    exact ⟨_, ReadsAll.nil⟩
  | d :: ds, _, _, h, r => by
    cases h with
    | cons h1 h2 =>
      cases r with
      | cons r1 r2 =>
        obtain ⟨as, q1⟩ := Dp.reads I d _ _ h1 r1
        obtain ⟨bs, q2⟩ := Dp.readsAll I ds _ _ h2 r2
        exact ⟨_, ReadsAll.cons q1 q2⟩
end
end
section
variable {X : Cx}
def rEqD (K : PySem.W.Frag) : R2 := fun x y H Q => ∃ d e, Dp K H x d ∧ Dp K H y e ∧ SeqAt.shaped d = true ∧ SeqAt.shaped e = true ∧ Q (.bl (PyData.eqv d e)) H
theorem op_eqD (hu : X.A.units + 64 < cLine) : OpR X (compareOp .Eq) (rEqD X.K) := by
  intro pins s σ H x y v u Q I rx ry h
  obtain ⟨d, e, hd, he, sd, se, q⟩ := h
  obtain ⟨as, r1⟩ := Dp.reads I d x v hd rx
  obtain ⟨bs, r2⟩ := Dp.reads I e y u he ry
  exact SeqAt.compareEq_shaped r1 r2 sd se hu ⟨.bl _, H, I, rfl, q⟩
end
end L2
namespace L2
open PySem PySem.Spec PyProof.Rows
abbrev CellAt (h : Heap) (c : Addr) (v : Option Value) : Prop := h.IsCell c v
def relS (scope sc : Scope) : Scope :=
  { scope with names := scope.names.map fun (n, k) => if (k == .free && sc.kind == .function && sc.names.lookup n == some .cell) then (n, .cell) else (n, k) }
def cloFrom (cells : List (Str × Addr)) : List (Str × NameKind) → List (Str × Addr) → List (Str × Addr)
  | [], acc => acc
  | (n, k) :: r, acc => if k == .free then cloFrom cells r ((n, (cells.lookup n).getD 0) :: acc) else cloFrom cells r acc
theorem closure_loop (env : Env) (f : Str × NameKind → List (Str × Addr) → Sem (ForInStep (List (Str × Addr))))
    (hf : ∀ n k c, f (n, k) c = if k == .free then (do let a ← cellOf env n; pure (.yield ((n, a) :: c))) else pure (.yield c)) :
    ∀ (names : List (Str × NameKind)) (acc : List (Str × Addr)), (∀ y ∈ names, y.2 = .free → ∃ c, env.cells.lookup y.1 = some c) → forIn names acc f = pure (cloFrom env.cells names acc)
  | [], acc, _ => by rw [List.forIn_nil]; rfl
  | (n, k) :: r, acc, h => by
    rw [List.forIn_cons, hf]
    have ih := fun acc => closure_loop env f hf r acc fun y hy => h y (List.mem_cons_of_mem _ hy)
    unfold cloFrom
    by_cases hk : (k == NameKind.free) = true
    · rw [if_pos hk, if_pos hk]
      obtain ⟨c, hc⟩ := h (n, k) List.mem_cons_self (by simpa using hk)
      have e : cellOf env n = pure c := by unfold cellOf; rw [hc]
      rw [e]
      have e2 : (env.cells.lookup n).getD 0 = c := by rw [hc]; rfl
      rw [e2]
      exact ih _
    · rw [if_neg hk, if_neg hk]
      exact ih _
theorem closure_ok {scope : Scope} {env : Env} (h : ∀ y ∈ scope.names, y.2 = .free → ∃ c, env.cells.lookup y.1 = some c) : closureFor scope env = pure (cloFrom env.cells scope.names []) := by
  simp only [closureFor]
  rw [closure_loop env _ (fun n k c => rfl) scope.names [] h]
  rfl
theorem mem_lookup {α : Type} : ∀ {l : List (Str × α)} {n : Str} {c : α}, (n, c) ∈ l → ∃ c', l.lookup n = some c'
  | (k, v) :: r, n, c, h => by
    rw [List.lookup_cons]
    cases hb : n == k with
    | true => exact ⟨_, rfl⟩
    | false =>
      rcases List.mem_cons.mp h with e | h
      · cases e; simp at hb
      · exact mem_lookup h
theorem cloFrom_mem {cells : List (Str × Addr)} : ∀ {names : List (Str × NameKind)} {acc : List (Str × Addr)} {n : Str} {c : Addr}, (n, c) ∈ cloFrom cells names acc → (n, c) ∈ acc ∨ ((n, .free) ∈ names ∧ c = (cells.lookup n).getD 0)
  | [], _, _, _, h => .inl h
  | (m, k) :: r, acc, n, c, h => by
    unfold cloFrom at h
    split at h
    · rename_i hk
      have hk : k = .free := by simpa using hk
      rcases cloFrom_mem h with h | ⟨h1, h2⟩
      · rcases List.mem_cons.mp h with e | h
        · cases e; exact .inr ⟨hk ▸ List.mem_cons_self, rfl⟩
        · exact .inl h
      · exact .inr ⟨List.mem_cons_of_mem _ h1, h2⟩
    · rcases cloFrom_mem h with h | ⟨h1, h2⟩
      · exact .inl h
      · exact .inr ⟨List.mem_cons_of_mem _ h1, h2⟩
theorem cloFrom_acc {cells : List (Str × Addr)} : ∀ {names : List (Str × NameKind)} {acc : List (Str × Addr)} {p : Str × Addr}, p ∈ acc → p ∈ cloFrom cells names acc
  | [], _, _, h => h
  | (m, k) :: r, acc, p, h => by
    unfold cloFrom
    split
    · exact cloFrom_acc (List.mem_cons_of_mem _ h)
    · exact cloFrom_acc h
theorem cloFrom_has {cells : List (Str × Addr)} : ∀ {names : List (Str × NameKind)} {acc : List (Str × Addr)} {n : Str}, (n, .free) ∈ names → (n, (cells.lookup n).getD 0) ∈ cloFrom cells names acc
  | (m, k) :: r, acc, n, h => by
    unfold cloFrom
    rcases List.mem_cons.mp h with e | h
    · cases e
      exact cloFrom_acc List.mem_cons_self
    · split
      · exact cloFrom_has h
      · exact cloFrom_has h
theorem cells_mem : ∀ {names : List (Str × NameKind)} {h : Heap} {acc : List (Str × Addr)} {x : Str} {c : Addr}, (x, c) ∈ cellsFrom h.objs.size names acc →
    (x, c) ∈ acc ∨ ((x, .cell) ∈ names ∧ h.objs.size ≤ c ∧ CellAt (pushCells h names) c none)
  | [], _, _, _, _, h => .inl h
  | (n, k) :: r, h, acc, x, c, hm => by
    unfold cellsFrom at hm
    unfold pushCells
    split at hm
    · rename_i hk
      rw [if_pos hk]
      have hk : k = .cell := by simpa using hk
      rw [← Heap.size_push h { cls := .type "cell", data := .cell none }] at hm
      rcases cells_mem hm with hm | ⟨h1, h2, h3⟩
      · rcases List.mem_cons.mp hm with e | hm
        · cases e
          exact .inr ⟨hk ▸ List.mem_cons_self, Nat.le_refl _, _, pushCells_keeps r _ _ _ (Heap.get?_push_size _ rfl), rfl⟩
        · exact .inl hm
      · rw [Heap.size_push] at h2
        exact .inr ⟨List.mem_cons_of_mem _ h1, Nat.le_of_succ_le h2, h3⟩
    · rename_i hk
      rw [if_neg hk]
      rcases cells_mem hm with hm | ⟨h1, h2, h3⟩
      · exact .inl hm
      · exact .inr ⟨List.mem_cons_of_mem _ h1, h2, h3⟩
theorem cells_acc : ∀ {names : List (Str × NameKind)} {n : Nat} {acc : List (Str × Addr)} {p : Str × Addr}, p ∈ acc → p ∈ cellsFrom n names acc
  | [], _, _, _, h => h
  | (m, k) :: r, n, acc, p, h => by
    unfold cellsFrom
    split
    · exact cells_acc (List.mem_cons_of_mem _ h)
    · exact cells_acc h
theorem cells_has : ∀ {names : List (Str × NameKind)} {n : Nat} {acc : List (Str × Addr)} {x : Str}, (x, .cell) ∈ names → ∃ c, (x, c) ∈ cellsFrom n names acc
  | (m, k) :: r, n, acc, x, h => by
    unfold cellsFrom
    rcases List.mem_cons.mp h with e | h
    · cases e
      exact ⟨n, cells_acc List.mem_cons_self⟩
    · split
      · exact cells_has h
      · exact cells_has h
theorem cells_inj : ∀ {names : List (Str × NameKind)} {h : Heap} {acc : List (Str × Addr)} {x y : Str} {c : Addr}, (∀ p ∈ acc, p.2 < h.objs.size) → (∀ x y c, (x, c) ∈ acc → (y, c) ∈ acc → x = y) →
    (x, c) ∈ cellsFrom h.objs.size names acc → (y, c) ∈ cellsFrom h.objs.size names acc → x = y
  | [], _, _, _, _, _, _, hi, h1, h2 => hi _ _ _ h1 h2
  | (n, k) :: r, h, acc, x, y, c, hl, hi, h1, h2 => by
    unfold cellsFrom at h1 h2
    split at h1
    · rename_i hk
      rw [if_pos hk] at h2
      rw [← Heap.size_push h { cls := .type "cell", data := .cell none }] at h1 h2
      refine cells_inj (h := h.push _) (fun p hp => ?_) (fun x y c a b => ?_) h1 h2
      · rw [Heap.size_push]
        rcases List.mem_cons.mp hp with rfl | hp
        · exact Nat.lt_succ_self _
        · exact Nat.lt_succ_of_lt (hl p hp)
      · rcases List.mem_cons.mp a with e | a <;> rcases List.mem_cons.mp b with e' | b
        · cases e; cases e'; rfl
        · cases e; exact absurd (hl _ b) (Nat.lt_irrefl _)
        · cases e'; exact absurd (hl _ a) (Nat.lt_irrefl _)
        · exact hi _ _ _ a b
    · rename_i hk
      rw [if_neg hk] at h2
      exact cells_inj hl hi h1 h2
theorem newEnv_comp {M : Model} {A : Around} {E : Value → Shared → Prop} {s : Shared} {scope : Scope} {globals : Addr} {closure : List (Str × Addr)} {qual : Str} {func : Option Addr} {code : Value} {around : Env} {builtins : Addr} {Q : Env → Shared → Prop}
    (h : Q (newEnv scope s.heap.objs.size globals (cellsFrom (s.heap.objs.size + 1) scope.names closure) qual func code (some around) builtins)
      { s with heap := pushCells (s.heap.push { cls := .type "dict", data := .dict #[] }) scope.names }) :
    wpAny M A (newFunctionEnv scope globals closure [] qual func code (some around) builtins) Q E s := by
  simp only [newFunctionEnv, Option.isSome_some, if_true]
  refine wpAny_bind (wpAny_alloc ?_)
  refine wpAny_bind (wpAny_layCells _ (fun n k c => rfl) scope.names closure _ _ ?_)
  rw [show ({ s with heap := s.heap.push { cls := .type "dict", data := .dict #[] } } : Shared).heap.objs.size = s.heap.objs.size + 1 from Heap.size_push ..]
  rw [List.forIn_nil]
  exact wpAny_bind (wpAny_pure (wpAny_pure h))
/-- every name of the written scope, in the scope that runs -/
theorem lookup_relS {sc : Scope} : ∀ {names : List (Str × NameKind)} {x : Str} {k : NameKind},
    (names.map fun (n, k) => if (k == NameKind.free && sc.kind == .function && sc.names.lookup n == some .cell) then (n, NameKind.cell) else (n, k)).lookup x = some k →
    ∃ k', names.lookup x = some k' ∧ (k = k' ∨ (k' = .free ∧ k = .cell))
  | [], _, _, h => by simp at h
  | (n, k₀) :: r, x, k, h => by
    have ih := @lookup_relS sc r x k
    have h' : List.lookup x ((if (k₀ == NameKind.free && sc.kind == .function && sc.names.lookup n == some .cell) = true then (n, NameKind.cell) else (n, k₀)) :: (r.map _)) = some k := h
    cases hx : x == n with
    | true =>
      simp only [List.lookup_cons, hx]
      by_cases hc : (k₀ == NameKind.free && sc.kind == .function && sc.names.lookup n == some .cell) = true
      · rw [if_pos hc] at h'
        simp only [List.lookup_cons, hx] at h'
        cases h'
        simp only [Bool.and_eq_true, beq_iff_eq] at hc
        exact ⟨k₀, rfl, .inr ⟨hc.1.1, rfl⟩⟩
      · rw [if_neg hc] at h'
        simp only [List.lookup_cons, hx] at h'
        cases h'
        exact ⟨_, rfl, .inl rfl⟩
    | false =>
      simp only [List.lookup_cons, hx]
      by_cases hc : (k₀ == NameKind.free && sc.kind == .function && sc.names.lookup n == some .cell) = true
      · rw [if_pos hc] at h'
        simp only [List.lookup_cons, hx] at h'
        exact ih h'
      · rw [if_neg hc] at h'
        simp only [List.lookup_cons, hx] at h'
        exact ih h'
/-- the names of a comprehension's block: its own (with their places in N), or captured -/
structure BlkOk (N : List Str) (sc scope : Scope) (own : List (Str × Nat)) : Prop where
  kind : scope.kind = .function
  uniq : ∀ y ∈ scope.names, scope.names.lookup y.1 = some y.2
  ix : ∀ p ∈ own, N[p.2]? = some p.1
  free : ∀ y ∈ scope.names, y.2 = .free → sc.names.lookup y.1 = some .cell ∨ sc.names.lookup y.1 = some .free
  own : ∀ y ∈ scope.names, y.2 = .local ∨ y.2 = .cell → y.1 ∈ own.map (·.1) ∨ y.1 ∉ N
/-- the slots of the block's own names forgotten -/
def wipe (σ : St) : List Nat → St
  | [] => σ
  | v :: vs => (wipe σ vs).set v none
theorem wipe_length (σ : St) : ∀ vs : List Nat, (wipe σ vs).length = σ.length
  | [] => rfl
  | v :: vs => by unfold wipe; rw [List.length_set, wipe_length σ vs]
theorem wipe_some {σ : St} {i : Nat} {x : V} : ∀ {vs : List Nat}, (wipe σ vs)[i]? = some (some x) → σ[i]? = some (some x) ∧ i ∉ vs
  | [], h => ⟨h, by simp⟩
  | v :: vs, h => by
    unfold wipe at h
    by_cases hi : v = i
    · subst hi
      by_cases hv : v < (wipe σ vs).length
      · rw [List.getElem?_set_self hv] at h; cases h
      · rw [List.getElem?_eq_none (by simpa using hv)] at h; cases h
    · rw [List.getElem?_set_ne hi] at h
      obtain ⟨h1, h2⟩ := wipe_some h
      exact ⟨h1, by simp only [List.mem_cons, not_or]; exact ⟨fun e => hi e.symm, h2⟩⟩
/-- the context of a block that starts at s, its iterator's objects at fp -/
abbrev Cx.blk (X : Cx) (s : Shared) (H : Hp) (scope : Scope) (cenv : Env) (fp : List Addr) : Cx := { X with s_0 := s, H_0 := H, env := cenv, outer := X.stack, ex := fp, fn := fun x => scope.names.lookup x == some .cell, pn := [], xe := fun _ _ => False }
section
variable {X : Cx} {pins : List (Addr × Obj)} {σ : St} {H : Hp} {s : Shared}
theorem block_start {scope : Scope} {own : List (Str × Nat)} {fp : List Addr} (I : Inv X pins σ H s) (ok : BlkOk X.N X.env.scope scope own) (hN : X.N.Nodup) (hfp : ∀ b ∈ fp, FpOk X pins H b ∧ b < s.heap.objs.size) :
    Inv (X.blk s H scope (compEnvC scope (cellsFrom (s.heap.objs.size + 1) scope.names (cloFrom X.env.cells scope.names [])) s.heap.objs.size X.env) fp) [] (wipe σ (own.map (·.2))) H { s with heap := pushCells (s.heap.push { cls := .type "dict", data := .dict #[] }) scope.names } := by
  have hfree : ∀ y ∈ scope.names, y.2 = .free → ∃ c, X.env.cells.lookup y.1 = some c := fun y hy e => by
    rcases ok.free y hy e with k | k
    · exact I.ok.has _ (.inl k)
    · exact I.ok.has _ (.inr k)
  generalize hcenv : compEnvC scope (cellsFrom (s.heap.objs.size + 1) scope.names (cloFrom X.env.cells scope.names [])) s.heap.objs.size X.env = cenv
  have kp : ∀ b o, s.heap.get? b = some o → (pushCells (s.heap.push { cls := .type "dict", data := .dict #[] }) scope.names).get? b = some o := fun b o e => pushCells_keeps _ _ _ _ (Heap.get?_push_of_some _ e)
  have hL : cenv.locals = s.heap.objs.size := by rw [← hcenv]; rfl
  have hcl : cenv.cells = cellsFrom (s.heap.objs.size + 1) scope.names (cloFrom X.env.cells scope.names []) := by rw [← hcenv]; rfl
  have hsc : cenv.scope = relS scope X.env.scope := by rw [← hcenv]; rfl
  rw [← Heap.size_push s.heap { cls := .type "dict", data := .dict #[] }] at hcl
  have cm : ∀ {y c}, (y, c) ∈ cloFrom X.env.cells scope.names [] → X.env.cells.lookup y = some c ∧ c < s.heap.objs.size := fun {y c} hm => by
    rcases cloFrom_mem hm with hm | ⟨h1, rfl⟩
    · cases hm
    · obtain ⟨c, hc⟩ := hfree _ h1 rfl
      rw [hc]
      obtain ⟨w, z⟩ := I.cell _ _ hc
      exact ⟨rfl, z.lt⟩
  have mem : ∀ {y c}, cenv.cells.lookup y = some c → (X.env.cells.lookup y = some c ∧ c < s.heap.objs.size) ∨ (s.heap.objs.size + 1 ≤ c ∧ CellAt (pushCells (s.heap.push { cls := .type "dict", data := .dict #[] }) scope.names) c none) := fun {y c} e => by
    rw [hcl] at e
    rcases cells_mem (PySem.mem_of_lookup e) with hm | ⟨_, h2, h3⟩
    · exact .inl (cm hm)
    · rw [Heap.size_push] at h2; exact .inr ⟨h2, h3⟩
  have look : ∀ {y}, scope.names.lookup y = some .free → ∃ c, cenv.cells.lookup y = some c ∧ X.env.cells.lookup y = some c := fun {y} hl => by
    have hy : (y, NameKind.free) ∈ scope.names := PySem.mem_of_lookup hl
    obtain ⟨c', e'⟩ := mem_lookup (cells_acc (names := scope.names) (n := (s.heap.push { cls := .type "dict", data := .dict #[] }).objs.size) (cloFrom_has (cells := X.env.cells) (acc := []) hy))
    rw [← hcl] at e'
    refine ⟨c', e', ?_⟩
    rw [hcl] at e'
    rcases cells_mem (PySem.mem_of_lookup e') with hm | ⟨h1, _, _⟩
    · exact (cm hm).1
    · have := ok.uniq _ h1
      rw [hl] at this; cases this
  have okB : (X.blk s H scope cenv fp).Ok := by
    refine ⟨I.ok.mod, by show cenv.scope.kind = _; rw [hsc]; exact ok.kind, by show cenv.globals = _; rw [← hcenv]; exact I.ok.glob, by show cenv.builtins = _; rw [← hcenv]; exact I.ok.blt, by show s.heap.objs.size ≤ cenv.locals; rw [hL]; exact Nat.le_refl _,
      fun y z c e1 e2 => ?_, fun y hy => ?_, fun y c z e => ?_, I.ok.hd, I.ok.frames, .inl rfl, fun b hb => ⟨?_, fun y c e z => ?_⟩, I.bs, Nat.le_trans I.ok.bsz I.sz, fun b o e hb => ?_, fun b hb z => ?_, I.stack, I.stkFree⟩
    · have e1 : cenv.cells.lookup y = some c := e1
      have e2 : cenv.cells.lookup z = some c := e2
      rw [hcl] at e1 e2
      refine cells_inj (fun p hp => ?_) (fun y z c a b => I.ok.inj y z c (cm a).1 (cm b).1) (PySem.mem_of_lookup e1) (PySem.mem_of_lookup e2)
      rw [Heap.size_push]
      exact Nat.lt_succ_of_lt (cm (y := p.1) (c := p.2) hp).2
    · show ∃ c, cenv.cells.lookup y = some c
      have key : ∀ k, cenv.kindOf y = some k → (k = .cell ∨ k = .free) → ∃ c, cenv.cells.lookup y = some c := fun k hk hk' => by
        unfold Env.kindOf at hk
        rw [hsc] at hk
        obtain ⟨k', e, r⟩ := lookup_relS hk
        have : k' = .cell ∨ k' = .free := by
          rcases r with rfl | ⟨rfl, _⟩
          · exact hk'
          · exact .inr rfl
        rcases this with rfl | rfl
        · obtain ⟨c, hm⟩ := cells_has (n := (s.heap.push { cls := .type "dict", data := .dict #[] }).objs.size) (acc := cloFrom X.env.cells scope.names []) (PySem.mem_of_lookup e)
          obtain ⟨c', e'⟩ := mem_lookup hm
          exact ⟨c', by rw [hcl]; exact e'⟩
        · obtain ⟨c, h1, _⟩ := look e
          exact ⟨c, h1⟩
      rcases hy with hy | hy
      · exact key _ hy (.inl rfl)
      · exact key _ hy (.inr rfl)
    · have z : (scope.names.lookup y == some NameKind.cell) = true := z
      have z : scope.names.lookup y = some .cell := by simpa using z
      have e : cenv.cells.lookup y = some c := e
      rw [hcl] at e
      rcases cells_mem (PySem.mem_of_lookup e) with hm | ⟨_, h2, _⟩
      · rcases cloFrom_mem hm with hm | ⟨h1, _⟩
        · cases hm
        · have q := ok.uniq _ h1
          rw [z] at q; cases q
      · rw [Heap.size_push] at h2
        exact Nat.le_of_succ_le h2
    · show b ≠ cenv.locals
      rw [hL]; exact Nat.ne_of_lt (hfp b hb).2
    · have e : cenv.cells.lookup y = some c := e
      rcases mem e with ⟨h1, _⟩ | ⟨h1, _⟩
      · exact (hfp b hb).1.2.2.2.2.1 y c h1 z
      · have h2 : s.heap.objs.size + 1 ≤ b := by rw [← z]; exact h1
        exact absurd (Nat.lt_of_lt_of_le (hfp b hb).2 (Nat.le_of_succ_le h2)) (Nat.lt_irrefl _)
    · rcases (hfp b hb).1.2.2.2.1 with z | z
      · exact I.ok.noex b o e z
      · exact absurd (Nat.lt_of_lt_of_le (Heap.lt_size e) (Nat.le_trans I.ok.bsz z)) (Nat.lt_irrefl _)
    · rcases List.mem_cons.mp (I.stkSub b z) with z | z
      · exact (hfp b hb).1.2.1 z
      · exact (hfp b hb).1.2.2.1 z
  refine ⟨okB, rfl, I.bare, Un.kept kp, ⟨fun _ => none, ?_, fun i y av e1 e2 e3 => ?_⟩, fun y c e => ?_, ?_, fun y c e => ?_, fun p hp => ?_, I.hok.kept kp, by rw [wipe_length]; exact I.len⟩
  · show Heap.Ns _ cenv.locals _
    rw [hL]
    exact Heap.Ns.keeps (Heap.Ns.new ..) fun b o e => pushCells_keeps _ _ _ _ e
  · obtain ⟨e2, hne⟩ := wipe_some e2
    have hfr : scope.names.lookup y = some .free ∧ (cenv.kindOf y = some .cell ∨ cenv.kindOf y = some .free) := by
      have key : ∀ k, cenv.scope.names.lookup y = some k → k = .local ∨ k = .cell ∨ k = .free → scope.names.lookup y = some .free ∧ (cenv.kindOf y = some .cell ∨ cenv.kindOf y = some .free) := fun k hk hk' => by
        have hk0 := hk
        rw [hsc] at hk
        obtain ⟨k', e, r⟩ := lookup_relS hk
        have no : ¬ (k' = .local ∨ k' = .cell) := fun hh => by
          rcases ok.own _ (PySem.mem_of_lookup e) hh with e' | e'
          · obtain ⟨p, hp, hpy⟩ := List.mem_map.mp e'
            have e3 := ok.ix p hp
            have : p.1 = y := hpy
            rw [this] at e3
            exact hne (List.mem_map.mpr ⟨p, hp, nodup_ix hN e3 e1⟩)
          · exact e' (List.mem_of_getElem? e1)
        rcases r with rfl | ⟨rfl, rfl⟩
        · rcases hk' with rfl | rfl | rfl
          · exact absurd (.inl rfl) no
          · exact absurd (.inr rfl) no
          · exact ⟨e, .inr hk0⟩
        · exact ⟨e, .inl hk0⟩
      have e3 : Vis cenv.scope y := e3
      rcases e3 with e3 | e3 | e3
      · exact key _ e3 (.inl rfl)
      · exact key _ e3 (.inr (.inl rfl))
      · exact key _ e3 (.inr (.inr rfl))
    obtain ⟨m, hn, hl⟩ := I.loc
    have hvis : Vis X.env.scope y := (ok.free _ (PySem.mem_of_lookup hfr.1) rfl).elim (fun k => .inr (.inl k)) (fun k => .inr (.inr k))
    obtain ⟨w, r, q⟩ := hl i y av e1 e2 hvis
    refine ⟨w, r, .inr ⟨hfr.2, ?_⟩⟩
    obtain ⟨c, h1, h2⟩ := look hfr.1
    rcases q with ⟨k, _⟩ | ⟨_, c', e', z⟩
    · have k : X.env.scope.names.lookup y = some .local := k
      rcases ok.free _ (PySem.mem_of_lookup hfr.1) rfl with k' | k' <;> rw [show X.env.scope.names.lookup y = _ from k'] at k <;> cases k
    · rw [h2] at e'; cases e'
      exact ⟨c, h1, z.keeps kp⟩
  · have e : cenv.cells.lookup y = some c := e
    rcases mem e with ⟨h1, _⟩ | ⟨_, z⟩
    · obtain ⟨w, z⟩ := I.cell y c h1
      exact ⟨w, z.keeps kp⟩
    · exact ⟨_, z⟩
  · show H cenv.locals = none
    rw [hL]; exact I.hok.fresh (Nat.le_refl _)
  · have e : cenv.cells.lookup y = some c := e
    rcases mem e with ⟨h1, _⟩ | ⟨h1, _⟩
    · exact I.freeC y c h1
    · exact I.hok.fresh (Nat.le_of_succ_le h1)
  · exact absurd (show p ∈ ([] : List (Addr × Obj)) ++ [] from hp) (by simp)
/-- an item appended to a tracked list -/
theorem app_ok {E : Value → Shared → Prop} {D : Addr} {xs : List V} {y : V} {v : Value} {Q : Value → Shared → Prop} (I : Inv X pins σ H s) (hD : H D = some (.lst xs)) (hz : xs.length < sizeLine) (r : RelV y v)
    (h : ∀ s', Inv X pins σ (upd H D (.lst (xs ++ [y]))) s' → Q .none s') : wpAny (model X.prog X.w) X.A (call (.builtin "list.append") [.ref D, v]) Q E s := by
  obtain ⟨hz', its, n, ri, e⟩ := I.hok D _ hD
  have hl := ri.length
  refine append_at (hsz := by rw [List.size_toArray]; omega) e fun h' sb ho' => ?_
  refine h { s with heap := h' } (I.write (t' := s.toks) (by rw [hD]; trivial) (.inl rfl) (fun b u hb q => (sb.2 b hb).trans q) ⟨_, ho'⟩ ⟨by rw [List.length_append]; exact hz, its ++ [v], n + 1, ri.append (.cons r .nil), ?_⟩)
  rw [ho']
  simp
/-- a clause's tests -/
def PTs (X : Cx) (ifs : List Expr) (t : TT) : Prop :=
  ∀ (pins : List (Addr × Obj)) (s : Shared) (σ : St) (H : Hp) (Q : Bool → Hp → Prop), Inv X pins σ H s → t σ H Q →
    wpAny (model X.prog X.w) X.A (forIn ifs true fun c r => if r = true then do let ok ← isTrue c X.env (eval c X.env); pure (ForInStep.yield ok) else pure (ForInStep.yield r)) (TP X pins σ Q) X.xe s
def tYes : TT := fun _ H Q => Q true H
theorem pts_nil : PTs X [] tYes := fun _ _ _ H _ I h => wpAny_tests_nil ⟨H, I, h⟩
theorem pts_one {c : Expr} {t : TT} (h : PT X c t) : PTs X [c] t := fun pins s σ H Q I hw => wpAny_tests_one (h pins s σ H Q I hw)
end
theorem thnF {α : Type} {t : Sem α} {Q Q' : α → Shared → Prop} {M : Model} {A : Around} {E : Value → Shared → Prop} {s : Shared} (h : wpAny M A t Q (fun _ _ => False) s) (hQ : ∀ a s, Q a s → Q' a s) : wpAny M A t Q' E s := wpAny_mono h hQ fun _ _ z => False.elim z
/-- the loop of a list comprehension's block, the target of any form (codeAny_compLoop_tests asks a target that no tuple goes to; statement and proof follow it, PyProof/CompMap.lean:41-61, with the step letOwnedTupleGo kept) -/
theorem compLoop_any {prog : Program} {w : World} {A : Around} {R : Result → Shared → Prop} {s : Shared} {elt target iter : Expr} {ifs : List Expr} {scope : Scope} {pos : Pos} {it acc : Value} {env : Env} (I : Nat → Shared → Prop)
    (turn : ∀ n s, I n s → wpAny (model prog w) A (pyNext it) (fun r s₁ => match r with
      | none => R (.ok .next) s₁
      | some v => wpAny (model prog w) A (letOwnedTupleGo target it v) (fun _ s₁' => wpAny (model prog w) A (assign target env v) (fun _ s₂ =>
          wpAny (model prog w) A (forIn ifs true fun c r => if r = true then do let ok ← isTrue c env (eval c env); pure (ForInStep.yield ok) else pure (ForInStep.yield r)) (fun ok s₃ =>
            if ok = true then wpAny (model prog w) A (eval elt env) (fun x s₄ =>
              wpAny (model prog w) A (call (.builtin "list.append") [acc, x]) (fun _ s₅ => ∃ m, m < n ∧ I m s₅) (notedBy (model prog w) A env fun e s' => R (.error e) s') s₄) (notedBy (model prog w) A env fun e s' => R (.error e) s') s₃
            else ∃ m, m < n ∧ I m s₃) (notedBy (model prog w) A env fun e s' => R (.error e) s') s₂) (notedBy (model prog w) A env fun e s' => R (.error e) s') s₁') (notedBy (model prog w) A env fun e s' => R (.error e) s') s₁) (notedBy (model prog w) A env fun e s' => R (.error e) s') s)
    (n : Nat) (h : I n s) :
    codeAny (model prog w) A (.compLoop (.ListComp elt [⟨target, iter, ifs, 0⟩] scope pos) 0 it acc env) R s := by
  refine codeAny_loop rfl I (fun n s hI => ?_) n h
  show wpAny _ A ((compTurn (.ListComp elt [⟨target, iter, ifs, 0⟩] scope pos) 0 it acc env).onRaise (fun x => do noteFrame x env; theTreesLotGoes x)) _ _ s
  refine wpAny_noted ?_
  rw [compTurn_list]
  refine wpAny_bind (wpAny_standAt (wpAny_bind (wpAny_mono (turn n s hI) (fun r s₁ h₁ => ?_) fun _ _ h' => h')))
  cases r with
  | none => exact wpAny_pure h₁
  | some v =>
    refine wpAny_bind (wpAny_mono h₁ (fun _ s₁' h₁' => ?_) fun _ _ h' => h')
    refine wpAny_bind (wpAny_mono h₁' (fun _ s₂ h₂ => wpAny_bind (wpAny_mono h₂ (fun ok s₃ h₃ => ?_) fun _ _ h' => h')) fun _ _ h' => h')
    cases ok with
    | false => exact wpAny_pure ⟨rfl, h₃⟩
    | true =>
      exact wpAny_bind (wpAny_bind (wpAny_mono h₃ (fun x s₄ h₄ => wpAny_bind (wpAny_mono h₄ (fun _ s₅ h₅ => wpAny_pure (wpAny_pure ⟨rfl, h₅⟩)) fun _ _ h' => h')) fun _ _ h' => h'))
section
variable {X : Cx}
/-- [elt for target in iter if ..]: D the new list; W by the turn and a measure, Nx what a turn is to reach -/
def tLc (wi : TI) (g : TG) (tt : TT) (te : TE) (vs : List Nat) : TE := fun σ H Q => wi σ H fun J H1 => ∀ D, H1 D = none → ∃ W : Nat → Nat → Hp → Prop, (∃ m, W 0 m (upd H1 D (.lst []))) ∧ ∀ i m H, W i m H →
  (J.stop i H ∧ Q (.ref D) H) ∨ (J.go i H ∧ ∃ Nx : Hp → Prop, (∀ H', Nx H' → ∃ m', m' < m ∧ W (i + 1) m' H') ∧ ∀ x H', J.yld i H x H' → g x (wipe σ vs) H' fun σ2 H2 => wipe σ2 vs = wipe σ vs ∧ tt σ2 H2 fun b H3 =>
    if b = true then te σ2 H3 fun y H4 => ∃ acc, H4 D = some (.lst acc) ∧ acc.length < sizeLine ∧ Nx (upd H4 D (.lst (acc ++ [y]))) else Nx H3)
theorem lc_core {pins : List (Addr × Obj)} {s : Shared} {σ : St} {H : Hp} {Q : VK} {elt tg iter : Expr} {ifs : List Expr} {scope : Scope} {own : List (Str × Nat)} {pos pos' : Pos} {wi : TI} {g : TG} {tt : TT} {te : TE} {use : Option (Value → Sem Unit)} {Qf : Value → Shared → Prop}
    (hc : X.calm = true) (hN : X.N.Nodup) (I : Inv X pins σ H s) (hi : PI X tg iter wi) (ok : BlkOk X.N X.env.scope scope own)
    (hg : ∀ (s : Shared) (H : Hp) (C : Addr) (cl : List (Str × Addr)) (fp : List Addr), PG (X.blk s H scope (compEnvC scope cl C X.env) fp) tg g) (ht : ∀ (s : Shared) (H : Hp) (C : Addr) (cl : List (Str × Addr)) (fp : List Addr), PTs (X.blk s H scope (compEnvC scope cl C X.env) fp) ifs tt)
    (he : ∀ (s : Shared) (H : Hp) (C : Addr) (cl : List (Str × Addr)) (fp : List Addr), PE (X.blk s H scope (compEnvC scope cl C X.env) fp) elt te) (hs : ∀ x, foldedSetIterable iter X.env x = pure x)
    (h : tLc wi g tt te (own.map (·.2)) σ H Q)
    (hRR : ∀ D C s' m H', Inv X pins σ H' s' → Q (.ref D) H' → s'.heap.Ns C m → FpOk X pins H' C → compPost (model X.prog X.w) X.A X.xe use Qf (.ref D) C (.ok .next) s') :
    wpAny (model X.prog X.w) X.A (comprehension (.ListComp elt [⟨tg, iter, ifs, 0⟩] scope pos) scope X.env pos' (newList []) false (eval iter X.env) use) Qf X.xe s := by
  have hfree : ∀ y ∈ scope.names, y.2 = .free → ∃ c, X.env.cells.lookup y.1 = some c := fun y hy e => by
    rcases ok.free y hy e with k | k
    · exact I.ok.has _ (.inl k)
    · exact I.ok.has _ (.inr k)
  refine wpAny_comprehension_free (use := use) rfl hs (closure_ok hfree) ok.kind (fun y hy e => by rw [ok.uniq y hy, e])
    (thn (hi pins s σ H _ I h) fun xv s1 hx => thn hx fun itv s2 h2 => ?_)
  obtain ⟨it, fp, tn, J, H2, e, I2, T, st2, f2, q⟩ := h2
  subst e
  refine wpAny_newObj_type (newEnv_comp ?_) (by show 0 ≤ sizeLine; decide)
  generalize hD : s2.heap.objs.size = D
  have hDn : H2 D = none := I2.hok.fresh (Nat.le_of_eq hD)
  obtain ⟨W, ⟨m0, w0⟩, turn⟩ := q D hDn
  -- the new list
  generalize hs3 : ({ s2 with heap := s2.heap.push { cls := .type "list", data := .seq ([] : List Value).toArray } } : Shared) = s3
  have I3 : Inv X pins σ (upd H2 D (.lst [])) s3 := by
    rw [← hs3]
    refine I2.laid (t' := s2.toks) (fun b o e => Heap.get?_push_of_some _ e) (Nat.le_of_eq hD) ⟨Nat.zero_le _, [], 0, .nil, ?_⟩
    rw [← hD]
    exact Heap.get?_push_size _ rfl
  have h3 : s3.heap = s2.heap.push { cls := .type "list", data := .seq ([] : List Value).toArray } := by rw [← hs3]
  have sz : ∀ b ∈ fp, b < s2.heap.objs.size := fun b hb => by
    obtain ⟨o, e, _⟩ := T.obj _ _ st2 b hb
    exact Heap.lt_size e
  have f3 : ∀ b ∈ fp, FpOk X pins (upd H2 D (.lst [])) b ∧ b < s3.heap.objs.size := fun b hb => by
    have hlt := sz b hb
    refine ⟨⟨?_, (f2 b hb).2⟩, by rw [h3, Heap.size_push]; exact Nat.lt_succ_of_lt hlt⟩
    rw [upd_ne (by rw [← hD]; exact Nat.ne_of_lt hlt)]
    exact (f2 b hb).1
  have st3 : tn 0 s3.heap := T.keep _ _ _ st2 fun b _ o e => by rw [h3]; exact Heap.get?_push_of_some _ e
  have I4 := block_start I3 ok hN f3
  have pg := hg s3 (upd H2 D (.lst [])) s3.heap.objs.size (cellsFrom (s3.heap.objs.size + 1) scope.names (cloFrom X.env.cells scope.names [])) fp
  have pt := ht s3 (upd H2 D (.lst [])) s3.heap.objs.size (cellsFrom (s3.heap.objs.size + 1) scope.names (cloFrom X.env.cells scope.names [])) fp
  have pe := he s3 (upd H2 D (.lst [])) s3.heap.objs.size (cellsFrom (s3.heap.objs.size + 1) scope.names (cloFrom X.env.cells scope.names [])) fp
  show codeAny _ _ (.compStart (.ListComp elt [⟨tg, iter, ifs, 0⟩] scope pos) 0 (.ref it) (.ref D) (compEnvC scope (cellsFrom (s3.heap.objs.size + 1) scope.names (cloFrom X.env.cells scope.names [])) s3.heap.objs.size X.env)) (compPost (model X.prog X.w) X.A X.xe use Qf (.ref D) s3.heap.objs.size) { s3 with heap := pushCells (s3.heap.push { cls := .type "dict", data := .dict #[] }) scope.names }
  have nfp : ∀ b ∈ fp, (upd H2 D (.lst [])) b = none := fun b hb => (f3 b hb).1.1
  generalize hce : compEnvC scope (cellsFrom (s3.heap.objs.size + 1) scope.names (cloFrom X.env.cells scope.names [])) s3.heap.objs.size X.env = ce at I4 pg pt pe ⊢
  have cL : ce.locals = s3.heap.objs.size := by subst hce; rfl
  generalize hH3 : upd H2 D (.lst []) = H3 at I3 I4 pg pt pe w0 nfp f3
  generalize hs4 : ({ s3 with heap := pushCells (s3.heap.push { cls := .type "dict", data := .dict #[] }) scope.names } : Shared) = s4 at I4 ⊢
  have st4 : tn 0 s4.heap := T.keep _ _ _ st3 fun b _ o e => by rw [← hs4]; exact pushCells_keeps _ _ _ _ (Heap.get?_push_of_some _ e)
  have stat : ∀ {σ' : St} {H' : Hp} {s' : Shared}, Inv (X.blk s3 H3 scope ce fp) [] σ' H' s' → (∀ b ∈ fp, H' b = none) → ∀ b ∈ fp, FpOk (X.blk s3 H3 scope ce fp) [] H' b := fun {σ' H' s'} I' hn b hb =>
    ⟨hn b hb, (I'.ok.exf b hb).1, I'.ok.exfs b hb, .inl hb, fun x c e => (I'.ok.exf b hb).2 x c e, fun p hp => absurd (show p ∈ ([] : List (Addr × Obj)) ++ [] from hp) (by simp)⟩
  have loop : codeAny (model X.prog X.w) X.A (.compLoop (.ListComp elt [⟨tg, iter, ifs, 0⟩] scope pos) 0 (.ref it) (.ref D) ce) (compPost (model X.prog X.w) X.A X.xe use Qf (.ref D) s3.heap.objs.size) s4 := by
    refine compLoop_any (fun n s' => ∃ i H', Inv (X.blk s3 H3 scope ce fp) [] (wipe σ (own.map (·.2))) H' s' ∧ tn i s'.heap ∧ (∀ b ∈ fp, H' b = none) ∧ W i n H') ?_ m0 ⟨0, H3, I4, st4, nfp, w0⟩
    rintro n s5 ⟨i, H5, I5, st5, n5, w5⟩
    rcases turn i n H5 w5 with ⟨stop, qq⟩ | ⟨go, Nx, hNx, step⟩
    · have td := T.done (X.blk s3 H3 scope ce fp) rfl rfl rfl hc i [] s5 _ H5 (fun _ _ => False) I5 (stat I5 n5) st5 stop
      refine thnF td fun r s6 ⟨hr, I6⟩ => ?_
      subst hr
      -- back in the def's context
      have I7 : Inv X pins σ H5 s6 := I3.call' (ch := fp) I6.os I6.base I6.hok I6.bare fun b hb => ⟨(f3 b hb).1.2.2.2.1, (f3 b hb).1.2.1, (f3 b hb).1.2.2.2.2.1, (f3 b hb).1.2.2.2.2.2⟩
      have nC : H5 s3.heap.objs.size = none := by
        have z : H5 ce.locals = none := I6.free
        rw [cL] at z
        exact z
      obtain ⟨m, hn, _⟩ := I6.loc
      have hn : s6.heap.Ns ce.locals m := hn
      rw [cL] at hn
      exact hRR D s3.heap.objs.size s6 m H5 I7 qq hn (I3.fpOk (Nat.le_refl _) nC)
    · have ti := T.item (X.blk s3 H3 scope ce fp) rfl rfl rfl hc i [] s5 _ H5 (fun _ _ => False) I5 (stat I5 n5) st5 go
      refine thnF ti fun r s6 ⟨u, hr, h6⟩ => ?_
      subst hr
      refine thnF h6 fun _ s7 ⟨x, H7, I7, r7, y7, st7, n7⟩ => ?_
      have I7' := I7.pinned (stat I7 n7) (T.obj _ _ st7)
      refine thnF (pg _ s7 _ H7 x u _ I7' r7 (step x H7 y7)) fun _ s8 ⟨σ8, H8, I8, hw8, q8⟩ => ?_
      refine thnF (pt _ s8 σ8 H8 _ I8 q8) fun b s9 ⟨H9, I9, q9⟩ => ?_
      -- the turn's end
      have fin : ∀ {s' : Shared} {H' : Hp}, Inv (X.blk s3 H3 scope ce fp) ([] ++ pinsAt fp s7.heap) σ8 H' s' → Nx H' → ∃ m, m < n ∧ ∃ i H', Inv (X.blk s3 H3 scope ce fp) [] (wipe σ (own.map (·.2))) H' s' ∧ tn i s'.heap ∧ (∀ b ∈ fp, H' b = none) ∧ W i m H' := fun {s' H'} I' nx => by
        obtain ⟨m', hm, w'⟩ := hNx H' nx
        have pin' : ∀ b ∈ fp, ∀ o, s7.heap.get? b = some o → s'.heap.get? b = some o ∧ H' b = none := fun b hb o e =>
          let z := I'.pin (b, o) (List.mem_append_right _ (List.mem_append_right _ (mem_pinsAt hb e)))
          ⟨z.1, z.2.1⟩
        have hl : (wipe σ (own.map (·.2))).length = σ8.length := by rw [← hw8, wipe_length]
        refine ⟨m', hm, i + 1, H', (I'.unpinned (pins := [])).weak hl (fun j v e => ?_), T.keep _ _ _ st7 fun b hb o e => (pin' b hb o e).1, fun b hb => ?_, w'⟩
        · rw [← hw8] at e
          exact (wipe_some e).1
        · obtain ⟨o, e, _⟩ := T.obj _ _ st7 b hb
          exact (pin' b hb o e).2
      cases b with
      | false =>
        simp only [Bool.false_eq_true, if_false] at q9 ⊢
        exact fin I9 q9
      | true =>
        simp only [if_true] at q9 ⊢
        refine thnF (pe _ s9 σ8 H9 _ I9 q9) fun z s10 ⟨yv, H10, I10, r10, acc, hD10, hz10, nx⟩ => ?_
        exact app_ok (X := X.blk s3 H3 scope ce fp) I10 hD10 hz10 r10 fun s11 I11 => fin I11 nx
  exact codeAny_compStart_list loop (T.self X.A 0 _ _ _ st4 loop)
/-- as a value -/
theorem pe_lc {elt tg iter : Expr} {ifs : List Expr} {scope : Scope} {own : List (Str × Nat)} {pos : Pos} {wi : TI} {g : TG} {tt : TT} {te : TE} (hc : X.calm = true) (hN : X.N.Nodup) (hi : PI X tg iter wi) (ok : BlkOk X.N X.env.scope scope own)
    (hg : ∀ (s : Shared) (H : Hp) (C : Addr) (cl : List (Str × Addr)) (fp : List Addr), PG (X.blk s H scope (compEnvC scope cl C X.env) fp) tg g) (ht : ∀ (s : Shared) (H : Hp) (C : Addr) (cl : List (Str × Addr)) (fp : List Addr), PTs (X.blk s H scope (compEnvC scope cl C X.env) fp) ifs tt)
    (he : ∀ (s : Shared) (H : Hp) (C : Addr) (cl : List (Str × Addr)) (fp : List Addr), PE (X.blk s H scope (compEnvC scope cl C X.env) fp) elt te) (hs : ∀ x, foldedSetIterable iter X.env x = pure x := by intro _; rfl) :
    PE X (.ListComp elt [⟨tg, iter, ifs, 0⟩] scope pos) (tLc wi g tt te (own.map (·.2))) := by
  intro pins s σ H Q I h
  rw [eval_ListComp]
  refine lc_core hc hN I hi ok hg ht he hs h fun D C s' m H' I' q hn f => ⟨m, hn, fun h'' sb => ?_⟩
  obtain ⟨f0, f1, f2, f3, f4, f5⟩ := f
  exact ⟨.ref D, H', I'.turned (t' := s'.toks) (fun b o hb e => (sb.2 b hb).trans e) f0 f1 f3 f4 f5, rfl, q⟩
/-- name = [..] on one line, the name a local -/
theorem ps_setLc {i : Nat} {y : Str} {py : Pos} {elt tg iter : Expr} {ifs : List Expr} {scope : Scope} {own : List (Str × Nat)} {pos spos : Pos} {wi : TI} {g : TG} {tt : TT} {te : TE} (hc : X.calm = true) (hN : X.N.Nodup) (hy : X.N[i]? = some y) (hyl : X.env.scope.names.lookup y = some .local)
    (hsw : swapsWith (.ListComp elt [⟨tg, iter, ifs, 0⟩] scope pos) (some (.Name y py)) spos.line X.env = pure true) (hi : PI X tg iter wi) (ok : BlkOk X.N X.env.scope scope own)
    (hg : ∀ (s : Shared) (H : Hp) (C : Addr) (cl : List (Str × Addr)) (fp : List Addr), PG (X.blk s H scope (compEnvC scope cl C X.env) fp) tg g) (ht : ∀ (s : Shared) (H : Hp) (C : Addr) (cl : List (Str × Addr)) (fp : List Addr), PTs (X.blk s H scope (compEnvC scope cl C X.env) fp) ifs tt)
    (he : ∀ (s : Shared) (H : Hp) (C : Addr) (cl : List (Str × Addr)) (fp : List Addr), PE (X.blk s H scope (compEnvC scope cl C X.env) fp) elt te) (hs : ∀ x, foldedSetIterable iter X.env x = pure x := by intro _; rfl) :
    PS X (.Assign [.Name y py] (.ListComp elt [⟨tg, iter, ifs, 0⟩] scope pos) spos) (tAsg (tLc wi g tt te (own.map (·.2))) (gName i)) := by
  intro pins s σ H D I h
  rw [exec_Assign_Name_used _ _ _ _ hsw]
  refine wpAny_bind (wpAny_standAt (wpAny_bind ?_))
  show wpAny _ X.A (do let _ ← comprehension (.ListComp elt [⟨tg, iter, ifs, 0⟩] scope pos) scope X.env (firstIterPos [⟨tg, iter, ifs, 0⟩] pos) (newList []) false (eval iter X.env) (some (assign (.Name y py) X.env))) _ _ s
  have h : tLc wi g tt te (own.map (·.2)) σ H (fun x H1 => gName i x σ H1 D.nx) := h
  refine wpAny_bind (thn (lc_core (Qf := fun _ s' => SP X pins D .next s') hc hN I hi ok hg ht he hs h fun L C s' m H' I' q hn f => ?_) fun _ s' hq => wpAny_pure (wpAny_pure hq))
  show wpAny _ _ (assign (.Name y py) X.env (.ref L)) _ _ _
  refine wpAny_assign_Name (store_ok2 (v := V.ref L) I' hN hy (.inl hyl) rfl (fun s2 I2 ⟨a, sb, ha⟩ => ?_) (.inr hyl))
  obtain ⟨f0, f1, f2, f3, f4, f5⟩ := f
  have haC : C ≠ a := by
    rcases ha with z | z
    · rw [z]; exact f1
    · exact fun e => f4 y a z e.symm
  refine ⟨m, hn.sameBut sb haC, fun h3 sb3 => ?_⟩
  exact ⟨_, H', I2.turned (t' := s2.toks) (fun b o hb e => (sb3.2 b hb).trans e) f0 f1 f3 f4 f5, q⟩
theorem sw_true {elt : Expr} {gs : List Comprehension} {scope : Scope} {pos py : Pos} {y : Str} {l : Nat} {env : Env} (hk : env.scope.kind = .function) (hy : env.scope.names.lookup y = some .local) (hl : (py.line == pos.line) = true)
    (ha : (scope.names.any fun (n, k) => n == y && (k == .local || k == .cell)) = false) : swapsWith (.ListComp elt gs scope pos) (some (.Name y py)) l env = pure true := by
  have ky : env.kindOf y = some .local := hy
  have hb : env.blockKind = .function := by unfold Env.blockKind; rw [hk]; rfl
  unfold swapsWith
  simp only [hb, ky, ha, Expr.pos, hl]
  rfl
end
/-! ### the forms one uses -/
/-- over a range: Pv by the turn and the heap (the new list at D within) -/
theorem lc_range {lo : Int} {n : Nat} {g : TG} {tt : TT} {te : TE} {vs : List Nat} {σ : St} {H1 : Hp} {D : Addr} {Qd : Hp → Prop} (Pv : Nat → Hp → Prop) (h0 : Pv 0 (upd H1 D (.lst [])))
    (hs : ∀ i H, i < n → Pv i H → g (.int (lo + i)) (wipe σ vs) H fun σ2 H2 => wipe σ2 vs = wipe σ vs ∧ tt σ2 H2 fun b H3 =>
      if b = true then te σ2 H3 fun y H4 => ∃ acc, H4 D = some (.lst acc) ∧ acc.length < sizeLine ∧ Pv (i + 1) (upd H4 D (.lst (acc ++ [y]))) else Pv (i + 1) H3) (hd : ∀ H, Pv n H → Qd H) :
    ∃ W : Nat → Nat → Hp → Prop, (∃ m, W 0 m (upd H1 D (.lst []))) ∧ ∀ i m H, W i m H →
      ((Itr lo n).stop i H ∧ Qd H) ∨ ((Itr lo n).go i H ∧ ∃ Nx : Hp → Prop, (∀ H', Nx H' → ∃ m', m' < m ∧ W (i + 1) m' H') ∧ ∀ x H', (Itr lo n).yld i H x H' → g x (wipe σ vs) H' fun σ2 H2 => wipe σ2 vs = wipe σ vs ∧ tt σ2 H2 fun b H3 =>
        if b = true then te σ2 H3 fun y H4 => ∃ acc, H4 D = some (.lst acc) ∧ acc.length < sizeLine ∧ Nx (upd H4 D (.lst (acc ++ [y]))) else Nx H3) := by
  refine ⟨fun i m H => m = n - i ∧ i ≤ n ∧ Pv i H, ⟨n, by simp, Nat.zero_le _, h0⟩, ?_⟩
  rintro i m H ⟨rfl, hi, p⟩
  by_cases hlt : i < n
  · refine .inr ⟨hlt, Pv (i + 1), fun H' p' => ⟨n - (i + 1), by omega, rfl, hlt, p'⟩, fun x H' y => ?_⟩
    obtain ⟨e, y⟩ := y
    subst e y
    exact hs i _ hlt p
  · have e : i = n := by omega
    subst e
    exact .inl ⟨Nat.le_refl _, hd H p⟩
/-- over a list that the block leaves as it is -/
theorem lc_list {K : PySem.W.Frag} {a : Addr} {xs : List V} {g : TG} {tt : TT} {te : TE} {vs : List Nat} {σ : St} {H1 : Hp} {D : Addr} {Qd : Hp → Prop} (Pv : Nat → Hp → Prop) (h0 : Pv 0 (upd H1 D (.lst []))) (hl : ∀ i H, i ≤ xs.length → Pv i H → SqL K H a xs)
    (hs : ∀ i x H, xs[i]? = some x → Pv i H → g x (wipe σ vs) H fun σ2 H2 => wipe σ2 vs = wipe σ vs ∧ tt σ2 H2 fun b H3 =>
      if b = true then te σ2 H3 fun y H4 => ∃ acc, H4 D = some (.lst acc) ∧ acc.length < sizeLine ∧ Pv (i + 1) (upd H4 D (.lst (acc ++ [y]))) else Pv (i + 1) H3) (hd : ∀ H, Pv xs.length H → Qd H) :
    ∃ W : Nat → Nat → Hp → Prop, (∃ m, W 0 m (upd H1 D (.lst []))) ∧ ∀ i m H, W i m H →
      ((Itl K a).stop i H ∧ Qd H) ∨ ((Itl K a).go i H ∧ ∃ Nx : Hp → Prop, (∀ H', Nx H' → ∃ m', m' < m ∧ W (i + 1) m' H') ∧ ∀ x H', (Itl K a).yld i H x H' → g x (wipe σ vs) H' fun σ2 H2 => wipe σ2 vs = wipe σ vs ∧ tt σ2 H2 fun b H3 =>
        if b = true then te σ2 H3 fun y H4 => ∃ acc, H4 D = some (.lst acc) ∧ acc.length < sizeLine ∧ Nx (upd H4 D (.lst (acc ++ [y]))) else Nx H3) := by
  refine ⟨fun i m H => m = xs.length - i ∧ i ≤ xs.length ∧ Pv i H, ⟨xs.length, by simp, Nat.zero_le _, h0⟩, ?_⟩
  rintro i m H ⟨rfl, hi, p⟩
  have q := hl i H hi p
  by_cases hlt : i < xs.length
  · refine .inr ⟨⟨xs, xs[i], q, by simp [hlt]⟩, Pv (i + 1), fun H' p' => ⟨xs.length - (i + 1), by omega, rfl, hlt, p'⟩, fun x H' y => ?_⟩
    obtain ⟨e, y⟩ := y
    subst e
    exact hs i x _ (y xs q) p
  · have e : i = xs.length := by omega
    subst e
    exact .inl ⟨⟨xs, q, Nat.le_refl _⟩, hd H p⟩
def blkC (N : List Str) (sc scope : Scope) (own : List (Str × Nat)) : Bool :=
  (match scope.kind with | .function => true | _ => false) && (scope.names.all fun y => decide (scope.names.lookup y.1 = some y.2)) && (own.all fun p => decide (N[p.2]? = some p.1)) &&
    (scope.names.all fun y => match y.2 with
      | .free => (match sc.names.lookup y.1 with | some .cell => true | some .free => true | _ => false)
      | .local => decide (y.1 ∈ own.map (·.1)) || decide (y.1 ∉ N)
      | .cell => decide (y.1 ∈ own.map (·.1)) || decide (y.1 ∉ N)
      | _ => true)
theorem blkOk_by {N : List Str} {sc scope : Scope} {own : List (Str × Nat)} (h : blkC N sc scope own = true) : BlkOk N sc scope own := by
  unfold blkC at h
  simp only [Bool.and_eq_true, List.all_eq_true, decide_eq_true_eq] at h
  obtain ⟨⟨⟨h1, h2⟩, h3⟩, h4⟩ := h
  refine ⟨?_, h2, h3, fun y hy e => ?_, fun y hy e => ?_⟩
  · split at h1
    · assumption
    · cases h1
  · have q := h4 y hy
    simp only [e] at q
    split at q <;> first | exact .inl (by assumption) | exact .inr (by assumption) | cases q
  · have q := h4 y hy
    rcases e with e | e <;> (simp only [e, Bool.or_eq_true, decide_eq_true_eq] at q; exact q)
end L2
namespace L2
open PySem PySem.Spec PyProof.Rows
section
variable {prog : Program} {w : World} {A : Around} {R : Result → Shared → Prop} {s : Shared} {elt t0 i0 t1 i1 : Expr} {ifs0 ifs1 : List Expr} {scope : Scope} {pos : Pos} {it acc : Value} {env : Env}
end
section
variable {X : Cx}
end
end L2
namespace L2
open PySem PySem.Spec PyProof.Rows
/-! ### lists of pairs as tables -/
section
variable {κ : Type} [DecidableEq κ]
def valV (kvs : List (κ × V)) (k : κ) : Option V := (kvs.find? fun kv => decide (kv.1 = k)).map (·.2)
/-- in its place, or at the end -/
def putK (kvs : List (κ × V)) (k : κ) (v : V) : List (κ × V) :=
  if (kvs.any fun kv => decide (kv.1 = k)) = true then kvs.map (fun kv => if kv.1 = k then (kv.1, v) else kv) else kvs ++ [(k, v)]
theorem valV_pos {p : κ × V} {r : List (κ × V)} {k : κ} (e : p.1 = k) : valV (p :: r) k = some p.2 := by simp [valV, List.find?_cons, e]
theorem valV_neg {p : κ × V} {r : List (κ × V)} {k : κ} (e : ¬ p.1 = k) : valV (p :: r) k = valV r k := by simp [valV, List.find?_cons, e]
theorem valV_any (k : κ) : ∀ kvs : List (κ × V), (kvs.any fun kv => decide (kv.1 = k)) = (valV kvs k).isSome
  | [] => rfl
  | p :: r => by
    rw [List.any_cons]
    by_cases e : p.1 = k
    · simp only [valV_pos e, decide_eq_true e, Bool.true_or, Option.isSome_some]
    · rw [valV_neg e, decide_eq_false e, Bool.false_or]; exact valV_any k r
theorem length_putK (kvs : List (κ × V)) (k : κ) (v : V) : (putK kvs k v).length ≤ kvs.length + 1 := by
  unfold putK
  split
  · rw [List.length_map]; omega
  · rw [List.length_append, List.length_cons, List.length_nil]; omega
theorem putK_new {kvs : List (κ × V)} {k : κ} (v : V) (h : valV kvs k = none) : putK kvs k v = kvs ++ [(k, v)] := by
  unfold putK
  rw [valV_any, h]
  exact if_neg (by decide)
theorem RelO.isSome_eq {o : Option V} {u : Option Value} (r : RelO o u) : o.isSome = u.isSome := by
  cases o with
  | none => cases u with
    | none => rfl
    | some _ => exact (show False from r).elim
  | some _ => cases u with
    | none => exact (show False from r).elim
    | some _ => rfl
/-- raw tables of the same keys -/
theorem KV.val {kvs : List (κ × V)} {vs : List (κ × Value)} (r : KV kvs vs) (k : κ) : RelO (valV kvs k) (valueAt vs k) := by
  unfold KV at r
  induction r with
  | nil => exact True.intro
  | @cons p q ps qs h t ih =>
    obtain ⟨h1, h2⟩ := h
    by_cases e : p.1 = k
    · have e' : q.1 = k := h1.symm.trans e
      have b : valueAt (q :: qs) k = some q.2 := by simp [valueAt, List.find?_cons, e']
      rw [valV_pos e, b]; exact h2
    · have e' : ¬ q.1 = k := fun z => e (h1.trans z)
      have b : valueAt (q :: qs) k = valueAt qs k := by simp [valueAt, List.find?_cons, e']
      rw [valV_neg e, b]; exact ih
theorem KV.any {kvs : List (κ × V)} {vs : List (κ × Value)} (r : KV kvs vs) (k : κ) : (kvs.any fun kv => decide (kv.1 = k)) = vs.any fun kv => decide (kv.1 = k) := by
  unfold KV at r
  induction r with
  | nil => rfl
  | cons h t ih => rw [List.any_cons, List.any_cons, ih, h.1]
theorem KV.repl {kvs : List (κ × V)} {vs : List (κ × Value)} (r : KV kvs vs) (k : κ) {y : V} {u : Value} (ry : RelV y u) :
    KV (kvs.map fun kv => if kv.1 = k then (kv.1, y) else kv) (vs.map fun kv => if kv.1 = k then (kv.1, u) else kv) := by
  unfold KV at r ⊢
  induction r with
  | nil => exact .nil
  | @cons p q ps qs h t ih =>
    rw [List.map_cons, List.map_cons]
    refine .cons ?_ ih
    obtain ⟨h1, h2⟩ := h
    by_cases e : p.1 = k
    · rw [if_pos e, if_pos (h1.symm.trans e)]; exact ⟨h1, ry⟩
    · rw [if_neg e, if_neg (fun z => e (h1.trans z))]; exact ⟨h1, h2⟩
theorem KV.put {kvs : List (κ × V)} {vs : List (κ × Value)} (r : KV kvs vs) (k : κ) {y : V} {u : Value} (ry : RelV y u) : KV (putK kvs k y) (stored vs k u) := by
  unfold putK stored
  rw [r.any k]
  by_cases e : (vs.any fun kv => decide (kv.1 = k)) = true
  · rw [if_pos e, if_pos e]; exact r.repl k ry
  · rw [if_neg e, if_neg e]; exact Paired.snoc r ⟨rfl, ry⟩
theorem KV.length {kvs : List (κ × V)} {vs : List (κ × Value)} (r : KV kvs vs) : kvs.length = vs.length := Paired.length r
end
/-! ### a tracked dict, its keys ints and texts or tuples of these -/
theorem kV_is {P : Program} {w : World} {k : Key} {u : Value} (r : RelV (kV k) u) : (mixKind P w).is k u = true := by
  cases k with
  | inl i => obtain ⟨t, e⟩ := (show ∃ t, u = Value.int i t from r); subst e; exact mixKind_int P w i t
  | inr x => obtain ⟨t, e⟩ := (show ∃ t, u = Value.str x t from r); subst e; exact mixKind_str P w x t
theorem items_are {P : Program} {w : World} : ∀ {ks : List Key} {us : List Value}, Vals (ks.map kV) us → ItemsAre (mixKind P w) ks us
  | [], _, r => by rw [List.map_nil] at r; cases r; exact .nil
  | k :: ks, _, r => by
    rw [List.map_cons] at r
    cases r with
    | cons h t => exact .cons (kV_is h) (items_are t)
/-- raw entries of a dict with tuple keys -/
abbrev KT (H : Hp) : List (List Key × V) → List (List Key × Addr × Value) → Prop := Paired fun p q => p.1 = q.1 ∧ H q.2.1 = some (.tup (p.1.map kV)) ∧ RelV p.2 q.2.2
theorem KT.val {H : Hp} {kvs : List (List Key × V)} {xs : List (List Key × Addr × Value)} (r : KT H kvs xs) (k : List Key) : RelO (valV kvs k) ((atKey xs k).map (·.2)) := by
  induction r with
  | nil => exact True.intro
  | @cons p q ps qs h t ih =>
    obtain ⟨h1, _, h2⟩ := h
    by_cases e : p.1 = k
    · have e' : q.1 = k := h1.symm.trans e
      have b : atKey (q :: qs) k = some q.2 := by simp [atKey, List.find?_cons, e']
      rw [valV_pos e, b]; exact h2
    · have e' : ¬ q.1 = k := fun z => e (h1.trans z)
      have b : atKey (q :: qs) k = atKey qs k := by simp [atKey, List.find?_cons, e']
      rw [valV_neg e, b]; exact ih
theorem KT.repl {H : Hp} {kvs : List (List Key × V)} {xs : List (List Key × Addr × Value)} (r : KT H kvs xs) (k : List Key) {y : V} {u : Value} (ry : RelV y u) :
    KT H (kvs.map fun kv => if kv.1 = k then (kv.1, y) else kv) (xs.map (putAt k u)) := by
  induction r with
  | nil => exact .nil
  | @cons p q ps qs h t ih =>
    rw [List.map_cons, List.map_cons]
    refine .cons ?_ ih
    obtain ⟨h1, h2, h3⟩ := h
    unfold putAt
    by_cases e : p.1 = k
    · rw [if_pos e, if_pos (h1.symm.trans e)]; exact ⟨h1, h2, ry⟩
    · rw [if_neg e, if_neg (fun z => e (h1.trans z))]; exact ⟨h1, h2, h3⟩
theorem KT.put {H : Hp} {kvs : List (List Key × V)} {xs : List (List Key × Addr × Value)} (r : KT H kvs xs) (k : List Key) {b : Addr} {y : V} {u : Value} (hb : H b = some (.tup (k.map kV))) (ry : RelV y u) :
    KT H (putK kvs k y) (storedH xs k b u) := by
  have e : (kvs.any fun kv => decide (kv.1 = k)) = (atKey xs k).isSome := by
    rw [valV_any, (r.val k).isSome_eq, Option.isSome_map]
  unfold putK storedH
  rw [e]
  by_cases q : (atKey xs k).isSome = true
  · rw [if_pos q, if_pos q]; exact r.repl k ry
  · rw [if_neg q, if_neg q]; exact Paired.snoc r ⟨rfl, hb, ry⟩
theorem KT.keeps {H H' : Hp} {kvs : List (List Key × V)} {xs : List (List Key × Addr × Value)} (r : KT H kvs xs) (ht : ∀ b ys, H b = some (.tup ys) → H' b = some (.tup ys)) : KT H' kvs xs :=
  Paired.mapP r fun _ _ z => ⟨z.1, ht _ _ z.2.1, z.2.2⟩
section
variable {P : Program} {w : World} {H : Hp} {h : Heap} {a : Addr}
theorem rd_of {u : HO} (ok : HOk P w H h) (e : Rd H a u) : ObjOk P w H h a u := e.ok ok
theorem dk_rd {kvs : List (Key × V)} (ok : HOk P w H h) (e : Rd H a (.dK kvs)) : kvs.length ≤ sizeLine ∧ (a == sysModules) = false ∧ ∃ vs, KV kvs vs ∧ h.DictOf (mixKind P w) a vs :=
  show ObjOk P w H h a (.dK kvs) from rd_of ok e
theorem dk_of {kvs : List (Key × V)} (ok : HOk P w H h) (e : H a = some (.dK kvs)) : kvs.length ≤ sizeLine ∧ (a == sysModules) = false ∧ ∃ vs, KV kvs vs ∧ h.DictOf (mixKind P w) a vs := dk_rd ok (.inl e)
/-- a tracked tuple of ints and texts is a key -/
theorem key_of {ks : List Key} (ok : HOk P w H h) (e : H a = some (.tup (ks.map kV))) : (tupleKind (mixKind P w)).is h ks a := by
  obtain ⟨_, its, r, o, h1, h2, n, h3⟩ := (show ObjOk P w H h a (.tup (ks.map kV)) from ok a _ e)
  exact ⟨o, its.toArray, n, h1, h2, h3, by simpa using items_are r⟩
theorem dt_rd {kvs : List (List Key × V)} (ok : HOk P w H h) (e : Rd H a (.dT kvs)) : kvs.length ≤ sizeLine ∧ (a == sysModules) = false ∧
    ∃ xs, KT H kvs xs ∧ h.DictOfH (tupleKind (mixKind P w)) a xs := by
  obtain ⟨z, y, xs, r, o, es, ep, h1, h2, h3, h4, h5⟩ := (show ObjOk P w H h a (.dT kvs) from rd_of ok e)
  refine ⟨z, y, xs, r, o, es, ep, h1, h2, h3, h4, fun x hx => ?_, h5⟩
  have all : ∀ {l : List (List Key × V)} {m : List (List Key × Addr × Value)}, KT H l m → ∀ x ∈ m, (tupleKind (mixKind P w)).is h x.1 x.2.1 := by
    intro l m q
    induction q with
    | nil => intro x hx; exact nomatch hx
    | @cons p q ps qs hq t ih =>
      intro x hx
      rcases List.mem_cons.mp hx with e | hx
      · subst e
        exact key_of ok (by rw [← hq.1]; exact hq.2.1)
      · exact ih x hx
  exact all r x hx
theorem dt_of {kvs : List (List Key × V)} (ok : HOk P w H h) (e : H a = some (.dT kvs)) : kvs.length ≤ sizeLine ∧ (a == sysModules) = false ∧
    ∃ xs, KT H kvs xs ∧ h.DictOfH (tupleKind (mixKind P w)) a xs := dt_rd ok (.inl e)
end
/-- what the dict at a holds at the key y -/
def DGet (H : Hp) (a : Addr) (y : V) (r : Option V) : Prop :=
  (∃ kvs k, Rd H a (.dK kvs) ∧ y = kV k ∧ r = valV kvs k) ∨ ∃ kvs k b, Rd H a (.dT kvs) ∧ y = .ref b ∧ H b = some (.tup (k.map kV)) ∧ r = valV kvs k
/-- the heap behind a[y] = v -/
def DPut (H : Hp) (a : Addr) (y v : V) (H' : Hp) : Prop :=
  (∃ kvs k, H a = some (.dK kvs) ∧ y = kV k ∧ kvs.length < sizeLine ∧ H' = upd H a (.dK (putK kvs k v))) ∨
  ∃ kvs k b, H a = some (.dT kvs) ∧ y = .ref b ∧ H b = some (.tup (k.map kV)) ∧ kvs.length < sizeLine ∧ H' = upd H a (.dT (putK kvs k v))
theorem DGet.k {H : Hp} {a : Addr} {kvs : List (Key × V)} {k : Key} (e : H a = some (.dK kvs)) : DGet H a (kV k) (valV kvs k) := .inl ⟨kvs, k, .inl e, rfl, rfl⟩
theorem DPut.k {H : Hp} {a : Addr} {kvs : List (Key × V)} {k : Key} {v : V} (e : H a = some (.dK kvs)) (hl : kvs.length < sizeLine) : DPut H a (kV k) v (upd H a (.dK (putK kvs k v))) := .inl ⟨kvs, k, e, rfl, hl, rfl⟩
section
variable {X : Cx} {pins : List (Addr × Obj)} {σ : St} {H : Hp} {s : Shared} {a : Addr} {y v : V} {u r : Value} {o : Option V} {A : Around} {E : Value → Shared → Prop}
theorem Inv.big (I : Inv X pins σ H s) : sysModules < s.heap.objs.size := by
  have h : mainGlobals < s.heap.objs.size := (I.mod.glob.keeps I.bk).lt
  exact Nat.lt_trans (by decide) h
/-- d[y], there -/
theorem d_getItem {Q : Value → Shared → Prop} (hu : A.units + 1 < cLine) (I : Inv X pins σ H s) (g : DGet H a y (some v)) (ry : RelV y u) (h : ∀ w' s', Inv X pins σ H s' → RelV v w' → Q w' s') :
    wpAny (model X.prog X.w) A (getItem (.ref a) u) Q E s := by
  rcases g with ⟨kvs, k, e, ey, l⟩ | ⟨kvs, k, b, e, ey, eb, l⟩
  · subst ey
    obtain ⟨z, hd, vs, rel, dd⟩ := dk_rd I.hok e
    obtain ⟨w', hw, rw'⟩ := RelO.some_of (v := v) (o := valueAt vs k) (by rw [l]; exact rel.val k)
    exact wpAny_getItem_of (kV_is ry) dd.mapOf hw (h w' _ (I.tok _) rw')
  · subst ey
    cases (show u = Value.ref b from ry)
    obtain ⟨z, hd, xs, rel, dd⟩ := dt_rd I.hok e
    obtain ⟨w', hw, rw'⟩ := RelO.some_of (v := v) (o := (atKey xs k).map (·.2)) (by rw [l]; exact rel.val k)
    obtain ⟨p, hp, hp2⟩ := Option.map_eq_some_iff.mp hw
    refine wpAny_getItem_heap (tupleKind_room_in1 hu) (key_of I.hok eb) dd hp ?_
    rw [hp2]
    exact h w' _ (I.tok _) rw'
theorem d_notIn {Q : Value → Shared → Prop} (hu : A.units + 1 < cLine) (I : Inv X pins σ H s) (g : DGet H a y o) (ry : RelV y u) (h : ∀ s', Inv X pins σ H s' → Q (.bool (!o.isSome)) s') :
    wpAny (model X.prog X.w) A (compareOp .NotIn u (.ref a)) Q E s := by
  rcases g with ⟨kvs, k, e, ey, l⟩ | ⟨kvs, k, b, e, ey, eb, l⟩
  · subst ey
    obtain ⟨z, hd, vs, rel, dd⟩ := dk_rd I.hok e
    refine wpAny_notIn_of (kV_is ry) hd dd.mapOf ?_
    rw [← (rel.val k).isSome_eq, ← l]
    exact h _ (I.tok _)
  · subst ey
    cases (show u = Value.ref b from ry)
    obtain ⟨z, hd, xs, rel, dd⟩ := dt_rd I.hok e
    refine wpAny_notIn_heap (tupleKind_room_in1 hu) (key_of I.hok eb) hd dd ?_
    have q := (rel.val k).isSome_eq
    rw [Option.isSome_map] at q
    rw [← q, ← l]
    exact h _ (I.tok _)
/-- a dict's object is replaced -/
theorem d_write {h' : Heap} {t' : Nat} {ob : HO} (I : Inv X pins σ H s) (mu : Mut (H a)) (hs : Heap.SameBut a s.heap h') (he : ∃ q, h'.get? a = some q) (new : ObjOk X.prog X.w (upd H a ob) h' a ob) :
    Inv X pins σ (upd H a ob) { s with heap := h', toks := t' } :=
  I.write (x := a) (e := a) mu (.inl rfl) (fun b q hb z => (hs.2 b hb).trans z) he new
theorem dk_new {P : Program} {w : World} {H' : Hp} {h' : Heap} {kvs : List (Key × V)} {vs : List (Key × Value)} (z : kvs.length ≤ sizeLine) (hd : (a == sysModules) = false) (rel : KV kvs vs) (dd : h'.DictOf (mixKind P w) a vs) :
    ObjOk P w H' h' a (.dK kvs) := ⟨z, hd, vs, rel, dd⟩
/-- d[y] = v -/
theorem d_setItem {H' : Hp} {Q : Unit → Shared → Prop} (hu : A.units + 1 < cLine) (I : Inv X pins σ H s) (g : DPut H a y v H') (ry : RelV y u) (rv : RelV v r) (h : ∀ s', Inv X pins σ H' s' → Q () s') :
    wpAny (model X.prog X.w) A (setItem (.ref a) u r) Q E s := by
  rcases g with ⟨kvs, k, e, ey, l, eH⟩ | ⟨kvs, k, b, e, ey, eb, l, eH⟩
  · subst ey eH
    obtain ⟨z, hd, vs, rel, dd⟩ := dk_of I.hok e
    have hz : vs.length ≤ sizeLine := by rw [← rel.length]; exact z
    have hl : (putK kvs k v).length ≤ sizeLine := by have := length_putK kvs k v; omega
    refine wpAny_setItem_pairs (hsz := hz) (kV_is ry) dd fun h' dd' hs => h _ ?_
    have he : ∃ q, h'.get? a = some q := let ⟨q, _, _, hq, _⟩ := dd'; ⟨q, hq⟩
    exact d_write I (by rw [e]; exact True.intro) hs he (dk_new hl hd (rel.put k rv) dd')
  · subst ey eH
    cases (show u = Value.ref b from ry)
    obtain ⟨z, hd, xs, rel, dd⟩ := dt_of I.hok e
    have hz : xs.length ≤ sizeLine := by rw [← Paired.length rel]; exact z
    have hl : (putK kvs k v).length ≤ sizeLine := by have := length_putK kvs k v; omega
    refine wpAny_setItem_heap (hsz := hz) (tupleKind_room_in1 hu) (key_of I.hok eb) dd fun h' dd' hs => h _ ?_
    obtain ⟨q, es, ep, hq, h2, h3, h4, _, h5⟩ := dd'
    refine d_write I (by rw [e]; exact True.intro) hs ⟨q, hq⟩ ⟨hl, hd, _, (rel.put k eb rv).keeps fun c ys ec => ?_, q, es, ep, hq, h2, h3, h4, h5⟩
    rw [upd_ne (ne_of ec e (fun z => nomatch z))]
    exact ec
end
section
variable {X : Cx} {pins : List (Addr × Obj)} {σ : St} {H : Hp} {s : Shared} {a : Addr} {kvs : List (Key × V)} {k : Key} {u : Value} {A : Around} {E : Value → Shared → Prop}
end
/-! ### readings and rules -/
/-- the element of a subscription, not a slice -/
def NoSl (i : Expr) : Prop := ∀ ov iv, subscripted i false ov iv = operate [ov, iv] (getItem ov iv)
theorem subD_of {prog : Program} {w : World} {A : Around} {E : Value → Shared → Prop} {s : Shared} {env : Env} {value slice : Expr} {pos : Pos} {T id : String} {Q : Value → Shared → Prop}
    (hl : typeLookup (.type T) "__getitem__" = pure (some (.builtin id))) (hs : NoSl slice)
    (h : wpAny (model prog w) A (eval value env) (fun o s₁ => wpAny (model prog w) A (eval slice env) (fun i s₂ => s₂.TypeIs o T ∧ wpAny (model prog w) A (getItem o i) Q E s₂) E s₁) E s) :
    wpAny (model prog w) A (eval (.Subscript value slice pos) env) Q E s := by
  refine Subscript_ (wpAny_mono h (fun o s₁ h₁ => wpAny_mono h₁ (fun i s₂ h₂ => ?_) fun _ _ x => x) fun _ _ x => x)
  obtain ⟨hT, h₂⟩ := h₂
  unfold subscriptTail
  refine wpAny_bind ?_
  rw [getitemInPython_of_ne hT.not_modules]
  refine wpAny_bind (wpAny_specialOf hT hl ?_)
  have fin : wpAny (model prog w) A (subscripted slice false o i) (fun r s₃ => wpAny (model prog w) A (letTemporaryGo value o r >>= fun _ => pure r) Q E s₃) E s₂ := by
    rw [hs o i]
    exact wpAny_operating (wpAny_mono h₂ (fun r s₃ h₃ => wpAny_bind (wpAny_letTemporaryGo (wpAny_pure h₃))) fun _ _ x => x)
  first
    | exact wpAny_pure (wpAny_bind fin)
    | exact wpAny_bind (wpAny_pure (wpAny_bind fin))
    | exact wpAny_bind fin
theorem dict_typeIs {X : Cx} {pins : List (Addr × Obj)} {σ : St} {H : Hp} {s : Shared} {a : Addr} {y : V} {o : Option V} (I : Inv X pins σ H s) (g : DGet H a y o) : s.TypeIs (.ref a) "dict" := by
  rcases g with ⟨kvs, k, e, _, _⟩ | ⟨kvs, k, b, e, _, _, _⟩
  · obtain ⟨_, _, vs, _, dd⟩ := dk_rd I.hok e
    exact dd.typeIs
  · obtain ⟨_, _, xs, _, dd⟩ := dt_rd I.hok e
    exact dd.typeIs
/-- d[y] -/
def tDGet (td ty : TE) : TE := fun σ H Q => td σ H fun x H1 => ty σ H1 fun y H2 => ∃ a v, x = .ref a ∧ DGet H2 a y (some v) ∧ Q v H2
def tDNotIn (ty td : TE) : TE := fun σ H Q => ty σ H fun y H1 => td σ H1 fun x H2 => ∃ a o, x = .ref a ∧ DGet H2 a y o ∧ Q (.bl (!o.isSome)) H2
/-- d[y] = v -/
def sDPut (td ty tv : TE) : TS := fun D σ H => tv σ H fun v H1 => td σ H1 fun x H2 => ty σ H2 fun y H3 => ∃ a H4, x = .ref a ∧ DPut H3 a y v H4 ∧ D.nx σ H4
section
variable {X : Cx} {o i e value : Expr} {pos pos' tpos : Pos} {td ty tv : TE}
theorem pe_dget (hu : X.A.units + 1 < cLine) (ho : PE X o td) (hi : PE X i ty) (hs : NoSl i) : PE X (.Subscript o i pos) (tDGet td ty) := by
  intro pins s σ H Q I h
  refine subD_of PySem.F.slot_dict_getitem.lookup hs (thn (ho pins s σ H _ I h) fun u s1 ⟨x, H1, I1, rx, q1⟩ => thn (hi pins s1 σ H1 _ I1 q1) fun iv s2 ⟨y, H2, I2, ry, a, v, ex, g, q2⟩ => ?_)
  subst ex
  obtain rfl : u = Value.ref a := rx
  exact ⟨dict_typeIs I2 g, d_getItem hu I2 g ry fun w' s3 I3 rw' => ⟨v, H2, I3, rw', q2⟩⟩
theorem pc_dnotin (hu : X.A.units + 1 < cLine) (hi : PE X i ty) (ho : PE X o td) : PC X .NotIn i o (tDNotIn ty td) := by
  intro pins s σ H Q I h
  refine thn (hi pins s σ H _ I h) fun iv s1 ⟨y, H1, I1, ry, q1⟩ => thn (ho pins s1 σ H1 _ I1 q1) fun u s2 ⟨x, H2, I2, rx, a, ov, ex, g, q2⟩ => ?_
  subst ex
  obtain rfl : u = Value.ref a := rx
  exact d_notIn hu I2 g ry fun s3 I3 => ⟨.bl (!ov.isSome), H2, I3, rfl, q2⟩
theorem ps_dput (hu : X.A.units + 1 < cLine) (ho : PE X o td) (hi : PE X i ty) (hv : PE X value tv) (hs : swapsWith value (some (.Subscript o i pos')) pos.line X.env = pure false) :
    PS X (.Assign [.Subscript o i pos'] value pos) (sDPut td ty tv) := by
  intro pins s σ H D I h
  refine wpAny_Assign_Subscript (thn (hv pins s σ H _ I h) fun r s1 ⟨v, H1, I1, rv, q1⟩ => thn (ho pins s1 σ H1 _ I1 q1) fun u s2 ⟨x, H2, I2, rx, q2⟩ => thn (hi pins s2 σ H2 _ I2 q2) fun iv s3 ⟨y, H3, I3, ry, a, H4, ex, g, q3⟩ => ?_) hs
  subst ex
  obtain rfl : u = Value.ref a := rx
  exact d_setItem hu I3 g ry rv fun s4 I4 => ⟨σ, H4, I4, q3⟩
end
/-! ### displays -/
theorem dk_empty {P : Program} {w : World} {H : Hp} (h : Heap) (hb : sysModules < h.objs.size) : ObjOk P w H (h.push { cls := .type "dict", data := .dict #[] }) h.objs.size (.dK []) :=
  ⟨Nat.zero_le _, beq_eq_false_iff_ne.mpr (Ne.symm (Nat.ne_of_lt hb)), [], .nil, Heap.DictOf.new h⟩
section
variable {X : Cx} {pos : Pos}
end
/-- the pairs of a display, from the left -/
def tPairs : List (TE × TE) → St → Hp → (List (V × V) → Hp → Prop) → Prop
  | [], _, H, Q => Q [] H
  | (tk, tv) :: r, σ, H, Q => tk σ H fun x H1 => tv σ H1 fun y H2 => tPairs r σ H2 fun ps H3 => Q ((x, y) :: ps) H3
abbrev VV : List (V × V) → List (Value × Value) → Prop := Paired fun p q => RelV p.1 q.1 ∧ RelV p.2 q.2
def PPs (X : Cx) (pos : Pos) (keys : List (Option Expr)) (values : List Expr) (trs : List (TE × TE)) : Prop :=
  ∀ (pins : List (Addr × Obj)) (s : Shared) (σ : St) (H : Hp) (Q : List (V × V) → Hp → Prop), Inv X pins σ H s → tPairs trs σ H Q →
    wpAny (model X.prog X.w) X.A (evalPairs (pairTrees keys values X.env pos)) (fun vs s' => ∃ ps H', Inv X pins σ H' s' ∧ VV ps vs ∧ Q ps H') X.xe s
theorem pps_nil {X : Cx} {pos : Pos} : PPs X pos [] [] [] := fun pins s σ H Q I h => pairTrees_nil_walk ⟨[], H, I, .nil, h⟩
theorem pps_cons {X : Cx} {pos : Pos} {k v : Expr} {ks : List (Option Expr)} {vs : List Expr} {tk tv : TE} {trs : List (TE × TE)} (hk : PE X k tk) (hv : PE X v tv) (hr : PPs X pos ks vs trs) :
    PPs X pos (some k :: ks) (v :: vs) ((tk, tv) :: trs) := fun pins s σ H Q I h =>
  pairTrees_cons_walk (thn (hk pins s σ H _ I h) fun u s1 ⟨x, H1, I1, rx, q1⟩ => thn (hv pins s1 σ H1 _ I1 q1) fun w2 s2 ⟨y, H2, I2, ry, q2⟩ =>
    thn (hr pins s2 σ H2 _ I2 q2) fun ws s3 ⟨ps, H3, I3, rel, q3⟩ => ⟨(x, y) :: ps, H3, I3, .cons ⟨rx, ry⟩ rel, q3⟩)
def mergeK (kvs more : List (Key × V)) : List (Key × V) := more.foldl (fun acc kv => putK acc kv.1 kv.2) kvs
theorem KV.merge : ∀ {more : List (Key × V)} {rs : List (Key × Value)} {kvs : List (Key × V)} {vs : List (Key × Value)}, KV more rs → KV kvs vs → KV (mergeK kvs more) (merged vs rs) := by
  intro more rs kvs vs r
  unfold KV at r
  induction r generalizing kvs vs with
  | nil => intro q; exact q
  | @cons p q ps qs h t ih =>
    intro r0
    have e : KV (putK kvs p.1 p.2) (stored vs q.1 q.2) := by
      have := r0.put p.1 h.2
      rw [← h.1]; exact this
    exact ih e
theorem length_mergeK : ∀ (more kvs : List (Key × V)), (mergeK kvs more).length ≤ kvs.length + more.length
  | [], kvs => by show kvs.length ≤ kvs.length + 0; omega
  | p :: r, kvs => by
    have h1 := length_mergeK r (putK kvs p.1 p.2)
    have h2 := length_putK kvs p.1 p.2
    show (mergeK (putK kvs p.1 p.2) r).length ≤ _
    rw [List.length_cons]; omega
theorem carries_of {P : Program} {w : World} : ∀ {kvs : List (Key × V)} {ws : List (Value × Value)}, VV (kvs.map fun kv => (kV kv.1, kv.2)) ws → ∃ rs, Carries (mixKind P w) ws rs ∧ KV kvs rs
  | [], _, r => by rw [List.map_nil] at r; cases r; exact ⟨[], True.intro, .nil⟩
  | p :: kvs, _, r => by
    rw [List.map_cons] at r
    cases r with
    | @cons a b as bs h t =>
      obtain ⟨rs, c, q⟩ := carries_of (P := P) (w := w) t
      obtain ⟨b1, b2⟩ := b
      exact ⟨(p.1, b2) :: rs, ⟨kV_is h.1, rfl, c⟩, .cons ⟨rfl, h.2⟩ q⟩
/-- {k: v, ..} with keys ints and texts; the new dict stands empty while the pairs are made -/
def tDisp (trs : List (TE × TE)) : TE := fun σ H Q => ∀ p, H p = none → tPairs trs σ (upd H p (.dK [])) fun ps H2 => H2 p = some (.dK []) ∧ ∃ kvs : List (Key × V), ps = kvs.map (fun kv => (kV kv.1, kv.2)) ∧ kvs.length ≤ 15 ∧ Q (.ref p) (upd H2 p (.dK (mergeK [] kvs)))
theorem pe_disp {X : Cx} {pos : Pos} {keys : List (Option Expr)} {values : List Expr} {trs : List (TE × TE)} (h : PPs X pos keys values trs) (hall : keys.all (·.isSome) = true) (hl : keys.length = values.length) (h0 : keys ≠ [])
    (h15 : keys.length ≤ 15) : PE X (.Dict keys values pos) (tDisp trs) := by
  intro pins s σ H Q I q
  have hn := I.hok.fresh (Nat.le_refl s.heap.objs.size)
  have I1 := I.laid (a := s.heap.objs.size) (o := .dK []) (h' := s.heap.push { cls := .type "dict", data := .dict #[] }) (t' := s.toks) (fun _ _ q => Heap.get?_push_of_some _ q) (Nat.le_refl _) (dk_empty s.heap I.big)
  refine wpAny_Dict_walk (knd := mixKind X.prog X.w) hall hl h0 h15 (thn (h pins _ σ _ _ I1 (q _ hn)) fun ws s2 ⟨ps, H2, I2, rel, e, kvs, ep, lk, q2⟩ => ?_)
  subst ep
  obtain ⟨rs, c, rk⟩ := carries_of (P := X.prog) (w := X.w) rel
  obtain ⟨z, hd, vs0, r0, dd⟩ := dk_of I2.hok e
  cases r0
  refine ⟨rs, c, dd, fun h' dd' hs => ⟨.ref s.heap.objs.size, _, ?_, rfl, q2⟩⟩
  have hz : (mergeK [] kvs).length ≤ sizeLine := by
    have h1 := length_mergeK kvs []
    rw [List.length_nil] at h1
    rw [sizeLine_eq]; omega
  have he : ∃ q, h'.get? s.heap.objs.size = some q := let ⟨q, _, _, hq, _⟩ := dd'; ⟨q, hq⟩
  exact d_write I2 (by rw [e]; exact True.intro) hs he (dk_new hz hd (rk.merge .nil) dd')
/-! ### methods -/
section
variable {X : Cx} {pins : List (Addr × Obj)} {σ : St} {H : Hp} {s : Shared} {a : Addr} {y d : V} {u r : Value} {o : Option V} {A : Around} {E : Value → Shared → Prop}
end
section
variable {X : Cx} {o e f : Expr} {apos cpos : Pos} {td ty tx : TE}
end
/-! ### dict(d): a copy -/
section
variable {X : Cx} {pins : List (Addr × Obj)} {σ : St} {H : Hp} {s : Shared} {a : Addr} {kvs : List (Key × V)} {A : Around} {E : Value → Shared → Prop}
end
section
variable {X : Cx} {pins : List (Addr × Obj)} {σ : St} {H : Hp} {s : Shared} {a : Addr} {y : V} {u : Value} {A : Around} {E : Value → Shared → Prop}
end
end L2
namespace L2
open PySem PySem.Spec PyProof.Rows
section
variable {prog : Program} {w : World} {A : Around} {E : Value → Shared → Prop}
end
section
variable {X : Cx}
end
end L2
namespace L2
open PySem PySem.Spec PyProof.Rows
theorem boot_reversed5 : bootBuiltins "reversed" = some (.type "reversed") := by decide +kernel
section
variable {X : Cx} {pins : List (Addr × Obj)} {σ : St} {H : Hp} {s : Shared} {h' : Heap}
/-- .. and one new object is laid -/
theorem Inv.turnedNew {t' : Nat} {ch : List Addr} {T : Addr} {ob : HO} (I : Inv X pins σ H s) (k : ∀ b o, b ∉ ch → s.heap.get? b = some o → h'.get? b = some o) (hf : ∀ b ∈ ch, FpOk X pins H b) (hT : s.heap.objs.size ≤ T)
    (new : ObjOk X.prog X.w (upd H T ob) h' T ob) : Inv X pins σ (upd H T ob) { s with heap := h', toks := t' } := by
  have hn : H T = none := I.hok.fresh hT
  have nit : ∀ b u, H b = some u → b ∉ ch := fun b u e z => by
    have q := (hf b z).1
    rw [q] at e; cases e
  refine I.step (g' := s.gens) (d' := s.drawn) (ch := ch) (fun b hb => ⟨(hf b hb).2.2.2.1, (hf b hb).2.1, (hf b hb).2.2.2.2.1, (hf b hb).2.2.2.2.2⟩) (fun b o _ _ hc e _ => k b o hc e) (fun b o _ _ hc e _ => ⟨o.slots, k b o hc e⟩)
    (fun b o _ e n => ?_) (fun b o hc e => ⟨o, k b o hc e⟩) (fun b xs e => ?_) (fun b o u e => ?_) (fun b ps e => ⟨#[], ?_⟩) (fun m hm => ?_) (fun b u e => ?_) I.bare
  · rw [upd_ne (Nat.ne_of_lt (Nat.lt_of_lt_of_le (Heap.lt_size e) hT))]; exact n
  · rw [upd_ne (ne_of_none e hn)]; exact e
  · rw [upd_ne (ne_of_none e hn)]; exact e
  · rw [upd_ne (ne_of_none e hn), e]; simp
  · obtain ⟨o, es, ep, ho, r⟩ := hm
    exact ⟨o, es, ep, k _ o (fun z => (hf _ z).2.1 rfl) ho, r⟩
  · by_cases hb : b = T
    · subst hb
      rw [upd_same] at e
      cases e
      exact new
    · rw [upd_ne hb] at e
      refine (I.hok b u e).stay (fun c v hc q => k c v ?_ q) (fun c q => by rw [upd_ne (ne_of_none q hn)]; exact q) fun c xs q => by rw [upd_ne (ne_of_none q hn)]; exact q
      rcases hc with z | z
      · rw [z]; exact nit b u e
      · exact nit c _ z
/-! ### locking a thing while a statement runs -/
end
section
variable {X : Cx}
/-! ### one iterator just laid -/
end
/-! ### range with a step -/
section
variable {X : Cx} {tg : Expr}
end
/-! ### reversed(list) -/
section
variable {X : Cx} {tg : Expr}
end
/-! ### a str -/
/-! ### a dict's keys: any dict's entries -/
section
variable {prog : Program} {w : World} {A : Around} {E : Value → Shared → Prop} {s : Shared}
end
/-! ### a locked dict -/
section
variable {X : Cx} {pins : List (Addr × Obj)} {σ : St} {H : Hp} {s : Shared} {d : Addr} {o : Obj}
end
section
variable {P : Program} {w : World} {K : PySem.W.Frag} {tg : Expr} {d : Addr} {o : Obj} {es : Array DictEntry} {ep : Nat}
end
/-! ### for k in d, d.keys(), d.values(), d.items() -/
section
variable {X : Cx} {tg e : Expr} {td : TE} {apos cpos : Pos}
end
/-! ### enumerate(list) -/
/-- the list at a as it stands at each turn, each item in a new pair -/
def Ite (K : PySem.W.Frag) (a : Addr) : It :=
  ⟨fun i H => ∃ (xs : List V) (x : V), SqL K H a xs ∧ xs[i]? = some x, fun i H v H' => ∃ T x, v = .ref T ∧ H T = none ∧ H' = upd H T (.tup [.int (i : Nat), x]) ∧ ∀ xs, SqL K H a xs → xs[i]? = some x, fun i H => ∃ xs : List V, SqL K H a xs ∧ xs.length ≤ i⟩
theorem turn_enum {P : Program} {w : World} {K : PySem.W.Frag} {elts : List Expr} {kk : Nat} {tpos : Pos} (a e it : Addr) :
    Turn P w K (.Tuple elts kk tpos) (Ite K a) [e, it] e (fun i h => (∃ old, IsEnum h e it ((i : Nat) : Int) old) ∧ h.IsListIter it a i ∧ e ≠ it) where
  mem := by simp
  obj := fun i h st b hb => by
    obtain ⟨⟨old, he⟩, ⟨o, ho, hc, hd⟩, _⟩ := st
    have e' : b = e ∨ b = it := by simpa using hb
    rcases e' with z | z
    · rw [z]; exact ⟨_, he, fun v q => nomatch q⟩
    · rw [z]; exact ⟨o, ho, fun v q => by rw [hd] at q; cases q⟩
  keep := fun i h h' st k => let ⟨⟨old, he⟩, hi, hne⟩ := st; ⟨⟨old, k e (by simp) _ he⟩, hi.at fun o q => k it (by simp) o q, hne⟩
  item := by
    intro X hP hw hK hc i pins s σ H E I hf st hg
    subst hP hw hK
    obtain ⟨⟨old, he⟩, hit, hne⟩ := st
    obtain ⟨xs, x, hq, hx⟩ := hg
    obtain ⟨its, rv, p, hz⟩ := I.list hq
    obtain ⟨u, hu, ru⟩ := rv.get hx
    have hel : e < s.heap.objs.size := Heap.lt_size he
    have hil : it < s.heap.objs.size := by obtain ⟨_, q, _⟩ := hit; exact Heap.lt_size q
    refine wpAny_pyNext_enum_item he hit p.isList (x := u) (by simpa using hu) hne fun h' ho hit' hT hsz hk => ?_
    refine ⟨_, rfl, wpAny_letOwnedTupleGo_enum (s := { s with heap := h', toks := s.toks + 1 }) ho fun h'' he' sb => ?_⟩
    have hT2 : h''.get? s.heap.objs.size = some { cls := .type "tuple", data := .seq #[.int i s.toks, u] } := (sb.2 _ (Nat.ne_of_gt hel)).trans hT
    have new : ObjOk X.prog X.w (upd H s.heap.objs.size (.tup [.int (i : Nat), x])) h'' s.heap.objs.size (.tup [.int (i : Nat), x]) :=
      ⟨by show 2 ≤ sizeLine; decide, [.int i s.toks, u], .cons ⟨_, rfl⟩ (.cons ru .nil), ⟨_, hT2, rfl, _, rfl⟩⟩
    have I1 : Inv X pins σ (upd H s.heap.objs.size (.tup [.int (i : Nat), x])) { s with heap := h'', toks := s.toks + 1 } :=
      I.turnedNew (ch := [e, it]) (fun b ob hb q => (sb.2 b (fun z => hb (by simp [z]))).trans (hk b ob (fun z => hb (by simp [z])) (fun z => hb (by simp [z])) q)) hf (Nat.le_refl _) new
    refine ⟨.ref s.heap.objs.size, _, I1, rfl, ⟨_, x, rfl, I.hok.fresh (Nat.le_refl _), rfl, fun ys hy => by rw [I.list_inj hy hq]; exact hx⟩, ⟨⟨u, ?_⟩, hit'.at fun o q => (sb.2 it (Ne.symm hne)).trans q, hne⟩, fun b hb => ?_⟩
    · have e1 : ((i + 1 : Nat) : Int) = (i : Int) + 1 := by omega
      rw [e1]; exact he'
    · have hb' : b < s.heap.objs.size := by
        have e' : b = e ∨ b = it := by simpa using hb
        rcases e' with z | z
        · rw [z]; exact hel
        · rw [z]; exact hil
      rw [upd_ne (Nat.ne_of_lt hb')]
      exact (hf b hb).1
  done := by
    intro X hP hw hK hc i pins s σ H E I hf st hg
    subst hP hw hK
    obtain ⟨⟨old, he⟩, hit, hne⟩ := st
    obtain ⟨xs, hq, hx⟩ := hg
    obtain ⟨its, rv, p, hz⟩ := I.list hq
    obtain ⟨f0, f1, f2, f3, f4, f5⟩ := hf it (by simp)
    have hl := rv.length
    exact wpAny_pyNext_enum_end (I.ok.hd hc) he hit p.isList (by simp; omega) fun h' eb => ⟨rfl, I.turned (t' := s.toks) (fun b o hb q => eb b o hb q) f0 f1 f3 f4 f5⟩
  self := fun A i s Q E st h => let ⟨⟨_, he⟩, _⟩ := st; wpAny_pyIter_enum he h
def iEnum (K : PySem.W.Frag) (ta : TA) : TI := fun σ H R => ta σ H fun vs H1 => ∃ a xs, vs = [.ref a] ∧ SqL K H1 a xs ∧ R (Ite K a) H1
theorem pi_enum {X : Cx} {e : Expr} {ta : TA} {p pos tpos : Pos} {elts : List Expr} {kk : Nat} (hg : Gl X "enumerate") (hm : X.mg "enumerate" = none) (ha : PA X [e] ta) (hs : starEach [e] X.env = [(false, eval e X.env)] := by rfl) :
    PI X (.Tuple elts kk tpos) (.Call (.Name "enumerate" p) [e] [] pos) (iEnum X.K ta) := by
  intro pins s σ H R I h
  refine Call_ (ld_blt I hg hm boot_enumerate (PyProof.Rows.callWith_type1 (thn (ha pos pins s σ H _ I h) fun us s1 ⟨vs, H1, I1, r1, q1⟩ => ?_) hs rfl))
  obtain ⟨a, xs, ex, hq, q⟩ := q1
  subst ex
  cases r1 with
  | cons r rr =>
    cases rr
    cases r
    obtain ⟨its, rv, p', hz⟩ := I1.list hq
    refine call_enumerate_list p'.isList fun h' he hit hsz hk => wpAny_pyIter_enum he ?_
    have I2 : Inv X pins σ H1 { s1 with heap := h' } := I1.kept (t' := s1.toks) hk
    refine ⟨s1.heap.objs.size + 1, [s1.heap.objs.size + 1, s1.heap.objs.size], _, _, H1, rfl, I2, turn_enum a (s1.heap.objs.size + 1) s1.heap.objs.size, ⟨⟨.none, he⟩, hit, Nat.succ_ne_self _⟩, fun b hb => ?_, q⟩
    have e' : b = s1.heap.objs.size + 1 ∨ b = s1.heap.objs.size := by simpa using hb
    have hle : s1.heap.objs.size ≤ b := by
      rcases e' with z | z
      · rw [z]; exact Nat.le_add_right _ _
      · rw [z]; exact Nat.le_refl _
    exact I1.fpOk hle (I1.hok.fresh hle)
/-! ### zip(list, list) -/
end L2
section 
namespace Bits
open PySem PyProof.Rows
end Bits
end 
section 
namespace TL
open PySem PySem.Builtin PySem.Builtin.Str PySem.StrLaws
/-! ### the list functions -/
/-! ### the model's split and partition are these -/
/-! ### computing spl and par -/
/-! ### digits -/
/-! ### words: x.split() -/
end TL
end 
namespace L2
open PySem PySem.Spec PyProof.Rows
section
variable {X : Cx} {pins : List (Addr × Obj)} {σ : St} {H : Hp} {s : Shared} {Q : VK}
end
section
variable {X : Cx}
/-! ### of a text alone -/
/-! ### of a text and a text -/
end
section
variable {X : Cx} {o e : Expr} {to te : TE}
end
end L2
namespace L2
open PySem PySem.Spec PyProof.Rows
section
variable {X : Cx}
end
/-! ### slices of a text -/
end L2
namespace Att
open PySem PySem.W PySem.Calls PyProof.Rows
/-! ### the script -/
/-! ### the attachment: holds_open's last premise (the goal 'hc' behind k_head) from a wpAny of the law's body -/
/-! ### rules over ANY heap (no ledger) from facts about the written part K: the library's own take a ledger (News) for what they write -/
section
variable {prog : Program} {w : World} {A : Around} {E : Value → Shared → Prop} {s : Shared} {K : Frag}
/-! the whole heap as the ledger: makes every rule that writes through a ledger a rule over any heap -/
end
end Att
namespace L2
open PySem PySem.Spec PyProof.Rows
end L2
namespace L2
open PySem PySem.Spec PyProof.Rows
abbrev KOf {K : PySem.W.Frag} {h : Heap} (_ : K.In h) : PySem.W.Frag := K
end L2
/-! SHORT WORDS over the layer: a def of the text, its body, what a loop and a test want. -/
namespace L2
open PySem PySem.Spec PyProof.Rows
/-! ### the text by places -/
def defArgs (s : Stmt) : Arguments := match s with
  | .FunctionDef _ a _ _ _ _ _ _ _ _ => a
  | _ => { posonlyargs := [], args := [], vararg := none, kwonlyargs := [], kw_defaults := [], kwarg := none, defaults := [] }
def defBody (s : Stmt) : List Stmt := match s with
  | .FunctionDef _ _ b _ _ _ _ _ _ _ => b
  | _ => []
def defScope (s : Stmt) : Scope := match s with
  | .FunctionDef _ _ _ _ _ _ sc _ _ _ => sc
  | _ => { kind := .function, names := [], isGenerator := false, isCoroutine := false }
/-! ### no exception leaves a def -/
abbrev CX0 : CXT := fun _ _ _ _ _ _ => False
abbrev E0 : XK := fun _ _ _ => False
theorem pass0 {X : Cx} : Passes CX0 X E0 := fun _ _ _ _ _ _ _ h => h.elim
/-! ### a def (or method) of the text as it stands behind the top -/
structure Fun (K : PySem.W.Frag) (x qual : Str) (st : Stmt) (f : Addr) (fd : FuncData) : Prop where
  ex : ∃ (oc : Value) (od : Option Addr) (kV doc pm : Value) (an : Option Addr) (cdv ct : Value) (osl : Array (Option Value)),
    fd = PySem.W.fnOf x qual (defArgs st) (defBody st) (defScope st) .none kV doc pm an cdv ct ∧ K.lookup f = some ⟨oc, od, .func fd, osl⟩ ∧ PySem.W.codeIn K cdv qual = true
  kp : PySem.W.keepIn K (.ref f) = true
section
variable {P : Program} {w : World} {K : PySem.W.Frag} {mg : Str → Option Value} {base : Heap}
/-- THE RULE for a def: its body as a term of rules, and the reading of that term -/
theorem Fun.ok {x qual : Str} {st : Stmt} {f : Addr} {fd : FuncData} {N ps : List Str} {k : Nat} {sp : Sp} (F : Fun K x qual st f fd) (S : FnScope N ps (defScope st)) (len : ∀ vs H Q E, sp vs H Q E → vs.length = ps.length)
    (hbody : ∀ (cdv : Value) (A : Around) (outer : List Env) (s : Shared) (H : Hp) (vs : List V) (Q : VK) (E : XK), Room k (A.deeper (envOfC qual (defScope st) s.heap.objs.size f cdv)) → sp vs H Q E →
      ∃ t, PSs (cxOf CX0 P w K mg base N qual (defScope st) f cdv A outer s H E).nox (defBody st) t ∧ t { nx := fun _ H' => Q .non H', rt := Q } (start N vs) H) : FnOk P w K mg base CX0 (k + 1) f fd ps sp := by
  obtain ⟨oc, od, kV, doc, pm, an, cdv, ct, osl, rfl, lk, hcd⟩ := F.ex
  refine fn_of lk hcd S len fun A outer s H vs Q E hr hsp => ?_
  obtain ⟨t, h, q⟩ := hbody cdv A outer s H vs Q E hr hsp
  exact ⟨t, h.nox, q⟩
/-- how its arguments bind (no defaults): h is «fun _ _ _ _ _ _ us hl => match us, hl with | [_, _], _ => rfl», one _ a parameter -/
theorem Fun.binds {x qual : Str} {st : Stmt} {f : Addr} {fd : FuncData} {ps : List Str} (F : Fun K x qual st f fd)
    (h : ∀ (kV doc pm : Value) (an : Option Addr) (cdv ct : Value) (us : List Value), us.length = ps.length → bindArgs (PySem.W.fnOf x qual (defArgs st) (defBody st) (defScope st) .none kV doc pm an cdv ct) ⟨us, []⟩ = pure (ps.zip us)) : Binds K fd ps [] := by
  obtain ⟨oc, od, kV, doc, pm, an, cdv, ct, osl, rfl, lk, hcd⟩ := F.ex
  exact .all (h kV doc pm an cdv ct)
theorem fun_mk {x qual : Str} {st : Stmt} {f : Addr} {oc : Value} {od an : Option Addr} {osl : Array (Option Value)} {kV doc pm cdv ct : Value} (l : K.lookup f = some ⟨oc, od, .func (PySem.W.fnOf x qual (defArgs st) (defBody st) (defScope st) .none kV doc pm an cdv ct), osl⟩)
    (c : PySem.W.codeIn K cdv qual = true) (k : PySem.W.keepIn K (.ref f) = true) : Fun K x qual st f (PySem.W.fnOf x qual (defArgs st) (defBody st) (defScope st) .none kV doc pm an cdv ct) := ⟨⟨oc, od, kV, doc, pm, an, cdv, ct, osl, rfl, l, c⟩, k⟩
end
theorem hu_of {A : Around} {k : Nat} (hr : Room k A) : A.units + 1 < cLine := Nat.lt_of_le_of_lt (Nat.add_le_add_left (by decide : 1 ≤ 64) _) hr.units
/-! ### expressions in short: the name that stands in the i-th slot -/
section
variable {X : Cx}
theorem pv (i : Nat) {x : Str} {pos : Pos} (hN : X.N[i]? = some x := by rfl) (hv : Vis X.env.scope x := by first | exact Or.inl rfl | exact Or.inr (Or.inl rfl) | exact Or.inr (Or.inr rfl)) (hd : (x == ("__debug__" : Str)) = false := by decide)
    (hcd : (x == ("__classdict__" : Str)) = false := by decide) : PE X (.Name x pos) (tVar i) := pe_var hN hv hd hcd
end
/-! ### tests -/
theorem iteF {A B : Prop} (h : B) : if false = true then A else B := by
  rw [if_neg Bool.false_ne_true]
  exact h
theorem iteT {A B : Prop} (h : A) : if true = true then A else B := by
  rw [if_pos rfl]
  exact h
theorem ite2 {c A B : Prop} [Decidable c] (h1 : c → A) (h2 : ¬ c → B) : if c then A else B := by
  by_cases h : c
  · rw [if_pos h]
    exact h1 h
  · rw [if_neg h]
    exact h2 h
/-! ### heaps -/
/-- all that was tracked is as it was -/
def Same (H H' : Hp) : Prop := ∀ b o, H b = some o → H' b = some o
theorem Same.refl (H : Hp) : Same H H := fun _ _ h => h
theorem Same.trans {H H1 H2 : Hp} (a : Same H H1) (b : Same H1 H2) : Same H H2 := fun c o h => b c o (a c o h)
theorem Same.free {H H' : Hp} (e : Same H H') {l : Addr} (h : H' l = Option.none) : H l = Option.none := by
  cases q : H l with
  | none => rfl
  | some o =>
    rw [e l o q] at h
    cases h
theorem Same.seq {K : PySem.W.Frag} {H H' : Hp} {a : Addr} {xs : List V} (e : Same H H') (h : SqL K H a xs) : SqL K H' a xs := by
  rcases h with (h | ⟨o, h⟩) | h
  · exact .inl (.inl (e _ _ h))
  · exact .inl (.inr ⟨o, e _ _ h⟩)
  · exact .inr h
/-! ### a dict's pairs: keys that differ -/
section
variable {κ : Type} [DecidableEq κ]
theorem valV_not {kvs : List (κ × V)} {k : κ} (h : valV kvs k = none) : ¬ k ∈ kvs.map (·.1) := by
  intro m
  obtain ⟨p, hp, e⟩ := List.mem_map.mp m
  have q : (kvs.any fun kv => decide (kv.1 = k)) = true := List.any_eq_true.mpr ⟨p, hp, decide_eq_true e⟩
  rw [valV_any, h] at q
  exact absurd q (by simp)
theorem valV_in {kvs : List (κ × V)} {k : κ} {v : V} (h : valV kvs k = some v) : k ∈ kvs.map (·.1) := by
  have q : (kvs.any fun kv => decide (kv.1 = k)) = true := by
    rw [valV_any, h]
    all_goals rfl
  obtain ⟨p, hp, e⟩ := List.any_eq_true.mp q
  exact List.mem_map.mpr ⟨p, hp, of_decide_eq_true e⟩
end
/-! ### lists -/
theorem at_of {xs : List V} {z : Int} {j : Nat} {v : V} (e : z = (j : Int)) (h : xs[j]? = some v) : atI xs z = some v := by
  rw [e]
  exact atI_nat h
end L2
section
set_option Elab.async false
set_option linter.all false
set_option maxRecDepth 100000
set_option maxHeartbeats 2000000
namespace L2
open PySem PySem.Spec PyProof.Rows
open PySem.W (WData Codec OpenSpec Well WellAll ReadsW ReadsAllW)
/-! ### an answer as data -/
mutual
/-- x stands for the datum d, lists and tuples all the way -/
inductive Dw (K : PySem.W.Frag) (H : Hp) : V → WData → Prop
  | non : Dw K H .non .none
  | bl (b : Bool) : Dw K H (.bl b) (.bool b)
  | int (i : Int) : Dw K H (.int i) (.int i)
  | str (x : Str) : Dw K H (.str x) (.str x)
  | byt (b : Array UInt8) : Dw K H (.byt b) (.bytes b.toList)
  | lst {a : Addr} {xs : List V} {ds : List WData} : SqL K H a xs → DwAll K H xs ds → Dw K H (.ref a) (.list ds)
  | tup {a : Addr} {xs : List V} {ds : List WData} : SqT K H a xs → DwAll K H xs ds → Dw K H (.ref a) (.tuple ds)
inductive DwAll (K : PySem.W.Frag) (H : Hp) : List V → List WData → Prop
  | nil : DwAll K H [] []
  | cons {v : V} {vs : List V} {d : WData} {ds : List WData} : Dw K H v d → DwAll K H vs ds → DwAll K H (v :: vs) (d :: ds)
end
theorem dw_ints {K : PySem.W.Frag} {H : Hp} : ∀ ns : List Int, DwAll K H (ns.map V.int) (ns.map WData.int)
  | [] => .nil
  | n :: r => .cons (.int n) (dw_ints r)
theorem ints_dw {K : PySem.W.Frag} {H : Hp} : ∀ (ns : List Int) (xs : List V), DwAll K H xs (ns.map WData.int) → xs = ns.map V.int
  | [], xs, h => by
    cases h
    rfl
  | n :: r, xs, h => by
    cases h with
    | cons h1 h2 =>
      cases h1
      rw [ints_dw r _ h2] <;> rfl
section
variable {P : Program} {w : World} {K : PySem.W.Frag} {H : Hp} {h : Heap} {R : PySem.W.WRecords} {cl : Str → Option Addr}
theorem sqL_at {a : Addr} {xs : List V} (hok : HOk P w H h) (KX : K.In h) (q : SqL K H a xs) : ∃ (its : List Value) (o : Obj) (n : Nat), Vals xs its ∧ h.get? a = some o ∧ o.cls = .type "list" ∧ o.data = .seq its.toArray n := by
  rcases q with q | ⟨o, its, n, e, hc, _, hd, _, hv⟩
  · obtain ⟨_, its, n, hv, e⟩ := (show ObjOk P w H h a (.lst xs) from q.ok hok)
    exact ⟨its, _, n, hv, e, rfl, rfl⟩
  · exact ⟨its.toList, o, n, hv, KX _ _ e, hc, by simp [hd]⟩
theorem sqT_at {a : Addr} {xs : List V} (hok : HOk P w H h) (KX : K.In h) (q : SqT K H a xs) : ∃ (its : List Value) (o : Obj) (n : Nat), Vals xs its ∧ h.get? a = some o ∧ o.cls = .type "tuple" ∧ o.data = .seq its.toArray n := by
  rcases q with q | ⟨o, its, n, e, hc, hd, _, hv⟩
  · obtain ⟨_, its, hv, o, e, hc, n, hd⟩ := (show ObjOk P w H h a (.tup xs) from q.ok hok)
    exact ⟨its, o, n, hv, e, hc, hd⟩
  · exact ⟨its.toList, o, n, hv, KX _ _ e, hc, by simp [hd]⟩
mutual
theorem Dw.reads (hok : HOk P w H h) (KX : K.In h) : ∀ (d : WData) (v : V) (u : Value), Dw K H v d → RelV v u → ∃ as, ReadsW R cl h u d as
  | .none, _, _, x, r => by
    cases x
    cases r
    exact ⟨_, ReadsW.none⟩
  | .bool b, _, _, x, r => by
    cases x
    cases r
    exact ⟨_, ReadsW.bool b⟩
  | .int i, _, _, x, r => by
    cases x
    obtain ⟨t, rfl⟩ := r
    exact ⟨_, ReadsW.int i t⟩
  | .str s, _, _, x, r => by
    cases x
    obtain ⟨t, rfl⟩ := r
    exact ⟨_, ReadsW.str s t⟩
  | .bytes b, _, _, x, r => by
    cases x
    obtain ⟨t, rfl⟩ := r
    exact ⟨_, ReadsW.bytes _ t⟩
  | .list ds, _, _, x, r => by
    cases x with
    | lst hs ha =>
      cases r
      obtain ⟨its, o, n, rv, ho, hc, hd⟩ := sqL_at hok KX hs
      obtain ⟨as, hr⟩ := Dw.readsAll hok KX ds _ its ha rv
      exact ⟨_, ReadsW.list ho hc hd hr⟩
  | .tuple ds, _, _, x, r => by
    cases x with
    | tup hs ha =>
      cases r
      obtain ⟨its, o, n, rv, ho, hc, hd⟩ := sqT_at hok KX hs
      obtain ⟨as, hr⟩ := Dw.readsAll hok KX ds _ its ha rv
      exact ⟨_, ReadsW.tuple ho hc hd hr⟩
  | .float _, _, _, x, _ => by cases x
  | .dict _, _, _, x, _ => by cases x
  | .bytearray _, _, _, x, _ => by cases x
  | .set _, _, _, x, _ => by cases x
  | .frozenset _, _, _, x, _ => by cases x
  | .obj _ _, _, _, x, _ => by cases x
theorem Dw.readsAll (hok : HOk P w H h) (KX : K.In h) : ∀ (ds : List WData) (vs : List V) (us : List Value), DwAll K H vs ds → Vals vs us → ∃ as, ReadsAllW R cl h us ds as
  | [], _, _, x, r => by
    cases x
    cases r
    exact ⟨_, ReadsAllW.nil⟩
  | d :: ds, _, _, x, r => by
    cases x with
    | cons h1 h2 =>
      cases r with
      | cons r1 r2 =>
        obtain ⟨as, q1⟩ := Dw.reads hok KX d _ _ h1 r1
        obtain ⟨bs, q2⟩ := Dw.readsAll hok KX ds _ _ h2 r2
        exact ⟨_, ReadsAllW.cons q1 q2⟩
end
end
/-! ### the arguments -/
mutual
/-- data that a codec tells -/
def plW : WData → Bool
  | .none => true
  | .bool _ => true
  | .int _ => true
  | .str _ => true
  | .bytes _ => true
  | .list xs => plWs xs
  | .tuple xs => plWs xs
  | _ => false
def plWs : List WData → Bool
  | [] => true
  | x :: r => plW x && plWs r
end
theorem plWs_map {α : Type} {f : α → WData} (h : ∀ a, plW (f a) = true) : ∀ l : List α, plWs (l.map f) = true
  | [] => rfl
  | x :: r => by
    show (plW (f x) && plWs (r.map f)) = true
    rw [h x, plWs_map h r] <;> rfl
theorem pl_enc : ∀ (c : Codec) (a : c.denote), plW (c.enc a) = true
  | .unit, _ => rfl
  | .bool, _ => rfl
  | .int _ _, _ => rfl
  | .nat _ _, _ => rfl
  | .u8, _ => rfl
  | .bytes _ _, _ => rfl
  | .text _ _ _ _, _ => rfl
  | .list _ _ c, a => plWs_map (fun x => pl_enc c x) a
  | .pair c d, a => by
    show (plW (c.enc a.1) && (plW (d.enc a.2) && true)) = true
    rw [pl_enc c a.1, pl_enc d a.2] <;> rfl
  | .triple c d e, a => by
    show (plW (c.enc a.1) && (plW (d.enc a.2.1) && (plW (e.enc a.2.2) && true))) = true
    rw [pl_enc c a.1, pl_enc d a.2.1, pl_enc e a.2.2] <;> rfl
  | .option c, none => rfl
  | .option c, some x => pl_enc c x
theorem pl_encAll : ∀ (cs : List Codec) (a : Codec.denoteAll cs), plWs (Codec.encAll cs a) = true
  | [], _ => rfl
  | c :: cs, a => by
    show (plW (c.enc a.1) && plWs (Codec.encAll cs a.2)) = true
    rw [pl_enc c a.1, pl_encAll cs a.2] <;> rfl
theorem weight_mem : ∀ {xs : List WData} {d : WData}, d ∈ xs → d.weight ≤ WData.weightAll xs
  | [], d, h => absurd h (by simp)
  | x :: r, d, h => by
    show d.weight ≤ x.weight + 1 + WData.weightAll r
    rcases List.mem_cons.mp h with e | m
    · rw [e]
      omega
    · have z := weight_mem m
      omega
def toV : Value → V
  | .none => .non
  | .bool b => .bl b
  | .int i _ => .int i
  | .str x _ => .str x
  | .bytes b _ => .byt b
  | .ref a => .ref a
  | _ => .non
/-- a value of the arguments, its objects among A -/
def OkU (A : List Addr) : Value → Prop
  | .none => True
  | .bool _ => True
  | .int _ _ => True
  | .str _ _ => True
  | .bytes _ _ => True
  | .ref a => a ∈ A
  | _ => False
theorem OkU.mono {A B : List Addr} (h : ∀ a ∈ A, a ∈ B) : ∀ {u : Value}, OkU A u → OkU B u := fun {u} x => by
  cases u with
  | ref a => exact h a x
  | none => trivial
  | bool b => trivial
  | int i t => trivial
  | str s t => trivial
  | bytes b t => trivial
  | _ => exact False.elim x
theorem relV_toV {A : List Addr} {u : Value} (x : OkU A u) : RelV (toV u) u := by
  cases u with
  | ref a => rfl
  | none => rfl
  | bool b => rfl
  | int i t => exact ⟨t, rfl⟩
  | str s t => exact ⟨t, rfl⟩
  | bytes b t => exact ⟨t, rfl⟩
  | _ => exact False.elim x
theorem vals_toV {A : List Addr} : ∀ {vs : List Value}, (∀ u ∈ vs, OkU A u) → Vals (vs.map toV) vs
  | [], _ => .nil
  | u :: r, h => .cons (relV_toV (h u (List.mem_cons_self ..))) (vals_toV fun x hx => h x (List.mem_cons_of_mem _ hx))
/-- an object of the arguments -/
def ArgOb (h : Heap) (A : List Addr) (a : Addr) : Prop := ∃ vs : List Value, vs.length ≤ sizeLine ∧ (∀ u ∈ vs, OkU A u) ∧
  (h.get? a = some { cls := .type "list", data := .seq vs.toArray } ∨ h.get? a = some { cls := .type "tuple", data := .seq vs.toArray })
theorem ArgOb.mono {h : Heap} {A B : List Addr} {a : Addr} (k : ∀ a ∈ A, a ∈ B) (x : ArgOb h A a) : ArgOb h B a := by
  obtain ⟨vs, h1, h2, h3⟩ := x
  exact ⟨vs, h1, fun u hu => (h2 u hu).mono k, h3⟩
theorem wellAll_len {P : Params} {h : Heap} : ∀ {vs : List Value} {ds : List WData}, WellAll P h vs ds → vs.length = ds.length
  | _, _, .nil => rfl
  | _, _, .cons _ b => by
    show _ + 1 = _ + 1
    rw [wellAll_len b]
theorem well_list {P : Params} {h : Heap} {v : Value} {ds : List WData} (x : Well P h v (.list ds)) : ∃ (a : Addr) (vs : List Value), v = .ref a ∧ h.get? a = some { cls := .type "list", data := .seq vs.toArray } ∧ WellAll P h vs ds := by
  cases x with
  | list ho hall => exact ⟨_, _, rfl, ho, hall⟩
theorem well_tuple {P : Params} {h : Heap} {v : Value} {ds : List WData} (x : Well P h v (.tuple ds)) : ∃ (a : Addr) (vs : List Value), v = .ref a ∧ h.get? a = some { cls := .type "tuple", data := .seq vs.toArray } ∧ WellAll P h vs ds := by
  cases x with
  | tuple ho hall => exact ⟨_, _, rfl, ho, hall⟩
theorem well_cons {P : Params} {h : Heap} {us : List Value} {d : WData} {ds : List WData} (x : WellAll P h us (d :: ds)) : ∃ (v : Value) (vs : List Value), us = v :: vs ∧ Well P h v d ∧ WellAll P h vs ds := by
  cases x with
  | cons a b => exact ⟨_, _, rfl, a, b⟩
theorem line_of {n : Nat} (h : n ≤ 1048576) : n ≤ sizeLine := Nat.le_trans h (by decide)
section
variable {P : Params} {h : Heap}
mutual
theorem area_one : ∀ (d : WData) (v : Value), Well P h v d → plW d = true → d.weight ≤ 1048576 → ∃ A : List Addr, OkU A v ∧ ∀ a ∈ A, ArgOb h A a
  | .none, _, x, _, _ => by
    cases x
    exact ⟨[], trivial, fun a m => absurd m (by simp)⟩
  | .bool b, _, x, _, _ => by
    cases x
    exact ⟨[], trivial, fun a m => absurd m (by simp)⟩
  | .int i, _, x, _, _ => by
    cases x
    exact ⟨[], trivial, fun a m => absurd m (by simp)⟩
  | .str s, _, x, _, _ => by
    cases x
    exact ⟨[], trivial, fun a m => absurd m (by simp)⟩
  | .bytes b, _, x, _, _ => by
    cases x
    exact ⟨[], trivial, fun a m => absurd m (by simp)⟩
  | .list ds, _, x, p, z => by
    obtain ⟨a, vs, rfl, ho, hall⟩ := well_list x
    have z2 : WData.weightAll ds ≤ 1048576 := z
    obtain ⟨A, h1, h2⟩ := area_all ds _ hall p fun d hd => Nat.le_trans (weight_mem hd) z2
    have k : ∀ b ∈ A, b ∈ a :: A := fun b hb => List.mem_cons_of_mem _ hb
    refine ⟨a :: A, List.mem_cons_self .., fun b hb => ?_⟩
    rcases List.mem_cons.mp hb with e | m
    · rw [e]
      exact ⟨vs, line_of (by rw [wellAll_len hall]; exact Nat.le_trans (PySem.W.length_le_weightAllW ds) z2), fun u hu => (h1 u hu).mono k, .inl ho⟩
    · exact (h2 b m).mono k
  | .tuple ds, _, x, p, z => by
    obtain ⟨a, vs, rfl, ho, hall⟩ := well_tuple x
    have z2 : WData.weightAll ds ≤ 1048576 := z
    obtain ⟨A, h1, h2⟩ := area_all ds _ hall p fun d hd => Nat.le_trans (weight_mem hd) z2
    have k : ∀ b ∈ A, b ∈ a :: A := fun b hb => List.mem_cons_of_mem _ hb
    refine ⟨a :: A, List.mem_cons_self .., fun b hb => ?_⟩
    rcases List.mem_cons.mp hb with e | m
    · rw [e]
      exact ⟨vs, line_of (by rw [wellAll_len hall]; exact Nat.le_trans (PySem.W.length_le_weightAllW ds) z2), fun u hu => (h1 u hu).mono k, .inr ho⟩
    · exact (h2 b m).mono k
  | .float _, _, _, p, _ => Bool.noConfusion (show false = true from p)
  | .dict _, _, _, p, _ => Bool.noConfusion (show false = true from p)
  | .bytearray _, _, _, p, _ => Bool.noConfusion (show false = true from p)
  | .set _, _, _, p, _ => Bool.noConfusion (show false = true from p)
  | .frozenset _, _, _, p, _ => Bool.noConfusion (show false = true from p)
  | .obj _ _, _, _, p, _ => Bool.noConfusion (show false = true from p)
theorem area_all : ∀ (ds : List WData) (vs : List Value), WellAll P h vs ds → plWs ds = true → (∀ d ∈ ds, d.weight ≤ 1048576) → ∃ A : List Addr, (∀ u ∈ vs, OkU A u) ∧ ∀ a ∈ A, ArgOb h A a
  | [], _, x, _, _ => by
    cases x
    exact ⟨[], fun u m => absurd m (by simp), fun a m => absurd m (by simp)⟩
  | d :: ds, _, x, p, z => by
    obtain ⟨v, vs, rfl, x1, x2⟩ := well_cons x
    have q : plW d = true ∧ plWs ds = true := Bool.and_eq_true_iff.mp p
    obtain ⟨A, a1, a2⟩ := area_one d v x1 q.1 (z d (List.mem_cons_self ..))
    obtain ⟨B, b1, b2⟩ := area_all ds vs x2 q.2 fun e he => z e (List.mem_cons_of_mem _ he)
    have kA : ∀ b ∈ A, b ∈ A ++ B := fun b hb => List.mem_append.mpr (.inl hb)
    have kB : ∀ b ∈ B, b ∈ A ++ B := fun b hb => List.mem_append.mpr (.inr hb)
    refine ⟨A ++ B, fun u hu => ?_, fun b hb => ?_⟩
    · rcases List.mem_cons.mp hu with e | m
      · rw [e]
        exact a1.mono kA
      · exact (b1 u m).mono kB
    · rcases List.mem_append.mp hb with m | m
      · exact (a2 b m).mono kA
      · exact (b2 b m).mono kB
end
end
/-- what is tracked of an argument's object -/
def hoOf (o : Obj) : Option HO := match o.data with
  | .seq vs _ => if (o.cls == Value.type "list") = true then some (.frz o (.lst (vs.toList.map toV))) else some (.frz o (.tup (vs.toList.map toV)))
  | _ => none
def argH (K : PySem.W.Frag) (h : Heap) (A : List Addr) : Hp := fun b => if b ∈ A then (if (K.lookup b).isNone = true then (h.get? b).bind hoOf else none) else none
/-- nothing is tracked but what is known to the object -/
def OnlyF (H : Hp) : Prop := ∀ b, H b = none ∨ ∃ o u, H b = some (.frz o u)
theorem hoOf_lst (vs : List Value) : hoOf { cls := .type "list", data := .seq vs.toArray } = some (.frz { cls := .type "list", data := .seq vs.toArray } (.lst (vs.map toV))) := by
  show (if (Value.type "list" == Value.type "list") = true then some (HO.frz { cls := .type "list", data := .seq vs.toArray } (.lst (vs.toArray.toList.map toV))) else some (HO.frz { cls := .type "list", data := .seq vs.toArray } (.tup (vs.toArray.toList.map toV)))) = _
  rw [if_pos (beq_self_eq_true _)]
theorem hoOf_tup (vs : List Value) : hoOf { cls := .type "tuple", data := .seq vs.toArray } = some (.frz { cls := .type "tuple", data := .seq vs.toArray } (.tup (vs.map toV))) := by
  show (if (Value.type "tuple" == Value.type "list") = true then some (HO.frz { cls := .type "tuple", data := .seq vs.toArray } (.lst (vs.toArray.toList.map toV))) else some (HO.frz { cls := .type "tuple", data := .seq vs.toArray } (.tup (vs.toArray.toList.map toV)))) = _
  rw [if_neg (by decide)]
section
variable {P : Program} {w : World} {K : PySem.W.Frag} {h : Heap} {A : List Addr}
theorem argH_at {b : Addr} {o : Obj} (hb : b ∈ A) (hk : K.lookup b = none) (e : h.get? b = some o) : argH K h A b = hoOf o := by
  unfold argH
  rw [if_pos hb, hk, if_pos (show (none : Option Obj).isNone = true from rfl), e] <;> rfl
theorem of_argH {b : Addr} {u : HO} (q : argH K h A b = some u) : b ∈ A ∧ K.lookup b = none := by
  unfold argH at q
  by_cases hb : b ∈ A
  · rw [if_pos hb] at q
    cases hk : K.lookup b with
    | none => exact ⟨hb, rfl⟩
    | some o =>
      rw [hk, if_neg (by simp)] at q
      cases q
  · rw [if_neg hb] at q
    cases q
/-- what stands tracked -/
theorem argH_is (ar : ∀ a ∈ A, ArgOb h A a) {b : Addr} {u : HO} (q : argH K h A b = some u) : K.lookup b = none ∧ ∃ vs : List Value, vs.length ≤ sizeLine ∧ (∀ u ∈ vs, OkU A u) ∧
    ((h.get? b = some { cls := .type "list", data := .seq vs.toArray } ∧ u = .frz { cls := .type "list", data := .seq vs.toArray } (.lst (vs.map toV))) ∨
     (h.get? b = some { cls := .type "tuple", data := .seq vs.toArray } ∧ u = .frz { cls := .type "tuple", data := .seq vs.toArray } (.tup (vs.map toV)))) := by
  obtain ⟨hb, hk⟩ := of_argH q
  obtain ⟨vs, h1, h2, h3⟩ := ar b hb
  refine ⟨hk, vs, h1, h2, ?_⟩
  rcases h3 with e | e
  · rw [argH_at hb hk e, hoOf_lst] at q
    exact .inl ⟨e, (Option.some.inj q).symm⟩
  · rw [argH_at hb hk e, hoOf_tup] at q
    exact .inr ⟨e, (Option.some.inj q).symm⟩
theorem argH_only (ar : ∀ a ∈ A, ArgOb h A a) : OnlyF (argH K h A) := fun b => by
  cases q : argH K h A b with
  | none => exact .inl rfl
  | some u =>
    obtain ⟨_, vs, _, _, ⟨_, e⟩ | ⟨_, e⟩⟩ := argH_is ar q
    · exact .inr ⟨_, _, by rw [e]⟩
    · exact .inr ⟨_, _, by rw [e]⟩
theorem argH_ok (ar : ∀ a ∈ A, ArgOb h A a) : HOk P w (argH K h A) h := fun b u q => by
  obtain ⟨_, vs, h1, h2, ⟨e, rfl⟩ | ⟨e, rfl⟩⟩ := argH_is ar q
  · exact ⟨e, by rw [List.length_map]; exact h1, vs, _, vals_toV h2, e⟩
  · exact ⟨e, by rw [List.length_map]; exact h1, vs, vals_toV h2, _, e, rfl, _, rfl⟩
theorem seq_inj {c c' : Value} {vs us : List Value} (e : (some { cls := c, data := .seq vs.toArray } : Option Obj) = some { cls := c', data := .seq us.toArray }) : c = c' ∧ vs = us := by
  have e1 := Option.some.inj e
  have e2 : c = c' := congrArg Obj.cls e1
  have e3 : Data.seq vs.toArray = Data.seq us.toArray := congrArg Obj.data e1
  injection e3 with e4
  refine ⟨e2, ?_⟩
  have e5 := congrArg Array.toList e4
  simpa using e5
/-- a list argument -/
theorem argL (KX : K.In h) (ar : ∀ a ∈ A, ArgOb h A a) {a : Addr} {vs : List Value} (ha : a ∈ A) (e : h.get? a = some { cls := .type "list", data := .seq vs.toArray }) : (∀ u ∈ vs, OkU A u) ∧ SqL K (argH K h A) a (vs.map toV) := by
  obtain ⟨us, h1, h2, h3⟩ := ar a ha
  have hu : us = vs := by
    rcases h3 with q | q
    · rw [e] at q
      exact (seq_inj q).2.symm
    · rw [e] at q
      exact absurd (Value.type.inj (seq_inj q).1) (by decide)
  subst hu
  refine ⟨h2, ?_⟩
  cases hk : K.lookup a with
  | none => exact .inl (.inr ⟨_, by rw [argH_at ha hk e, hoOf_lst]⟩)
  | some o =>
    have e2 := KX a o hk
    rw [e] at e2
    obtain rfl := Option.some.inj e2
    exact .inr ⟨_, us.toArray, _, hk, rfl, rfl, rfl, by rw [List.size_toArray]; exact h1, by simpa using vals_toV h2⟩
theorem argT (KX : K.In h) (ar : ∀ a ∈ A, ArgOb h A a) {a : Addr} {vs : List Value} (ha : a ∈ A) (e : h.get? a = some { cls := .type "tuple", data := .seq vs.toArray }) : (∀ u ∈ vs, OkU A u) ∧ SqT K (argH K h A) a (vs.map toV) := by
  obtain ⟨us, h1, h2, h3⟩ := ar a ha
  have hu : us = vs := by
    rcases h3 with q | q
    · rw [e] at q
      exact absurd (Value.type.inj (seq_inj q).1) (by decide)
    · rw [e] at q
      exact (seq_inj q).2.symm
  subst hu
  refine ⟨h2, ?_⟩
  cases hk : K.lookup a with
  | none => exact .inl (.inr ⟨_, by rw [argH_at ha hk e, hoOf_tup]⟩)
  | some o =>
    have e2 := KX a o hk
    rw [e] at e2
    obtain rfl := Option.some.inj e2
    exact .inr ⟨_, us.toArray, _, hk, rfl, rfl, by rw [List.size_toArray]; exact h1, by simpa using vals_toV h2⟩
mutual
theorem dw_one {Pm : Params} (KX : K.In h) (ar : ∀ a ∈ A, ArgOb h A a) : ∀ (d : WData) (v : Value), Well Pm h v d → plW d = true → OkU A v → Dw K (argH K h A) (toV v) d
  | .none, _, x, _, _ => by
    cases x
    exact .non
  | .bool b, _, x, _, _ => by
    cases x
    exact .bl b
  | .int i, _, x, _, _ => by
    cases x
    exact .int i
  | .str s, _, x, _, _ => by
    cases x
    exact .str s
  | .bytes b, _, x, _, _ => by
    cases x
    have z := Dw.byt (K := K) (H := argH K h A) b.toArray
    exact z
  | .list ds, _, x, p, hu => by
    obtain ⟨a, vs, rfl, ho, hall⟩ := well_list x
    obtain ⟨h2, hs⟩ := argL KX ar hu ho
    exact .lst hs (dw_all KX ar ds _ hall p h2)
  | .tuple ds, _, x, p, hu => by
    obtain ⟨a, vs, rfl, ho, hall⟩ := well_tuple x
    obtain ⟨h2, hs⟩ := argT KX ar hu ho
    exact .tup hs (dw_all KX ar ds _ hall p h2)
  | .float _, _, _, p, _ => Bool.noConfusion (show false = true from p)
  | .dict _, _, _, p, _ => Bool.noConfusion (show false = true from p)
  | .bytearray _, _, _, p, _ => Bool.noConfusion (show false = true from p)
  | .set _, _, _, p, _ => Bool.noConfusion (show false = true from p)
  | .frozenset _, _, _, p, _ => Bool.noConfusion (show false = true from p)
  | .obj _ _, _, _, p, _ => Bool.noConfusion (show false = true from p)
theorem dw_all {Pm : Params} (KX : K.In h) (ar : ∀ a ∈ A, ArgOb h A a) : ∀ (ds : List WData) (vs : List Value), WellAll Pm h vs ds → plWs ds = true → (∀ u ∈ vs, OkU A u) → DwAll K (argH K h A) (vs.map toV) ds
  | [], _, x, _, _ => by
    cases x
    exact .nil
  | d :: ds, _, x, p, hu => by
    obtain ⟨v, vs, rfl, x1, x2⟩ := well_cons x
    have q : plW d = true ∧ plWs ds = true := Bool.and_eq_true_iff.mp p
    exact .cons (dw_one KX ar d v x1 q.1 (hu _ (List.mem_cons_self ..))) (dw_all KX ar ds vs x2 q.2 fun u m => hu u (List.mem_cons_of_mem _ m))
end
end
/-! ### the call -/
theorem spec_call {P : Program} {w : World} {K : PySem.W.Frag} {mg mb : Str → Option Value} {CX : CXT} {k : Nat} {fa : Addr} {fd : FuncData} {ps : List Str} {sp : Sp} {s₁ : Shared} {vals : List Value} {ds : List WData} {R : PySem.W.WRecords} {cl : Str → Option Addr} {d0 : WData}
    (KX : K.In s₁.heap) (hns : s₁.heap.Ns mainGlobals mg) (hb : s₁.heap.Ns builtinsNs mb) (hbb : ∀ x : Str, x ≠ "__name__" → mb x = bootBuiltins x) (hlim : s₁.heap.NoLimit) (hg : s₁.gens = #[])
    (hwl : WellAll w.params s₁.heap vals ds) (hpl : plWs ds = true) (hwt : ∀ d ∈ ds, d.weight ≤ 1048576) (hr : Room k callerA)
    (F : ∀ base : Heap, K.In base → base.Ns mainGlobals mg → FnOk P w K mg base CX k fa fd ps sp) (hbind : ∀ (s : Shared) (us : List Value), us.length = ps.length → BindsTo s fd ⟨us, []⟩ (ps.zip us)) (hlen : ds.length = ps.length)
    (hsp : ∀ (H : Hp) (xs : List V), OnlyF H → DwAll K H xs ds → sp xs H (fun v H' => Dw K H' v d0) fun _ _ _ => False)
    (hCX : ∀ H e s', CX [] H s₁ (fun _ _ _ => False) e s' → False) :
    codeAny (model P w) callerA (.call (.ref fa) ⟨vals, []⟩) (fun r s' => ∃ u as, r = .ok (.ret u) ∧ ReadsW R cl s'.heap u d0 as ∧ OldK s₁.heap s'.heap ∧ s'.os = s₁.os ∧ AllBare s'.gens) s₁ := by
  obtain ⟨A, ho, ar⟩ := area_all ds vals hwl hpl hwt
  have hO : OnlyF (argH K s₁.heap A) := argH_only ar
  have hok : HOk P w (argH K s₁.heap A) s₁.heap := argH_ok ar
  have hS := dw_all KX ar ds vals hwl hpl ho
  have hV := vals_toV ho
  have hK : ∀ b u, argH K s₁.heap A b = some u → K.lookup b = none := fun b u q => (argH_is ar q).1
  have noA : ∀ {b : Addr} {o : Obj} {es : Array DictEntry} {ep : Nat}, s₁.heap.get? b = some o → o.data = .dict es ep → argH K s₁.heap A b = none := fun {b o es ep} e d => by
    cases q : argH K s₁.heap A b with
    | none => rfl
    | some u =>
      obtain ⟨_, vs, _, _, ⟨e2, _⟩ | ⟨e2, _⟩⟩ := argH_is ar q
      · rw [e2] at e
        cases e
        have d' : Data.seq vs.toArray _ = Data.dict es ep := d
        cases d'
      · rw [e2] at e
        cases e
        have d' : Data.seq vs.toArray _ = Data.dict es ep := d
        cases d'
  generalize argH K s₁.heap A = H at hO hok hS hK noA
  have base_of : ∀ {b : Addr} {o : Obj}, s₁.heap.get? b = some o → H b = none → (hidT s₁.heap H).get? b = some o := fun e n => hidT_get e n
  have nsK : ∀ {b : Addr} {m : Str → Option Value}, s₁.heap.Ns b m → (hidT s₁.heap H).Ns b m := fun {b m} ⟨o, es, ep, e, d, r⟩ => ⟨o, es, ep, base_of e (noA e d), d, r⟩
  have nK : ∀ b o, K.lookup b = some o → H b = none := fun b o e => by
    cases q : H b with
    | none => rfl
    | some u =>
      rw [hK b u q] at e
      cases e
  have hKb : K.In (hidT s₁.heap H) := fun b o e => base_of (KX b o e) (nK b o e)
  have hM : Mod K mg (hidT s₁.heap H) := ⟨hKb, nsK hns, ⟨mb, nsK hb, hbb⟩, let ⟨mc, h1, h2⟩ := hlim; ⟨mc, nsK h1, h2⟩⟩
  have e0 : Env0 P w K mg (hidT s₁.heap H) callerA [] s₁ H := ⟨rfl, hM, fun b o e => of_hidT e, Nat.le_of_eq (hidT_size _ _), trivial, fun b hb => absurd (show b ∈ ([] : List Addr) from hb) (by simp), hok, .of_eq hg⟩
  have hl : vals.length = ps.length := by rw [wellAll_len hwl]; exact hlen
  refine codeAny_mono ((F _ hKb (nsK hns)).run callerA [] s₁ H ⟨vals, []⟩ vals (vals.map toV) _ _ hr e0 (hbind s₁ vals hl) hV (hsp H _ hO hS)) fun r s' x => ?_
  cases r with
  | error e => exact (hCX H e s' x).elim
  | ok fl =>
    cases fl with
    | next => exact False.elim x
    | brk => exact False.elim x
    | cont => exact False.elim x
    | ret u =>
      obtain ⟨v, H', os, bare, un, hok', r', q⟩ := x
      have kept : ∀ b o, s₁.heap.get? b = some o → s'.heap.get? b = some o := fun b o e => by
        cases q2 : H b with
        | none => exact un.keep b o e q2 (by intro z; exact absurd (show b ∈ ([] : List Addr) from z) (by simp)) (by simp)
        | some u2 =>
          rcases hO b with z | ⟨ob, u3, z⟩
          · rw [q2] at z
            cases z
          · have z2 := un.frzs b ob _ z
            obtain ⟨e1, _⟩ := hok b _ z
            obtain ⟨e2, _⟩ := hok' b _ z2
            rw [e] at e1
            cases e1
            exact e2
      have KX' : K.In s'.heap := fun b o e => kept b o (KX b o e)
      obtain ⟨as, hrd⟩ := Dw.reads (R := R) (cl := cl) hok' KX' d0 v u q r'
      exact ⟨u, as, rfl, hrd, OldK.of_keep kept, os, bare⟩
/-! ### the row -/
theorem layable_weight {ds : List WData} (h : WData.layableAll ds = true) : ∀ d ∈ ds, d.weight ≤ 1048576 := fun d hd =>
  (PySem.W.layableW_iff.mp (List.all_eq_true.mp h d hd)).2.2
theorem encAll_len : ∀ (cs : List Codec) (a : Codec.denoteAll cs), (Codec.encAll cs a).length = cs.length
  | [], _ => rfl
  | c :: cs, a => by
    show (Codec.encAll cs a.2).length + 1 = cs.length + 1
    rw [encAll_len cs a.2]
/-- the goal that k_headS leaves (case hc), from the promise of the row's def: whatever the arguments that the codecs let and the row asks for, the def gives what stands for enc (f ..) -/
theorem walk_spec {r : OpenSpec} {k : Nat} {q : Program} {loose : List Str} {XP : (Str → Option Value) → Heap → Prop} {YP : World → Heap → Prop} {d : DefRec} {K : Params → PySem.W.Frag} {CX : World → CXT} {ps : List Str} {sp : World → Sp}
    (hwell : r.wellSaid = true) (hdf : d.params.defaults = []) (hlen : r.args.length = ps.length) (hr : Room k callerA)
    (hY : ∀ (w : World) (h : Heap), YP w h → (K w.params).In h)
    (F : ∀ (w : World) (mg : Str → Option Value) (fa : Addr) (h : Heap), YP w h → (K w.params).In h → h.Ns mainGlobals mg → mg d.name = some (.ref fa) →
      ∃ fd : FuncData, (∀ (s : Shared) (us : List Value), us.length = ps.length → BindsTo s fd ⟨us, []⟩ (ps.zip us)) ∧
        ∀ base : Heap, (K w.params).In base → base.Ns mainGlobals mg → FnOk r.prog w (K w.params) mg base (CX w) k fa fd ps (sp w))
    (hsp : ∀ (w : World) (H : Hp) (xs : List V) (a : Codec.denoteAll r.args), OnlyF H → Codec.withinAll r.args a = true → Codec.app r.args r.asked a = true → DwAll (K w.params) H xs (Codec.encAll r.args a) →
      sp w xs H (fun v H' => Dw (K w.params) H' v (r.ret.enc (Codec.app r.args r.f a))) fun _ _ _ => False)
    (hCX : ∀ (w : World) (H : Hp) (s : Shared) (e : Value) (s' : Shared), CX w [] H s (fun _ _ _ => False) e s' → False) :
    PySem.W.WalkOS q loose XP YP r d [] (fun f vs => PySem.call f vs) := by
  intro w s_0 s₁ mg mb G Y fa o pm cd doc dV kV ho hd hcd hD hmg hg args vals as hpre hlay hrd hwl hlo
  obtain ⟨a, e1, e2⟩ := PySem.W.os_pre_some hpre
  obtain ⟨e3, hwi⟩ := Codec.encAll_of_decAll r.args args a e1
  subst e3
  have KX := hY w _ Y
  obtain ⟨fd, hb, hF⟩ := F w mg fa _ Y KX G.T.g hmg
  refine PySem.W.enter_call (codeAny_mono (spec_call (R := []) (cl := classAt s_0.heap) (d0 := r.ret.enc (Codec.app r.args r.f a)) KX G.T.g G.T.b G.T.builtins G.T.nolimit hg hwl (pl_encAll _ _) (layable_weight hlay) hr hF hb (by rw [encAll_len]; exact hlen)
    (fun H xs hO hS => hsp w H xs a hO hwi e2 hS) fun H e s' => hCX w H s₁ e s') fun r' s' hq => ?_)
  obtain ⟨u, as', rfl, h1, h2, h3, h4⟩ := hq
  exact ⟨.inl ⟨u, _, as', rfl, fun _ => rfl, h1, (OpenSpec.post_iff hwell hwi _ _).mpr rfl, fun z => Bool.noConfusion (show false = true from z)⟩, h2, h3, h4⟩
/-- the same where the promise hangs on the written part alone -/
theorem walk_specK {r : OpenSpec} {k : Nat} {q : Program} {loose : List Str} {XP : (Str → Option Value) → Heap → Prop} {YP : World → Heap → Prop} {d : DefRec} {K : Params → PySem.W.Frag} {CX : CXT} {ps : List Str} {sp : PySem.W.Frag → Sp}
    (hwell : r.wellSaid = true) (hdf : d.params.defaults = []) (hlen : r.args.length = ps.length) (hr : Room k callerA)
    (hY : ∀ (w : World) (h : Heap), YP w h → (K w.params).In h)
    (F : ∀ (w : World) (mg : Str → Option Value) (fa : Addr) (h : Heap), YP w h → (K w.params).In h → h.Ns mainGlobals mg → mg d.name = some (.ref fa) →
      ∃ fd : FuncData, (∀ (s : Shared) (us : List Value), us.length = ps.length → BindsTo s fd ⟨us, []⟩ (ps.zip us)) ∧
        ∀ base : Heap, (K w.params).In base → base.Ns mainGlobals mg → FnOk r.prog w (K w.params) mg base CX k fa fd ps (sp (K w.params)))
    (hsp : ∀ (K : PySem.W.Frag) (H : Hp) (xs : List V) (a : Codec.denoteAll r.args), OnlyF H → Codec.withinAll r.args a = true → Codec.app r.args r.asked a = true → DwAll K H xs (Codec.encAll r.args a) →
      sp K xs H (fun v H' => Dw K H' v (r.ret.enc (Codec.app r.args r.f a))) fun _ _ _ => False)
    (hCX : ∀ (H : Hp) (s : Shared) (e : Value) (s' : Shared), CX [] H s (fun _ _ _ => False) e s' → False) :
    PySem.W.WalkOS q loose XP YP r d [] (fun f vs => PySem.call f vs) :=
  walk_spec (K := K) (CX := fun _ => CX) (sp := fun w => sp (K w.params)) hwell hdf hlen hr hY F (fun w H xs a h1 h2 h3 h4 => hsp (K w.params) H xs a h1 h2 h3 h4) fun _ H s e s' => hCX H s e s'
end L2
-- rests on (row put in by the clerk, for the bench that shows a file only what it spells): KE.SpHead KE.OsShapes
end


section
set_option linter.all false
set_option maxHeartbeats 2000000
namespace Gm
open Maze

/-! ### runs -/
def runS : Scan → Bytes → Option Scan
  | z, [] => some z
  | z, c :: r => match z.sign c with
    | some y => runS y r
    | none => none

theorem sign_mk (l k w : Nat) (f : Bool) (u v x : List Bool) (c : UInt8) : (Scan.mk l k w f u v x).sign c =
  if l = 0 then
    (if k % 2 = 0 then (if c = 43 then some ⟨l, k + 1, w, f, u, v, x⟩ else none)
    else if c = 45 ∧ k / 2 < 10 then some ⟨l, k + 1, w, f, u, v, x⟩
    else if c = 10 ∧ 3 ≤ k then some ⟨1, 0, k / 2, f, u, v, x⟩ else none)
  else if l % 2 = 1 then
    (if k = 0 then (if c = 124 ∧ l / 2 < 10 then some ⟨l, 1, w, f, u, v ++ x, []⟩ else none)
    else if k = 2 * w + 1 then (if c = 10 then some ⟨l + 1, 0, w, true, u, v, x⟩ else none)
    else if k % 2 = 1 then (if c = 32 then some ⟨l, k + 1, w, f, u, v, x⟩ else none)
    else if k = 2 * w then (if c = 124 then some ⟨l, k + 1, w, f, u, v, x⟩ else none)
    else if c = 124 ∨ c = 32 then some ⟨l, k + 1, w, f, u ++ [c == 124], v, x⟩ else none)
  else
    (if k = 2 * w + 1 then (if c = 10 then some ⟨l + 1, 0, w, f, u, v, x⟩ else none)
    else if k % 2 = 0 then (if c = 43 then some ⟨l, k + 1, w, f, u, v, x⟩ else none)
    else if c = 45 then some ⟨l, k + 1, w, f, u, v, x ++ [true]⟩
    else if c = 32 ∧ l / 2 < 10 then some ⟨l, k + 1, w, false, u, v, x ++ [false]⟩ else none) := rfl

theorem scan_ok {D : Garden} : ∀ (t : Bytes) (p : Nat) (z : Scan), scanFrom p z t = .ok D ↔ ∃ y, runS z t = some y ∧ y.ends = some D
  | [], p, z => by
    unfold scanFrom runS
    cases h : z.ends with
    | none => simp [h]
    | some E => simp [h]
  | c :: r, p, z => by
    unfold scanFrom runS
    cases h : z.sign c with
    | none => simp
    | some y => simpa using scan_ok r (p + 1) y

theorem runS_append : ∀ (u v : Bytes) (z : Scan), runS z (u ++ v) = (runS z u).bind fun y => runS y v
  | [], v, z => rfl
  | c :: r, v, z => by
    show runS z (c :: (r ++ v)) = _
    have e : ∀ q : Bytes, runS z (c :: q) = match z.sign c with
      | some y => runS y q
      | none => none := fun _ => rfl
    rw [e, e]
    cases h : z.sign c with
    | none => rfl
    | some y => exact runS_append r v y

/-- the state behind the first p bytes -/
def stS (t : Bytes) (p : Nat) : Option Scan := runS scanBegun (t.take p)

theorem stS_succ {t : Bytes} {p : Nat} {c : UInt8} (h : t[p]? = some c) : stS t (p + 1) = (stS t p).bind fun z => z.sign c := by
  unfold stS
  have e : t.take (p + 1) = t.take p ++ [c] := by
    rw [List.take_add_one, h]; rfl
  rw [e, runS_append]
  congr 1
  funext z
  show runS z [c] = _
  unfold runS
  cases z.sign c <;> rfl

/-! ### states by line and sign -/
section
variable (b : Nat → Nat → UInt8) (w : Nat)
def upRow (y m : Nat) : List Bool := (List.range m).map fun x => b (2 * y + 1) (2 * x + 2) == 124
def levRow (y m : Nat) : List Bool := (List.range m).map fun x => b (2 * y + 2) (2 * x + 1) == 45
def upsTo (n : Nat) : List Bool := (List.range n).flatMap fun y => upRow b y (w - 1)
def levsTo (n : Nat) : List Bool := (List.range n).flatMap fun y => levRow b y w
def fullBefore : Nat → Bool
  | 0 => true
  | y + 1 => (levRow b y w).all id
def curBefore : Nat → List Bool
  | 0 => []
  | y + 1 => levRow b y w
/-- at the beginning of row y of squares -/
def sO0 (y : Nat) : Scan := ⟨2 * y + 1, 0, w, fullBefore b w y, upsTo b w y, levsTo b w (y - 1), curBefore b w y⟩
/-- within row y -/
def sO (y j : Nat) : Scan := ⟨2 * y + 1, j, w, fullBefore b w y, upsTo b w y ++ upRow b y (min ((j - 1) / 2) (w - 1)), levsTo b w y, []⟩
/-- within the level line below row y -/
def sE (y j : Nat) : Scan := ⟨2 * y + 2, j, w, (levRow b y (j / 2)).all id, upsTo b w (y + 1), levsTo b w y, levRow b y (j / 2)⟩
end

theorem range_flatMap_succ {α : Type} (f : Nat → List α) (n : Nat) : (List.range (n + 1)).flatMap f = (List.range n).flatMap f ++ f n := by
  rw [List.range_succ, List.flatMap_append]; simp

theorem upRow_succ (b y m) : upRow b y (m + 1) = upRow b y m ++ [b (2 * y + 1) (2 * m + 2) == 124] := by
  unfold upRow; rw [List.range_succ, List.map_append]; rfl
theorem levRow_succ (b y m) : levRow b y (m + 1) = levRow b y m ++ [b (2 * y + 2) (2 * m + 1) == 45] := by
  unfold levRow; rw [List.range_succ, List.map_append]; rfl

variable {b : Nat → Nat → UInt8} {w : Nat}

theorem step_O0 (hw : 1 ≤ w) (y : Nat) (c : UInt8) : (sO0 b w y).sign c = if c = 124 ∧ y < 10 then some (sO b w y 1) else none := by
  have e1 : (2 * y + 1) % 2 = 1 := by omega
  have e2 : (2 * y + 1) / 2 = y := by omega
  unfold sO0
  rw [sign_mk, if_neg (by omega), if_pos e1, if_pos rfl, e2]
  by_cases h : c = 124 ∧ y < 10
  · rw [if_pos h, if_pos h]
    unfold sO
    congr 2
    · have : min ((1 - 1) / 2) (w - 1) = 0 := by omega
      rw [this]; simp [upRow]
    · cases y with
      | zero => simp [levsTo, curBefore]
      | succ y =>
        show levsTo b w y ++ levRow b y w = _
        unfold levsTo
        rw [range_flatMap_succ]
  · rw [if_neg h, if_neg h]

/-- what may stand in row y of squares, behind its first sign -/
def okO (w j : Nat) (c : UInt8) : Bool := if j = 2 * w + 1 then c == 10 else if j % 2 = 1 then c == 32 else if j = 2 * w then c == 124 else (c == 124 || c == 32)
/-- what may stand in the level line below row y -/
def okE (w y j : Nat) (c : UInt8) : Bool := if j = 2 * w + 1 then c == 10 else if j % 2 = 0 then c == 43 else (c == 45 || (c == 32 && decide (y + 1 < 10)))

theorem step_O (hw : 1 ≤ w) {y j : Nat} (h1 : 1 ≤ j) (h2 : j ≤ 2 * w) : (sO b w y j).sign (b (2 * y + 1) j) = if okO w j (b (2 * y + 1) j) = true then some (sO b w y (j + 1)) else none := by
  have e1 : (2 * y + 1) % 2 = 1 := by omega
  have n1 : ¬ j = 2 * w + 1 := by omega
  unfold sO okO
  rw [sign_mk, if_neg (by omega), if_pos e1, if_neg (by omega), if_neg n1, if_neg n1]
  by_cases ho : j % 2 = 1
  · rw [if_pos ho, if_pos ho]
    have : min ((j + 1 - 1) / 2) (w - 1) = min ((j - 1) / 2) (w - 1) := by omega
    rw [this]
    simp only [beq_iff_eq]
  · rw [if_neg ho, if_neg ho]
    by_cases hj : j = 2 * w
    · rw [if_pos hj, if_pos hj]
      have : min ((j + 1 - 1) / 2) (w - 1) = min ((j - 1) / 2) (w - 1) := by omega
      rw [this]
      simp only [beq_iff_eq]
    · rw [if_neg hj, if_neg hj]
      obtain ⟨m, rfl⟩ : ∃ m, j = 2 * m + 2 := ⟨j / 2 - 1, by omega⟩
      have a1 : min ((2 * m + 2 + 1 - 1) / 2) (w - 1) = m + 1 := by omega
      have a2 : min ((2 * m + 2 - 1) / 2) (w - 1) = m := by omega
      rw [a1, a2, upRow_succ, ← List.append_assoc]
      simp only [beq_iff_eq, Bool.or_eq_true]

theorem step_Oend (y : Nat) (hw : 1 ≤ w) (c : UInt8) : (sO b w y (2 * w + 1)).sign c = if c = 10 then some (sE b w y 0) else none := by
  have e1 : (2 * y + 1) % 2 = 1 := by omega
  unfold sO
  rw [sign_mk, if_neg (by omega), if_pos e1, if_neg (by omega), if_pos rfl]
  have a1 : min ((2 * w + 1 - 1) / 2) (w - 1) = w - 1 := by omega
  rw [a1]
  unfold sE upsTo
  rw [range_flatMap_succ]
  rfl

theorem step_E (hw : 1 ≤ w) {y j : Nat} (h2 : j ≤ 2 * w) : (sE b w y j).sign (b (2 * y + 2) j) = if okE w y j (b (2 * y + 2) j) = true then some (sE b w y (j + 1)) else none := by
  have e1 : (2 * y + 2) % 2 = 0 := by omega
  have e2 : (2 * y + 2) / 2 = y + 1 := by omega
  have n1 : ¬ j = 2 * w + 1 := by omega
  unfold sE okE
  rw [sign_mk, if_neg (by omega), if_neg (by omega), if_neg n1, if_neg n1, e2]
  by_cases ho : j % 2 = 0
  · rw [if_pos ho, if_pos ho]
    have : (j + 1) / 2 = j / 2 := by omega
    rw [this]
    simp only [beq_iff_eq]
  · rw [if_neg ho, if_neg ho]
    obtain ⟨m, rfl⟩ : ∃ m, j = 2 * m + 1 := ⟨j / 2, by omega⟩
    have a1 : (2 * m + 1 + 1) / 2 = m + 1 := by omega
    have a2 : (2 * m + 1) / 2 = m := by omega
    rw [a1, a2, levRow_succ, List.all_append]
    by_cases hc : b (2 * y + 2) (2 * m + 1) = 45
    · rw [hc]; simp
    · rw [if_neg hc]
      by_cases hd : b (2 * y + 2) (2 * m + 1) = 32 ∧ y + 1 < 10
      · rw [if_pos hd, hd.1]
        simp [hd.2]
      · rw [if_neg hd, if_neg]
        simp only [Bool.or_eq_true, Bool.and_eq_true, beq_iff_eq, decide_eq_true_eq]
        exact fun h => h.elim hc hd

theorem step_Eend (y : Nat) (c : UInt8) : (sE b w y (2 * w + 1)).sign c = if c = 10 then some (sO0 b w (y + 1)) else none := by
  unfold sE
  rw [sign_mk, if_neg (by omega), if_neg (by omega), if_pos rfl]
  have a1 : (2 * w + 1) / 2 = w := by omega
  rw [a1]
  rfl
end Gm

end
section
set_option linter.all false
set_option maxHeartbeats 2000000
namespace Gm
open Maze

theorem dm {M i j : Nat} (h : j < M) : (i * M + j) / M = i ∧ (i * M + j) % M = j := by
  have hM : 0 < M := by omega
  refine ⟨?_, ?_⟩
  · rw [Nat.add_comm, Nat.add_mul_div_right _ _ hM, Nat.div_eq_of_lt h, Nat.zero_add]
  · rw [Nat.add_comm, Nat.add_mul_mod_self_right, Nat.mod_eq_of_lt h]
theorem dm_at (p M : Nat) : p / M * M + p % M = p := by rw [Nat.mul_comm]; exact Nat.div_add_mod p M
theorem dm_next {p M : Nat} (hM : 0 < M) : if p % M = M - 1 then (p + 1) / M = p / M + 1 ∧ (p + 1) % M = 0 else (p + 1) / M = p / M ∧ (p + 1) % M = p % M + 1 := by
  have h1 := dm_at p M
  have h2 : p % M < M := Nat.mod_lt _ hM
  split
  · have e : p + 1 = (p / M + 1) * M + 0 := by rw [Nat.succ_mul]; omega
    have := dm (M := M) (i := p / M + 1) (j := 0) hM
    rw [← e] at this
    exact this
  · have e : p + 1 = p / M * M + (p % M + 1) := by omega
    have := dm (M := M) (i := p / M) (j := p % M + 1) (by omega)
    rw [← e] at this
    exact this

/-! ### one state, one rule -/
def sAt (b : Nat → Nat → UInt8) (w i j : Nat) : Scan := if i % 2 = 1 then (if j = 0 then sO0 b w (i / 2) else sO b w (i / 2) j) else sE b w (i / 2 - 1) j
def okAt (w i j : Nat) (c : UInt8) : Bool := if i % 2 = 1 then (if j = 0 then c == 124 && decide (i / 2 < 10) else okO w j c) else okE w (i / 2 - 1) j c

theorem step_at {b : Nat → Nat → UInt8} {w i j : Nat} (hw : 1 ≤ w) (hi : 1 ≤ i) (hj : j ≤ 2 * w + 1) :
    (sAt b w i j).sign (b i j) = if okAt w i j (b i j) = true then some (if j = 2 * w + 1 then sAt b w (i + 1) 0 else sAt b w i (j + 1)) else none := by
  by_cases ho : i % 2 = 1
  · obtain ⟨y, rfl⟩ : ∃ y, i = 2 * y + 1 := ⟨i / 2, by omega⟩
    have e2 : (2 * y + 1) / 2 = y := by omega
    have e3 : ¬ (2 * y + 1 + 1) % 2 = 1 := by omega
    have e4 : (2 * y + 1 + 1) / 2 - 1 = y := by omega
    unfold sAt okAt
    rw [if_pos ho, if_pos ho, if_neg e3, if_pos ho, if_neg (show ¬ j + 1 = 0 by omega), e2, e4]
    by_cases h0 : j = 0
    · subst h0
      rw [if_pos rfl, if_pos rfl, if_neg (show ¬ 0 = 2 * w + 1 by omega), step_O0 hw]
      simp only [Bool.and_eq_true, beq_iff_eq, decide_eq_true_eq]
    · rw [if_neg h0, if_neg h0]
      by_cases hl : j = 2 * w + 1
      · subst hl
        rw [if_pos rfl, step_Oend _ hw]
        unfold okO
        rw [if_pos rfl]
        simp only [beq_iff_eq]
      · rw [if_neg hl, step_O hw (by omega) (by omega)]
  · obtain ⟨y, rfl⟩ : ∃ y, i = 2 * y + 2 := ⟨i / 2 - 1, by omega⟩
    have e2 : (2 * y + 2) / 2 - 1 = y := by omega
    have e3 : (2 * y + 2 + 1) % 2 = 1 := by omega
    have e4 : (2 * y + 2 + 1) / 2 = y + 1 := by omega
    unfold sAt okAt
    rw [if_neg ho, if_neg ho, if_pos e3, if_neg ho, e2, e4, if_pos rfl]
    by_cases hl : j = 2 * w + 1
    · subst hl
      rw [if_pos rfl, step_Eend]
      unfold okE
      rw [if_pos rfl]
      simp only [beq_iff_eq]
    · rw [if_neg hl, step_E hw (by omega)]

/-! ### the same by places -/
def at0 (t : Bytes) (p : Nat) : UInt8 := t.getD p 0
def bt (t : Bytes) (w i j : Nat) : UInt8 := at0 t (i * (2 * w + 2) + j)
def sP (t : Bytes) (w p : Nat) : Scan := sAt (bt t w) w (p / (2 * w + 2)) (p % (2 * w + 2))
def okP (w p : Nat) (c : UInt8) : Bool := okAt w (p / (2 * w + 2)) (p % (2 * w + 2)) c

theorem at0_of {t : Bytes} {p : Nat} (h : p < t.length) : t[p]? = some (at0 t p) := by
  unfold at0
  rw [List.getD_eq_getElem?_getD, List.getElem?_eq_getElem h]; rfl

theorem step_P {t : Bytes} {w p : Nat} (hw : 1 ≤ w) (hp : 2 * w + 2 ≤ p) : (sP t w p).sign (at0 t p) = if okP w p (at0 t p) = true then some (sP t w (p + 1)) else none := by
  have hM : 0 < 2 * w + 2 := by omega
  have e0 : bt t w (p / (2 * w + 2)) (p % (2 * w + 2)) = at0 t p := by unfold bt; rw [dm_at]
  have h1 : 1 ≤ p / (2 * w + 2) := (Nat.le_div_iff_mul_le hM).mpr (by omega)
  have h2 : p % (2 * w + 2) ≤ 2 * w + 1 := by have := Nat.mod_lt p hM; omega
  have e1 := step_at (b := bt t w) hw h1 h2
  rw [e0] at e1
  have e2 := dm_next (p := p) hM
  unfold sP okP
  rw [e1]
  congr 2
  split at e2
  · rename_i h
    rw [if_pos (by omega), e2.1, e2.2]
  · rename_i h
    rw [if_neg (by omega), e2.1, e2.2]

/-! ### the first line -/
def st0 (j : Nat) : Scan := ⟨0, j, 0, true, [], [], []⟩
def ok0 (j : Nat) (c : UInt8) : Bool := if j % 2 = 0 then c == 43 else c == 45 && decide (j / 2 < 10)
structure Line0 (t : Bytes) (w : Nat) : Prop where
  lo : 1 ≤ w
  hi : w ≤ 10
  signs : ∀ k, k < 2 * w + 1 → ok0 k (at0 t k) = true
  feed : at0 t (2 * w + 1) = 10

theorem step_0 (j : Nat) (c : UInt8) : (st0 j).sign c = if ok0 j c = true then some (st0 (j + 1)) else if j % 2 = 1 ∧ c = 10 ∧ 3 ≤ j then some ⟨1, 0, j / 2, true, [], [], []⟩ else none := by
  unfold st0 ok0
  rw [sign_mk, if_pos rfl]
  by_cases h : j % 2 = 0
  · rw [if_pos h, if_pos h, if_neg (show ¬ (j % 2 = 1 ∧ c = 10 ∧ 3 ≤ j) by omega)]
    simp only [beq_iff_eq]
  · have h1 : j % 2 = 1 := by omega
    rw [if_neg h, if_neg h]
    simp only [Bool.and_eq_true, beq_iff_eq, decide_eq_true_eq, h1, true_and]

theorem st0_end (t : Bytes) (w : Nat) : (⟨1, 0, w, true, [], [], []⟩ : Scan) = sP t w (2 * w + 2) := by
  have h := dm (M := 2 * w + 2) (i := 1) (j := 0) (by omega)
  rw [Nat.one_mul, Nat.add_zero] at h
  unfold sP
  rw [h.1, h.2]
  rfl

theorem sound {t : Bytes} : ∀ (p : Nat) (z : Scan), p ≤ t.length → stS t p = some z →
    (z = st0 p ∧ ∀ k, k < p → ok0 k (at0 t k) = true) ∨ ∃ w, Line0 t w ∧ 2 * w + 2 ≤ p ∧ z = sP t w p ∧ ∀ q, 2 * w + 2 ≤ q → q < p → okP w q (at0 t q) = true
  | 0, z, _, h => by
    left
    have : some scanBegun = some z := h
    injection this with this
    exact ⟨this.symm, fun k hk => absurd hk (by omega)⟩
  | p + 1, z, hp, h => by
    rw [stS_succ (at0_of (show p < t.length by omega))] at h
    cases e : stS t p with
    | none => rw [e] at h; cases h
    | some y =>
      rw [e] at h
      have h' : y.sign (at0 t p) = some z := h
      rcases sound p y (by omega) e with ⟨rfl, ok⟩ | ⟨w, L, hw, rfl, ok⟩
      · rw [step_0] at h'
        split at h'
        · rename_i hc
          left
          injection h' with h'
          refine ⟨h'.symm, fun k hk => ?_⟩
          by_cases hkp : k = p
          · subst hkp; exact hc
          · exact ok k (by omega)
        · split at h'
          · rename_i hc
            right
            injection h' with h'
            obtain ⟨w, rfl⟩ : ∃ w, p = 2 * w + 1 := ⟨p / 2, by omega⟩
            have ew : (2 * w + 1) / 2 = w := by omega
            rw [ew] at h'
            refine ⟨w, ⟨by omega, ?_, fun k hk => ok k hk, hc.2.1⟩, by omega, ?_, fun q h1 h2 => absurd h2 (by omega)⟩
            · have := ok (2 * w - 1) (by omega)
              unfold ok0 at this
              rw [if_neg (by omega)] at this
              simp only [Bool.and_eq_true, decide_eq_true_eq] at this
              omega
            · rw [← h', st0_end t w]
          · cases h'
      · rw [step_P L.lo hw] at h'
        split at h'
        · rename_i hc
          right
          injection h' with h'
          refine ⟨w, L, by omega, h'.symm, fun q h1 h2 => ?_⟩
          by_cases hq : q = p
          · subst hq; exact hc
          · exact ok q h1 (by omega)
        · cases h'

theorem complete0 {t : Bytes} {w : Nat} (L : Line0 t w) (ht : 2 * w + 2 ≤ t.length) : ∀ p, p ≤ 2 * w + 1 → stS t p = some (st0 p)
  | 0, _ => rfl
  | p + 1, hp => by
    rw [stS_succ (at0_of (show p < t.length by omega)), complete0 L ht p (by omega)]
    show (st0 p).sign _ = _
    rw [step_0, if_pos (L.signs p (by omega))]

theorem complete {t : Bytes} {w : Nat} (L : Line0 t w) : ∀ p, 2 * w + 2 ≤ p → p ≤ t.length → (∀ q, 2 * w + 2 ≤ q → q < p → okP w q (at0 t q) = true) → stS t p = some (sP t w p)
  | 0, h, _, _ => by omega
  | p + 1, h1, h2, ok => by
    rw [stS_succ (at0_of (show p < t.length by omega))]
    by_cases hp : p = 2 * w + 1
    · subst hp
      rw [complete0 L h2 _ (Nat.le_refl _)]
      show (st0 (2 * w + 1)).sign _ = _
      have hl := L.lo
      rw [step_0, L.feed, if_neg, if_pos ⟨by omega, rfl, by omega⟩, show (2 * w + 1) / 2 = w by omega, st0_end t w]
      unfold ok0
      rw [if_neg (by omega)]
      simp
    · rw [complete L p (by omega) (by omega) (fun q h3 h4 => ok q h3 (by omega))]
      show (sP t w p).sign _ = _
      rw [step_P L.lo (by omega), if_pos (ok p (by omega) (by omega))]

/-- the garden of a drawing of that size -/
def gardenAt (t : Bytes) (w h : Nat) : Garden := ⟨w, h, upsTo (bt t w) w h ++ levsTo (bt t w) w (h - 1)⟩

structure Drawing (t : Bytes) (w h : Nat) : Prop where
  line0 : Line0 t w
  lo : 1 ≤ h
  hi : h ≤ 10
  len : t.length = (2 * h + 1) * (2 * w + 2)
  signs : ∀ q, 2 * w + 2 ≤ q → q < t.length → okP w q (at0 t q) = true
  last : (levRow (bt t w) (h - 1) w).all id = true

theorem stS_all (t : Bytes) : stS t t.length = runS scanBegun t := by unfold stS; rw [List.take_length]

theorem ends_mk (l k w : Nat) (f : Bool) (u v x : List Bool) : (Scan.mk l k w f u v x).ends = if k = 0 ∧ l % 2 = 1 ∧ 3 ≤ l ∧ f = true then some ⟨w, l / 2, u ++ v⟩ else none := rfl

theorem read_of {t : Bytes} {w h : Nat} (X : Drawing t w h) : readDrawing t = .ok (gardenAt t w h) := by
  unfold readDrawing
  rw [scan_ok]
  have e := complete X.line0 t.length (by have q : (2 * h + 1) * (2 * w + 2) = 2 * h * (2 * w + 2) + (2 * w + 2) := Nat.succ_mul _ _
                                          rw [X.len, q]; exact Nat.le_add_left _ _) (Nat.le_refl _) X.signs
  refine ⟨_, (stS_all t).symm.trans e, ?_⟩
  have d := dm (M := 2 * w + 2) (i := 2 * h + 1) (j := 0) (by omega)
  rw [Nat.add_zero, ← X.len] at d
  have hl := X.lo
  unfold sP
  rw [d.1, d.2]
  unfold sAt
  rw [if_pos (by omega), if_pos rfl, show (2 * h + 1) / 2 = h by omega]
  obtain ⟨y, rfl⟩ : ∃ y, h = y + 1 := ⟨h - 1, by omega⟩
  unfold sO0 gardenAt
  rw [ends_mk, if_pos ⟨rfl, by omega, by omega, X.last⟩, show (2 * (y + 1) + 1) / 2 = y + 1 by omega]

theorem ends_0 (j : Nat) : (st0 j).ends = none := by
  unfold st0
  rw [ends_mk, if_neg (by omega)]

theorem of_read {t : Bytes} {D : Garden} (h : readDrawing t = .ok D) : ∃ w h, Drawing t w h ∧ D = gardenAt t w h := by
  unfold readDrawing at h
  rw [scan_ok] at h
  obtain ⟨y, h1, h2⟩ := h
  rw [← stS_all] at h1
  rcases sound t.length y (Nat.le_refl _) h1 with ⟨rfl, _⟩ | ⟨w, L, hw, rfl, ok⟩
  · rw [ends_0] at h2; cases h2
  · have hM : 0 < 2 * w + 2 := by omega
    have hat := dm_at t.length (2 * w + 2)
    generalize hi : t.length / (2 * w + 2) = i at *
    have hmod := Nat.mod_lt t.length hM
    generalize hj : t.length % (2 * w + 2) = j at *
    unfold sP at h2
    rw [hi, hj] at h2
    unfold sAt at h2
    split at h2
    · rename_i ho
      split at h2
      · rename_i h0
        subst h0
        unfold sO0 at h2
        rw [ends_mk] at h2
        split at h2
        · rename_i hc
          obtain ⟨_, _, hc3, hc4⟩ := hc
          obtain ⟨y, hy⟩ : ∃ y, i = 2 * (y + 1) + 1 := ⟨i / 2 - 1, by omega⟩
          subst hy
          have e2 : (2 * (y + 1) + 1) / 2 = y + 1 := by omega
          rw [e2] at hc4 h2
          injection h2 with h2
          refine ⟨w, y + 1, ⟨L, by omega, ?_, by omega, ok, hc4⟩, ?_⟩
          · have q1 : (2 * y + 1) * (2 * w + 2) + 0 < t.length := by
              rw [← hat]
              have e5 : 2 * (y + 1) + 1 = (2 * y + 1) + 1 + 1 := by omega
              have e6 : (2 * y + 1 + 1 + 1) * (2 * w + 2) = (2 * y + 1 + 1) * (2 * w + 2) + (2 * w + 2) := Nat.succ_mul _ _
              have e7 : (2 * y + 1 + 1) * (2 * w + 2) = (2 * y + 1) * (2 * w + 2) + (2 * w + 2) := Nat.succ_mul _ _
              rw [e5, e6, e7]; omega
            have q3 : (2 * y + 1) * (2 * w + 2) = 2 * y * (2 * w + 2) + (2 * w + 2) := Nat.succ_mul _ _
            have q2 := ok ((2 * y + 1) * (2 * w + 2) + 0) (by rw [q3]; omega) q1
            unfold okP at q2
            have d := dm (M := 2 * w + 2) (i := 2 * y + 1) (j := 0) hM
            rw [d.1, d.2] at q2
            unfold okAt at q2
            rw [if_pos (by omega), if_pos rfl] at q2
            simp only [Bool.and_eq_true, decide_eq_true_eq] at q2
            omega
          · rw [← h2]
            unfold gardenAt
            rw [show (2 * (y + 1) + 1) / 2 = y + 1 by omega]
        · cases h2
      · rename_i h0
        unfold sO at h2
        rw [ends_mk, if_neg (fun h => h0 h.1)] at h2
        cases h2
    · rename_i ho
      unfold sE at h2
      rw [ends_mk, if_neg (by omega)] at h2
      cases h2
end Gm

end
section
set_option linter.all false
set_option maxHeartbeats 2000000
namespace Gm
open Maze

/-- what stands at a place of a garden's drawing -/
structure okS (w h i j : Nat) (c : UInt8) : Prop where
  feed : j = 2 * w + 1 → c = 10
  corner : j ≠ 2 * w + 1 → i % 2 = 0 → j % 2 = 0 → c = 43
  square : j ≠ 2 * w + 1 → i % 2 = 1 → j % 2 = 1 → c = 32
  level : j ≠ 2 * w + 1 → i % 2 = 0 → j % 2 = 1 → c = 45 ∨ (c = 32 ∧ i ≠ 0 ∧ i ≠ 2 * h)
  upright : j ≠ 2 * w + 1 → i % 2 = 1 → j % 2 = 0 → c = 124 ∨ (c = 32 ∧ j ≠ 0 ∧ j ≠ 2 * w)

structure Signs (t : Bytes) (w h : Nat) : Prop where
  wlo : 1 ≤ w
  whi : w ≤ 10
  hlo : 1 ≤ h
  hhi : h ≤ 10
  len : t.length = (2 * h + 1) * (2 * w + 2)
  ok : ∀ i j, i < 2 * h + 1 → j < 2 * w + 2 → okS w h i j (bt t w i j)

theorem place_lt {M n i j : Nat} (hi : i < n) (hj : j < M) : i * M + j < n * M := by
  have h1 : (i + 1) * M ≤ n * M := Nat.mul_le_mul_right M hi
  rw [Nat.succ_mul] at h1
  omega
theorem line_le {M n i j : Nat} (hi : n ≤ i) : n * M ≤ i * M + j := by
  have := Nat.mul_le_mul_right M hi
  omega

theorem okAt_of {w h i j : Nat} {c : UInt8} (hh : h ≤ 10) (h1 : 1 ≤ i) (h2 : i < 2 * h + 1) (hj : j < 2 * w + 2) (k : okS w h i j c) : okAt w i j c = true := by
  unfold okAt
  split
  · rename_i ho
    split
    · rename_i h0
      rcases k.upright (by omega) ho (by omega) with e | ⟨_, e, _⟩
      · rw [e]
        simp only [Bool.and_eq_true, decide_eq_true_eq]
        exact ⟨by decide, by omega⟩
      · exact absurd h0 e
    · rename_i h0
      unfold okO
      split
      · rename_i hl; rw [k.feed hl]; decide
      · rename_i hl
        split
        · rename_i h3; rw [k.square hl ho h3]; decide
        · rename_i h3
          rcases k.upright hl ho (by omega) with e | ⟨e, _, e3⟩
          · rw [e]; split <;> decide
          · rw [if_neg e3, e]; decide
  · rename_i ho
    unfold okE
    split
    · rename_i hl; rw [k.feed hl]; decide
    · rename_i hl
      split
      · rename_i h3; rw [k.corner hl (by omega) h3]; decide
      · rename_i h3
        rcases k.level hl (by omega) (by omega) with e | ⟨e, e2, e3⟩
        · rw [e]; simp
        · rw [e]
          simp only [Bool.or_eq_true, Bool.and_eq_true, decide_eq_true_eq]
          exact Or.inr ⟨by decide, by omega⟩

theorem of_okAt {w h i j : Nat} {c : UInt8} (hi : 1 ≤ i) (h2 : i < 2 * h + 1) (k : okAt w i j c = true) (hl : i = 2 * h → j < 2 * w + 1 → j % 2 = 1 → c = 45) (hj : j < 2 * w + 2) : okS w h i j c := by
  unfold okAt at k
  split at k
  · rename_i ho
    split at k
    · rename_i h0
      simp only [Bool.and_eq_true, beq_iff_eq] at k
      exact ⟨fun _ => by omega, fun _ _ _ => by omega, fun _ _ _ => by omega, fun _ _ _ => by omega, fun _ _ _ => Or.inl k.1⟩
    · rename_i h0
      unfold okO at k
      split at k
      · rename_i h3
        simp only [beq_iff_eq] at k
        exact ⟨fun _ => k, fun z => absurd h3 z, fun z => absurd h3 z, fun z => absurd h3 z, fun z => absurd h3 z⟩
      · rename_i h3
        split at k
        · rename_i h4
          simp only [beq_iff_eq] at k
          exact ⟨fun z => absurd z h3, fun _ _ _ => by omega, fun _ _ _ => k, fun _ _ _ => by omega, fun _ _ _ => by omega⟩
        · rename_i h4
          split at k
          · simp only [beq_iff_eq] at k
            exact ⟨fun z => absurd z h3, fun _ _ _ => by omega, fun _ _ _ => by omega, fun _ _ _ => by omega, fun _ _ _ => Or.inl k⟩
          · rename_i h5
            simp only [beq_iff_eq, Bool.or_eq_true] at k
            exact ⟨fun z => absurd z h3, fun _ _ _ => by omega, fun _ _ _ => by omega, fun _ _ _ => by omega, fun _ _ _ => k.imp id fun e => ⟨e, h0, h5⟩⟩
  · rename_i ho
    unfold okE at k
    split at k
    · rename_i h3
      simp only [beq_iff_eq] at k
      exact ⟨fun _ => k, fun z => absurd h3 z, fun z => absurd h3 z, fun z => absurd h3 z, fun z => absurd h3 z⟩
    · rename_i h3
      split at k
      · rename_i h4
        simp only [beq_iff_eq] at k
        exact ⟨fun z => absurd z h3, fun _ _ _ => k, fun _ _ _ => by omega, fun _ _ _ => by omega, fun _ _ _ => by omega⟩
      · rename_i h4
        simp only [beq_iff_eq, Bool.or_eq_true, Bool.and_eq_true] at k
        refine ⟨fun z => absurd z h3, fun _ _ _ => by omega, fun _ _ _ => by omega, fun _ _ _ => ?_, fun _ _ _ => by omega⟩
        by_cases hz : i = 2 * h
        · exact Or.inl (hl hz (by omega) (by omega))
        · exact k.imp id fun e => ⟨e.1, by omega, hz⟩

theorem all_levRow {b : Nat → Nat → UInt8} {y m : Nat} : (levRow b y m).all id = true ↔ ∀ x, x < m → b (2 * y + 2) (2 * x + 1) = 45 := by
  unfold levRow
  rw [List.all_map, List.all_eq_true]
  simp only [List.mem_range, Function.comp, id, beq_iff_eq]

theorem signs_iff {t : Bytes} {w h : Nat} : Drawing t w h ↔ Signs t w h := by
  have hM : 0 < 2 * w + 2 := by omega
  have e1 : (2 * h + 1) * (2 * w + 2) = 2 * h * (2 * w + 2) + (2 * w + 2) := Nat.succ_mul _ _
  constructor
  · intro X
    refine ⟨X.line0.lo, X.line0.hi, X.lo, X.hi, X.len, fun i j hi hj => ?_⟩
    by_cases h0 : i = 0
    · subst h0
      have eb : bt t w 0 j = at0 t j := by unfold bt; rw [Nat.zero_mul, Nat.zero_add]
      rw [eb]
      by_cases hl : j = 2 * w + 1
      · subst hl
        exact ⟨fun _ => X.line0.feed, fun z => absurd rfl z, fun z => absurd rfl z, fun z => absurd rfl z, fun z => absurd rfl z⟩
      · have k := X.line0.signs j (by omega)
        unfold ok0 at k
        split at k
        · simp only [beq_iff_eq] at k
          exact ⟨fun z => absurd z hl, fun _ _ _ => k, fun _ _ _ => by omega, fun _ _ _ => by omega, fun _ _ _ => by omega⟩
        · simp only [beq_iff_eq, Bool.and_eq_true] at k
          exact ⟨fun z => absurd z hl, fun _ _ _ => by omega, fun _ _ _ => by omega, fun _ _ _ => Or.inl k.1, fun _ _ _ => by omega⟩
    · have d := dm (M := 2 * w + 2) (i := i) hj
      have q1 : 2 * w + 2 ≤ i * (2 * w + 2) + j := by
        have := line_le (M := 2 * w + 2) (n := 1) (i := i) (j := j) (by omega)
        omega
      have q := X.signs (i * (2 * w + 2) + j) q1 (by rw [X.len]; exact place_lt hi hj)
      unfold okP at q
      rw [d.1, d.2] at q
      refine of_okAt (by omega) hi q (fun z1 z2 z3 => ?_) hj
      have hl := X.lo
      have k := all_levRow.mp X.last (j / 2) (by omega)
      have e2 : 2 * (h - 1) + 2 = i := by omega
      have e3 : 2 * (j / 2) + 1 = j := by omega
      rw [e2, e3] at k
      exact k
  · intro X
    have hl := X.hlo
    refine ⟨⟨X.wlo, X.whi, fun k hk => ?_, ?_⟩, X.hlo, X.hhi, X.len, fun q h1 h2 => ?_, all_levRow.mpr fun x hx => ?_⟩
    · have z := X.ok 0 k (by omega) (by omega)
      have eb : bt t w 0 k = at0 t k := by unfold bt; rw [Nat.zero_mul, Nat.zero_add]
      rw [eb] at z
      have hw := X.whi
      unfold ok0
      split
      · rename_i hp; rw [z.corner (by omega) rfl hp]; decide
      · rename_i hp
        rcases z.level (by omega) rfl (by omega) with e | ⟨_, e, _⟩
        · rw [e]; simp only [Bool.and_eq_true, decide_eq_true_eq]; exact ⟨by decide, by omega⟩
        · exact absurd rfl e
    · have z := X.ok 0 (2 * w + 1) (by omega) (by omega)
      have eb : bt t w 0 (2 * w + 1) = at0 t (2 * w + 1) := by unfold bt; rw [Nat.zero_mul, Nat.zero_add]
      rw [eb] at z
      exact z.feed rfl
    · have a1 : 1 ≤ q / (2 * w + 2) := (Nat.le_div_iff_mul_le hM).mpr (by omega)
      have a2 : q / (2 * w + 2) < 2 * h + 1 := (Nat.div_lt_iff_lt_mul hM).mpr (by rw [← X.len]; exact h2)
      have a3 : q % (2 * w + 2) < 2 * w + 2 := Nat.mod_lt _ hM
      have z := X.ok _ _ a2 a3
      have eb : bt t w (q / (2 * w + 2)) (q % (2 * w + 2)) = at0 t q := by unfold bt; rw [dm_at]
      rw [eb] at z
      exact okAt_of X.hhi a1 a2 a3 z
    · have z := X.ok (2 * (h - 1) + 2) (2 * x + 1) (by omega) (by omega)
      rcases z.level (by omega) (by omega) (by omega) with e | ⟨_, _, e⟩
      · exact e
      · exact absurd (by omega) e

/-! ### the hedges by places -/
theorem flat_get {α : Type} {f : Nat → List α} {M : Nat} : ∀ {n i j : Nat} (_ : ∀ k, k < n → (f k).length = M) (_ : i < n) (_ : j < M), ((List.range n).flatMap f)[i * M + j]? = (f i)[j]?
  | 0, i, j, _, hi, _ => by omega
  | n + 1, i, j, hf, hi, hj => by
    rw [range_flatMap_succ]
    have hlen : ∀ m, m ≤ n → ((List.range m).flatMap f).length = m * M := by
      intro m
      induction m with
      | zero => intro _; simp
      | succ m ih =>
        intro hm
        rw [range_flatMap_succ, List.length_append, ih (by omega), hf m (by omega), Nat.succ_mul]
    by_cases hin : i < n
    · rw [List.getElem?_append_left (by rw [hlen n (Nat.le_refl _)]; exact place_lt hin hj)]
      exact flat_get (fun k hk => hf k (by omega)) hin hj
    · have e : i = n := by omega
      subst e
      rw [List.getElem?_append_right (by rw [hlen i (Nat.le_refl _)]; omega), hlen i (Nat.le_refl _)]
      congr 1
      omega
theorem flat_len {α : Type} {f : Nat → List α} {M : Nat} : ∀ {n : Nat} (_ : ∀ k, k < n → (f k).length = M), ((List.range n).flatMap f).length = n * M
  | 0, _ => by simp
  | n + 1, hf => by rw [range_flatMap_succ, List.length_append, flat_len (fun k hk => hf k (by omega)), hf n (by omega), Nat.succ_mul]

theorem upRow_len (b y m) : (upRow b y m).length = m := by unfold upRow; simp
theorem levRow_len (b y m) : (levRow b y m).length = m := by unfold levRow; simp
theorem upsTo_len (b w n) : (upsTo b w n).length = n * (w - 1) := flat_len fun k _ => upRow_len b k (w - 1)
theorem levsTo_len (b w n) : (levsTo b w n).length = n * w := flat_len fun k _ => levRow_len b k w

theorem garden_len (t w h) : (gardenAt t w h).hedges.length = (gardenAt t w h).count := by
  show (upsTo (bt t w) w h ++ levsTo (bt t w) w (h - 1)).length = (w - 1) * h + w * (h - 1)
  rw [List.length_append, upsTo_len, levsTo_len, Nat.mul_comm h, Nat.mul_comm (h - 1)]

theorem hedge_up {t : Bytes} {w h x y : Nat} (hx : x < w - 1) (hy : y < h) : (gardenAt t w h).hedge (y * (w - 1) + x) = (bt t w (2 * y + 1) (2 * x + 2) == 124) := by
  show (upsTo (bt t w) w h ++ levsTo (bt t w) w (h - 1)).getD _ true = _
  rw [List.getD_eq_getElem?_getD, List.getElem?_append_left (by rw [upsTo_len]; exact place_lt hy hx)]
  unfold upsTo
  rw [flat_get (fun k _ => upRow_len (bt t w) k (w - 1)) hy hx]
  unfold upRow
  rw [List.getElem?_map, List.getElem?_range hx]
  rfl

theorem hedge_lev {t : Bytes} {w h x y : Nat} (hx : x < w) (hy : y < h - 1) : (gardenAt t w h).hedge ((w - 1) * h + (y * w + x)) = (bt t w (2 * y + 2) (2 * x + 1) == 45) := by
  show (upsTo (bt t w) w h ++ levsTo (bt t w) w (h - 1)).getD _ true = _
  rw [List.getD_eq_getElem?_getD, List.getElem?_append_right (by rw [upsTo_len, Nat.mul_comm]; omega), upsTo_len]
  have e : (w - 1) * h + (y * w + x) - h * (w - 1) = y * w + x := by rw [Nat.mul_comm h]; omega
  rw [e]
  unfold levsTo
  rw [flat_get (fun k _ => levRow_len (bt t w) k w) hy hx]
  unfold levRow
  rw [List.getElem?_map, List.getElem?_range hx]
  rfl
end Gm

end
section
set_option linter.all false
set_option maxHeartbeats 2000000
namespace Gm
open Maze

section
variable {t : Bytes} {w h : Nat}

theorem sq_lt {x y : Nat} (hx : x < w) (hy : y < h) : y * w + x < w * h := by
  rw [Nat.mul_comm w h]; exact place_lt hy hx
theorem sq_parts {s : Nat} (hw : 1 ≤ w) (hs : s < w * h) : s % w < w ∧ s / w < h ∧ s / w * w + s % w = s :=
  ⟨Nat.mod_lt _ hw, (Nat.div_lt_iff_lt_mul hw).mpr (by rw [Nat.mul_comm h w]; exact hs), dm_at s w⟩

theorem goes_0 (X : Signs t w h) {x y : Nat} (hx : x < w) (hy : y < h) {u : Nat} :
    (gardenAt t w h).goes (y * w + x) 0 = some u ↔ 0 < y ∧ u = (y - 1) * w + x ∧ bt t w (2 * y) (2 * x + 1) = 32 := by
  have d := dm (M := w) (i := y) hx
  have eb : (gardenAt t w h).beyond (y * w + x) 0 = if 0 < (y * w + x) / w then some (y * w + x - w) else none := rfl
  unfold Garden.goes
  rw [eb, d.1]
  by_cases h0 : 0 < y
  · rw [if_pos h0]
    have es : (gardenAt t w h).sideOf (y * w + x) 0 = (w - 1) * h + (((y * w + x) / w - 1) * w + (y * w + x) % w) := rfl
    obtain ⟨z, rfl⟩ : ∃ z, y = z + 1 := ⟨y - 1, by omega⟩
    have e1 : (z + 1) * w + x - w = z * w + x := by rw [Nat.succ_mul]; omega
    rw [es, d.1, d.2, Nat.add_sub_cancel, hedge_lev hx (by omega), e1]
    show (if (bt t w (2 * z + 2) (2 * x + 1) == 45) = true then none else some (z * w + x)) = some u ↔ _
    have k := (X.ok (2 * z + 2) (2 * x + 1) (by omega) (by omega)).level (by omega) (by omega) (by omega)
    rw [show 2 * (z + 1) = 2 * z + 2 by omega]
    rcases k with k | ⟨k, _, _⟩
    · rw [k, if_pos (by decide)]
      constructor
      · intro h; cases h
      · rintro ⟨_, _, h⟩; exact absurd h (by decide)
    · rw [k, if_neg (by decide)]
      constructor
      · intro h; injection h with h; exact ⟨h0, h.symm, rfl⟩
      · rintro ⟨_, rfl, _⟩; rfl
  · rw [if_neg h0]
    constructor
    · intro h; cases h
    · rintro ⟨h, _⟩; exact absurd h h0

theorem goes_2 (X : Signs t w h) {x y : Nat} (hx : x < w) (hy : y < h) {u : Nat} :
    (gardenAt t w h).goes (y * w + x) 2 = some u ↔ y + 1 < h ∧ u = (y + 1) * w + x ∧ bt t w (2 * y + 2) (2 * x + 1) = 32 := by
  have d := dm (M := w) (i := y) hx
  have eb : (gardenAt t w h).beyond (y * w + x) 2 = if (y * w + x) / w + 1 < h then some (y * w + x + w) else none := rfl
  unfold Garden.goes
  rw [eb, d.1]
  by_cases h0 : y + 1 < h
  · rw [if_pos h0]
    have es : (gardenAt t w h).sideOf (y * w + x) 2 = (w - 1) * h + ((y * w + x) / w * w + (y * w + x) % w) := rfl
    have e1 : y * w + x + w = (y + 1) * w + x := by rw [Nat.succ_mul]; omega
    rw [es, d.1, d.2, hedge_lev hx (by omega), e1]
    show (if (bt t w (2 * y + 2) (2 * x + 1) == 45) = true then none else some ((y + 1) * w + x)) = some u ↔ _
    have k := (X.ok (2 * y + 2) (2 * x + 1) (by omega) (by omega)).level (by omega) (by omega) (by omega)
    rcases k with k | ⟨k, _, _⟩
    · rw [k, if_pos (by decide)]
      constructor
      · intro h; cases h
      · rintro ⟨_, _, h⟩; exact absurd h (by decide)
    · rw [k, if_neg (by decide)]
      constructor
      · intro h; injection h with h; exact ⟨h0, h.symm, rfl⟩
      · rintro ⟨_, rfl, _⟩; rfl
  · rw [if_neg h0]
    constructor
    · intro h; cases h
    · rintro ⟨h, _⟩; exact absurd h h0

theorem goes_1 (X : Signs t w h) {x y : Nat} (hx : x < w) (hy : y < h) {u : Nat} :
    (gardenAt t w h).goes (y * w + x) 1 = some u ↔ x + 1 < w ∧ u = y * w + (x + 1) ∧ bt t w (2 * y + 1) (2 * x + 2) = 32 := by
  have d := dm (M := w) (i := y) hx
  have eb : (gardenAt t w h).beyond (y * w + x) 1 = if (y * w + x) % w + 1 < w then some (y * w + x + 1) else none := rfl
  unfold Garden.goes
  rw [eb, d.2]
  by_cases h0 : x + 1 < w
  · rw [if_pos h0]
    have es : (gardenAt t w h).sideOf (y * w + x) 1 = (y * w + x) / w * (w - 1) + (y * w + x) % w := rfl
    rw [es, d.1, d.2, hedge_up (by omega) hy]
    show (if (bt t w (2 * y + 1) (2 * x + 2) == 124) = true then none else some (y * w + x + 1)) = some u ↔ _
    have k := (X.ok (2 * y + 1) (2 * x + 2) (by omega) (by omega)).upright (by omega) (by omega) (by omega)
    rcases k with k | ⟨k, _, _⟩
    · rw [k, if_pos (by decide)]
      constructor
      · intro h; cases h
      · rintro ⟨_, _, h⟩; exact absurd h (by decide)
    · rw [k, if_neg (by decide)]
      constructor
      · intro h; injection h with h; exact ⟨h0, h.symm, rfl⟩
      · rintro ⟨_, rfl, _⟩; rfl
  · rw [if_neg h0]
    constructor
    · intro h; cases h
    · rintro ⟨h, _⟩; exact absurd h h0

theorem goes_3 (X : Signs t w h) {x y : Nat} (hx : x < w) (hy : y < h) {u : Nat} :
    (gardenAt t w h).goes (y * w + x) 3 = some u ↔ 0 < x ∧ u = y * w + (x - 1) ∧ bt t w (2 * y + 1) (2 * x) = 32 := by
  have d := dm (M := w) (i := y) hx
  have eb : (gardenAt t w h).beyond (y * w + x) 3 = if 0 < (y * w + x) % w then some (y * w + x - 1) else none := rfl
  unfold Garden.goes
  rw [eb, d.2]
  by_cases h0 : 0 < x
  · rw [if_pos h0]
    obtain ⟨z, rfl⟩ : ∃ z, x = z + 1 := ⟨x - 1, by omega⟩
    have es : (gardenAt t w h).sideOf (y * w + (z + 1)) 3 = (y * w + (z + 1)) / w * (w - 1) + ((y * w + (z + 1)) % w - 1) := rfl
    rw [es, d.1, d.2, Nat.add_sub_cancel, hedge_up (by omega) hy]
    show (if (bt t w (2 * y + 1) (2 * z + 2) == 124) = true then none else some (y * w + z)) = some u ↔ _
    have k := (X.ok (2 * y + 1) (2 * z + 2) (by omega) (by omega)).upright (by omega) (by omega) (by omega)
    rw [show 2 * (z + 1) = 2 * z + 2 by omega]
    rcases k with k | ⟨k, _, _⟩
    · rw [k, if_pos (by decide)]
      constructor
      · intro h; cases h
      · rintro ⟨_, _, h⟩; exact absurd h (by decide)
    · rw [k, if_neg (by decide)]
      constructor
      · intro h; injection h with h; exact ⟨h0, h.symm, rfl⟩
      · rintro ⟨_, rfl, _⟩; rfl
  · rw [if_neg h0]
    constructor
    · intro h; cases h
    · rintro ⟨h, _⟩; exact absurd h h0

theorem outs_any (D : Garden) (s u : Nat) : (D.outs s).contains u = true ↔ D.goes s 0 = some u ∨ D.goes s 1 = some u ∨ D.goes s 2 = some u ∨ D.goes s 3 = some u := by
  rw [List.contains_iff_mem]
  unfold Garden.outs
  rw [List.mem_filterMap]
  constructor
  · rintro ⟨k, hk, e⟩
    rw [List.mem_range] at hk
    match k, hk, e with
    | 0, _, e => exact Or.inl e
    | 1, _, e => exact Or.inr (Or.inl e)
    | 2, _, e => exact Or.inr (Or.inr (Or.inl e))
    | 3, _, e => exact Or.inr (Or.inr (Or.inr e))
  · rintro (e | e | e | e)
    · exact ⟨0, by decide, e⟩
    · exact ⟨1, by decide, e⟩
    · exact ⟨2, by decide, e⟩
    · exact ⟨3, by decide, e⟩

/-- the place of a square's sign, of the side between two squares -/
def placeOf (w s : Nat) : Nat := (2 * (s / w) + 1) * (2 * w + 2) + (2 * (s % w) + 1)
def sideOf (w s u : Nat) : Nat := (placeOf w s + placeOf w u) / 2
/-- how far two squares lie apart, across and down -/
def apart (w s u : Nat) : Nat := ((s % w : Int) - (u % w : Int)).natAbs + ((s / w : Int) - (u / w : Int)).natAbs

theorem sq_eq {a b x y : Nat} (hx : x < w) (hb : b < w) : a * w + b = y * w + x ↔ a = y ∧ b = x := by
  constructor
  · intro e
    have d1 := dm (M := w) (i := a) hb
    have d2 := dm (M := w) (i := y) hx
    rw [e] at d1
    exact ⟨d1.1.symm.trans d2.1, d1.2.symm.trans d2.2⟩
  · rintro ⟨rfl, rfl⟩; rfl

theorem placeOf_at {x y : Nat} (hx : x < w) : placeOf w (y * w + x) = (2 * y + 1) * (2 * w + 2) + (2 * x + 1) := by
  have d := dm (M := w) (i := y) hx
  unfold placeOf; rw [d.1, d.2]

/-- the side between two squares, by line and sign -/
theorem side_up {x y : Nat} (hx : x < w) : sideOf w (y * w + x) ((y + 1) * w + x) = (2 * y + 2) * (2 * w + 2) + (2 * x + 1) := by
  unfold sideOf
  rw [placeOf_at hx, placeOf_at hx]
  have a1 : (2 * y + 2) * (2 * w + 2) = (2 * y + 1) * (2 * w + 2) + (2 * w + 2) := Nat.succ_mul _ _
  have a2 : (2 * (y + 1) + 1) * (2 * w + 2) = (2 * y + 2) * (2 * w + 2) + (2 * w + 2) := by rw [show 2 * (y + 1) + 1 = (2 * y + 2) + 1 by omega, Nat.succ_mul]
  omega
theorem side_right {x y : Nat} (hx : x + 1 < w) : sideOf w (y * w + x) (y * w + (x + 1)) = (2 * y + 1) * (2 * w + 2) + (2 * x + 2) := by
  unfold sideOf
  rw [placeOf_at (show x < w by omega), placeOf_at hx]
  omega
theorem side_comm (w s u : Nat) : sideOf w s u = sideOf w u s := by unfold sideOf; rw [Nat.add_comm]

theorem apart_at {a b x y : Nat} (hx : x < w) (hb : b < w) : apart w (y * w + x) (a * w + b) = ((x : Int) - (b : Int)).natAbs + ((y : Int) - (a : Int)).natAbs := by
  have d1 := dm (M := w) (i := y) hx
  have d2 := dm (M := w) (i := a) hb
  unfold apart
  rw [← Int.natCast_emod, ← Int.natCast_emod, ← Int.natCast_ediv, ← Int.natCast_ediv, d1.1, d1.2, d2.1, d2.2]

theorem step_iff (X : Signs t w h) {s u : Nat} (hs : s < w * h) (hu : u < w * h) :
    ((gardenAt t w h).outs s).contains u = true ↔ apart w s u = 1 ∧ at0 t (sideOf w s u) = 32 := by
  obtain ⟨hx, hy, es⟩ := sq_parts X.wlo hs
  obtain ⟨hb, ha, eu⟩ := sq_parts X.wlo hu
  generalize s % w = x at *
  generalize s / w = y at *
  generalize u % w = b at *
  generalize u / w = a at *
  subst es eu
  rw [outs_any, goes_0 X hx hy, goes_1 X hx hy, goes_2 X hx hy, goes_3 X hx hy, apart_at hx hb]
  constructor
  · rintro (⟨h0, e, k⟩ | ⟨h0, e, k⟩ | ⟨h0, e, k⟩ | ⟨h0, e, k⟩)
    · rw [sq_eq hx hb] at e
      obtain ⟨rfl, rfl⟩ := e
      obtain ⟨z, rfl⟩ : ∃ z, y = z + 1 := ⟨y - 1, by omega⟩
      rw [Nat.add_sub_cancel, side_comm, side_up hb]
      exact ⟨by omega, k⟩
    · rw [sq_eq h0 hb] at e
      obtain ⟨rfl, rfl⟩ := e
      rw [side_right h0]
      exact ⟨by omega, k⟩
    · rw [sq_eq hx hb] at e
      obtain ⟨rfl, rfl⟩ := e
      rw [side_up hb]
      exact ⟨by omega, k⟩
    · rw [sq_eq (by omega) hb] at e
      obtain ⟨rfl, rfl⟩ := e
      obtain ⟨z, rfl⟩ : ∃ z, x = z + 1 := ⟨x - 1, by omega⟩
      rw [Nat.add_sub_cancel, side_comm, side_right hx]
      exact ⟨by omega, k⟩
  · rintro ⟨e, k⟩
    rcases (show (a + 1 = y ∧ b = x) ∨ (a = y ∧ b = x + 1) ∨ (a = y + 1 ∧ b = x) ∨ (a = y ∧ b + 1 = x) by omega) with ⟨rfl, rfl⟩ | ⟨rfl, rfl⟩ | ⟨rfl, rfl⟩ | ⟨rfl, rfl⟩
    · rw [side_comm, side_up hb] at k
      exact Or.inl ⟨by omega, by rw [Nat.add_sub_cancel], k⟩
    · rw [side_right hb] at k
      exact Or.inr (Or.inl ⟨by omega, rfl, k⟩)
    · rw [side_up hb] at k
      exact Or.inr (Or.inr (Or.inl ⟨by omega, rfl, k⟩))
    · rw [side_comm, side_right hx] at k
      exact Or.inr (Or.inr (Or.inr ⟨by omega, by rw [Nat.add_sub_cancel], k⟩))

/-! ### ways -/
/-- squares of the garden, each a step behind the one before -/
def stepsOk (t : Bytes) (w : Nat) : List Nat → Bool
  | a :: b :: l => decide (apart w a b = 1) && (at0 t (sideOf w a b) == 32 && stepsOk t w (b :: l))
  | _ => true

theorem isWay_iff (X : Signs t w h) : ∀ (l : List Nat), (gardenAt t w h).isWay l = true ↔ l ≠ [] ∧ (∀ s ∈ l, s < w * h) ∧ stepsOk t w l = true
  | [] => by simp [Garden.isWay]
  | [s] => by
    show decide (s < w * h) = true ↔ _
    simp [stepsOk]
  | s :: u :: l => by
    have ih := isWay_iff X (u :: l)
    show (decide (s < w * h) && (((gardenAt t w h).outs s).contains u && (gardenAt t w h).isWay (u :: l))) = true ↔ _
    rw [Bool.and_eq_true, Bool.and_eq_true, ih, decide_eq_true_eq]
    constructor
    · rintro ⟨h1, h2, _, h3, h4⟩
      have hu : u < w * h := h3 u (List.mem_cons_self ..)
      have k := (step_iff X h1 hu).mp h2
      refine ⟨by simp, fun v hv => ?_, ?_⟩
      · rcases List.mem_cons.mp hv with rfl | hv
        · exact h1
        · exact h3 v hv
      · unfold stepsOk
        rw [Bool.and_eq_true, Bool.and_eq_true, decide_eq_true_eq, beq_iff_eq]
        exact ⟨k.1, k.2, h4⟩
    · rintro ⟨_, h3, h4⟩
      unfold stepsOk at h4
      rw [Bool.and_eq_true, Bool.and_eq_true, decide_eq_true_eq, beq_iff_eq] at h4
      have h1 : s < w * h := h3 s (List.mem_cons_self ..)
      have hu : u < w * h := h3 u (List.mem_cons_of_mem _ (List.mem_cons_self ..))
      exact ⟨h1, (step_iff X h1 hu).mpr ⟨h4.1, h4.2.1⟩, by simp, fun v hv => h3 v (List.mem_cons_of_mem _ hv), h4.2.2⟩

theorem right_iff (X : Signs t w h) (l : List Nat) : Plan.right ⟨gardenAt t w h, l⟩ = true ↔ 2 ≤ l.length ∧ (∀ s ∈ l, s < w * h) ∧ l.Nodup ∧ stepsOk t w l = true := by
  show ((gardenAt t w h).isWay l && (decide l.Nodup && decide (2 ≤ l.length))) = true ↔ _
  rw [Bool.and_eq_true, Bool.and_eq_true, isWay_iff X, decide_eq_true_eq, decide_eq_true_eq]
  constructor
  · rintro ⟨⟨_, h1, h2⟩, h3, h4⟩; exact ⟨h4, h1, h3, h2⟩
  · rintro ⟨h4, h1, h3, h2⟩
    refine ⟨⟨fun e => ?_, h1, h2⟩, h3, h4⟩
    rw [e] at h4; exact absurd h4 (by simp)
end
end Gm

end
section
set_option linter.all false
set_option maxHeartbeats 2000000
namespace Gm
open Maze

/-! ### a sheet drawn, by places -/
def sgn (z : Sheet) (i j : Nat) : UInt8 :=
  if j = 2 * z.wide + 1 then 10
  else if i % 2 = 0 then (if j % 2 = 0 then 43 else if i / 2 = 0 ∨ i / 2 = z.high then 45 else sideSign 45 (z.sides.getD ((z.wide - 1) * z.high + ((i / 2 - 1) * z.wide + j / 2)) 0))
  else (if j % 2 = 1 then squareSign (z.inner.getD (i / 2 * z.wide + j / 2) 0) else if j = 0 ∨ j = 2 * z.wide then 124 else sideSign 124 (z.sides.getD (i / 2 * (z.wide - 1) + (j / 2 - 1)) 0))

theorem sheet_line_len (z : Sheet) (i : Nat) : ((if i % 2 = 0 then z.levelSigns (i / 2) else z.rowSigns (i / 2)) ++ [10]).length = 2 * z.wide + 2 := by
  rw [List.length_append]
  split
  · unfold Sheet.levelSigns; simp
  · unfold Sheet.rowSigns; simp

theorem sheet_len (z : Sheet) : z.drawn.length = (2 * z.high + 1) * (2 * z.wide + 2) := flat_len fun k _ => sheet_line_len z k

theorem sheet_at (z : Sheet) {i j : Nat} (hi : i < 2 * z.high + 1) (hj : j < 2 * z.wide + 2) : z.drawn[i * (2 * z.wide + 2) + j]? = some (sgn z i j) := by
  unfold Sheet.drawn
  rw [flat_get (fun k _ => sheet_line_len z k) hi hj]
  unfold sgn
  by_cases hl : j = 2 * z.wide + 1
  · rw [if_pos hl, List.getElem?_append_right]
    · subst hl
      have e : (if i % 2 = 0 then z.levelSigns (i / 2) else z.rowSigns (i / 2)).length = 2 * z.wide + 1 := by
        have := sheet_line_len z i
        rw [List.length_append] at this
        simp at this
        omega
      rw [e, Nat.sub_self]; rfl
    · have := sheet_line_len z i
      rw [List.length_append] at this
      simp at this
      omega
  · rw [if_neg hl, List.getElem?_append_left]
    · by_cases ho : i % 2 = 0
      · rw [if_pos ho, if_pos ho]
        unfold Sheet.levelSigns
        rw [List.getElem?_map, List.getElem?_range (by omega)]
        rfl
      · rw [if_neg ho, if_neg ho]
        unfold Sheet.rowSigns
        rw [List.getElem?_map, List.getElem?_range (by omega)]
        rfl
    · have := sheet_line_len z i
      rw [List.length_append] at this
      simp at this
      omega

/-! ### steps of a way -/
def stepsOf (l : List Nat) : List (Nat × Nat) := l.zip l.tail

theorem follows_iff : ∀ (l : List Nat) (a b : Nat), follows l a b = true ↔ ∃ p ∈ stepsOf l, (p.1 = a ∧ p.2 = b) ∨ (p.1 = b ∧ p.2 = a)
  | [], a, b => by simp [follows, stepsOf]
  | [s], a, b => by simp [follows, stepsOf]
  | s :: u :: l, a, b => by
    have ih := follows_iff (u :: l) a b
    have e : stepsOf (s :: u :: l) = (s, u) :: stepsOf (u :: l) := rfl
    rw [e]
    show ((s == a && u == b) || ((s == b && u == a) || follows (u :: l) a b)) = true ↔ _
    rw [Bool.or_eq_true, Bool.or_eq_true, ih]
    simp only [Bool.and_eq_true, beq_iff_eq, List.mem_cons]
    constructor
    · rintro (h | h | ⟨p, hp, h⟩)
      · exact ⟨(s, u), Or.inl rfl, Or.inl h⟩
      · exact ⟨(s, u), Or.inl rfl, Or.inr h⟩
      · exact ⟨p, Or.inr hp, h⟩
    · rintro ⟨p, rfl | hp, h⟩
      · exact h.imp id Or.inl
      · exact Or.inr (Or.inr ⟨p, hp, h⟩)

theorem stepsOk_iff (t : Bytes) (w : Nat) : ∀ (l : List Nat), stepsOk t w l = true ↔ ∀ p ∈ stepsOf l, apart w p.1 p.2 = 1 ∧ at0 t (sideOf w p.1 p.2) = 32
  | [] => by simp [stepsOk, stepsOf]
  | [s] => by simp [stepsOk, stepsOf]
  | s :: u :: l => by
    have ih := stepsOk_iff t w (u :: l)
    have e : stepsOf (s :: u :: l) = (s, u) :: stepsOf (u :: l) := rfl
    rw [e]
    unfold stepsOk
    rw [Bool.and_eq_true, Bool.and_eq_true, ih, decide_eq_true_eq, beq_iff_eq]
    constructor
    · rintro ⟨h1, h2, h3⟩ p hp
      rcases List.mem_cons.mp hp with rfl | hp
      · exact ⟨h1, h2⟩
      · exact h3 p hp
    · intro h
      have h0 := h (s, u) (List.mem_cons_self ..)
      exact ⟨h0.1, h0.2, fun p hp => h p (List.mem_cons_of_mem _ hp)⟩

theorem steps_mem {l : List Nat} {p : Nat × Nat} (h : p ∈ stepsOf l) : p.1 ∈ l ∧ p.2 ∈ l := by
  have := List.of_mem_zip (show (p.1, p.2) ∈ l.zip l.tail from h)
  exact ⟨this.1, List.mem_of_mem_tail this.2⟩

section
variable {w h : Nat}
/-- a step's side: a level one or an upright one -/
theorem side_form (hw : 1 ≤ w) {s u : Nat} (hs : s < w * h) (hu : u < w * h) (e : apart w s u = 1) :
    (∃ x y, x < w ∧ y + 1 < h ∧ sideOf w s u = (2 * y + 2) * (2 * w + 2) + (2 * x + 1) ∧ ((s = y * w + x ∧ u = (y + 1) * w + x) ∨ (u = y * w + x ∧ s = (y + 1) * w + x))) ∨
    (∃ x y, x + 1 < w ∧ y < h ∧ sideOf w s u = (2 * y + 1) * (2 * w + 2) + (2 * x + 2) ∧ ((s = y * w + x ∧ u = y * w + (x + 1)) ∨ (u = y * w + x ∧ s = y * w + (x + 1)))) := by
  obtain ⟨hx, hy, es⟩ := sq_parts hw hs
  obtain ⟨hb, ha, eu⟩ := sq_parts hw hu
  generalize s % w = x at *
  generalize s / w = y at *
  generalize u % w = b at *
  generalize u / w = a at *
  subst es eu
  rw [apart_at hx hb] at e
  rcases (show (a + 1 = y ∧ b = x) ∨ (a = y ∧ b = x + 1) ∨ (a = y + 1 ∧ b = x) ∨ (a = y ∧ b + 1 = x) by omega) with ⟨rfl, rfl⟩ | ⟨rfl, rfl⟩ | ⟨rfl, rfl⟩ | ⟨rfl, rfl⟩
  · left
    exact ⟨b, a, hb, hy, by rw [side_comm, side_up hb], Or.inr ⟨rfl, rfl⟩⟩
  · right
    exact ⟨x, a, hb, hy, side_right hb, Or.inl ⟨rfl, rfl⟩⟩
  · left
    exact ⟨b, y, hb, ha, side_up hb, Or.inl ⟨rfl, rfl⟩⟩
  · right
    exact ⟨b, a, hx, hy, by rw [side_comm, side_right hx], Or.inr ⟨rfl, rfl⟩⟩

/-- a way whose squares lie in the garden and follow one another -/
structure Steps (w h : Nat) (l : List Nat) : Prop where
  inn : ∀ s ∈ l, s < w * h
  near : ∀ p ∈ stepsOf l, apart w p.1 p.2 = 1

theorem side_level (hw : 1 ≤ w) {l : List Nat} (S : Steps w h l) {x y : Nat} (hx : x < w) (hy : y + 1 < h) :
    (∃ p ∈ stepsOf l, sideOf w p.1 p.2 = (2 * y + 2) * (2 * w + 2) + (2 * x + 1)) ↔ follows l (y * w + x) ((y + 1) * w + x) = true := by
  rw [follows_iff]
  constructor
  · rintro ⟨p, hp, e⟩
    have m := steps_mem hp
    rcases side_form hw (S.inn _ m.1) (S.inn _ m.2) (S.near p hp) with ⟨x', y', hx', hy', e', k⟩ | ⟨x', y', hx', hy', e', k⟩
    · rw [e', sq_eq (w := 2 * w + 2) (by omega) (by omega)] at e
      have e1 : y' = y := by omega
      have e2 : x' = x := by omega
      subst e1 e2
      exact ⟨p, hp, k.imp id fun q => ⟨q.2, q.1⟩⟩
    · rw [e', sq_eq (w := 2 * w + 2) (by omega) (by omega)] at e
      omega
  · rintro ⟨p, hp, k⟩
    refine ⟨p, hp, ?_⟩
    rcases k with ⟨e1, e2⟩ | ⟨e1, e2⟩
    · rw [e1, e2, side_up hx]
    · rw [e1, e2, side_comm, side_up hx]

theorem side_upright (hw : 1 ≤ w) {l : List Nat} (S : Steps w h l) {x y : Nat} (hx : x + 1 < w) :
    (∃ p ∈ stepsOf l, sideOf w p.1 p.2 = (2 * y + 1) * (2 * w + 2) + (2 * x + 2)) ↔ follows l (y * w + x) (y * w + (x + 1)) = true := by
  rw [follows_iff]
  constructor
  · rintro ⟨p, hp, e⟩
    have m := steps_mem hp
    rcases side_form hw (S.inn _ m.1) (S.inn _ m.2) (S.near p hp) with ⟨x', y', hx', hy', e', k⟩ | ⟨x', y', hx', hy', e', k⟩
    · rw [e', sq_eq (w := 2 * w + 2) (by omega) (by omega)] at e
      omega
    · rw [e', sq_eq (w := 2 * w + 2) (by omega) (by omega)] at e
      have e1 : y' = y := by omega
      have e2 : x' = x := by omega
      subst e1 e2
      exact ⟨p, hp, k.imp id fun q => ⟨q.2, q.1⟩⟩
  · rintro ⟨p, hp, k⟩
    refine ⟨p, hp, ?_⟩
    rcases k with ⟨e1, e2⟩ | ⟨e1, e2⟩
    · rw [e1, e2, side_right hx]
    · rw [e1, e2, side_comm, side_right hx]

/-- where a step's side is -/
theorem side_where (hw : 1 ≤ w) {l : List Nat} (S : Steps w h l) {i j : Nat} (hj : j < 2 * w + 2) (k : ∃ p ∈ stepsOf l, sideOf w p.1 p.2 = i * (2 * w + 2) + j) :
    (i % 2 = 0 ∧ j % 2 = 1 ∧ 2 ≤ i ∧ i < 2 * h ∧ j < 2 * w) ∨ (i % 2 = 1 ∧ j % 2 = 0 ∧ 2 ≤ j ∧ j < 2 * w ∧ i < 2 * h) := by
  obtain ⟨p, hp, e⟩ := k
  have m := steps_mem hp
  rcases side_form hw (S.inn _ m.1) (S.inn _ m.2) (S.near p hp) with ⟨x', y', hx', hy', e', k⟩ | ⟨x', y', hx', hy', e', k⟩
  · rw [e', sq_eq (w := 2 * w + 2) hj (by omega)] at e
    omega
  · rw [e', sq_eq (w := 2 * w + 2) hj (by omega)] at e
    omega

theorem place_iff {s i j : Nat} (hw : 1 ≤ w) (hj : j < 2 * w + 2) : placeOf w s = i * (2 * w + 2) + j ↔ 2 * (s / w) + 1 = i ∧ 2 * (s % w) + 1 = j := by
  have := Nat.mod_lt s hw
  unfold placeOf
  rw [sq_eq (w := 2 * w + 2) hj (by omega)]

theorem place_inj {s u : Nat} (hw : 1 ≤ w) (e : placeOf w s = placeOf w u) : s = u := by
  have h1 := Nat.mod_lt u hw
  rw [show placeOf w u = (2 * (u / w) + 1) * (2 * w + 2) + (2 * (u % w) + 1) from rfl, place_iff hw (by omega)] at e
  rw [← dm_at s w, ← dm_at u w, show s / w = u / w by omega, show s % w = u % w by omega]
end

/-! ### many places set -/
theorem sets_get {α β : Type} (f : β → Nat) (v : α) : ∀ (l : List β) (g : List α) (p : Nat), (l.foldl (fun d s => d.set (f s) v) g)[p]? = if (∃ s ∈ l, f s = p) ∧ p < g.length then some v else g[p]?
  | [], g, p => by simp
  | s :: l, g, p => by
    rw [List.foldl_cons, sets_get f v l, List.length_set]
    by_cases h1 : (∃ s ∈ l, f s = p) ∧ p < g.length
    · rw [if_pos h1, if_pos ⟨by obtain ⟨⟨u, hu, e⟩, _⟩ := h1; exact ⟨u, List.mem_cons_of_mem _ hu, e⟩, h1.2⟩]
    · rw [if_neg h1]
      by_cases h2 : f s = p ∧ p < g.length
      · rw [if_pos ⟨⟨s, List.mem_cons_self .., h2.1⟩, h2.2⟩, h2.1, List.getElem?_set_self h2.2]
      · rw [if_neg]
        · by_cases h3 : f s = p
          · have h4 : g.length ≤ p := by omega
            rw [h3, List.getElem?_eq_none (by rw [List.length_set]; exact h4), List.getElem?_eq_none h4]
          · rw [List.getElem?_set_ne h3]
        · rintro ⟨⟨u, hu, e⟩, hp⟩
          rcases List.mem_cons.mp hu with rfl | hu
          · exact h2 ⟨e, hp⟩
          · exact h1 ⟨⟨u, hu, e⟩, hp⟩
theorem sets_len {α β : Type} (f : β → Nat) (v : α) : ∀ (l : List β) (g : List α), (l.foldl (fun d s => d.set (f s) v) g).length = g.length
  | [], g => rfl
  | s :: l, g => by rw [List.foldl_cons, sets_len f v l, List.length_set]

/-- the plan drawn upon the garden's drawing -/
def drawOn {α : Type} (pt A B : α) (w : Nat) (g : List α) (l : List Nat) : List α :=
  (((stepsOf l).foldl (fun d p => d.set (sideOf w p.1 p.2) pt) (l.foldl (fun d s => d.set (placeOf w s) pt) g)).set (placeOf w (l.headD 0)) A).set (placeOf w (l.getLastD 0)) B

theorem drawOn_len {α : Type} (pt A B : α) (w : Nat) (g : List α) (l : List Nat) : (drawOn pt A B w g l).length = g.length := by
  unfold drawOn
  rw [List.length_set, List.length_set, sets_len, sets_len]

theorem drawOn_get {α : Type} (pt A B : α) (w : Nat) (g : List α) (l : List Nat) {p : Nat} (hp : p < g.length) : (drawOn pt A B w g l)[p]? =
    if placeOf w (l.getLastD 0) = p then some B else if placeOf w (l.headD 0) = p then some A else if (∃ q ∈ stepsOf l, sideOf w q.1 q.2 = p) then some pt else if (∃ s ∈ l, placeOf w s = p) then some pt else g[p]? := by
  unfold drawOn
  by_cases h1 : placeOf w (l.getLastD 0) = p
  · rw [if_pos h1, h1, List.getElem?_set_self (by rw [List.length_set, sets_len, sets_len]; exact hp)]
  · rw [if_neg h1, List.getElem?_set_ne h1]
    by_cases h2 : placeOf w (l.headD 0) = p
    · rw [if_pos h2, h2, List.getElem?_set_self (by rw [sets_len, sets_len]; exact hp)]
    · rw [if_neg h2, List.getElem?_set_ne h2, sets_get, sets_get, sets_len]
      simp only [hp, and_true]

theorem drawn_eq {t : Bytes} {w h : Nat} (X : Signs t w h) {l : List Nat} (hl : 2 ≤ l.length) (nd : l.Nodup) (S : Steps w h l) :
    Plan.drawn ⟨gardenAt t w h, l⟩ = drawOn 46 65 66 w t l := by
  have hw := X.wlo
  have hh := X.hlo
  have hM : 0 < 2 * w + 2 := by omega
  have len1 : (Plan.drawn ⟨gardenAt t w h, l⟩).length = (2 * h + 1) * (2 * w + 2) := sheet_len (Plan.sheet ⟨gardenAt t w h, l⟩)
  have len2 : (drawOn 46 65 66 w t l).length = (2 * h + 1) * (2 * w + 2) := (drawOn_len ..).trans X.len
  apply List.ext_getElem?
  intro p
  by_cases hp : p < (2 * h + 1) * (2 * w + 2)
  · have hat := dm_at p (2 * w + 2)
    have hj : p % (2 * w + 2) < 2 * w + 2 := Nat.mod_lt _ hM
    have hi : p / (2 * w + 2) < 2 * h + 1 := (Nat.div_lt_iff_lt_mul hM).mpr hp
    generalize p / (2 * w + 2) = i at *
    generalize p % (2 * w + 2) = j at *
    subst hat
    rw [drawOn_get _ _ _ _ _ _ (by rw [X.len]; exact hp)]
    refine (sheet_at (Plan.sheet ⟨gardenAt t w h, l⟩) hi hj).trans ?_
    have egt : t[i * (2 * w + 2) + j]? = some (bt t w i j) := at0_of (by rw [X.len]; exact hp)
    rw [egt]
    have hok := X.ok i j hi hj
    unfold sgn
    show some (if j = 2 * w + 1 then 10 else if i % 2 = 0 then (if j % 2 = 0 then 43 else if i / 2 = 0 ∨ i / 2 = h then 45 else sideSign 45 ((Plan.sheet ⟨gardenAt t w h, l⟩).sides.getD ((w - 1) * h + ((i / 2 - 1) * w + j / 2)) 0))
      else (if j % 2 = 1 then squareSign ((Plan.sheet ⟨gardenAt t w h, l⟩).inner.getD (i / 2 * w + j / 2) 0) else if j = 0 ∨ j = 2 * w then 124 else sideSign 124 ((Plan.sheet ⟨gardenAt t w h, l⟩).sides.getD (i / 2 * (w - 1) + (j / 2 - 1)) 0))) = _
    -- off the squares no square's place
    have np : ¬ (i % 2 = 1 ∧ j % 2 = 1) → ∀ s : Nat, placeOf w s ≠ i * (2 * w + 2) + j := by
      intro hn s e
      rw [place_iff hw hj] at e
      omega
    by_cases hlast : j = 2 * w + 1
    · rw [if_pos hlast]
      have nside : ¬ ∃ q ∈ stepsOf l, sideOf w q.1 q.2 = i * (2 * w + 2) + j := fun k => by
        have := side_where hw S hj k; omega
      have npl : ∀ s ∈ l, placeOf w s ≠ i * (2 * w + 2) + j := by
        intro s hs e
        rw [place_iff hw hj] at e
        have := Nat.mod_lt s hw
        omega
      have hne : l ≠ [] := by intro e; rw [e] at hl; simp at hl
      have nl : placeOf w (l.getLastD 0) ≠ i * (2 * w + 2) + j := by
        rw [List.getLastD_eq_getLast?, List.getLast?_eq_some_getLast hne]
        exact npl _ (List.getLast_mem hne)
      have nh : placeOf w (l.headD 0) ≠ i * (2 * w + 2) + j := by
        rw [List.headD_eq_head?_getD, List.head?_eq_some_head hne]
        exact npl _ (List.head_mem hne)
      rw [if_neg nl, if_neg nh, if_neg nside, if_neg (by rintro ⟨s, hs, e⟩; exact npl s hs e), hok.feed hlast]
    · rw [if_neg hlast]
      by_cases ho : i % 2 = 0
      · rw [if_pos ho, if_neg (np (by omega) _), if_neg (np (by omega) _)]
        have nplace : ¬ ∃ s ∈ l, placeOf w s = i * (2 * w + 2) + j := by rintro ⟨s, _, e⟩; exact np (by omega) s e
        rw [if_neg nplace]
        by_cases hc : j % 2 = 0
        · rw [if_pos hc, if_neg (fun k => by have := side_where hw S hj k; omega), hok.corner hlast ho hc]
        · rw [if_neg hc]
          by_cases hb : i / 2 = 0 ∨ i / 2 = h
          · rw [if_pos hb, if_neg (fun k => by have := side_where hw S hj k; omega)]
            rcases hok.level hlast ho (by omega) with e | ⟨_, e1, e2⟩
            · rw [e]
            · omega
          · rw [if_neg hb]
            obtain ⟨y, rfl⟩ : ∃ y, i = 2 * y + 2 := ⟨i / 2 - 1, by omega⟩
            obtain ⟨x, rfl⟩ : ∃ x, j = 2 * x + 1 := ⟨j / 2, by omega⟩
            have ey : (2 * y + 2) / 2 - 1 = y := by omega
            have ex : (2 * x + 1) / 2 = x := by omega
            have hx : x < w := by omega
            have hy : y + 1 < h := by omega
            rw [ey, ex]
            have hq : (w - 1) * h + (y * w + x) < (gardenAt t w h).count := by
              show _ < (w - 1) * h + w * (h - 1)
              have := place_lt (M := w) (n := h - 1) (i := y) (j := x) (by omega) hx
              rw [Nat.mul_comm w]; omega
            have esd : (Plan.sheet ⟨gardenAt t w h, l⟩).sides.getD ((w - 1) * h + (y * w + x)) 0 = if follows l (y * w + x) ((y + 1) * w + x) = true then 2 else if (gardenAt t w h).hedge ((w - 1) * h + (y * w + x)) = true then 1 else 0 := by
              show ((List.range (gardenAt t w h).count).map _).getD _ 0 = _
              rw [List.getD_eq_getElem?_getD, List.getElem?_map, List.getElem?_range hq]
              have esq : (gardenAt t w h).squaresAt ((w - 1) * h + (y * w + x)) = (y * w + x, (y + 1) * w + x) := by
                unfold Garden.squaresAt
                have eu : (gardenAt t w h).uprights = (w - 1) * h := rfl
                rw [eu, if_neg (by omega), show (w - 1) * h + (y * w + x) - (w - 1) * h = y * w + x by omega]
                show (y * w + x, y * w + x + w) = _
                rw [Nat.succ_mul]; congr 1; omega
              simp only [Option.map_some, Option.getD_some]
              rw [esq]
            rw [esd, hedge_lev hx (by omega)]
            by_cases hf : follows l (y * w + x) ((y + 1) * w + x) = true
            · rw [if_pos hf, if_pos ((side_level hw S hx hy).mpr hf)]; rfl
            · rw [if_neg hf, if_neg (fun k => hf ((side_level hw S hx hy).mp k))]
              rcases hok.level hlast ho (by omega) with e | ⟨e, _, _⟩
              · rw [e]; rfl
              · rw [e]; rfl
      · rw [if_neg ho]
        by_cases hc : j % 2 = 1
        · rw [if_pos hc]
          have nside : ¬ ∃ q ∈ stepsOf l, sideOf w q.1 q.2 = i * (2 * w + 2) + j := fun k => by
            have := side_where hw S hj k; omega
          rw [if_neg nside]
          obtain ⟨y, rfl⟩ : ∃ y, i = 2 * y + 1 := ⟨i / 2, by omega⟩
          obtain ⟨x, rfl⟩ : ∃ x, j = 2 * x + 1 := ⟨j / 2, by omega⟩
          have ey : (2 * y + 1) / 2 = y := by omega
          have ex : (2 * x + 1) / 2 = x := by omega
          have hx : x < w := by omega
          have hy : y < h := by omega
          rw [ey, ex]
          have hpl : ∀ s, placeOf w s = (2 * y + 1) * (2 * w + 2) + (2 * x + 1) ↔ s = y * w + x := by
            intro s
            constructor
            · intro e
              rw [← placeOf_at hx] at e
              exact place_inj hw e
            · rintro rfl; exact placeOf_at hx
          have ein : (Plan.sheet ⟨gardenAt t w h, l⟩).inner.getD (y * w + x) 0 = if y * w + x = l.headD 0 then 2 else if y * w + x = l.getLastD 0 then 3 else if l.contains (y * w + x) = true then 1 else 0 := by
            show ((List.range (gardenAt t w h).squares).map _).getD _ 0 = _
            have hq : y * w + x < (gardenAt t w h).squares := sq_lt hx hy
            rw [List.getD_eq_getElem?_getD, List.getElem?_map, List.getElem?_range hq]
            rfl
          rw [ein]
          have hne : l ≠ [] := by intro e; rw [e] at hl; simp at hl
          have hdiff : l.headD 0 ≠ l.getLastD 0 := by
            match l, hl, nd with
            | a :: b :: r, _, nd =>
              show a ≠ (a :: b :: r).getLastD 0
              intro e
              have m : (a :: b :: r).getLastD 0 ∈ b :: r := by
                show (b :: r).getLastD a ∈ b :: r
                rw [List.getLastD_eq_getLast?, List.getLast?_eq_some_getLast (by simp)]
                exact List.getLast_mem _
              rw [← e] at m
              exact (List.nodup_cons.mp nd).1 m
          by_cases h1 : y * w + x = l.headD 0
          · rw [if_pos h1, if_neg (by rw [hpl]; intro e; exact hdiff (h1.symm.trans e.symm)), if_pos ((hpl _).mpr h1.symm)]; rfl
          · rw [if_neg h1]
            by_cases h2 : y * w + x = l.getLastD 0
            · rw [if_pos h2, if_pos ((hpl _).mpr h2.symm)]; rfl
            · have n1 : ¬ placeOf w (l.getLastD 0) = (2 * y + 1) * (2 * w + 2) + (2 * x + 1) := by rw [hpl]; exact fun e => h2 e.symm
              have n2 : ¬ placeOf w (l.headD 0) = (2 * y + 1) * (2 * w + 2) + (2 * x + 1) := by rw [hpl]; exact fun e => h1 e.symm
              rw [if_neg h2, if_neg n1, if_neg n2]
              by_cases h3 : y * w + x ∈ l
              · rw [if_pos (List.contains_iff_mem.mpr h3), if_pos ⟨_, h3, (hpl _).mpr rfl⟩]; rfl
              · rw [if_neg (fun k => h3 (List.contains_iff_mem.mp k)), if_neg (by rintro ⟨s, hs, e⟩; rw [hpl] at e; rw [e] at hs; exact h3 hs), hok.square hlast (by omega) hc]; rfl
        · rw [if_neg hc, if_neg (np (by omega) _), if_neg (np (by omega) _)]
          have nplace : ¬ ∃ s ∈ l, placeOf w s = i * (2 * w + 2) + j := by rintro ⟨s, _, e⟩; exact np (by omega) s e
          rw [if_neg nplace]
          by_cases hb : j = 0 ∨ j = 2 * w
          · rw [if_pos hb, if_neg (fun k => by have := side_where hw S hj k; omega)]
            rcases hok.upright hlast (by omega) (by omega) with e | ⟨_, e1, e2⟩
            · rw [e]
            · omega
          · rw [if_neg hb]
            obtain ⟨y, rfl⟩ : ∃ y, i = 2 * y + 1 := ⟨i / 2, by omega⟩
            obtain ⟨x, rfl⟩ : ∃ x, j = 2 * x + 2 := ⟨j / 2 - 1, by omega⟩
            have ey : (2 * y + 1) / 2 = y := by omega
            have ex : (2 * x + 2) / 2 - 1 = x := by omega
            have hx : x + 1 < w := by omega
            have hy : y < h := by omega
            rw [ey, ex]
            have hq0 : y * (w - 1) + x < (w - 1) * h := by
              have := place_lt (M := w - 1) (n := h) (i := y) (j := x) hy (by omega)
              rw [Nat.mul_comm (w - 1)]; omega
            have hq : y * (w - 1) + x < (gardenAt t w h).count := by
              show _ < (w - 1) * h + w * (h - 1)
              omega
            have esd : (Plan.sheet ⟨gardenAt t w h, l⟩).sides.getD (y * (w - 1) + x) 0 = if follows l (y * w + x) (y * w + (x + 1)) = true then 2 else if (gardenAt t w h).hedge (y * (w - 1) + x) = true then 1 else 0 := by
              show ((List.range (gardenAt t w h).count).map _).getD _ 0 = _
              rw [List.getD_eq_getElem?_getD, List.getElem?_map, List.getElem?_range hq]
              have esq : (gardenAt t w h).squaresAt (y * (w - 1) + x) = (y * w + x, y * w + (x + 1)) := by
                unfold Garden.squaresAt
                have d := dm (M := w - 1) (i := y) (j := x) (by omega)
                have eu : (gardenAt t w h).uprights = (w - 1) * h := rfl
                have ew : (gardenAt t w h).wide = w := rfl
                rw [eu, if_pos hq0, ew, d.1, d.2]; rfl
              simp only [Option.map_some, Option.getD_some]
              rw [esq]
            rw [esd, hedge_up (by omega) hy]
            by_cases hf : follows l (y * w + x) (y * w + (x + 1)) = true
            · rw [if_pos hf, if_pos ((side_upright hw S hx).mpr hf)]; rfl
            · rw [if_neg hf, if_neg (fun k => hf ((side_upright hw S hx).mp k))]
              rcases hok.upright hlast (by omega) (by omega) with e | ⟨e, _, _⟩
              · rw [e]; rfl
              · rw [e]; rfl
  · rw [List.getElem?_eq_none (by omega), List.getElem?_eq_none (by omega)]
end Gm

end
section
set_option linter.all false
set_option maxHeartbeats 2000000
namespace Gm
open Maze

/-! ### the program's own reckoning, over natural numbers -/
def sqAlong (s : Nat) : Nat := if s % 2 = 0 ∨ 21 < s then 0 else s / 2
def widOf (g : List Nat) : Nat := if 10 ∈ g then sqAlong (g.idxOf 10) else 0
def higOf (g : List Nat) (w : Nat) : Nat := if g.length % (2 * w + 2) ≠ 0 then 0 else sqAlong (g.length / (2 * w + 2))
def hedgeAt (i : Nat) : Nat := if i % 2 = 0 then 45 else 124
def signsAt (i j w h : Nat) : List Nat :=
  if j = 2 * w + 1 then [10]
  else if i % 2 = 0 ∧ j % 2 = 0 then [43]
  else if i % 2 = 1 ∧ j % 2 = 1 then [32]
  else if (i = 0 ∨ i = 2 * h) ∨ (j = 0 ∨ j = 2 * w) then [hedgeAt i] else [hedgeAt i, 32]
def fits (g : List Nat) (w h p : Nat) : Prop := g.getD p 0 ∈ signsAt (p / (2 * w + 2)) (p % (2 * w + 2)) w h
instance (g w h p) : Decidable (fits g w h p) := by unfold fits; infer_instance
def isG (g : List Nat) : Bool := if widOf g = 0 then false else if higOf g (widOf g) = 0 then false else decide (∀ p, p < g.length → fits g (widOf g) (higOf g (widOf g)) p)

def bytes (g : List Nat) : Bytes := g.map UInt8.ofNat

theorem sqAlong_ne {s : Nat} (h : sqAlong s ≠ 0) : 1 ≤ sqAlong s ∧ sqAlong s ≤ 10 ∧ s = 2 * sqAlong s + 1 := by
  unfold sqAlong at h ⊢
  split at h
  · exact absurd rfl h
  · rename_i k
    rw [if_neg k]
    omega
theorem sqAlong_of {w : Nat} (h1 : w ≤ 10) : sqAlong (2 * w + 1) = w := by
  unfold sqAlong
  rw [if_neg (by omega)]; omega

theorem bytes_at {g : List Nat} (p : Nat) : at0 (bytes g) p = UInt8.ofNat (g.getD p 0) := by
  unfold at0 bytes
  rw [List.getD_eq_getElem?_getD, List.getD_eq_getElem?_getD, List.getElem?_map]
  cases g[p]? <;> rfl
theorem getD_lt {g : List Nat} (hb : ∀ n ∈ g, n < 256) (p : Nat) : g.getD p 0 < 256 := by
  rw [List.getD_eq_getElem?_getD]
  cases e : g[p]? with
  | none => decide
  | some n => exact hb n (List.mem_of_getElem? e)
theorem ofNat_eq {n : Nat} {c : UInt8} (h : n < 256) : UInt8.ofNat n = c ↔ n = c.toNat := by
  constructor
  · intro e
    rw [← e, UInt8.toNat_ofNat']
    omega
  · intro e
    rw [e]; exact UInt8.ofNat_toNat
theorem at_eq {g : List Nat} (hb : ∀ n ∈ g, n < 256) (p : Nat) (c : UInt8) : at0 (bytes g) p = c ↔ g.getD p 0 = c.toNat := by
  rw [bytes_at, ofNat_eq (getD_lt hb p)]

/-- the signs that may stand there -/
theorem signs_fit {g : List Nat} (hb : ∀ n ∈ g, n < 256) {w h i j : Nat} (hw : 1 ≤ w) (hi : i < 2 * h + 1) (hj : j < 2 * w + 2) : okS w h i j (bt (bytes g) w i j) ↔ fits g w h (i * (2 * w + 2) + j) := by
  have d := dm (M := 2 * w + 2) (i := i) hj
  unfold fits
  rw [d.1, d.2]
  unfold bt
  generalize hp : i * (2 * w + 2) + j = p
  have E := fun c => at_eq hb p c
  generalize at0 (bytes g) p = c at *
  generalize g.getD p 0 = n at *
  have E10 : c = 10 ↔ n = 10 := E 10
  have E43 : c = 43 ↔ n = 43 := E 43
  have E32 : c = 32 ↔ n = 32 := E 32
  have E45 : c = 45 ↔ n = 45 := E 45
  have E124 : c = 124 ↔ n = 124 := E 124
  unfold signsAt
  by_cases hl : j = 2 * w + 1
  · rw [if_pos hl, List.mem_singleton, ← E10]
    exact ⟨fun k => k.feed hl, fun k => ⟨fun _ => k, fun z => absurd hl z, fun z => absurd hl z, fun z => absurd hl z, fun z => absurd hl z⟩⟩
  · rw [if_neg hl]
    by_cases h1 : i % 2 = 0 ∧ j % 2 = 0
    · rw [if_pos h1, List.mem_singleton, ← E43]
      exact ⟨fun k => k.corner hl h1.1 h1.2, fun k => ⟨fun z => absurd z hl, fun _ _ _ => k, fun _ _ _ => by omega, fun _ _ _ => by omega, fun _ _ _ => by omega⟩⟩
    · rw [if_neg h1]
      by_cases h2 : i % 2 = 1 ∧ j % 2 = 1
      · rw [if_pos h2, List.mem_singleton, ← E32]
        exact ⟨fun k => k.square hl h2.1 h2.2, fun k => ⟨fun z => absurd z hl, fun _ _ _ => by omega, fun _ _ _ => k, fun _ _ _ => by omega, fun _ _ _ => by omega⟩⟩
      · rw [if_neg h2]
        unfold hedgeAt
        by_cases h3 : i % 2 = 0
        · rw [if_pos h3]
          by_cases h4 : (i = 0 ∨ i = 2 * h) ∨ (j = 0 ∨ j = 2 * w)
          · rw [if_pos h4, List.mem_singleton, ← E45]
            exact ⟨fun k => (k.level hl h3 (by omega)).elim id (fun z => by omega), fun k => ⟨fun z => absurd z hl, fun _ _ _ => by omega, fun _ _ _ => by omega, fun _ _ _ => Or.inl k, fun _ _ _ => by omega⟩⟩
          · rw [if_neg h4, List.mem_cons, List.mem_singleton, ← E45, ← E32]
            exact ⟨fun k => (k.level hl h3 (by omega)).imp id (fun z => z.1), fun k => ⟨fun z => absurd z hl, fun _ _ _ => by omega, fun _ _ _ => by omega, fun _ _ _ => k.imp id fun z => ⟨z, by omega, by omega⟩, fun _ _ _ => by omega⟩⟩
        · rw [if_neg h3]
          by_cases h4 : (i = 0 ∨ i = 2 * h) ∨ (j = 0 ∨ j = 2 * w)
          · rw [if_pos h4, List.mem_singleton, ← E124]
            exact ⟨fun k => (k.upright hl (by omega) (by omega)).elim id (fun z => by omega), fun k => ⟨fun z => absurd z hl, fun _ _ _ => by omega, fun _ _ _ => by omega, fun _ _ _ => by omega, fun _ _ _ => Or.inl k⟩⟩
          · rw [if_neg h4, List.mem_cons, List.mem_singleton, ← E124, ← E32]
            exact ⟨fun k => (k.upright hl (by omega) (by omega)).imp id (fun z => z.1), fun k => ⟨fun z => absurd z hl, fun _ _ _ => by omega, fun _ _ _ => by omega, fun _ _ _ => by omega, fun _ _ _ => k.imp id fun z => ⟨z, by omega, by omega⟩⟩⟩

theorem idx_of {g : List Nat} {a k : Nat} (h1 : g[k]? = some a) (h2 : ∀ m, m < k → g.getD m 0 ≠ a) : g.idxOf a = k := by
  have hk : k < g.length := by
    rcases Nat.lt_or_ge k g.length with h | h
    · exact h
    · rw [List.getElem?_eq_none h] at h1; cases h1
  unfold List.idxOf
  rw [List.findIdx_eq hk]
  rw [List.getElem?_eq_getElem hk] at h1
  injection h1 with h1
  refine ⟨by rw [h1]; exact beq_self_eq_true a, fun m hm => ?_⟩
  have := h2 m hm
  rw [List.getD_eq_getElem?_getD, List.getElem?_eq_getElem (by omega)] at this
  exact beq_false_of_ne this

theorem isG_signs {g : List Nat} (hb : ∀ n ∈ g, n < 256) {w h : Nat} (X : Signs (bytes g) w h) : widOf g = w ∧ higOf g w = h ∧ isG g = true := by
  have hw := X.wlo
  have hM : 0 < 2 * w + 2 := by omega
  have hlen : g.length = (2 * h + 1) * (2 * w + 2) := by
    have := X.len
    unfold bytes at this
    rw [List.length_map] at this
    exact this
  have e1 : (2 * h + 1) * (2 * w + 2) = 2 * h * (2 * w + 2) + (2 * w + 2) := Nat.succ_mul _ _
  have l0 : ∀ k, bt (bytes g) w 0 k = at0 (bytes g) k := fun k => by unfold bt; rw [Nat.zero_mul, Nat.zero_add]
  have hfeed : g.getD (2 * w + 1) 0 = 10 := by
    have k := (X.ok 0 (2 * w + 1) (by omega) (by omega)).feed rfl
    rw [l0, at_eq hb] at k
    exact k
  have hbefore : ∀ m, m < 2 * w + 1 → g.getD m 0 ≠ 10 := by
    intro m hm
    have z := X.ok 0 m (by omega) (by omega)
    rw [l0] at z
    by_cases h0 : m % 2 = 0
    · have k := z.corner (by omega) rfl h0
      rw [at_eq hb] at k
      rw [k]; decide
    · rcases z.level (by omega) rfl (by omega) with k | ⟨_, k, _⟩
      · rw [at_eq hb] at k
        rw [k]; decide
      · exact absurd rfl k
  have hat : g[2 * w + 1]? = some 10 := by
    rw [List.getD_eq_getElem?_getD] at hfeed
    cases e : g[2 * w + 1]? with
    | none => rw [e] at hfeed; cases hfeed
    | some n => rw [e] at hfeed; exact congrArg some hfeed
  have ew : widOf g = w := by
    unfold widOf
    rw [if_pos (List.mem_of_getElem? hat), idx_of hat hbefore, sqAlong_of X.whi]
  have d := dm (M := 2 * w + 2) (i := 2 * h + 1) (j := 0) hM
  rw [Nat.add_zero] at d
  have eh : higOf g w = h := by
    unfold higOf
    rw [hlen, d.1, d.2, if_neg (by omega), sqAlong_of X.hhi]
  refine ⟨ew, eh, ?_⟩
  have hh := X.hlo
  unfold isG
  rw [ew, eh, if_neg (by omega), if_neg (by omega), decide_eq_true_eq]
  intro p hp
  rw [← dm_at p (2 * w + 2)]
  have hi : p / (2 * w + 2) < 2 * h + 1 := (Nat.div_lt_iff_lt_mul hM).mpr (by rw [← hlen]; exact hp)
  have hj : p % (2 * w + 2) < 2 * w + 2 := Nat.mod_lt _ hM
  rw [← signs_fit hb hw hi hj]
  exact X.ok _ _ hi hj

theorem signs_isG {g : List Nat} (hb : ∀ n ∈ g, n < 256) (h : isG g = true) : Signs (bytes g) (widOf g) (higOf g (widOf g)) := by
  unfold isG at h
  split at h
  · cases h
  · rename_i hw
    split at h
    · cases h
    · rename_i hh
      rw [decide_eq_true_eq] at h
      generalize ew : widOf g = w at *
      have hw1 : sqAlong (g.idxOf 10) ≠ 0 ∧ w = sqAlong (g.idxOf 10) := by
        unfold widOf at ew
        split at ew
        · exact ⟨by omega, ew.symm⟩
        · omega
      obtain ⟨a1, a2, _⟩ := sqAlong_ne hw1.1
      rw [← hw1.2] at a1 a2
      generalize eh : higOf g w = hg at *
      have hM : 0 < 2 * w + 2 := by omega
      have hh1 : g.length % (2 * w + 2) = 0 ∧ hg = sqAlong (g.length / (2 * w + 2)) := by
        unfold higOf at eh
        split at eh
        · omega
        · exact ⟨by omega, eh.symm⟩
      have hh2 : sqAlong (g.length / (2 * w + 2)) ≠ 0 := by rw [← hh1.2]; exact hh
      obtain ⟨b1, b2, b3⟩ := sqAlong_ne hh2
      rw [← hh1.2] at b1 b2 b3
      have hlen : g.length = (2 * hg + 1) * (2 * w + 2) := by
        have := dm_at g.length (2 * w + 2)
        rw [hh1.1, b3] at this
        omega
      refine ⟨a1, a2, b1, b2, by unfold bytes; rw [List.length_map]; exact hlen, fun i j hi hj => ?_⟩
      rw [signs_fit hb a1 hi hj]
      exact h _ (by rw [hlen]; exact place_lt hi hj)

/-! ### what's asked of print -/
def isPW (g l : List Nat) : Bool := decide (2 ≤ l.length) && (decide (∀ s ∈ l, s < widOf g * higOf g (widOf g)) && (decide l.Nodup && stepsOk (bytes g) (widOf g) l))
def printM (g l : List Nat) : List Int :=
  if 1024 < g.length then [-2] else if isG g = false then [-6] else if isPW g l = false then [-9] else 0 :: (drawOn 46 65 66 (widOf g) g l).map fun (n : Nat) => (n : Int)

theorem text_nat (g : List Nat) : PlanNeutral.text (g.map fun (n : Nat) => (n : Int)) = bytes g := by
  unfold PlanNeutral.text bytes
  rw [List.map_map]
  rfl
theorem nats_nat (l : List Nat) : PlanNeutral.nats (l.map fun (n : Nat) => (n : Int)) = l := by
  unfold PlanNeutral.nats
  rw [List.map_map]
  exact (List.map_congr_left fun n _ => rfl).trans (List.map_id l)

theorem foldl_set_map {α β γ : Type} (f : α → β) (q : γ → Nat) (v : α) : ∀ (l : List γ) (g : List α), (l.foldl (fun d s => d.set (q s) v) g).map f = l.foldl (fun d s => d.set (q s) (f v)) (g.map f)
  | [], g => rfl
  | s :: l, g => by rw [List.foldl_cons, List.foldl_cons, foldl_set_map f q v l, List.map_set]
theorem drawOn_map {α β : Type} (f : α → β) (pt A B : α) (w : Nat) (g : List α) (l : List Nat) : (drawOn pt A B w g l).map f = drawOn (f pt) (f A) (f B) w (g.map f) l := by
  unfold drawOn
  rw [List.map_set, List.map_set, foldl_set_map, foldl_set_map]

theorem nat8_bytes {g : List Nat} (hb : ∀ n ∈ g, n < 256) : nat8 (bytes g) = g := by
  unfold nat8 bytes
  rw [List.map_map]
  refine (List.map_congr_left fun n hn => ?_).trans (List.map_id g)
  show (UInt8.ofNat n).toNat = n
  rw [UInt8.toNat_ofNat']
  have := hb n hn
  omega

theorem print_eq {g l : List Nat} (hb : ∀ n ∈ g, n < 256) : PyWqbacr.print_of (g.map fun (n : Nat) => (n : Int)) (l.map fun (n : Nat) => (n : Int)) = printM g l := by
  show (MazeK.answer (.print (PlanNeutral.text (g.map fun (n : Nat) => (n : Int))) (PlanNeutral.nats (l.map fun (n : Nat) => (n : Int))))).code :: (MazeK.answer (.print (PlanNeutral.text (g.map fun (n : Nat) => (n : Int))) (PlanNeutral.nats (l.map fun (n : Nat) => (n : Int))))).nums.map (fun (n : Nat) => (n : Int)) = _
  rw [text_nat, nats_nat]
  have hlen : (bytes g).length = g.length := by unfold bytes; exact List.length_map ..
  unfold printM
  have ea : MazeK.answer (.print (bytes g) l) = if 1024 < (bytes g).length then says (-2) else match readDrawing (bytes g) with
    | .error _ => says (-6)
    | .ok D => if Plan.right ⟨D, l⟩ = true then tells (nat8 (Plan.drawn ⟨D, l⟩)) else says (-9) := rfl
  rw [ea, hlen]
  by_cases h1 : 1024 < g.length
  · rw [if_pos h1, if_pos h1]; rfl
  · rw [if_neg h1, if_neg h1]
    cases hg : isG g with
    | false =>
      rw [if_pos rfl]
      cases hr : readDrawing (bytes g) with
      | error p => rfl
      | ok D =>
        obtain ⟨w, h, X, _⟩ := of_read hr
        have := (isG_signs hb (signs_iff.mp X)).2.2
        rw [hg] at this; cases this
    | true =>
      rw [if_neg (by decide)]
      have X := signs_isG hb hg
      have hR := right_iff X l
      have hr := read_of (signs_iff.mpr X)
      rw [hr]
      generalize hD : gardenAt (bytes g) (widOf g) (higOf g (widOf g)) = D at *
      cases hp : isPW g l with
      | true =>
        unfold isPW at hp
        simp only [Bool.and_eq_true, decide_eq_true_eq] at hp
        obtain ⟨p1, p2, p3, p4⟩ := hp
        have S : Steps (widOf g) (higOf g (widOf g)) l := ⟨p2, fun q hq => ((stepsOk_iff _ _ l).mp p4 q hq).1⟩
        have k := hR.mpr ⟨p1, p2, p3, p4⟩
        show (if Plan.right ⟨D, l⟩ = true then tells (nat8 (Plan.drawn ⟨D, l⟩)) else says (-9)).code :: (if Plan.right ⟨D, l⟩ = true then tells (nat8 (Plan.drawn ⟨D, l⟩)) else says (-9)).nums.map (fun (n : Nat) => (n : Int)) = _
        rw [if_pos k, if_neg (by decide), ← hD, drawn_eq X p1 p3 S]
        unfold nat8
        rw [drawOn_map]
        show (0 : Int) :: (drawOn 46 65 66 (widOf g) (nat8 (bytes g)) l).map _ = _
        rw [nat8_bytes hb]
      | false =>
        have k : ¬ Plan.right ⟨D, l⟩ = true := by
          rw [hR]
          rintro ⟨p1, p2, p3, p4⟩
          have : isPW g l = true := by
            unfold isPW
            simp only [Bool.and_eq_true, decide_eq_true_eq]
            exact ⟨p1, p2, p3, p4⟩
          rw [hp] at this; cases this
        show (if Plan.right ⟨D, l⟩ = true then tells (nat8 (Plan.drawn ⟨D, l⟩)) else says (-9)).code :: (if Plan.right ⟨D, l⟩ = true then tells (nat8 (Plan.drawn ⟨D, l⟩)) else says (-9)).nums.map (fun (n : Nat) => (n : Int)) = _
        rw [if_neg k, if_pos rfl]
        rfl
end Gm

end
section
set_option linter.all false
set_option maxHeartbeats 2000000
namespace Gt
open Maze Gm

/-! ### runs -/
def runT : Trace → Bytes → Option Trace
  | z, [] => some z
  | z, c :: r => match z.sign c with
    | some y => runT y r
    | none => none

theorem sign_mk (l k w : Nat) (f : Bool) (n u v x : List Nat) (c : UInt8) : (Trace.mk l k w f n u v x).sign c =
  if l = 0 then
    (if k % 2 = 0 then (if c = 43 then some ⟨l, k + 1, w, f, n, u, v, x⟩ else none)
    else if c = 45 ∧ k / 2 < 10 then some ⟨l, k + 1, w, f, n, u, v, x⟩
    else if c = 10 ∧ 3 ≤ k then some ⟨1, 0, k / 2, f, n, u, v, x⟩ else none)
  else if l % 2 = 1 then
    (if k = 0 then (if c = 124 ∧ l / 2 < 10 then some ⟨l, 1, w, f, n, u, v ++ x, []⟩ else none)
    else if k = 2 * w + 1 then (if c = 10 then some ⟨l + 1, 0, w, true, n, u, v, x⟩ else none)
    else if k % 2 = 1 then (inSquare c).map fun (a : Nat) => ⟨l, k + 1, w, f, n ++ [a], u, v, x⟩
    else if k = 2 * w then (if c = 124 then some ⟨l, k + 1, w, f, n, u, v, x⟩ else none)
    else (atSide 124 c).map fun (a : Nat) => ⟨l, k + 1, w, f, n, u ++ [a], v, x⟩)
  else
    (if k = 2 * w + 1 then (if c = 10 then some ⟨l + 1, 0, w, f, n, u, v, x⟩ else none)
    else if k % 2 = 0 then (if c = 43 then some ⟨l, k + 1, w, f, n, u, v, x⟩ else none)
    else match atSide 45 c with
      | none => none
      | some a => if a = 1 then some ⟨l, k + 1, w, f, n, u, v, x ++ [1]⟩ else if l / 2 < 10 then some ⟨l, k + 1, w, false, n, u, v, x ++ [a]⟩ else none) := rfl

theorem runT_cons (z : Trace) (c : UInt8) (q : Bytes) : runT z (c :: q) = match z.sign c with
    | some y => runT y q
    | none => none := rfl
theorem runT_append : ∀ (u v : Bytes) (z : Trace), runT z (u ++ v) = (runT z u).bind fun y => runT y v
  | [], v, z => rfl
  | c :: r, v, z => by
    show runT z (c :: (r ++ v)) = _
    rw [runT_cons, runT_cons]
    cases h : z.sign c with
    | none => rfl
    | some y => exact runT_append r v y

/-- the state behind the first p bytes -/
def stT (t : Bytes) (p : Nat) : Option Trace := runT traceBegun (t.take p)

theorem stT_succ {t : Bytes} {p : Nat} {c : UInt8} (h : t[p]? = some c) : stT t (p + 1) = (stT t p).bind fun z => z.sign c := by
  unfold stT
  have e : t.take (p + 1) = t.take p ++ [c] := by
    rw [List.take_add_one, h]; rfl
  rw [e, runT_append]
  congr 1
  funext z
  show runT z [c] = _
  rw [runT_cons]
  cases z.sign c <;> rfl

/-- reading on, by the states -/
theorem trace_from {t : Bytes} : ∀ (n p : Nat) (z : Trace), n + p = t.length → stT t p = some z →
    (∃ y Y, stT t t.length = some y ∧ y.ends = some Y ∧ traceFrom p z (t.drop p) = .ok Y) ∨
    (∃ y, stT t t.length = some y ∧ y.ends = none ∧ traceFrom p z (t.drop p) = .error t.length) ∨
    (∃ q y c, p ≤ q ∧ q < t.length ∧ stT t q = some y ∧ t[q]? = some c ∧ y.sign c = none ∧ traceFrom p z (t.drop p) = .error q)
  | 0, p, z, hp, hz => by
    have e : p = t.length := by omega
    subst e
    rw [List.drop_length]
    unfold traceFrom
    cases h : z.ends with
    | none => exact Or.inr (Or.inl ⟨z, hz, h, rfl⟩)
    | some Y => exact Or.inl ⟨z, Y, hz, h, rfl⟩
  | n + 1, p, z, hp, hz => by
    have hlt : p < t.length := by omega
    have hc : t[p]? = some t[p] := List.getElem?_eq_getElem hlt
    rw [List.drop_eq_getElem_cons hlt]
    cases h : z.sign t[p] with
    | none =>
      refine Or.inr (Or.inr ⟨p, z, _, Nat.le_refl _, hlt, hz, hc, h, ?_⟩)
      unfold traceFrom
      rw [h]
    | some y =>
      have hy : stT t (p + 1) = some y := by rw [stT_succ hc, hz]; exact h
      have e : traceFrom p z (t[p] :: t.drop (p + 1)) = traceFrom (p + 1) y (t.drop (p + 1)) := by
        conv => lhs; unfold traceFrom
        rw [h]
      rw [e]
      rcases trace_from n (p + 1) y (by omega) hy with h1 | h1 | ⟨q, y', c, h1, h2⟩
      · exact Or.inl h1
      · exact Or.inr (Or.inl h1)
      · exact Or.inr (Or.inr ⟨q, y', c, by omega, h2⟩)

theorem read_cases (t : Bytes) :
    (∃ y Y, stT t t.length = some y ∧ y.ends = some Y ∧ readSheet t = .ok Y) ∨
    (∃ y, stT t t.length = some y ∧ y.ends = none ∧ readSheet t = .error t.length) ∨
    (∃ q y c, q < t.length ∧ stT t q = some y ∧ t[q]? = some c ∧ y.sign c = none ∧ readSheet t = .error q) := by
  rcases trace_from (t := t) t.length 0 traceBegun (by omega) rfl with h | h | ⟨q, y, c, _, h⟩
  · exact Or.inl h
  · exact Or.inr (Or.inl h)
  · exact Or.inr (Or.inr ⟨q, y, c, h⟩)

/-! ### states by line and sign -/
def sqV (c : UInt8) : Nat := (inSquare c).getD 0
def sdV (h c : UInt8) : Nat := (atSide h c).getD 0
section
variable (b : Nat → Nat → UInt8) (w : Nat)
def inRow (y m : Nat) : List Nat := (List.range m).map fun x => sqV (b (2 * y + 1) (2 * x + 1))
def upRow (y m : Nat) : List Nat := (List.range m).map fun x => sdV 124 (b (2 * y + 1) (2 * x + 2))
def levRow (y m : Nat) : List Nat := (List.range m).map fun x => sdV 45 (b (2 * y + 2) (2 * x + 1))
def insTo (n : Nat) : List Nat := (List.range n).flatMap fun y => inRow b y w
def upsTo (n : Nat) : List Nat := (List.range n).flatMap fun y => upRow b y (w - 1)
def levsTo (n : Nat) : List Nat := (List.range n).flatMap fun y => levRow b y w
def fullRow (y m : Nat) : Bool := (levRow b y m).all fun a => a == 1
def fullBefore : Nat → Bool
  | 0 => true
  | y + 1 => fullRow b y w
def curBefore : Nat → List Nat
  | 0 => []
  | y + 1 => levRow b y w
def sO0 (y : Nat) : Trace := ⟨2 * y + 1, 0, w, fullBefore b w y, insTo b w y, upsTo b w y, levsTo b w (y - 1), curBefore b w y⟩
def sO (y j : Nat) : Trace := ⟨2 * y + 1, j, w, fullBefore b w y, insTo b w y ++ inRow b y (j / 2), upsTo b w y ++ upRow b y (min ((j - 1) / 2) (w - 1)), levsTo b w y, []⟩
def sE (y j : Nat) : Trace := ⟨2 * y + 2, j, w, fullRow b y (j / 2), insTo b w (y + 1), upsTo b w (y + 1), levsTo b w y, levRow b y (j / 2)⟩
end

theorem inRow_succ (b y m) : inRow b y (m + 1) = inRow b y m ++ [sqV (b (2 * y + 1) (2 * m + 1))] := by
  unfold inRow; rw [List.range_succ, List.map_append]; rfl
theorem upRow_succ (b y m) : upRow b y (m + 1) = upRow b y m ++ [sdV 124 (b (2 * y + 1) (2 * m + 2))] := by
  unfold upRow; rw [List.range_succ, List.map_append]; rfl
theorem levRow_succ (b y m) : levRow b y (m + 1) = levRow b y m ++ [sdV 45 (b (2 * y + 2) (2 * m + 1))] := by
  unfold levRow; rw [List.range_succ, List.map_append]; rfl
theorem fullRow_succ (b y m) : fullRow b y (m + 1) = (fullRow b y m && sdV 45 (b (2 * y + 2) (2 * m + 1)) == 1) := by
  unfold fullRow; rw [levRow_succ, List.all_append]; simp

variable {b : Nat → Nat → UInt8} {w : Nat}

theorem step_O0 (y : Nat) (c : UInt8) : (sO0 b w y).sign c = if c = 124 ∧ y < 10 then some (sO b w y 1) else none := by
  have e1 : (2 * y + 1) % 2 = 1 := by omega
  have e2 : (2 * y + 1) / 2 = y := by omega
  unfold sO0
  rw [sign_mk, if_neg (by omega), if_pos e1, if_pos rfl, e2]
  by_cases h : c = 124 ∧ y < 10
  · rw [if_pos h, if_pos h]
    unfold sO
    congr 2
    · simp [inRow]
    · have : min ((1 - 1) / 2) (w - 1) = 0 := by omega
      rw [this]; simp [upRow]
    · cases y with
      | zero => simp [levsTo, curBefore]
      | succ y =>
        show levsTo b w y ++ levRow b y w = _
        unfold levsTo
        rw [range_flatMap_succ]
  · rw [if_neg h, if_neg h]

/-- what may stand in row y of squares, behind its first sign -/
def okO (w j : Nat) (c : UInt8) : Bool := if j = 2 * w + 1 then c == 10 else if j % 2 = 1 then (inSquare c).isSome else if j = 2 * w then c == 124 else (atSide 124 c).isSome
/-- what may stand in the level line below row y -/
def okE (w y j : Nat) (c : UInt8) : Bool := if j = 2 * w + 1 then c == 10 else if j % 2 = 0 then c == 43 else (c == 45 || ((atSide 45 c).isSome && decide (y + 1 < 10)))

theorem step_O {y j : Nat} (h1 : 1 ≤ j) (h2 : j ≤ 2 * w) : (sO b w y j).sign (b (2 * y + 1) j) = if okO w j (b (2 * y + 1) j) = true then some (sO b w y (j + 1)) else none := by
  have e1 : (2 * y + 1) % 2 = 1 := by omega
  have n1 : ¬ j = 2 * w + 1 := by omega
  unfold sO okO
  rw [sign_mk, if_neg (by omega), if_pos e1, if_neg (by omega), if_neg n1, if_neg n1]
  by_cases ho : j % 2 = 1
  · rw [if_pos ho, if_pos ho]
    obtain ⟨m, rfl⟩ : ∃ m, j = 2 * m + 1 := ⟨j / 2, by omega⟩
    have a1 : min ((2 * m + 1 + 1 - 1) / 2) (w - 1) = min ((2 * m + 1 - 1) / 2) (w - 1) := by omega
    have a2 : (2 * m + 1 + 1) / 2 = m + 1 := by omega
    have a3 : (2 * m + 1) / 2 = m := by omega
    rw [a1, a2, a3, inRow_succ]
    unfold sqV
    cases inSquare (b (2 * y + 1) (2 * m + 1)) with
    | none => rfl
    | some a => simp
  · rw [if_neg ho, if_neg ho]
    have a3 : (j + 1) / 2 = j / 2 := by omega
    rw [a3]
    by_cases hj : j = 2 * w
    · rw [if_pos hj, if_pos hj]
      have : min ((j + 1 - 1) / 2) (w - 1) = min ((j - 1) / 2) (w - 1) := by omega
      rw [this]
      simp only [beq_iff_eq]
    · rw [if_neg hj, if_neg hj]
      obtain ⟨m, rfl⟩ : ∃ m, j = 2 * m + 2 := ⟨j / 2 - 1, by omega⟩
      have a1 : min ((2 * m + 2 + 1 - 1) / 2) (w - 1) = m + 1 := by omega
      have a2 : min ((2 * m + 2 - 1) / 2) (w - 1) = m := by omega
      rw [a1, a2, upRow_succ]
      unfold sdV
      cases atSide 124 (b (2 * y + 1) (2 * m + 2)) with
      | none => rfl
      | some a => simp

theorem step_Oend (y : Nat) (c : UInt8) : (sO b w y (2 * w + 1)).sign c = if c = 10 then some (sE b w y 0) else none := by
  have e1 : (2 * y + 1) % 2 = 1 := by omega
  unfold sO
  rw [sign_mk, if_neg (by omega), if_pos e1, if_neg (by omega), if_pos rfl]
  have a1 : min ((2 * w + 1 - 1) / 2) (w - 1) = w - 1 := by omega
  have a2 : (2 * w + 1) / 2 = w := by omega
  rw [a1, a2]
  unfold sE upsTo insTo
  rw [range_flatMap_succ, range_flatMap_succ]
  rfl

theorem atSide_45 (c : UInt8) : atSide 45 c = some 1 ↔ c = 45 := by
  unfold atSide
  by_cases h1 : c = 32
  · rw [if_pos h1, h1]; simp
  · rw [if_neg h1]
    by_cases h2 : c = 45
    · rw [if_pos h2]; simp [h2]
    · rw [if_neg h2]
      by_cases h3 : c = 46
      · rw [if_pos h3]; simp [h2]
      · rw [if_neg h3]; simp [h2]

theorem step_E {y j : Nat} (h2 : j ≤ 2 * w) : (sE b w y j).sign (b (2 * y + 2) j) = if okE w y j (b (2 * y + 2) j) = true then some (sE b w y (j + 1)) else none := by
  have e1 : (2 * y + 2) % 2 = 0 := by omega
  have e2 : (2 * y + 2) / 2 = y + 1 := by omega
  have n1 : ¬ j = 2 * w + 1 := by omega
  unfold sE okE
  rw [sign_mk, if_neg (by omega), if_neg (by omega), if_neg n1, if_neg n1, e2]
  by_cases ho : j % 2 = 0
  · rw [if_pos ho, if_pos ho]
    have : (j + 1) / 2 = j / 2 := by omega
    rw [this]
    simp only [beq_iff_eq]
  · rw [if_neg ho, if_neg ho]
    obtain ⟨m, rfl⟩ : ∃ m, j = 2 * m + 1 := ⟨j / 2, by omega⟩
    have a1 : (2 * m + 1 + 1) / 2 = m + 1 := by omega
    have a2 : (2 * m + 1) / 2 = m := by omega
    rw [a1, a2, levRow_succ, fullRow_succ]
    unfold sdV
    have hk := atSide_45 (b (2 * y + 2) (2 * m + 1))
    generalize b (2 * y + 2) (2 * m + 1) = c at *
    cases hs : atSide 45 c with
    | none =>
      have hc : ¬ c = 45 := fun z => by rw [hk.mpr z] at hs; cases hs
      rw [if_neg (by simp [hc])]
    | some a =>
      rw [hs] at hk
      by_cases ha : a = 1
      · have hc : c = 45 := hk.mp (by rw [ha])
        subst ha
        rw [hc]; simp
      · have hc : ¬ c = 45 := fun z => ha (Option.some.inj (hk.mpr z))
        have hb : (a == 1) = false := by simp [ha]
        simp [ha, hc, hb]

theorem step_Eend (y : Nat) (c : UInt8) : (sE b w y (2 * w + 1)).sign c = if c = 10 then some (sO0 b w (y + 1)) else none := by
  unfold sE
  rw [sign_mk, if_neg (by omega), if_neg (by omega), if_pos rfl]
  have a1 : (2 * w + 1) / 2 = w := by omega
  rw [a1]
  rfl
end Gt

end
section
set_option linter.all false
set_option maxHeartbeats 2000000
namespace Gt
open Maze Gm

def sAt (b : Nat → Nat → UInt8) (w i j : Nat) : Trace := if i % 2 = 1 then (if j = 0 then sO0 b w (i / 2) else sO b w (i / 2) j) else sE b w (i / 2 - 1) j
def okAt (w i j : Nat) (c : UInt8) : Bool := if i % 2 = 1 then (if j = 0 then c == 124 && decide (i / 2 < 10) else okO w j c) else okE w (i / 2 - 1) j c

theorem step_at {b : Nat → Nat → UInt8} {w i j : Nat} (hi : 1 ≤ i) (hj : j ≤ 2 * w + 1) (hw : 1 ≤ w) :
    (sAt b w i j).sign (b i j) = if okAt w i j (b i j) = true then some (if j = 2 * w + 1 then sAt b w (i + 1) 0 else sAt b w i (j + 1)) else none := by
  by_cases ho : i % 2 = 1
  · obtain ⟨y, rfl⟩ : ∃ y, i = 2 * y + 1 := ⟨i / 2, by omega⟩
    have e2 : (2 * y + 1) / 2 = y := by omega
    have e3 : ¬ (2 * y + 1 + 1) % 2 = 1 := by omega
    have e4 : (2 * y + 1 + 1) / 2 - 1 = y := by omega
    unfold sAt okAt
    rw [if_pos ho, if_pos ho, if_neg e3, if_pos ho, if_neg (show ¬ j + 1 = 0 by omega), e2, e4]
    by_cases h0 : j = 0
    · subst h0
      rw [if_pos rfl, if_pos rfl, if_neg (show ¬ 0 = 2 * w + 1 by omega), step_O0]
      simp only [Bool.and_eq_true, beq_iff_eq, decide_eq_true_eq]
    · rw [if_neg h0, if_neg h0]
      by_cases hl : j = 2 * w + 1
      · subst hl
        rw [if_pos rfl, step_Oend]
        unfold okO
        rw [if_pos rfl]
        simp only [beq_iff_eq]
      · rw [if_neg hl, step_O (by omega) (by omega)]
  · obtain ⟨y, rfl⟩ : ∃ y, i = 2 * y + 2 := ⟨i / 2 - 1, by omega⟩
    have e2 : (2 * y + 2) / 2 - 1 = y := by omega
    have e3 : (2 * y + 2 + 1) % 2 = 1 := by omega
    have e4 : (2 * y + 2 + 1) / 2 = y + 1 := by omega
    unfold sAt okAt
    rw [if_neg ho, if_neg ho, if_pos e3, if_neg ho, e2, e4, if_pos rfl]
    by_cases hl : j = 2 * w + 1
    · subst hl
      rw [if_pos rfl, step_Eend]
      unfold okE
      rw [if_pos rfl]
      simp only [beq_iff_eq]
    · rw [if_neg hl, step_E (by omega)]

def sP (t : Bytes) (w p : Nat) : Trace := sAt (bt t w) w (p / (2 * w + 2)) (p % (2 * w + 2))
def okP (w p : Nat) (c : UInt8) : Bool := okAt w (p / (2 * w + 2)) (p % (2 * w + 2)) c

theorem step_P {t : Bytes} {w p : Nat} (hw : 1 ≤ w) (hp : 2 * w + 2 ≤ p) : (sP t w p).sign (at0 t p) = if okP w p (at0 t p) = true then some (sP t w (p + 1)) else none := by
  have hM : 0 < 2 * w + 2 := by omega
  have e0 : bt t w (p / (2 * w + 2)) (p % (2 * w + 2)) = at0 t p := by unfold bt; rw [dm_at]
  have h1 : 1 ≤ p / (2 * w + 2) := (Nat.le_div_iff_mul_le hM).mpr (by omega)
  have h2 : p % (2 * w + 2) ≤ 2 * w + 1 := by have := Nat.mod_lt p hM; omega
  have e1 := step_at (b := bt t w) h1 h2 hw
  rw [e0] at e1
  have e2 := dm_next (p := p) hM
  unfold sP okP
  rw [e1]
  congr 2
  split at e2
  · rename_i h
    rw [if_pos (by omega), e2.1, e2.2]
  · rename_i h
    rw [if_neg (by omega), e2.1, e2.2]

def st0 (j : Nat) : Trace := ⟨0, j, 0, true, [], [], [], []⟩
theorem step_0 (j : Nat) (c : UInt8) : (st0 j).sign c = if ok0 j c = true then some (st0 (j + 1)) else if j % 2 = 1 ∧ c = 10 ∧ 3 ≤ j then some ⟨1, 0, j / 2, true, [], [], [], []⟩ else none := by
  unfold st0 ok0
  rw [sign_mk, if_pos rfl]
  by_cases h : j % 2 = 0
  · rw [if_pos h, if_pos h, if_neg (show ¬ (j % 2 = 1 ∧ c = 10 ∧ 3 ≤ j) by omega)]
    simp only [beq_iff_eq]
  · have h1 : j % 2 = 1 := by omega
    rw [if_neg h, if_neg h]
    simp only [Bool.and_eq_true, beq_iff_eq, decide_eq_true_eq, h1, true_and]

theorem st0_end (t : Bytes) (w : Nat) : (⟨1, 0, w, true, [], [], [], []⟩ : Trace) = sP t w (2 * w + 2) := by
  have h := dm (M := 2 * w + 2) (i := 1) (j := 0) (by omega)
  rw [Nat.one_mul, Nat.add_zero] at h
  unfold sP
  rw [h.1, h.2]
  rfl

/-- how far it could be a sheet's beginning: within the first line, or behind it -/
def Good0 (t : Bytes) (p : Nat) : Prop := ∀ k, k < p → ok0 k (at0 t k) = true
structure GoodW (t : Bytes) (w p : Nat) : Prop where
  line0 : Line0 t w
  hp : 2 * w + 2 ≤ p
  ok : ∀ q, 2 * w + 2 ≤ q → q < p → okP w q (at0 t q) = true

theorem sound {t : Bytes} : ∀ (p : Nat) (z : Trace), p ≤ t.length → stT t p = some z → (z = st0 p ∧ Good0 t p) ∨ ∃ w, GoodW t w p ∧ z = sP t w p
  | 0, z, _, h => by
    left
    have : some traceBegun = some z := h
    injection this with this
    exact ⟨this.symm, fun k hk => absurd hk (by omega)⟩
  | p + 1, z, hp, h => by
    rw [stT_succ (at0_of (show p < t.length by omega))] at h
    cases e : stT t p with
    | none => rw [e] at h; cases h
    | some y =>
      rw [e] at h
      have h' : y.sign (at0 t p) = some z := h
      rcases sound p y (by omega) e with ⟨rfl, ok⟩ | ⟨w, ⟨L, hw, ok⟩, rfl⟩
      · rw [step_0] at h'
        split at h'
        · rename_i hc
          left
          injection h' with h'
          refine ⟨h'.symm, fun k hk => ?_⟩
          by_cases hkp : k = p
          · subst hkp; exact hc
          · exact ok k (by omega)
        · split at h'
          · rename_i hc
            right
            injection h' with h'
            obtain ⟨w, rfl⟩ : ∃ w, p = 2 * w + 1 := ⟨p / 2, by omega⟩
            have ew : (2 * w + 1) / 2 = w := by omega
            rw [ew] at h'
            refine ⟨w, ⟨⟨by omega, ?_, fun k hk => ok k hk, hc.2.1⟩, by omega, fun q h1 h2 => absurd h2 (by omega)⟩, ?_⟩
            · have := ok (2 * w - 1) (by omega)
              unfold ok0 at this
              rw [if_neg (by omega)] at this
              simp only [Bool.and_eq_true, decide_eq_true_eq] at this
              omega
            · rw [← h', st0_end t w]
          · cases h'
      · rw [step_P L.lo hw] at h'
        split at h'
        · rename_i hc
          right
          injection h' with h'
          refine ⟨w, ⟨L, by omega, fun q h1 h2 => ?_⟩, h'.symm⟩
          by_cases hq : q = p
          · subst hq; exact hc
          · exact ok q h1 (by omega)
        · cases h'

theorem complete0 {t : Bytes} : ∀ p, p ≤ t.length → Good0 t p → stT t p = some (st0 p)
  | 0, _, _ => rfl
  | p + 1, hp, ok => by
    rw [stT_succ (at0_of (show p < t.length by omega)), complete0 p (by omega) (fun k hk => ok k (by omega))]
    show (st0 p).sign _ = _
    rw [step_0, if_pos (ok p (by omega))]

theorem complete {t : Bytes} {w : Nat} : ∀ p, p ≤ t.length → GoodW t w p → stT t p = some (sP t w p)
  | 0, _, X => by have := X.hp; omega
  | p + 1, h2, X => by
    have L := X.line0
    have h1 := X.hp
    rw [stT_succ (at0_of (show p < t.length by omega))]
    by_cases hp : p = 2 * w + 1
    · subst hp
      rw [complete0 _ (by omega) (fun k hk => L.signs k hk)]
      show (st0 (2 * w + 1)).sign _ = _
      have hl := L.lo
      rw [step_0, L.feed, if_neg, if_pos ⟨by omega, rfl, by omega⟩, show (2 * w + 1) / 2 = w by omega, st0_end t w]
      unfold ok0
      rw [if_neg (by omega)]
      simp
    · rw [complete p (by omega) ⟨L, by omega, fun q h3 h4 => X.ok q h3 (by omega)⟩]
      show (sP t w p).sign _ = _
      rw [step_P L.lo (by omega), if_pos (X.ok p (by omega) (by omega))]

/-- the sheet of a drawing of that size -/
def sheetAt (t : Bytes) (w h : Nat) : Sheet := ⟨w, h, insTo (bt t w) w h, upsTo (bt t w) w h ++ levsTo (bt t w) w (h - 1)⟩

structure Drawing (t : Bytes) (w h : Nat) : Prop where
  good : GoodW t w t.length
  lo : 1 ≤ h
  hi : h ≤ 10
  len : t.length = (2 * h + 1) * (2 * w + 2)
  last : fullRow (bt t w) (h - 1) w = true

theorem ends_mk (l k w : Nat) (f : Bool) (n u v x : List Nat) : (Trace.mk l k w f n u v x).ends = if k = 0 ∧ l % 2 = 1 ∧ 3 ≤ l ∧ f = true then some ⟨w, l / 2, n, u ++ v⟩ else none := rfl
theorem ends_0 (j : Nat) : (st0 j).ends = none := by
  unfold st0
  rw [ends_mk, if_neg (by omega)]

theorem ends_of {t : Bytes} {w h : Nat} (X : Drawing t w h) : (sP t w t.length).ends = some (sheetAt t w h) := by
  have d := dm (M := 2 * w + 2) (i := 2 * h + 1) (j := 0) (by omega)
  rw [Nat.add_zero, ← X.len] at d
  have hl := X.lo
  unfold sP
  rw [d.1, d.2]
  unfold sAt
  rw [if_pos (by omega), if_pos rfl, show (2 * h + 1) / 2 = h by omega]
  obtain ⟨y, rfl⟩ : ∃ y, h = y + 1 := ⟨h - 1, by omega⟩
  unfold sO0 sheetAt
  rw [ends_mk, if_pos ⟨rfl, by omega, by omega, X.last⟩, show (2 * (y + 1) + 1) / 2 = y + 1 by omega]

theorem of_ends {t : Bytes} {w : Nat} {Y : Sheet} (G : GoodW t w t.length) (h2 : (sP t w t.length).ends = some Y) : ∃ h, Drawing t w h ∧ Y = sheetAt t w h := by
  have hM : 0 < 2 * w + 2 := by omega
  have L := G.line0
  have hw := G.hp
  have ok := G.ok
  have hat := dm_at t.length (2 * w + 2)
  generalize hi : t.length / (2 * w + 2) = i at *
  have hmod := Nat.mod_lt t.length hM
  generalize hj : t.length % (2 * w + 2) = j at *
  unfold sP at h2
  rw [hi, hj] at h2
  unfold sAt at h2
  split at h2
  · rename_i ho
    split at h2
    · rename_i h0
      subst h0
      unfold sO0 at h2
      rw [ends_mk] at h2
      split at h2
      · rename_i hc
        obtain ⟨_, _, hc3, hc4⟩ := hc
        obtain ⟨y, hy⟩ : ∃ y, i = 2 * (y + 1) + 1 := ⟨i / 2 - 1, by omega⟩
        subst hy
        have e2 : (2 * (y + 1) + 1) / 2 = y + 1 := by omega
        rw [e2] at hc4 h2
        injection h2 with h2
        refine ⟨y + 1, ⟨G, by omega, ?_, by omega, hc4⟩, ?_⟩
        · have q1 : (2 * y + 1) * (2 * w + 2) + 0 < t.length := by
            rw [← hat]
            have e5 : 2 * (y + 1) + 1 = (2 * y + 1) + 1 + 1 := by omega
            have e6 : (2 * y + 1 + 1 + 1) * (2 * w + 2) = (2 * y + 1 + 1) * (2 * w + 2) + (2 * w + 2) := Nat.succ_mul _ _
            have e7 : (2 * y + 1 + 1) * (2 * w + 2) = (2 * y + 1) * (2 * w + 2) + (2 * w + 2) := Nat.succ_mul _ _
            rw [e5, e6, e7]; omega
          have q3 : (2 * y + 1) * (2 * w + 2) = 2 * y * (2 * w + 2) + (2 * w + 2) := Nat.succ_mul _ _
          have q2 := ok ((2 * y + 1) * (2 * w + 2) + 0) (by rw [q3]; omega) q1
          unfold okP at q2
          have d := dm (M := 2 * w + 2) (i := 2 * y + 1) (j := 0) hM
          rw [d.1, d.2] at q2
          unfold okAt at q2
          rw [if_pos (by omega), if_pos rfl] at q2
          simp only [Bool.and_eq_true, decide_eq_true_eq] at q2
          omega
        · rw [← h2]
          unfold sheetAt
          rw [show (2 * (y + 1) + 1) / 2 = y + 1 by omega]
      · cases h2
    · rename_i h0
      unfold sO at h2
      rw [ends_mk, if_neg (fun h => h0 h.1)] at h2
      cases h2
  · rename_i ho
    unfold sE at h2
    rw [ends_mk, if_neg (by omega)] at h2
    cases h2

theorem read_of {t : Bytes} {w h : Nat} (X : Drawing t w h) : readSheet t = .ok (sheetAt t w h) := by
  have e := complete t.length (Nat.le_refl _) X.good
  have e2 := ends_of X
  rcases read_cases t with ⟨y, Y, h1, h2, h3⟩ | ⟨y, h1, h2, _⟩ | ⟨q, y, c, hq, h1, h2, h3, h4⟩
  · rw [e] at h1; injection h1 with h1; subst h1
    rw [e2] at h2; injection h2 with h2
    rw [h3, h2]
  · rw [e] at h1; injection h1 with h1; subst h1
    rw [e2] at h2; cases h2
  · -- a fault before the end: then there is no state at the end
    exfalso
    have up : ∀ n, q + 1 + n ≤ t.length → stT t (q + 1 + n) = none := by
      intro n
      induction n with
      | zero => intro _; rw [Nat.add_zero, stT_succ h2, h1]; exact h3
      | succ n ih =>
        intro hn
        rw [← Nat.add_assoc, stT_succ (at0_of (show q + 1 + n < t.length by omega)), ih (by omega)]; rfl
    have := up (t.length - (q + 1)) (by omega)
    rw [show q + 1 + (t.length - (q + 1)) = t.length by omega, e] at this
    cases this

theorem of_read {t : Bytes} {Y : Sheet} (h : readSheet t = .ok Y) : ∃ w h, Drawing t w h ∧ Y = sheetAt t w h := by
  rcases read_cases t with ⟨y, Y', h1, h2, h3⟩ | ⟨y, h1, h2, h3⟩ | ⟨q, y, c, hq, h1, h2, h3, h4⟩
  · rw [h3] at h; injection h with h; subst h
    rcases sound t.length y (Nat.le_refl _) h1 with ⟨rfl, _⟩ | ⟨w, G, rfl⟩
    · rw [ends_0] at h2; cases h2
    · obtain ⟨h, X, e⟩ := of_ends G h2
      exact ⟨w, h, X, e⟩
  · rw [h3] at h; cases h
  · rw [h4] at h; cases h

/-! ### the first fault -/
/-- at the end of what could be a beginning -/
inductive Fault (t : Bytes) : Nat → Prop
  | in0 {p : Nat} : p < t.length → Good0 t p → ok0 p (at0 t p) = false → ¬ (p % 2 = 1 ∧ at0 t p = 10 ∧ 3 ≤ p) → Fault t p
  | end0 : Good0 t t.length → Fault t t.length
  | inW {w p : Nat} : p < t.length → GoodW t w p → okP w p (at0 t p) = false → Fault t p
  | endW {w : Nat} : GoodW t w t.length → (∀ h, ¬ Drawing t w h) → Fault t t.length

theorem fault_of {t : Bytes} {q : Nat} (h : readSheet t = .error q) : Fault t q := by
  rcases read_cases t with ⟨y, Y', h1, h2, h3⟩ | ⟨y, h1, h2, h3⟩ | ⟨q', y, c, hq, h1, h2, h3, h4⟩
  · rw [h3] at h; cases h
  · rw [h3] at h; injection h with h; subst h
    rcases sound t.length y (Nat.le_refl _) h1 with ⟨rfl, G⟩ | ⟨w, G, rfl⟩
    · exact .end0 G
    · exact .endW G fun h X => by rw [ends_of X] at h2; cases h2
  · rw [h4] at h; injection h with h; subst h
    rw [at0_of hq] at h2
    injection h2 with h2
    subst h2
    rcases sound q' y (by omega) h1 with ⟨rfl, G⟩ | ⟨w, G, rfl⟩
    · rw [step_0] at h3
      split at h3
      · cases h3
      · rename_i k
        split at h3
        · cases h3
        · rename_i k2
          exact .in0 hq G (by simpa using k) k2
    · rw [step_P G.line0.lo G.hp] at h3
      split at h3
      · cases h3
      · rename_i k
        exact .inW hq G (by simpa using k)

theorem read_fault {t : Bytes} {q : Nat} (F : Fault t q) : readSheet t = .error q := by
  have down : ∀ {q' : Nat} {y : Trace} {c : UInt8}, q' < t.length → stT t q' = some y → t[q']? = some c → y.sign c = none → ∀ n, q' + 1 + n ≤ t.length → stT t (q' + 1 + n) = none := by
    intro q' y c hq h1 h2 h3 n
    induction n with
    | zero => intro _; rw [Nat.add_zero, stT_succ h2, h1]; exact h3
    | succ n ih =>
      intro hn
      rw [← Nat.add_assoc, stT_succ (at0_of (show q' + 1 + n < t.length by omega)), ih (by omega)]; rfl
  have inn : ∀ {q : Nat} {z : Trace}, q < t.length → stT t q = some z → z.sign (at0 t q) = none → readSheet t = .error q := by
    intro q z hq hz hs
    have dn := down hq hz (at0_of hq) hs
    rcases read_cases t with ⟨y, Y', h1, h2, h3⟩ | ⟨y, h1, h2, h3⟩ | ⟨q', y, c, hq', h1, h2, h3, h4⟩
    · have := dn (t.length - (q + 1)) (by omega)
      rw [show q + 1 + (t.length - (q + 1)) = t.length by omega, h1] at this; cases this
    · have := dn (t.length - (q + 1)) (by omega)
      rw [show q + 1 + (t.length - (q + 1)) = t.length by omega, h1] at this; cases this
    · rw [h4]
      congr 1
      rcases Nat.lt_trichotomy q q' with hl | he | hl
      · have := dn (q' - (q + 1)) (by omega)
        rw [show q + 1 + (q' - (q + 1)) = q' by omega, h1] at this; cases this
      · exact he.symm
      · have := down hq' h1 h2 h3 (q - (q' + 1)) (by omega)
        rw [show q' + 1 + (q - (q' + 1)) = q by omega, hz] at this; cases this
  have fin : ∀ {z : Trace}, stT t t.length = some z → z.ends = none → readSheet t = .error t.length := by
    intro z hz he
    rcases read_cases t with ⟨y, Y', h1, h2, h3⟩ | ⟨y, h1, h2, h3⟩ | ⟨q', y, c, hq', h1, h2, h3, h4⟩
    · rw [hz] at h1; injection h1 with h1; subst h1; rw [he] at h2; cases h2
    · exact h3
    · have := down hq' h1 h2 h3 (t.length - (q' + 1)) (by omega)
      rw [show q' + 1 + (t.length - (q' + 1)) = t.length by omega, hz] at this; cases this
  cases F with
  | in0 hq G h1 h2 => exact inn hq (complete0 _ (by omega) G) (by rw [step_0, if_neg (by simp [h1]), if_neg h2])
  | end0 G => exact fin (complete0 _ (Nat.le_refl _) G) (ends_0 _)
  | inW hq G h1 => exact inn hq (complete _ (by omega) G) (by rw [step_P G.line0.lo G.hp, if_neg (by simp [h1])])
  | endW G h =>
    refine fin (complete _ (Nat.le_refl _) G) ?_
    cases e : (sP t _ t.length).ends with
    | none => rfl
    | some Y =>
      obtain ⟨hh, X, _⟩ := of_ends G e
      exact absurd X (h hh)
end Gt

end
section
set_option linter.all false
set_option maxHeartbeats 2000000
namespace Gt
open Maze Gm

theorem steps_ix {l : List Nat} {p : Nat × Nat} : p ∈ stepsOf l ↔ ∃ i, l[i]? = some p.1 ∧ l[i + 1]? = some p.2 := by
  unfold stepsOf
  rw [List.mem_iff_getElem?]
  constructor
  · rintro ⟨i, e⟩
    rw [List.getElem?_zip_eq_some] at e
    refine ⟨i, e.1, ?_⟩
    rw [← e.2, List.getElem?_tail]
  · rintro ⟨i, e1, e2⟩
    refine ⟨i, ?_⟩
    rw [List.getElem?_zip_eq_some, List.getElem?_tail]
    exact ⟨e1, e2⟩

theorem nd_ix {α : Type} {l : List α} (hN : l.Nodup) {i j : Nat} {x : α} (a : l[i]? = some x) (b : l[j]? = some x) : i = j := by
  obtain ⟨h1, e1⟩ := List.getElem?_eq_some_iff.mp a
  obtain ⟨h2, e2⟩ := List.getElem?_eq_some_iff.mp b
  exact (List.getElem_inj hN).mp (e1.trans e2.symm)

theorem follows_comm (l : List Nat) (a b : Nat) : follows l a b = true ↔ follows l b a = true := by
  rw [follows_iff, follows_iff]
  constructor <;> rintro ⟨p, hp, h⟩ <;> exact ⟨p, hp, h.symm⟩

/-- a square's neighbours upon a way -/
theorem follows_at {l : List Nat} (hN : l.Nodup) {i s u : Nat} (hi : l[i]? = some s) : follows l s u = true ↔ l[i + 1]? = some u ∨ (0 < i ∧ l[i - 1]? = some u) := by
  rw [follows_iff]
  constructor
  · rintro ⟨p, hp, h⟩
    obtain ⟨j, e1, e2⟩ := steps_ix.mp hp
    rcases h with ⟨h1, h2⟩ | ⟨h1, h2⟩
    · rw [h1] at e1; rw [h2] at e2
      have := nd_ix hN e1 hi
      subst this
      exact Or.inl e2
    · rw [h1] at e1; rw [h2] at e2
      have := nd_ix hN e2 hi
      subst this
      exact Or.inr ⟨by omega, by rw [Nat.add_sub_cancel]; exact e1⟩
  · rintro (h | ⟨h0, h⟩)
    · exact ⟨(s, u), steps_ix.mpr ⟨i, hi, h⟩, Or.inl ⟨rfl, rfl⟩⟩
    · refine ⟨(u, s), steps_ix.mpr ⟨i - 1, h, ?_⟩, Or.inr ⟨rfl, rfl⟩⟩
      rw [Nat.sub_add_cancel h0]; exact hi

/-! ### sides of squares -/
section
variable {D : Garden}
theorem beyond_side (hw : 1 ≤ D.wide) {s k u : Nat} (hs : s < D.squares) (hk : k < 4) (h : D.beyond s k = some u) :
    D.sideOf s k < D.count ∧ u < D.squares ∧ u ≠ s ∧ (D.squaresAt (D.sideOf s k) = (s, u) ∨ D.squaresAt (D.sideOf s k) = (u, s)) := by
  obtain ⟨w, hh, hg⟩ := D
  have hw : 1 ≤ w := hw
  have hs : s < w * hh := hs
  obtain ⟨hx, hy, es⟩ := sq_parts hw hs
  generalize ex : s % w = x at *
  generalize ey : s / w = y at *
  show _ < (w - 1) * hh + w * (hh - 1) ∧ u < w * hh ∧ _
  match k, hk, h with
  | 0, _, h =>
    have h : (if 0 < s / w then some (s - w) else none) = some u := h
    rw [ey] at h
    split at h
    · rename_i h0
      injection h with h
      obtain ⟨z, rfl⟩ : ∃ z, y = z + 1 := ⟨y - 1, by omega⟩
      have e1 : (z + 1) * w = z * w + w := Nat.succ_mul _ _
      have eu : u = z * w + x := by omega
      have hq := place_lt (M := w) (n := hh - 1) (i := z) (j := x) (by omega) hx
      have e2 : (Garden.mk w hh hg).sideOf s 0 = (w - 1) * hh + (z * w + x) := by
        show (w - 1) * hh + ((s / w - 1) * w + s % w) = _
        rw [ey, ex, Nat.add_sub_cancel]
      rw [e2]
      refine ⟨by rw [Nat.mul_comm w]; omega, by rw [eu]; exact sq_lt hx (by omega), by omega, Or.inr ?_⟩
      show (if _ < (w - 1) * hh then _ else _) = _
      rw [if_neg (by omega)]
      show (_ - (w - 1) * hh, _ - (w - 1) * hh + w) = _
      rw [show (w - 1) * hh + (z * w + x) - (w - 1) * hh = z * w + x by omega]
      congr 1 <;> omega
    · cases h
  | 1, _, h =>
    have h : (if s % w + 1 < w then some (s + 1) else none) = some u := h
    rw [ex] at h
    split at h
    · rename_i h0
      injection h with h
      have e2 : (Garden.mk w hh hg).sideOf s 1 = y * (w - 1) + x := by
        show s / w * (w - 1) + s % w = _
        rw [ey, ex]
      have hq := place_lt (M := w - 1) (n := hh) (i := y) (j := x) hy (by omega)
      have hq' : y * (w - 1) + x < (w - 1) * hh := by rw [Nat.mul_comm (w - 1)]; exact hq
      have d := dm (M := w - 1) (i := y) (j := x) (by omega)
      rw [e2]
      refine ⟨by omega, by rw [← h, ← es, Nat.add_assoc]; exact sq_lt h0 hy, by omega, Or.inl ?_⟩
      show (if _ < (w - 1) * hh then ((y * (w - 1) + x) / (w - 1) * w + (y * (w - 1) + x) % (w - 1), (y * (w - 1) + x) / (w - 1) * w + (y * (w - 1) + x) % (w - 1) + 1) else _) = _
      rw [if_pos hq', d.1, d.2, es, h]
    · cases h
  | 2, _, h =>
    have h : (if s / w + 1 < hh then some (s + w) else none) = some u := h
    rw [ey] at h
    split at h
    · rename_i h0
      injection h with h
      have e1 : (y + 1) * w = y * w + w := Nat.succ_mul _ _
      have hq := place_lt (M := w) (n := hh - 1) (i := y) (j := x) (by omega) hx
      have e2 : (Garden.mk w hh hg).sideOf s 2 = (w - 1) * hh + (y * w + x) := by
        show (w - 1) * hh + (s / w * w + s % w) = _
        rw [ey, ex]
      rw [e2]
      refine ⟨by rw [Nat.mul_comm w]; omega, by rw [show u = (y + 1) * w + x by omega]; exact sq_lt hx h0, by omega, Or.inl ?_⟩
      show (if _ < (w - 1) * hh then _ else _) = _
      rw [if_neg (by omega)]
      show (_ - (w - 1) * hh, _ - (w - 1) * hh + w) = _
      rw [show (w - 1) * hh + (y * w + x) - (w - 1) * hh = y * w + x by omega]
      congr 1 <;> omega
    · cases h
  | 3, _, h =>
    have h : (if 0 < s % w then some (s - 1) else none) = some u := h
    rw [ex] at h
    split at h
    · rename_i h0
      injection h with h
      obtain ⟨z, rfl⟩ : ∃ z, x = z + 1 := ⟨x - 1, by omega⟩
      have e2 : (Garden.mk w hh hg).sideOf s 3 = y * (w - 1) + z := by
        show s / w * (w - 1) + (s % w - 1) = _
        rw [ey, ex, Nat.add_sub_cancel]
      have hq := place_lt (M := w - 1) (n := hh) (i := y) (j := z) hy (by omega)
      have hq' : y * (w - 1) + z < (w - 1) * hh := by rw [Nat.mul_comm (w - 1)]; exact hq
      have d := dm (M := w - 1) (i := y) (j := z) (by omega)
      rw [e2]
      refine ⟨by omega, by rw [show u = y * w + z by omega]; exact sq_lt (by omega) hy, by omega, Or.inr ?_⟩
      show (if _ < (w - 1) * hh then ((y * (w - 1) + z) / (w - 1) * w + (y * (w - 1) + z) % (w - 1), (y * (w - 1) + z) / (w - 1) * w + (y * (w - 1) + z) % (w - 1) + 1) else _) = _
      rw [if_pos hq', d.1, d.2]
      congr 1 <;> omega
    · cases h

theorem sheet_side {l : List Nat} {q : Nat} (hq : q < D.count) : (Plan.sheet ⟨D, l⟩).sides.getD q 0 = if follows l (D.squaresAt q).1 (D.squaresAt q).2 = true then 2 else if D.hedge q = true then 1 else 0 := by
  show ((List.range D.count).map _).getD q 0 = _
  rw [List.getD_eq_getElem?_getD, List.getElem?_map, List.getElem?_range hq]
  rfl

theorem side_two {l : List Nat} (hw : 1 ≤ D.wide) {s k u : Nat} (hs : s < D.squares) (hk : k < 4) (h : D.beyond s k = some u) : ((Plan.sheet ⟨D, l⟩).sides.getD (D.sideOf s k) 0 == 2) = true ↔ follows l s u = true := by
  obtain ⟨h1, _, _, h2⟩ := beyond_side hw hs hk h
  rw [sheet_side h1]
  have e : follows l (D.squaresAt (D.sideOf s k)).1 (D.squaresAt (D.sideOf s k)).2 = true ↔ follows l s u = true := by
    rcases h2 with e | e
    · rw [e]
    · rw [e]; exact follows_comm l u s
  by_cases hf : follows l s u = true
  · rw [if_pos (e.mpr hf)]; simp [hf]
  · rw [if_neg (fun z => hf (e.mp z))]
    split <;> simp [hf]
end

/-! ### a plan's sheet shows that plan, and no other -/
theorem outs_beyond {D : Garden} {s u : Nat} (h : (D.outs s).contains u = true) : ∃ k, k < 4 ∧ D.beyond s k = some u ∧ D.hedge (D.sideOf s k) = false := by
  have key : ∀ k, D.goes s k = some u → D.beyond s k = some u ∧ D.hedge (D.sideOf s k) = false := by
    intro k e
    unfold Garden.goes at e
    cases hb : D.beyond s k with
    | none => rw [hb] at e; cases e
    | some t =>
      rw [hb] at e
      have e : (if D.hedge (D.sideOf s k) = true then none else some t) = some u := e
      split at e
      · cases e
      · rename_i hh
        injection e with e
        exact ⟨by rw [e], by simpa using hh⟩
  rcases (outs_any D s u).mp h with e | e | e | e
  · exact ⟨0, by decide, key 0 e⟩
  · exact ⟨1, by decide, key 1 e⟩
  · exact ⟨2, by decide, key 2 e⟩
  · exact ⟨3, by decide, key 3 e⟩

theorem isWay_ix {D : Garden} : ∀ {l : List Nat}, D.isWay l = true → (∀ s ∈ l, s < D.squares) ∧ ∀ i s u, l[i]? = some s → l[i + 1]? = some u → (D.outs s).contains u = true
  | [], h => by cases h
  | [s], h => by
    have h : decide (s < D.squares) = true := h
    refine ⟨fun v hv => ?_, fun i a b h1 h2 => ?_⟩
    · rw [List.mem_singleton.mp hv]; simpa using h
    · simp at h2
  | s :: u :: l, h => by
    have h : (decide (s < D.squares) && ((D.outs s).contains u && D.isWay (u :: l))) = true := h
    rw [Bool.and_eq_true, Bool.and_eq_true, decide_eq_true_eq] at h
    obtain ⟨i1, i2⟩ := isWay_ix h.2.2
    refine ⟨fun v hv => ?_, fun i a b h1 h2 => ?_⟩
    · rcases List.mem_cons.mp hv with rfl | hv
      · exact h.1
      · exact i1 v hv
    · cases i with
      | zero =>
        simp at h1 h2
        subst h1 h2
        exact h.2.1
      | succ i => exact i2 i a b (by simpa using h1) (by simpa using h2)

structure Right (D : Garden) (l : List Nat) : Prop where
  two : 2 ≤ l.length
  inn : ∀ s ∈ l, s < D.squares
  nd : l.Nodup
  step : ∀ i s u, l[i]? = some s → l[i + 1]? = some u → (D.outs s).contains u = true

theorem right_of {D : Garden} {l : List Nat} (h : Plan.right ⟨D, l⟩ = true) : Right D l := by
  have h : (D.isWay l && (decide l.Nodup && decide (2 ≤ l.length))) = true := h
  rw [Bool.and_eq_true, Bool.and_eq_true, decide_eq_true_eq, decide_eq_true_eq] at h
  obtain ⟨i1, i2⟩ := isWay_ix h.1
  exact ⟨h.2.2, i1, h.2.1, i2⟩

theorem along_eq {D : Garden} {l : List Nat} (hw : 1 ≤ D.wide) (R : Right D l) : ∀ (n i came s : Nat), l[i]? = some s → l.length ≤ n + i → (i = 0 → D.squares ≤ came) → (0 < i → l[i - 1]? = some came) →
    (Plan.sheet ⟨D, l⟩).along n came s = l.drop i
  | 0, i, came, s, hi, hn, _, _ => by
    have := (List.getElem?_eq_some_iff.mp hi).1
    omega
  | n + 1, i, came, s, hi, hn, h0, h1 => by
    obtain ⟨hil, hie⟩ := List.getElem?_eq_some_iff.mp hi
    have hs : s < D.squares := R.inn s (List.mem_of_getElem? hi)
    rw [List.drop_eq_getElem_cons hil, hie]
    unfold Sheet.along
    congr 1
    have hgb : ∀ k, (Plan.sheet ⟨D, l⟩).garden.beyond s k = D.beyond s k := fun k => rfl
    have hgs : ∀ k, (Plan.sheet ⟨D, l⟩).garden.sideOf s k = D.sideOf s k := fun k => rfl
    -- who may be taken
    have only : ∀ k, k < 4 → (match D.beyond s k with
        | some t => t != came && (Plan.sheet ⟨D, l⟩).sides.getD (D.sideOf s k) 0 == 2
        | none => false) = true → ∃ t, D.beyond s k = some t ∧ l[i + 1]? = some t := by
      intro k hk h
      cases hb : D.beyond s k with
      | none => rw [hb] at h; cases h
      | some t =>
        rw [hb] at h
        have h : (t != came && (Plan.sheet ⟨D, l⟩).sides.getD (D.sideOf s k) 0 == 2) = true := h
        rw [Bool.and_eq_true] at h
        refine ⟨t, rfl, ?_⟩
        rcases (follows_at R.nd hi).mp ((side_two hw hs hk hb).mp h.2) with e | ⟨p, e⟩
        · exact e
        · rw [h1 p] at e
          injection e with e
          rw [e] at h
          simp at h
    have hfind : ∀ f : Option Nat, f = (List.range 4).find? (fun (k : Nat) => match (Plan.sheet ⟨D, l⟩).garden.beyond s k with
        | some t => t != came && (Plan.sheet ⟨D, l⟩).sides.getD ((Plan.sheet ⟨D, l⟩).garden.sideOf s k) 0 == 2
        | none => false) → (match f with
        | none => []
        | some k => (Plan.sheet ⟨D, l⟩).along n s (((Plan.sheet ⟨D, l⟩).garden.beyond s k).getD s)) = l.drop (i + 1) := by
      intro f hf
      cases f with
      | none =>
        cases hu : l[i + 1]? with
        | none => exact (List.drop_eq_nil_of_le (List.getElem?_eq_none_iff.mp hu)).symm
        | some u =>
          exfalso
          obtain ⟨k, hk, hb, _⟩ := outs_beyond (R.step i s u hi hu)
          have := List.find?_eq_none.mp hf.symm k (List.mem_range.mpr hk)
          apply this
          rw [hgb, hb]
          show (u != came && (Plan.sheet ⟨D, l⟩).sides.getD (D.sideOf s k) 0 == 2) = true
          rw [Bool.and_eq_true]
          refine ⟨?_, (side_two hw hs hk hb).mpr ((follows_at R.nd hi).mpr (Or.inl hu))⟩
          rw [bne_iff_ne]
          rintro rfl
          by_cases hz : i = 0
          · have := h0 hz
            have := R.inn u (List.mem_of_getElem? hu)
            omega
          · have := nd_ix R.nd hu (h1 (by omega))
            omega
      | some k =>
        have hp := List.find?_some hf.symm
        have hk : k < 4 := List.mem_range.mp (List.mem_of_find?_eq_some hf.symm)
        obtain ⟨t, hb, ht⟩ := only k hk hp
        show (Plan.sheet ⟨D, l⟩).along n s ((D.beyond s k).getD s) = _
        rw [hb]
        exact along_eq hw R n (i + 1) s t ht (by omega) (fun z => by omega) (fun _ => by rw [Nat.add_sub_cancel]; exact hi)
    exact hfind _ rfl

theorem count_le {n : Nat} : ∀ {l : List Nat}, l.Nodup → (∀ s ∈ l, s < n) → l.length ≤ n := by
  induction n with
  | zero =>
    intro l _ h
    cases l with
    | nil => exact Nat.le_refl _
    | cons a r => exact absurd (h a (List.mem_cons_self ..)) (by omega)
  | succ n ih =>
    intro l hN h
    have h2 := ih (l := l.filter fun s => decide (s ≠ n)) (List.Pairwise.filter _ hN) (fun s hs => by
      have := List.mem_filter.mp hs
      have := h s this.1
      have h3 : s ≠ n := by simpa using (List.mem_filter.mp hs).2
      omega)
    have h3 : ∀ m : List Nat, m.Nodup → m.length ≤ (m.filter fun s => decide (s ≠ n)).length + 1 := by
      intro m
      induction m with
      | nil => intro _; simp
      | cons a r ihr =>
        intro hm
        obtain ⟨m1, m2⟩ := List.nodup_cons.mp hm
        by_cases ha : a = n
        · subst ha
          have e : (a :: r).filter (fun s => decide (s ≠ a)) = r := by
            rw [List.filter_cons, if_neg (by simp)]
            apply List.filter_eq_self.mpr
            intro s hs
            simp
            rintro rfl
            exact m1 hs
          rw [e]; simp
        · rw [List.filter_cons, if_pos (by simp [ha])]
          have := ihr m2
          simp only [List.length_cons]
          omega
    have := h3 l hN
    omega

theorem head_ix {l : List Nat} (h : 2 ≤ l.length) : l[0]? = some (l.headD 0) := by
  match l, h with
  | a :: _, _ => rfl

theorem inner_two {D : Garden} {l : List Nat} (h : l.headD 0 < D.squares) : (Plan.sheet ⟨D, l⟩).inner.findIdx? (fun (x : Nat) => x == 2) = some (l.headD 0) := by
  have e : (Plan.sheet ⟨D, l⟩).inner = (List.range D.squares).map fun (s : Nat) => if s = l.headD 0 then 2 else if s = l.getLastD 0 then 3 else if l.contains s = true then 1 else 0 := rfl
  rw [e, List.findIdx?_eq_some_iff_getElem]
  refine ⟨by rw [List.length_map, List.length_range]; exact h, ?_, ?_⟩
  · rw [List.getElem_map, List.getElem_range, if_pos rfl]; rfl
  · intro j hj
    rw [List.getElem_map, List.getElem_range, if_neg (by omega)]
    split
    · decide
    · split <;> decide

theorem hedges_eq {D : Garden} {l : List Nat} (hw : 1 ≤ D.wide) (hlen : D.hedges.length = D.count) (R : Right D l) : (Plan.sheet ⟨D, l⟩).garden = D := by
  obtain ⟨w, hh, hg⟩ := D
  unfold Sheet.garden
  show (⟨w, hh, ((List.range _).map _).map _⟩ : Garden) = _
  congr 1
  apply List.ext_getElem?
  intro q
  by_cases hq : q < (Garden.mk w hh hg).count
  · rw [List.getElem?_map, List.getElem?_map, List.getElem?_range hq]
    have hl : q < hg.length := by rw [show hg.length = (Garden.mk w hh hg).count from hlen]; exact hq
    rw [List.getElem?_eq_getElem hl]
    simp only [Option.map_some]
    congr 1
    have ehd : (Garden.mk w hh hg).hedge q = hg[q] := by
      show hg.getD q true = _
      rw [List.getD_eq_getElem?_getD, List.getElem?_eq_getElem hl]; rfl
    by_cases hf : follows l ((Garden.mk w hh hg).squaresAt q).1 ((Garden.mk w hh hg).squaresAt q).2 = true
    · rw [if_pos hf]
      -- a step's side is a passage
      obtain ⟨p, hp, hpq⟩ := (follows_iff l _ _).mp hf
      obtain ⟨i, e1, e2⟩ := steps_ix.mp hp
      obtain ⟨k, hk, hb, hn⟩ := outs_beyond (R.step i _ _ e1 e2)
      have hs := R.inn p.1 (List.mem_of_getElem? e1)
      obtain ⟨b1, b2, b3, b4⟩ := beyond_side hw hs hk hb
      have inj : ∀ q q', q < (Garden.mk w hh hg).count → q' < (Garden.mk w hh hg).count → ((Garden.mk w hh hg).squaresAt q = (Garden.mk w hh hg).squaresAt q' ∨ ((Garden.mk w hh hg).squaresAt q).1 = ((Garden.mk w hh hg).squaresAt q').2 ∧ ((Garden.mk w hh hg).squaresAt q).2 = ((Garden.mk w hh hg).squaresAt q').1) → q = q' := by
        intro q q' h1 h2
        have hw : 1 ≤ w := hw
        have h1 : q < (w - 1) * hh + w * (hh - 1) := h1
        have h2 : q' < (w - 1) * hh + w * (hh - 1) := h2
        unfold Garden.squaresAt
        show ((if q < (w - 1) * hh then (q / (w - 1) * w + q % (w - 1), q / (w - 1) * w + q % (w - 1) + 1) else (q - (w - 1) * hh, q - (w - 1) * hh + w)) = (if q' < (w - 1) * hh then (q' / (w - 1) * w + q' % (w - 1), q' / (w - 1) * w + q' % (w - 1) + 1) else (q' - (w - 1) * hh, q' - (w - 1) * hh + w)) ∨
          (if q < (w - 1) * hh then (q / (w - 1) * w + q % (w - 1), q / (w - 1) * w + q % (w - 1) + 1) else (q - (w - 1) * hh, q - (w - 1) * hh + w)).1 = (if q' < (w - 1) * hh then (q' / (w - 1) * w + q' % (w - 1), q' / (w - 1) * w + q' % (w - 1) + 1) else (q' - (w - 1) * hh, q' - (w - 1) * hh + w)).2 ∧
          (if q < (w - 1) * hh then (q / (w - 1) * w + q % (w - 1), q / (w - 1) * w + q % (w - 1) + 1) else (q - (w - 1) * hh, q - (w - 1) * hh + w)).2 = (if q' < (w - 1) * hh then (q' / (w - 1) * w + q' % (w - 1), q' / (w - 1) * w + q' % (w - 1) + 1) else (q' - (w - 1) * hh, q' - (w - 1) * hh + w)).1) → q = q'
        by_cases c1 : q < (w - 1) * hh
        · rw [if_pos c1]
          have hw2 : 0 < w - 1 := by
            rcases Nat.eq_zero_or_pos (w - 1) with z | z
            · rw [z] at c1; omega
            · exact z
          have d1 := dm_at q (w - 1)
          have m1 := Nat.mod_lt q hw2
          by_cases c2 : q' < (w - 1) * hh
          · rw [if_pos c2]
            have d2 := dm_at q' (w - 1)
            have m2 := Nat.mod_lt q' hw2
            generalize q / (w - 1) = a at *
            generalize q % (w - 1) = b at *
            generalize q' / (w - 1) = a' at *
            generalize q' % (w - 1) = b' at *
            rintro (e | ⟨e, e'⟩)
            · injection e with e _
              rw [sq_eq (w := w) (by omega) (by omega)] at e
              obtain ⟨rfl, rfl⟩ := e
              omega
            · have e : a * w + b = a' * w + b' + 1 := e
              have e' : a * w + b + 1 = a' * w + b' := e'
              omega
          · rw [if_neg c2]
            generalize q / (w - 1) * w + q % (w - 1) = a at *
            generalize q' - (w - 1) * hh = b at *
            rintro (e | ⟨e, e'⟩)
            · injection e with e e'
              omega
            · have e : a = b + w := e
              have e' : a + 1 = b := e'
              omega
        · rw [if_neg c1]
          by_cases c2 : q' < (w - 1) * hh
          · rw [if_pos c2]
            have hw2 : 0 < w - 1 := by
              rcases Nat.eq_zero_or_pos (w - 1) with z | z
              · rw [z] at c2; omega
              · exact z
            generalize q' / (w - 1) * w + q' % (w - 1) = a at *
            generalize q - (w - 1) * hh = b at *
            rintro (e | ⟨e, e'⟩)
            · injection e with e e'
              omega
            · have e : b = a + 1 := e
              have e' : b + w = a := e'
              omega
          · rw [if_neg c2]
            rintro (e | ⟨e, e'⟩)
            · injection e with e _
              omega
            · have e : q - (w - 1) * hh = q' - (w - 1) * hh + w := e
              have e' : q - (w - 1) * hh + w = q' - (w - 1) * hh := e'
              omega
      have eq : q = (Garden.mk w hh hg).sideOf p.1 k := by
        refine inj _ _ hq b1 ?_
        rcases hpq with ⟨e1, e2⟩ | ⟨e1, e2⟩ <;> rcases b4 with b4 | b4 <;> rw [b4]
        · exact Or.inl (Prod.ext e1.symm e2.symm)
        · exact Or.inr ⟨e1.symm, e2.symm⟩
        · exact Or.inr ⟨e2.symm, e1.symm⟩
        · exact Or.inl (Prod.ext e2.symm e1.symm)
      rw [← eq, ehd] at hn
      rw [hn]; rfl
    · rw [if_neg hf, ehd]
      cases hg[q] <;> rfl
  · rw [List.getElem?_eq_none (by rw [List.length_map, List.length_map, List.length_range]; exact Nat.le_of_not_lt hq), List.getElem?_eq_none (by rw [show hg.length = (Garden.mk w hh hg).count from hlen]; omega)]

/-- what a sheet shows: the plan whose sheet it is, and no other -/
theorem plan_of {D : Garden} {l : List Nat} (hw : 1 ≤ D.wide) (hlen : D.hedges.length = D.count) (h : Plan.right ⟨D, l⟩ = true) : (Plan.sheet ⟨D, l⟩).plan = some ⟨D, l⟩ := by
  have R := right_of h
  have h0 := head_ix R.two
  have hin : l.headD 0 < D.squares := R.inn _ (List.mem_of_getElem? h0)
  have ea : (Plan.sheet ⟨D, l⟩).along (D.wide * D.high) (D.wide * D.high) (l.headD 0) = l := by
    have := along_eq hw R (D.wide * D.high) 0 (D.wide * D.high) (l.headD 0) h0 (count_le R.nd R.inn) (fun _ => Nat.le_refl _) (fun z => absurd z (by omega))
    rw [this]; rfl
  unfold Sheet.plan
  rw [inner_two hin]
  show (if Plan.right ⟨(Plan.sheet ⟨D, l⟩).garden, (Plan.sheet ⟨D, l⟩).along (D.wide * D.high) (D.wide * D.high) (l.headD 0)⟩ = true ∧ Plan.sheet ⟨(Plan.sheet ⟨D, l⟩).garden, (Plan.sheet ⟨D, l⟩).along (D.wide * D.high) (D.wide * D.high) (l.headD 0)⟩ = Plan.sheet ⟨D, l⟩ then some (⟨(Plan.sheet ⟨D, l⟩).garden, (Plan.sheet ⟨D, l⟩).along (D.wide * D.high) (D.wide * D.high) (l.headD 0)⟩ : Plan) else none) = _
  rw [ea, hedges_eq hw hlen R, if_pos ⟨h, rfl⟩]

theorem of_plan {z : Sheet} {p : Plan} (h : z.plan = some p) : p.right = true ∧ p.sheet = z ∧ p.garden = z.garden := by
  unfold Sheet.plan at h
  split at h
  · cases h
  · dsimp only at h
    split at h
    · rename_i hc
      injection h with h
      rw [← h]
      exact ⟨hc.1, hc.2, rfl⟩
    · cases h
end Gt

end
section
set_option linter.all false
set_option maxHeartbeats 2000000
namespace Gt
open Maze Gm

/-! ### how far -/
section
variable {D : Garden}

/-- so many steps from s to t -/
def Walk (D : Garden) (s : Nat) : Nat → Nat → Prop
  | 0, t => t = s
  | n + 1, t => ∃ u, Walk D s n u ∧ t ∈ D.outs u
/-- the fewest steps -/
def Dist (D : Garden) (s n t : Nat) : Prop := Walk D s n t ∧ ∀ k, k < n → ¬ Walk D s k t

theorem outs_lt (hw : 1 ≤ D.wide) {s u : Nat} (hs : s < D.squares) (h : u ∈ D.outs s) : u < D.squares := by
  obtain ⟨k, hk, hb, _⟩ := outs_beyond (List.contains_iff_mem.mpr h)
  exact (beyond_side hw hs hk hb).2.1
theorem walk_lt (hw : 1 ≤ D.wide) {s : Nat} (hs : s < D.squares) : ∀ {n t : Nat}, Walk D s n t → t < D.squares
  | 0, t, h => by rw [show t = s from h]; exact hs
  | n + 1, t, ⟨u, h1, h2⟩ => outs_lt hw (walk_lt hw hs h1) h2

theorem dist_unique {s n m t : Nat} (h1 : Dist D s n t) (h2 : Dist D s m t) : n = m := by
  rcases Nat.lt_trichotomy n m with h | h | h
  · exact absurd h1.1 (h2.2 n h)
  · exact h
  · exact absurd h2.1 (h1.2 m h)
theorem dist_of_walk {s : Nat} : ∀ {n t : Nat}, Walk D s n t → ∃ m, m ≤ n ∧ Dist D s m t := by
  intro n
  induction n using Nat.strongRecOn with
  | ind n ih =>
    intro t h
    by_cases hk : ∃ k, k < n ∧ Walk D s k t
    · obtain ⟨k, hk, hw⟩ := hk
      obtain ⟨m, hm, hd⟩ := ih k hk hw
      exact ⟨m, by omega, hd⟩
    · exact ⟨n, Nat.le_refl _, h, fun k h1 h2 => hk ⟨k, h1, h2⟩⟩
/-- the square before, on a shortest way -/
theorem dist_pred {s n t : Nat} (h : Dist D s (n + 1) t) : ∃ u, Dist D s n u ∧ t ∈ D.outs u := by
  obtain ⟨⟨u, h1, h2⟩, h3⟩ := h
  refine ⟨u, ⟨h1, fun k hk hw => h3 (k + 1) (by omega) ⟨u, hw, h2⟩⟩, h2⟩
theorem dist_all {s : Nat} : ∀ {n t : Nat}, Dist D s n t → ∀ k, k ≤ n → ∃ u, Dist D s k u
  | 0, t, h, k, hk => by
    have : k = 0 := by omega
    subst this
    exact ⟨t, h⟩
  | n + 1, t, h, k, hk => by
    by_cases e : k = n + 1
    · subst e; exact ⟨t, h⟩
    · obtain ⟨u, hu, _⟩ := dist_pred h
      exact dist_all hu k (by omega)
theorem dist_lt (hw : 1 ≤ D.wide) {s n t : Nat} (hs : s < D.squares) (h : Dist D s n t) : n < D.squares := by
  -- squares that are 0, 1, .., n far, all of them different
  have key : ∀ m, m ≤ n + 1 → ∃ l : List Nat, l.length = m ∧ l.Nodup ∧ (∀ u ∈ l, u < D.squares) ∧ ∀ u ∈ l, ∃ k, k < m ∧ Dist D s k u := by
    intro m
    induction m with
    | zero => intro _; exact ⟨[], rfl, List.nodup_nil, (fun _ h => by cases h), (fun _ h => by cases h)⟩
    | succ m ih =>
      intro hm
      obtain ⟨l, h1, h2, h3, h4⟩ := ih (by omega)
      obtain ⟨u, hu⟩ := dist_all h m (by omega)
      refine ⟨u :: l, by rw [List.length_cons, h1], List.nodup_cons.mpr ⟨fun hm => ?_, h2⟩, fun v hv => ?_, fun v hv => ?_⟩
      · obtain ⟨k, hk, hd⟩ := h4 u hm
        have := dist_unique hd hu
        omega
      · rcases List.mem_cons.mp hv with rfl | hv
        · exact walk_lt hw hs hu.1
        · exact h3 v hv
      · rcases List.mem_cons.mp hv with rfl | hv
        · exact ⟨m, by omega, hu⟩
        · obtain ⟨k, hk, hd⟩ := h4 v hv
          exact ⟨k, by omega, hd⟩
  obtain ⟨l, h1, h2, h3, _⟩ := key (n + 1) (Nat.le_refl _)
  have := count_le h2 h3
  omega

theorem wave_fold (d : Nat) : ∀ (L : List Nat) (x : List Nat × List (Option Nat)), (∀ t ∈ L, t < x.2.length) →
    (L.foldl (D.wave d) x).2.length = x.2.length ∧
    (∀ t, (L.foldl (D.wave d) x).2.getD t none = if (x.2.getD t none).isSome = true then x.2.getD t none else if t ∈ L then some d else none) ∧
    (∀ t, t ∈ (L.foldl (D.wave d) x).1 ↔ t ∈ x.1 ∨ (t ∈ L ∧ (x.2.getD t none).isSome = false))
  | [], x, _ => by
    refine ⟨rfl, fun t => ?_, fun t => ?_⟩
    · simp only [List.foldl_nil, List.not_mem_nil, if_false]
      cases x.2.getD t none <;> rfl
    · simp
  | a :: L, x, hL => by
    rw [List.foldl_cons]
    have ha : a < x.2.length := hL a (List.mem_cons_self ..)
    by_cases h : (x.2.getD a none).isSome = true
    · have e : D.wave d x a = x := by unfold Garden.wave; rw [if_pos h]
      rw [e]
      obtain ⟨i1, i2, i3⟩ := wave_fold d L x (fun t ht => hL t (List.mem_cons_of_mem _ ht))
      refine ⟨i1, fun t => ?_, fun t => ?_⟩
      · rw [i2]
        by_cases h1 : (x.2.getD t none).isSome = true
        · rw [if_pos h1, if_pos h1]
        · rw [if_neg h1, if_neg h1]
          have : t ≠ a := by rintro rfl; exact h1 h
          simp only [List.mem_cons, this, false_or]
      · rw [i3, List.mem_cons]
        constructor
        · rintro (h1 | ⟨h1, h2⟩)
          · exact Or.inl h1
          · exact Or.inr ⟨Or.inr h1, h2⟩
        · rintro (h1 | ⟨h1 | h1, h2⟩)
          · exact Or.inl h1
          · rw [h1, h] at h2; cases h2
          · exact Or.inr ⟨h1, h2⟩
    · have e : D.wave d x a = (a :: x.1, x.2.set a (some d)) := by unfold Garden.wave; rw [if_neg h]
      rw [e]
      obtain ⟨i1, i2, i3⟩ := wave_fold d L (a :: x.1, x.2.set a (some d)) (fun t ht => by rw [List.length_set]; exact hL t (List.mem_cons_of_mem _ ht))
      have g : ∀ t, (x.2.set a (some d)).getD t none = if t = a then some d else x.2.getD t none := by
        intro t
        rw [List.getD_eq_getElem?_getD, List.getD_eq_getElem?_getD]
        by_cases ht : t = a
        · subst ht; rw [List.getElem?_set_self ha, if_pos rfl]; rfl
        · rw [List.getElem?_set_ne (fun z => ht z.symm), if_neg ht]
      have hn : (x.2.getD a none).isSome = false := by simpa using h
      refine ⟨by rw [i1, List.length_set], fun t => ?_, fun t => ?_⟩
      · rw [i2]
        show (if ((x.2.set a (some d)).getD t none).isSome = true then (x.2.set a (some d)).getD t none else if t ∈ L then some d else none) = _
        rw [g]
        by_cases ht : t = a
        · subst ht
          rw [if_pos rfl, if_neg h, if_pos (List.mem_cons_self ..)]
          rfl
        · rw [if_neg ht]
          simp only [List.mem_cons, ht, false_or]
      · rw [i3]
        show t ∈ a :: x.1 ∨ t ∈ L ∧ ((x.2.set a (some d)).getD t none).isSome = false ↔ _
        rw [g, List.mem_cons, List.mem_cons]
        by_cases ht : t = a
        · subst ht
          exact ⟨fun _ => Or.inr ⟨Or.inl rfl, hn⟩, fun _ => Or.inl (Or.inl rfl)⟩
        · rw [if_neg ht]
          simp only [ht, false_or]

theorem waves_at (hw : 1 ≤ D.wide) {s : Nat} (hs : s < D.squares) : ∀ (f d : Nat) (front : List Nat) (m : List (Option Nat)), m.length = D.squares →
    (∀ t n, m.getD t none = some n ↔ Dist D s n t ∧ n ≤ d) → (∀ t, t ∈ front ↔ Dist D s d t) →
    (D.waves f d front m).length = D.squares ∧ ∀ t n, (D.waves f d front m).getD t none = some n ↔ Dist D s n t ∧ n ≤ d + f
  | 0, d, front, m, hl, hm, _ => ⟨hl, hm⟩
  | f + 1, d, front, m, hl, hm, hf => by
    unfold Garden.waves
    by_cases he : front = []
    · rw [if_pos he]
      refine ⟨hl, fun t n => ?_⟩
      rw [hm]
      constructor
      · rintro ⟨h1, h2⟩; exact ⟨h1, by omega⟩
      · rintro ⟨h1, h2⟩
        refine ⟨h1, ?_⟩
        rcases Nat.lt_or_ge d n with h | h
        · obtain ⟨u, hu⟩ := dist_all h1 d (by omega)
          have := (hf u).mpr hu
          rw [he] at this; cases this
        · exact h
    · rw [if_neg he]
      have hL : ∀ t ∈ front.flatMap D.outs, t < m.length := by
        intro t ht
        obtain ⟨u, hu, hx⟩ := List.mem_flatMap.mp ht
        rw [hl]
        exact outs_lt hw (walk_lt hw hs ((hf u).mp hu).1) hx
      obtain ⟨w1, w2, w3⟩ := wave_fold (D := D) (d + 1) (front.flatMap D.outs) ([], m) hL
      have memL : ∀ t, t ∈ front.flatMap D.outs ↔ ∃ u, Dist D s d u ∧ t ∈ D.outs u := by
        intro t
        rw [List.mem_flatMap]
        constructor
        · rintro ⟨u, hu, hx⟩; exact ⟨u, (hf u).mp hu, hx⟩
        · rintro ⟨u, hu, hx⟩; exact ⟨u, (hf u).mpr hu, hx⟩
      -- who comes new
      have new : ∀ t, (t ∈ front.flatMap D.outs ∧ (m.getD t none).isSome = false) ↔ Dist D s (d + 1) t := by
        intro t
        rw [memL]
        constructor
        · rintro ⟨⟨u, hu, hx⟩, hn⟩
          refine ⟨⟨u, hu.1, hx⟩, fun k hk hk2 => ?_⟩
          obtain ⟨m', hm', hd⟩ := dist_of_walk hk2
          have := (hm t m').mpr ⟨hd, by omega⟩
          rw [this] at hn; cases hn
        · intro h
          obtain ⟨u, hu, hx⟩ := dist_pred h
          refine ⟨⟨u, hu, hx⟩, ?_⟩
          cases e : m.getD t none with
          | none => rfl
          | some n =>
            obtain ⟨h1, h2⟩ := (hm t n).mp e
            have := dist_unique h1 h
            omega
      have step := waves_at hw hs f (d + 1) ((front.flatMap D.outs).foldl (D.wave (d + 1)) ([], m)).1 ((front.flatMap D.outs).foldl (D.wave (d + 1)) ([], m)).2 (w1.trans hl) (fun t n => by
        rw [w2]
        show (if (m.getD t none).isSome = true then m.getD t none else if t ∈ front.flatMap D.outs then some (d + 1) else none) = some n ↔ _
        by_cases h1 : (m.getD t none).isSome = true
        · rw [if_pos h1, hm]
          constructor
          · rintro ⟨h2, h3⟩; exact ⟨h2, by omega⟩
          · rintro ⟨h2, h3⟩
            refine ⟨h2, ?_⟩
            cases e : m.getD t none with
            | none => rw [e] at h1; cases h1
            | some k =>
              obtain ⟨h4, h5⟩ := (hm t k).mp e
              have := dist_unique h2 h4
              omega
        · have h1 : (m.getD t none).isSome = false := by simpa using h1
          rw [if_neg (by rw [h1]; decide)]
          by_cases h2 : t ∈ front.flatMap D.outs
          · rw [if_pos h2]
            have hd := (new t).mp ⟨h2, h1⟩
            constructor
            · intro e; injection e with e; subst e; exact ⟨hd, Nat.le_refl _⟩
            · rintro ⟨h3, _⟩; rw [dist_unique h3 hd]
          · rw [if_neg h2]
            constructor
            · intro e; cases e
            · rintro ⟨h3, h4⟩
              exfalso
              rcases Nat.lt_or_ge d n with h | h
              · have : n = d + 1 := by omega
                subst this
                exact h2 ((new t).mpr h3).1
              · rw [(hm t n).mpr ⟨h3, h⟩] at h1; cases h1) (fun t => by
        rw [w3]
        show t ∈ [] ∨ _ ↔ _
        rw [new t]
        simp)
      refine ⟨step.1, fun t n => ?_⟩
      have := step.2 t n
      rw [show d + (f + 1) = d + 1 + f by omega]
      exact this

theorem fars_at (hw : 1 ≤ D.wide) {s : Nat} (hs : s < D.squares) (t n : Nat) : (D.fars s).getD t none = some n ↔ Dist D s n t := by
  have hl : ((List.replicate D.squares none).set s (some 0) : List (Option Nat)).length = D.squares := by rw [List.length_set, List.length_replicate]
  have d0 : ∀ t, Dist D s 0 t ↔ t = s := fun t => ⟨fun h => h.1, fun h => ⟨h, fun k hk => absurd hk (by omega)⟩⟩
  have h := (waves_at hw hs D.squares 0 [s] _ hl (fun t n => by
    rw [List.getD_eq_getElem?_getD]
    by_cases ht : t = s
    · subst ht
      rw [List.getElem?_set_self (by rw [List.length_replicate]; exact hs)]
      constructor
      · intro e; injection e with e; subst e; exact ⟨(d0 t).mpr rfl, Nat.le_refl _⟩
      · rintro ⟨h1, h2⟩
        have : n = 0 := by omega
        subst this; rfl
    · rw [List.getElem?_set_ne (fun z => ht z.symm)]
      constructor
      · intro e
        exfalso
        cases e2 : (List.replicate D.squares (none : Option Nat))[t]? with
        | none => rw [e2] at e; cases e
        | some v =>
          have := List.mem_of_getElem? e2
          rw [List.mem_replicate] at this
          rw [e2, this.2] at e; cases e
      · rintro ⟨h1, h2⟩
        have : n = 0 := by omega
        subst this
        exact absurd ((d0 t).mp h1) ht) (fun t => by rw [d0]; simp)).2 t n
  unfold Garden.fars
  rw [h]
  exact ⟨fun z => z.1, fun z => ⟨z, by have := dist_lt hw hs z; omega⟩⟩

theorem fars_len {s : Nat} : (D.fars s).length = D.squares := by
  have hl : ((List.replicate D.squares none).set s (some 0) : List (Option Nat)).length = D.squares := by rw [List.length_set, List.length_replicate]
  -- the length alone
  have key : ∀ (f d : Nat) (front : List Nat) (m : List (Option Nat)), (D.waves f d front m).length = m.length := by
    intro f
    induction f with
    | zero => intro d front m; rfl
    | succ f ih =>
      intro d front m
      unfold Garden.waves
      split
      · rfl
      · dsimp only
        rw [ih]
        have : ∀ (L : List Nat) (x : List Nat × List (Option Nat)), (L.foldl (D.wave (d + 1)) x).2.length = x.2.length := by
          intro L
          induction L with
          | nil => intro x; rfl
          | cons a L ihL =>
            intro x
            rw [List.foldl_cons, ihL]
            unfold Garden.wave
            split
            · rfl
            · exact List.length_set ..
        exact this _ _
  unfold Garden.fars
  rw [key, hl]

theorem far_at (hw : 1 ≤ D.wide) {s : Nat} (hs : s < D.squares) (t n : Nat) : D.far s t = some n ↔ Dist D s n t := fars_at hw hs t n
end
end Gt

end
section
set_option linter.all false
set_option maxHeartbeats 2000000
namespace Gt
open Maze Gm

section
variable {D : Garden}
/-- a garden as it's meant -/
structure Whole (D : Garden) : Prop where
  wlo : 1 ≤ D.wide
  hlo : 1 ≤ D.high
  len : D.hedges.length = D.count

/-- the squares at an inner side, by the sides of each -/
theorem side_squares (hw : 1 ≤ D.wide) {q : Nat} (hq : q < D.count) : (D.squaresAt q).1 < D.squares ∧ (D.squaresAt q).2 < D.squares ∧ (D.squaresAt q).1 < (D.squaresAt q).2 ∧
    (∃ k, k < 4 ∧ D.beyond (D.squaresAt q).1 k = some (D.squaresAt q).2 ∧ D.sideOf (D.squaresAt q).1 k = q) ∧
    (∃ k, k < 4 ∧ D.beyond (D.squaresAt q).2 k = some (D.squaresAt q).1 ∧ D.sideOf (D.squaresAt q).2 k = q) := by
  obtain ⟨w, hh, hg⟩ := D
  have hw : 1 ≤ w := hw
  have hq : q < (w - 1) * hh + w * (hh - 1) := hq
  by_cases c : q < (w - 1) * hh
  · have hw2 : 0 < w - 1 := by
      rcases Nat.eq_zero_or_pos (w - 1) with z | z
      · rw [z] at c; omega
      · exact z
    have e : (Garden.mk w hh hg).squaresAt q = (q / (w - 1) * w + q % (w - 1), q / (w - 1) * w + (q % (w - 1) + 1)) := by
      show (if q < (w - 1) * hh then _ else _) = _
      rw [if_pos c]; rfl
    rw [e]
    have hx : q % (w - 1) < w - 1 := Nat.mod_lt _ hw2
    have hy : q / (w - 1) < hh := (Nat.div_lt_iff_lt_mul hw2).mpr (by rw [Nat.mul_comm hh]; exact c)
    have hat := dm_at q (w - 1)
    generalize q % (w - 1) = x at *
    generalize q / (w - 1) = y at *
    have d1 := dm (M := w) (i := y) (j := x) (by omega)
    have d2 := dm (M := w) (i := y) (j := x + 1) (by omega)
    refine ⟨sq_lt (by omega) hy, sq_lt (by omega) hy, by show y * w + x < y * w + (x + 1); omega, ⟨1, by decide, ?_, ?_⟩, ⟨3, by decide, ?_, ?_⟩⟩
    · show (if (y * w + x) % w + 1 < w then some (y * w + x + 1) else none) = _
      rw [d1.2, if_pos (by omega)]; rfl
    · show (y * w + x) / w * (w - 1) + (y * w + x) % w = q
      rw [d1.1, d1.2, hat]
    · show (if 0 < (y * w + (x + 1)) % w then some (y * w + (x + 1) - 1) else none) = _
      rw [d2.2, if_pos (by omega)]; rfl
    · show (y * w + (x + 1)) / w * (w - 1) + ((y * w + (x + 1)) % w - 1) = q
      rw [d2.1, d2.2, Nat.add_sub_cancel, hat]
  · have e : (Garden.mk w hh hg).squaresAt q = (q - (w - 1) * hh, q - (w - 1) * hh + w) := by
      show (if q < (w - 1) * hh then _ else _) = _
      rw [if_neg c]; rfl
    rw [e]
    obtain ⟨r, hr⟩ : ∃ r, q = (w - 1) * hh + r := ⟨q - (w - 1) * hh, by omega⟩
    have er : q - (w - 1) * hh = r := by omega
    rw [er]
    have hr2 : r < w * (hh - 1) := by omega
    obtain ⟨hx, hy, hat⟩ := sq_parts hw hr2
    generalize r % w = x at *
    generalize r / w = y at *
    have d1 := dm (M := w) (i := y) (j := x) hx
    have d2 := dm (M := w) (i := y + 1) (j := x) hx
    have e1 : (y + 1) * w = y * w + w := Nat.succ_mul _ _
    subst hat
    have e3 : y * w + x + w = (y + 1) * w + x := by omega
    rw [e3]
    have b1 : y * w + x < w * hh := sq_lt hx (by omega)
    have b2 : (y + 1) * w + x < w * hh := sq_lt hx (by omega)
    refine ⟨b1, b2, by show y * w + x < (y + 1) * w + x; omega, ⟨2, by decide, ?_, ?_⟩, ⟨0, by decide, ?_, ?_⟩⟩
    · show (if (y * w + x) / w + 1 < hh then some (y * w + x + w) else none) = _
      rw [d1.1, if_pos (by omega), e3]
    · show (w - 1) * hh + ((y * w + x) / w * w + (y * w + x) % w) = q
      rw [d1.1, d1.2]; omega
    · show (if 0 < ((y + 1) * w + x) / w then some ((y + 1) * w + x - w) else none) = _
      rw [d2.1, if_pos (by omega)]
      show some _ = some (y * w + x)
      congr 1; omega
    · show (w - 1) * hh + ((((y + 1) * w + x) / w - 1) * w + ((y + 1) * w + x) % w) = q
      rw [d2.1, d2.2, Nat.add_sub_cancel]; omega

/-- two squares with a passage between -/
def Edge (D : Garden) (s u : Nat) : Prop := ∃ q, q < D.count ∧ D.hedge q = false ∧ (D.squaresAt q = (s, u) ∨ D.squaresAt q = (u, s))
theorem Edge.symm {s u : Nat} (h : Edge D s u) : Edge D u s := by
  obtain ⟨q, h1, h2, h3⟩ := h
  exact ⟨q, h1, h2, h3.symm⟩

theorem goes_of {s k u : Nat} (hb : D.beyond s k = some u) (hh : D.hedge (D.sideOf s k) = false) : D.goes s k = some u := by
  unfold Garden.goes
  rw [hb]
  show (if D.hedge (D.sideOf s k) = true then none else some u) = _
  rw [if_neg (by rw [hh]; decide)]
theorem mem_outs_of {s k u : Nat} (hk : k < 4) (h : D.goes s k = some u) : u ∈ D.outs s := by
  unfold Garden.outs
  exact List.mem_filterMap.mpr ⟨k, List.mem_range.mpr hk, h⟩

theorem outs_iff (hw : 1 ≤ D.wide) {s u : Nat} (hs : s < D.squares) : u ∈ D.outs s ↔ Edge D s u := by
  constructor
  · intro h
    obtain ⟨k, hk, hb, hh⟩ := outs_beyond (List.contains_iff_mem.mpr h)
    obtain ⟨h1, _, _, h2⟩ := beyond_side hw hs hk hb
    exact ⟨_, h1, hh, h2⟩
  · rintro ⟨q, h1, h2, h3⟩
    obtain ⟨_, _, _, ⟨k, hk, hb, hs1⟩, ⟨k', hk', hb', hs2⟩⟩ := side_squares hw h1
    rcases h3 with e | e
    · rw [e] at hb hs1
      exact mem_outs_of hk (goes_of hb (by rw [hs1]; exact h2))
    · rw [e] at hb' hs2
      exact mem_outs_of hk' (goes_of hb' (by rw [hs2]; exact h2))

theorem edge_lt (hw : 1 ≤ D.wide) {s u : Nat} (h : Edge D s u) : s < D.squares ∧ u < D.squares := by
  obtain ⟨q, h1, _, h3⟩ := h
  obtain ⟨a, b, _⟩ := side_squares hw h1
  rcases h3 with e | e <;> rw [e] at a b
  · exact ⟨a, b⟩
  · exact ⟨b, a⟩

/-! ### joined -/
inductive Conn (D : Garden) : Nat → Nat → Prop
  | refl (s : Nat) : Conn D s s
  | step {s u t : Nat} : Conn D s u → Edge D u t → Conn D s t
theorem Conn.trans {s u t : Nat} (h : Conn D s u) (k : Conn D u t) : Conn D s t := by
  induction k with
  | refl => exact h
  | step _ e ih => exact .step ih e
theorem Conn.one {s u : Nat} (h : Edge D s u) : Conn D s u := .step (.refl s) h
theorem Conn.symm {s u : Nat} (h : Conn D s u) : Conn D u s := by
  induction h with
  | refl => exact .refl _
  | step _ e ih => exact (Conn.one e.symm).trans ih
theorem conn_walk (hw : 1 ≤ D.wide) {s t : Nat} (hs : s < D.squares) : Conn D s t ↔ ∃ n, Walk D s n t := by
  constructor
  · intro h
    induction h with
    | refl => exact ⟨0, rfl⟩
    | step _ e ih =>
      obtain ⟨n, hn⟩ := ih
      exact ⟨n + 1, _, hn, (outs_iff hw (edge_lt hw e).1).mpr e⟩
  · rintro ⟨n, hn⟩
    induction n generalizing t with
    | zero => rw [show t = s from hn]; exact .refl s
    | succ n ih =>
      obtain ⟨u, h1, h2⟩ := hn
      exact .step (ih h1) ((outs_iff hw (walk_lt hw hs h1)).mp h2)
theorem far_some (hw : 1 ≤ D.wide) {s t : Nat} (hs : s < D.squares) : (D.far s t).isSome = true ↔ Conn D s t := by
  rw [conn_walk hw hs]
  constructor
  · intro h
    cases e : D.far s t with
    | none => rw [e] at h; cases h
    | some n => exact ⟨n, ((far_at hw hs t n).mp e).1⟩
  · rintro ⟨n, hn⟩
    obtain ⟨m, _, hd⟩ := dist_of_walk hn
    rw [(far_at hw hs t m).mpr hd]; rfl
theorem far_none (hw : 1 ≤ D.wide) {s t : Nat} (hs : s < D.squares) : (D.far s t).isNone = true ↔ ¬ Conn D s t := by
  rw [← far_some hw hs]
  cases D.far s t <;> simp

/-! ### a hedge planted or opened -/
theorem set_hedge {p q : Nat} {z : Bool} (hp : p < D.hedges.length) : (D.set p z).hedge q = if q = p then z else D.hedge q := by
  show (D.hedges.set p z).getD q true = _
  rw [List.getD_eq_getElem?_getD]
  by_cases h : q = p
  · subst h
    rw [List.getElem?_set_self hp, if_pos rfl]; rfl
  · rw [List.getElem?_set_ne (fun e => h e.symm), if_neg h]
    show _ = D.hedges.getD q true
    rw [List.getD_eq_getElem?_getD]
theorem set_whole {p : Nat} {z : Bool} (W : Whole D) : Whole (D.set p z) := ⟨W.wlo, W.hlo, by show (D.hedges.set p z).length = _; rw [List.length_set]; exact W.len⟩

/-! ### rooms -/
theorem mark_at {s : Nat} (x : List (Option Nat) × Nat) (hx : x.1.length = D.squares) (t : Nat) (ht : t < D.squares) :
    (((x.1.zip (D.fars s)).map fun (y : Option Nat × Option Nat) => if y.2.isSome = true then some x.2 else y.1)).getD t none = if (D.far s t).isSome = true then some x.2 else x.1.getD t none := by
  have hf := fars_len (D := D) (s := s)
  rw [List.getD_eq_getElem?_getD, List.getElem?_map]
  have e1 : x.1[t]? = some x.1[t] := List.getElem?_eq_getElem (by omega)
  have e2 : (D.fars s)[t]? = some (D.fars s)[t] := List.getElem?_eq_getElem (by omega)
  have e3 : (x.1.zip (D.fars s))[t]? = some (x.1[t], (D.fars s)[t]) := List.getElem?_zip_eq_some.mpr ⟨e1, e2⟩
  rw [e3]
  have e4 : D.far s t = (D.fars s)[t] := by
    show (D.fars s).getD t none = _
    rw [List.getD_eq_getElem?_getD, e2]; rfl
  have e5 : x.1.getD t none = x.1[t] := by rw [List.getD_eq_getElem?_getD, e1]; rfl
  rw [e4, e5]
  rfl

/-- the rooms marked so far: squares joined to one of the first k, each room by one number -/
structure Rooms (D : Garden) (k : Nat) (x : List (Option Nat) × Nat) : Prop where
  len : x.1.length = D.squares
  mark : ∀ t, t < D.squares → ((x.1.getD t none).isSome = true ↔ ∃ s, s < k ∧ Conn D s t)
  lt : ∀ t r, t < D.squares → x.1.getD t none = some r → r < x.2
  same : ∀ t u r, t < D.squares → u < D.squares → x.1.getD t none = some r → (x.1.getD u none = some r ↔ Conn D t u)
  hit : ∀ r, r < x.2 → ∃ t, t < k ∧ x.1.getD t none = some r

theorem rooms_fold (hw : 1 ≤ D.wide) : ∀ k, k ≤ D.squares → Rooms D k ((List.range k).foldl D.markRoom (List.replicate D.squares none, 0))
  | 0, _ => by
    have g : ∀ t, (List.replicate D.squares (none : Option Nat)).getD t none = none := by
      intro t
      rw [List.getD_eq_getElem?_getD]
      cases e : (List.replicate D.squares (none : Option Nat))[t]? with
      | none => rfl
      | some v =>
        have := List.mem_of_getElem? e
        rw [List.mem_replicate] at this
        rw [this.2]; rfl
    refine ⟨List.length_replicate, fun t ht => ?_, fun t r _ h => ?_, fun t u r _ _ h => ?_, fun r h => absurd h (Nat.not_lt_zero _)⟩
    · show ((List.replicate D.squares none).getD t none).isSome = true ↔ _
      rw [g]
      constructor
      · intro h; cases h
      · rintro ⟨s, h, _⟩; omega
    · have h : (List.replicate D.squares none).getD t none = some r := h
      rw [g] at h; cases h
    · have h : (List.replicate D.squares none).getD t none = some r := h
      rw [g] at h; cases h
  | k + 1, hk => by
    have X := rooms_fold hw k (by omega)
    rw [List.range_succ, List.foldl_append, List.foldl_cons, List.foldl_nil]
    generalize (List.range k).foldl D.markRoom (List.replicate D.squares none, 0) = x at *
    have hks : k < D.squares := by omega
    unfold Garden.markRoom
    by_cases h : (x.1.getD k none).isSome = true
    · rw [if_pos h]
      obtain ⟨s, hs, hc⟩ := (X.mark k hks).mp h
      refine ⟨X.len, fun t ht => ?_, X.lt, X.same, fun r hr => ?_⟩
      · rw [X.mark t ht]
        constructor
        · rintro ⟨a, ha, hc⟩; exact ⟨a, by omega, hc⟩
        · rintro ⟨a, ha, hca⟩
          by_cases e : a = k
          · subst e; exact ⟨s, hs, hc.trans hca⟩
          · exact ⟨a, by omega, hca⟩
      · obtain ⟨t, ht, e⟩ := X.hit r hr
        exact ⟨t, by omega, e⟩
    · rw [if_neg h]
      have hno : ∀ s, s < k → ¬ Conn D s k := fun s hs hc => h ((X.mark k hks).mpr ⟨s, hs, hc⟩)
      have M := fun t ht => mark_at (s := k) x X.len t ht
      have F : ∀ t, (D.far k t).isSome = true ↔ Conn D k t := fun t => far_some hw hks
      -- what's marked before isn't joined to the new one
      have old : ∀ t r, t < D.squares → x.1.getD t none = some r → ¬ Conn D k t := by
        intro t r ht e hc
        have : (x.1.getD t none).isSome = true := by rw [e]; rfl
        obtain ⟨s, hs, hcs⟩ := (X.mark t ht).mp this
        exact hno s hs (hcs.trans hc.symm)
      refine ⟨?_, fun t ht => ?_, fun t r ht e => ?_, fun t u r ht hu e => ?_, fun r hr => ?_⟩
      · show ((x.1.zip (D.fars k)).map _).length = _
        rw [List.length_map, List.length_zip, X.len, fars_len]
        omega
      · show ((((x.1.zip (D.fars k)).map _)).getD t none).isSome = true ↔ _
        rw [M t ht]
        by_cases hc : Conn D k t
        · rw [if_pos ((F t).mpr hc)]
          exact ⟨fun _ => ⟨k, by omega, hc⟩, fun _ => rfl⟩
        · rw [if_neg (fun z => hc ((F t).mp z)), X.mark t ht]
          constructor
          · rintro ⟨a, ha, hca⟩; exact ⟨a, by omega, hca⟩
          · rintro ⟨a, ha, hca⟩
            by_cases e : a = k
            · subst e; exact absurd hca hc
            · exact ⟨a, by omega, hca⟩
      · have e : (((x.1.zip (D.fars k)).map _)).getD t none = some r := e
        rw [M t ht] at e
        show r < x.2 + 1
        split at e
        · injection e with e; omega
        · have := X.lt t r ht e; omega
      · have e : (((x.1.zip (D.fars k)).map _)).getD t none = some r := e
        show (((x.1.zip (D.fars k)).map _)).getD u none = some r ↔ _
        rw [M t ht] at e
        rw [M u hu]
        by_cases hc : Conn D k t
        · rw [if_pos ((F t).mpr hc)] at e
          injection e with e
          by_cases hcu : Conn D k u
          · rw [if_pos ((F u).mpr hcu), e]
            exact ⟨fun _ => hc.symm.trans hcu, fun _ => rfl⟩
          · rw [if_neg (fun z => hcu ((F u).mp z))]
            constructor
            · intro e2
              have := X.lt u r hu e2
              omega
            · intro hq; exact absurd (hc.trans hq) hcu
        · rw [if_neg (fun z => hc ((F t).mp z))] at e
          by_cases hcu : Conn D k u
          · rw [if_pos ((F u).mpr hcu)]
            constructor
            · intro e2
              injection e2 with e2
              have := X.lt t r ht e
              omega
            · intro hq; exact absurd (hcu.trans hq.symm) hc
          · rw [if_neg (fun z => hcu ((F u).mp z))]
            exact X.same t u r ht hu e
      · by_cases e : r = x.2
        · refine ⟨k, by omega, ?_⟩
          show (((x.1.zip (D.fars k)).map _)).getD k none = some r
          rw [M k hks, if_pos ((F k).mpr (.refl k)), e]
        · have hr : r < x.2 + 1 := hr
          obtain ⟨t, ht, e2⟩ := X.hit r (by omega)
          refine ⟨t, by omega, ?_⟩
          show (((x.1.zip (D.fars k)).map _)).getD t none = some r
          rw [M t (by omega), if_neg (fun z => old t r (by omega) e2 ((F t).mp z)), e2]

theorem rooms_at (hw : 1 ≤ D.wide) : Rooms D D.squares D.roomTable := rooms_fold hw D.squares (Nat.le_refl _)

theorem one_room (hw : 1 ≤ D.wide) (h1 : 0 < D.squares) : D.rooms = 1 ↔ ∀ t, t < D.squares → Conn D 0 t := by
  have X := rooms_at hw
  have hm : ∀ t, t < D.squares → ∃ r, D.roomTable.1.getD t none = some r := by
    intro t ht
    have := (X.mark t ht).mpr ⟨t, ht, .refl t⟩
    cases e : D.roomTable.1.getD t none with
    | none => rw [e] at this; cases this
    | some r => exact ⟨r, rfl⟩
  show D.roomTable.2 = 1 ↔ _
  constructor
  · intro h t ht
    obtain ⟨r0, e0⟩ := hm 0 h1
    obtain ⟨r, e⟩ := hm t ht
    have l0 := X.lt 0 r0 h1 e0
    have l1 := X.lt t r ht e
    have : r = r0 := by omega
    subst this
    exact (X.same 0 t r h1 ht e0).mp e
  · intro h
    obtain ⟨r0, e0⟩ := hm 0 h1
    have l0 := X.lt 0 r0 h1 e0
    have all : ∀ r, r < D.roomTable.2 → r = r0 := by
      intro r hr
      obtain ⟨t, ht, e⟩ := X.hit r hr
      have := (X.same 0 t r0 h1 ht e0).mpr (h t ht)
      rw [this] at e; injection e with e; exact e.symm
    have a0 := all 0 (by omega)
    rcases Nat.lt_or_ge 1 D.roomTable.2 with h2 | h2
    · have := all 1 h2; omega
    · omega
end
end Gt

end
section
set_option linter.all false
set_option maxHeartbeats 2000000
namespace Gt
open Maze Gm

/-! ### squares joined by pairs, and how many rooms pairs leave -/
inductive J (E : List (Nat × Nat)) : Nat → Nat → Prop
  | refl (s : Nat) : J E s s
  | step {s u t : Nat} : J E s u → ((u, t) ∈ E ∨ (t, u) ∈ E) → J E s t
theorem J.trans {E : List (Nat × Nat)} {s u t : Nat} (h : J E s u) (k : J E u t) : J E s t := by
  induction k with
  | refl => exact h
  | step _ e ih => exact .step ih e
theorem J.one {E : List (Nat × Nat)} {s u : Nat} (h : (s, u) ∈ E ∨ (u, s) ∈ E) : J E s u := .step (.refl s) h
theorem J.symm {E : List (Nat × Nat)} {s u : Nat} (h : J E s u) : J E u s := by
  induction h with
  | refl => exact .refl _
  | step _ e ih => exact (J.one e.symm).trans ih
theorem J.mono {E F : List (Nat × Nat)} (hs : ∀ e, e ∈ E → e ∈ F) {s u : Nat} (h : J E s u) : J F s u := by
  induction h with
  | refl => exact .refl _
  | step _ e ih => exact .step ih (e.imp (hs _) (hs _))
theorem J_cons {a b : Nat} {E : List (Nat × Nat)} {s t : Nat} : J ((a, b) :: E) s t ↔ J E s t ∨ (J E s a ∧ J E b t) ∨ (J E s b ∧ J E a t) := by
  constructor
  · intro h
    induction h with
    | refl => exact .inl (.refl _)
    | @step u t _ e ih =>
      have old : ((u, t) ∈ E ∨ (t, u) ∈ E) → (J E s t ∨ (J E s a ∧ J E b t) ∨ (J E s b ∧ J E a t)) := fun e => by
        rcases ih with h | ⟨h, k⟩ | ⟨h, k⟩
        · exact .inl (.step h e)
        · exact .inr (.inl ⟨h, .step k e⟩)
        · exact .inr (.inr ⟨h, .step k e⟩)
      rcases e with e | e
      · rcases List.mem_cons.mp e with e | e
        · injection e with e1 e2
          subst e1 e2
          rcases ih with h | ⟨h, k⟩ | ⟨h, k⟩
          · exact .inr (.inl ⟨h, .refl _⟩)
          · exact .inr (.inl ⟨h, .refl _⟩)
          · exact .inl h
        · exact old (.inl e)
      · rcases List.mem_cons.mp e with e | e
        · injection e with e1 e2
          subst e1 e2
          rcases ih with h | ⟨h, k⟩ | ⟨h, k⟩
          · exact .inr (.inr ⟨h, .refl _⟩)
          · exact .inl h
          · exact .inr (.inr ⟨h, .refl _⟩)
        · exact old (.inr e)
  · have up : ∀ {x y : Nat}, J E x y → J ((a, b) :: E) x y := fun h => h.mono fun e he => List.mem_cons_of_mem _ he
    rintro (h | ⟨h, k⟩ | ⟨h, k⟩)
    · exact up h
    · exact ((up h).trans (.one (.inl List.mem_cons_self))).trans (up k)
    · exact ((up h).trans (.one (.inr List.mem_cons_self))).trans (up k)

open Classical in
/-- is the least of its room -/
noncomputable def leastIn (R : Nat → Nat → Prop) (i : Nat) : Bool := decide (∀ j, j < i → ¬ R j i)
noncomputable def cnt (n : Nat) (R : Nat → Nat → Prop) : Nat := ((List.range n).filter (leastIn R)).length
open Classical in
theorem leastIn_iff {R : Nat → Nat → Prop} {i : Nat} : leastIn R i = true ↔ ∀ j, j < i → ¬ R j i := by
  unfold leastIn
  exact decide_eq_true_iff
theorem cnt_succ (n : Nat) (R : Nat → Nat → Prop) : cnt (n + 1) R = cnt n R + (if leastIn R n = true then 1 else 0) := by
  unfold cnt
  rw [List.range_succ, List.filter_append, List.length_append]
  congr 1
  by_cases h : leastIn R n = true
  · rw [if_pos h, List.filter_cons_of_pos h]; rfl
  · rw [if_neg h, List.filter_cons_of_neg h]; rfl
theorem cnt_congr {n : Nat} {R S : Nat → Nat → Prop} (h : ∀ i j, i < n → j < n → (R i j ↔ S i j)) : cnt n R = cnt n S := by
  unfold cnt
  congr 1
  refine List.filter_congr fun i hi => ?_
  rw [List.mem_range] at hi
  rw [Bool.eq_iff_iff, leastIn_iff, leastIn_iff]
  exact ⟨fun k j hj e => k j hj ((h j i (by omega) hi).mpr e), fun k j hj e => k j hj ((h j i (by omega) hi).mp e)⟩

theorem least_of {E : List (Nat × Nat)} : ∀ (a : Nat), ∃ r, r ≤ a ∧ J E a r ∧ leastIn (J E) r = true := by
  intro a
  induction a using Nat.strongRecOn with
  | _ a ih =>
    by_cases h : leastIn (J E) a = true
    · exact ⟨a, Nat.le_refl _, .refl a, h⟩
    · rw [leastIn_iff] at h
      have : ∃ j, j < a ∧ J E j a := by
        refine Classical.byContradiction fun k => h fun j hj e => k ⟨j, hj, e⟩
      obtain ⟨j, hj, e⟩ := this
      obtain ⟨r, h1, h2, h3⟩ := ih j hj
      exact ⟨r, by omega, e.symm.trans h2, h3⟩
theorem least_unique {E : List (Nat × Nat)} {a b : Nat} (ha : leastIn (J E) a = true) (hb : leastIn (J E) b = true) (h : J E a b) : a = b := by
  rw [leastIn_iff] at ha hb
  rcases Nat.lt_trichotomy a b with l | l | l
  · exact absurd h (hb a l)
  · exact l
  · exact absurd h.symm (ha b l)
theorem filter_one {n r : Nat} (hr : r < n) {p q : Nat → Bool} (hp : p r = true) (hq : q r = false) (h : ∀ i, i < n → i ≠ r → p i = q i) : ((List.range n).filter p).length = ((List.range n).filter q).length + 1 := by
  induction n with
  | zero => omega
  | succ n ih =>
    rw [List.range_succ, List.filter_append, List.filter_append, List.length_append, List.length_append]
    by_cases e : r = n
    · subst e
      have : (List.range r).filter p = (List.range r).filter q := List.filter_congr fun i hi => h i (by have := List.mem_range.mp hi; omega) (by have := List.mem_range.mp hi; omega)
      rw [this, List.filter_cons_of_pos hp, List.filter_cons_of_neg (by rw [hq]; decide)]
      rfl
    · rw [ih (by omega) fun i hi => h i (by omega)]
      have e2 := h n (by omega) (fun z => e z.symm)
      have : [n].filter p = [n].filter q := List.filter_congr fun i hi => by rw [List.mem_singleton.mp hi]; exact e2
      rw [this]
      omega

theorem cnt_in {n a b : Nat} {E : List (Nat × Nat)} (h : J E a b) : cnt n (J ((a, b) :: E)) = cnt n (J E) := by
  refine cnt_congr fun i j _ _ => ?_
  rw [J_cons]
  constructor
  · rintro (k | ⟨k, l⟩ | ⟨k, l⟩)
    · exact k
    · exact (k.trans h).trans l
    · exact (k.trans h.symm).trans l
  · exact .inl
theorem cnt_new {n a b : Nat} {E : List (Nat × Nat)} (ha : a < n) (hb : b < n) (h : ¬ J E a b) : cnt n (J E) = cnt n (J ((a, b) :: E)) + 1 := by
  obtain ⟨r, r1, r2, r3⟩ := least_of (E := E) a
  obtain ⟨s, s1, s2, s3⟩ := least_of (E := E) b
  have hne : r ≠ s := fun e => h (r2.trans (e ▸ s2.symm))
  -- the greater of the two is no longer the least of its room
  have key : ∀ r s, r < s → s < n → J ((a, b) :: E) r s → leastIn (J E) r = true → leastIn (J E) s = true →
      ((J E a r ∧ J E b s) ∨ (J E b r ∧ J E a s)) → cnt n (J E) = cnt n (J ((a, b) :: E)) + 1 := by
    intro r s hrs hs hj hr hs3 hab
    unfold cnt
    refine filter_one (r := s) hs hs3 ?_ ?_
    · rw [Bool.eq_false_iff]
      intro z
      exact leastIn_iff.mp z r hrs hj
    · intro i hi his
      rw [Bool.eq_iff_iff, leastIn_iff, leastIn_iff]
      constructor
      · intro k j hji hJ
        rcases J_cons.mp hJ with q | ⟨q, q2⟩ | ⟨q, q2⟩
        · exact k j hji q
        · -- j with a, b with i
          rcases hab with ⟨x, y⟩ | ⟨x, y⟩
          · exact his (least_unique (leastIn_iff.mpr k) hs3 (q2.symm.trans y))
          · have e := least_unique (leastIn_iff.mpr k) hr (q2.symm.trans x)
            subst e
            have := leastIn_iff.mp hs3 j (by omega)
            exact this (q.trans y)
        · rcases hab with ⟨x, y⟩ | ⟨x, y⟩
          · have e := least_unique (leastIn_iff.mpr k) hr (q2.symm.trans x)
            subst e
            exact leastIn_iff.mp hs3 j (by omega) (q.trans y)
          · exact his (least_unique (leastIn_iff.mpr k) hs3 (q2.symm.trans y))
      · intro k j hji hJ
        exact k j hji (J_cons.mpr (.inl hJ))
  rcases Nat.lt_or_ge r s with l | l
  · exact key r s l (by omega) (J_cons.mpr (.inr (.inl ⟨r2.symm, s2⟩))) r3 s3 (.inl ⟨r2, s2⟩)
  · exact key s r (by omega) (by omega) (J_cons.mpr (.inr (.inr ⟨s2.symm, r2⟩))) s3 r3 (.inr ⟨s2, r2⟩)
theorem J_nil {s t : Nat} : J [] s t ↔ s = t := by
  constructor
  · intro h
    induction h with
    | refl => rfl
    | step _ e _ => rcases e with e | e <;> cases e
  · intro h; rw [h]; exact .refl _
theorem cnt_nil (n : Nat) : cnt n (J []) = n := by
  unfold cnt
  rw [List.filter_eq_self.mpr, List.length_range]
  intro i _
  rw [leastIn_iff]
  intro j hj h
  rw [J_nil] at h
  omega
theorem cnt_le (n : Nat) : ∀ (E : List (Nat × Nat)), (∀ e, e ∈ E → e.1 < n ∧ e.2 < n) → n ≤ cnt n (J E) + E.length
  | [], _ => by rw [cnt_nil]; exact Nat.le_refl _
  | (a, b) :: E, h => by
    have ih := cnt_le n E fun e he => h e (List.mem_cons_of_mem _ he)
    have hab := h _ List.mem_cons_self
    by_cases c : J E a b
    · rw [cnt_in c, List.length_cons]; omega
    · have := cnt_new (a := a) (b := b) hab.1 hab.2 c
      rw [List.length_cons]; omega
/-- no pair joins what's joined without it -/
def Forest : List (Nat × Nat) → Prop
  | [] => True
  | (a, b) :: E => ¬ J E a b ∧ Forest E
theorem forest_iff (n : Nat) : ∀ (E : List (Nat × Nat)), (∀ e, e ∈ E → e.1 < n ∧ e.2 < n) → (Forest E ↔ cnt n (J E) + E.length = n)
  | [], _ => by rw [cnt_nil]; exact ⟨fun _ => rfl, fun _ => trivial⟩
  | (a, b) :: E, h => by
    have hE := fun e he => h e (List.mem_cons_of_mem _ he)
    have ih := forest_iff n E hE
    have le := cnt_le n E hE
    have hab := h _ List.mem_cons_self
    show (¬ J E a b ∧ Forest E) ↔ _
    rw [ih, List.length_cons]
    by_cases c : J E a b
    · rw [cnt_in c]
      constructor
      · rintro ⟨z, _⟩; exact absurd c z
      · intro z; omega
    · have := cnt_new (a := a) (b := b) hab.1 hab.2 c
      constructor
      · rintro ⟨_, z⟩; omega
      · intro z; exact ⟨c, by omega⟩
theorem J_perm {E F : List (Nat × Nat)} (p : E.Perm F) {s t : Nat} : J E s t ↔ J F s t :=
  ⟨J.mono fun _ he => p.mem_iff.mp he, J.mono fun _ he => p.mem_iff.mpr he⟩
theorem forest_perm {n : Nat} {E F : List (Nat × Nat)} (p : E.Perm F) (h : ∀ e, e ∈ E → e.1 < n ∧ e.2 < n) : Forest E ↔ Forest F := by
  rw [forest_iff n E h, forest_iff n F fun e he => h e (p.mem_iff.mpr he), p.length_eq, cnt_congr fun i j _ _ => J_perm p]

/-! ### a garden's passages as pairs -/
section
variable {D : Garden}
def prs (D : Garden) : List (Nat × Nat) := D.passages.map D.squaresAt
theorem mem_passages {p : Nat} : p ∈ D.passages ↔ p < D.count ∧ D.hedge p = false := by
  unfold Garden.passages
  rw [List.mem_filter, List.mem_range]
  cases D.hedge p <;> simp
theorem edge_prs {s u : Nat} : Edge D s u ↔ ((s, u) ∈ prs D ∨ (u, s) ∈ prs D) := by
  unfold prs Edge
  rw [List.mem_map, List.mem_map]
  constructor
  · rintro ⟨q, h1, h2, h3 | h3⟩
    · exact .inl ⟨q, mem_passages.mpr ⟨h1, h2⟩, h3⟩
    · exact .inr ⟨q, mem_passages.mpr ⟨h1, h2⟩, h3⟩
  · rintro (⟨q, h, e⟩ | ⟨q, h, e⟩)
    · exact ⟨q, (mem_passages.mp h).1, (mem_passages.mp h).2, .inl e⟩
    · exact ⟨q, (mem_passages.mp h).1, (mem_passages.mp h).2, .inr e⟩
theorem conn_J {s u : Nat} : Conn D s u ↔ J (prs D) s u := by
  constructor
  · intro h
    induction h with
    | refl => exact .refl _
    | step _ e ih => exact .step ih (edge_prs.mp e)
  · intro h
    induction h with
    | refl => exact .refl _
    | step _ e ih => exact .step ih (edge_prs.mpr e)
theorem prs_lt (hw : 1 ≤ D.wide) : ∀ e, e ∈ prs D → e.1 < D.squares ∧ e.2 < D.squares := by
  intro e he
  obtain ⟨q, hq, rfl⟩ := List.mem_map.mp he
  have := side_squares hw (mem_passages.mp hq).1
  exact ⟨this.1, this.2.1⟩
theorem rooms_cnt_fold (hw : 1 ≤ D.wide) : ∀ k, k ≤ D.squares → ((List.range k).foldl D.markRoom (List.replicate D.squares none, 0)).2 = cnt k (Conn D)
  | 0, _ => rfl
  | k + 1, hk => by
    have X := rooms_fold hw k (by omega)
    have ih := rooms_cnt_fold hw k (by omega)
    rw [List.range_succ, List.foldl_append, List.foldl_cons, List.foldl_nil, cnt_succ, ← ih]
    generalize (List.range k).foldl D.markRoom (List.replicate D.squares none, 0) = x at *
    unfold Garden.markRoom
    by_cases h : (x.1.getD k none).isSome = true
    · obtain ⟨s, hs, hc⟩ := (X.mark k (by omega)).mp h
      rw [if_pos h, if_neg fun z => leastIn_iff.mp z s hs hc]; rfl
    · rw [if_neg h, if_pos]
      rw [leastIn_iff]
      exact fun s hs hc => h ((X.mark k (by omega)).mpr ⟨s, hs, hc⟩)
theorem rooms_cnt (hw : 1 ≤ D.wide) : D.rooms = cnt D.squares (J (prs D)) := by
  rw [← cnt_congr fun i j _ _ => conn_J]
  exact rooms_cnt_fold hw D.squares (Nat.le_refl _)
theorem squares_le (hw : 1 ≤ D.wide) : D.squares ≤ D.rooms + D.passages.length := by
  rw [rooms_cnt hw]
  have := cnt_le D.squares (prs D) (prs_lt hw)
  rwa [show (prs D).length = D.passages.length from List.length_map _] at this
/-- no rings: no passage joins what's joined without it -/
theorem rings_forest (hw : 1 ≤ D.wide) : D.rings = 0 ↔ Forest (prs D) := by
  rw [forest_iff D.squares (prs D) (prs_lt hw), ← rooms_cnt hw, show (prs D).length = D.passages.length from List.length_map _]
  have := squares_le hw
  unfold Garden.rings
  omega
theorem perfect_iff (hw : 1 ≤ D.wide) (h0 : 0 < D.squares) : D.perfect = true ↔ (∀ t, t < D.squares → Conn D 0 t) ∧ D.passages.length + 1 = D.squares := by
  have := squares_le hw
  unfold Garden.perfect
  rw [Bool.and_eq_true, beq_iff_eq, beq_iff_eq, ← one_room hw h0]
  unfold Garden.rings
  constructor
  · rintro ⟨a, b⟩; exact ⟨a, by omega⟩
  · rintro ⟨a, b⟩; exact ⟨a, by omega⟩
end
end Gt

end
section
set_option linter.all false
set_option maxHeartbeats 2000000
namespace Gt
open Maze Gm

/-! ### names of rooms, joined as hedges are opened -/
structure Lab (n : Nat) (m : List Nat) (R : Nat → Nat → Prop) : Prop where
  len : m.length = n
  same : ∀ s t, s < n → t < n → (m.getD s 0 = m.getD t 0 ↔ R s t)
theorem getD_map0 {m : List Nat} {f : Nat → Nat} {s : Nat} (hs : s < m.length) : (m.map f).getD s 0 = f (m.getD s 0) := by
  rw [List.getD_eq_getElem?_getD, List.getElem?_map, List.getElem?_eq_getElem hs, List.getD_eq_getElem?_getD, List.getElem?_eq_getElem hs]
  rfl
theorem Lab.merge {n x y : Nat} {m : List Nat} {E : List (Nat × Nat)} (L : Lab n m (J E)) (hx : x < n) (hy : y < n) (_ : m.getD x 0 ≠ m.getD y 0) :
    Lab n (m.map fun z => if z = m.getD y 0 then m.getD x 0 else z) (J ((x, y) :: E)) := by
  refine ⟨by rw [List.length_map]; exact L.len, fun s t hs ht => ?_⟩
  rw [getD_map0 (by rw [L.len]; exact hs), getD_map0 (by rw [L.len]; exact ht), J_cons, ← L.same s t hs ht, ← L.same s x hs hx, ← L.same y t hy ht, ← L.same s y hs hy, ← L.same x t hx ht]
  generalize m.getD x 0 = a at *
  generalize m.getD y 0 = b at *
  generalize m.getD s 0 = c at *
  generalize m.getD t 0 = d at *
  by_cases e1 : c = b <;> by_cases e2 : d = b
  · rw [if_pos e1, if_pos e2]; exact ⟨fun _ => .inl (by omega), fun _ => rfl⟩
  · rw [if_pos e1, if_neg e2]; omega
  · rw [if_neg e1, if_pos e2]; omega
  · rw [if_neg e1, if_neg e2]; omega
theorem J_in {x y : Nat} {E : List (Nat × Nat)} (h : J E x y) {s t : Nat} : J ((x, y) :: E) s t ↔ J E s t := by
  rw [J_cons]
  constructor
  · rintro (k | ⟨k, l⟩ | ⟨k, l⟩)
    · exact k
    · exact (k.trans h).trans l
    · exact (k.trans h.symm).trans l
  · exact .inl

section
variable {D : Garden}
open Classical in
/-- hedges gone through: one is opened if its squares aren't joined by pairs so far -/
noncomputable def openR (D : Garden) : List (Nat × Nat) → List Nat → List Nat
  | _, [] => []
  | E, p :: r => if D.hedge p = true ∧ ¬ J E (D.squaresAt p).1 (D.squaresAt p).2 then p :: openR D (D.squaresAt p :: E) r else openR D E r
theorem openR_yes {E : List (Nat × Nat)} {p : Nat} {r : List Nat} (h : D.hedge p = true) (k : ¬ J E (D.squaresAt p).1 (D.squaresAt p).2) : openR D E (p :: r) = p :: openR D (D.squaresAt p :: E) r := by
  conv => lhs; unfold openR
  exact if_pos (And.intro h k)
theorem openR_no {E : List (Nat × Nat)} {p : Nat} {r : List Nat} (h : ¬ (D.hedge p = true ∧ ¬ J E (D.squaresAt p).1 (D.squaresAt p).2)) : openR D E (p :: r) = openR D E r := by
  conv => lhs; unfold openR
  exact if_neg h
theorem opened_from (hw : 1 ≤ D.wide) : ∀ (r : List Nat) (m : List Nat) (E : List (Nat × Nat)), (∀ p, p ∈ r → p < D.count) → Lab D.squares m (J E) → D.openedFrom m r = openR D E r
  | [], _, _, _, _ => by unfold Garden.openedFrom openR; rfl
  | p :: r, m, E, hr, L => by
    have hp := side_squares hw (hr p List.mem_cons_self)
    have hr' : ∀ q, q ∈ r → q < D.count := fun q hq => hr q (List.mem_cons_of_mem _ hq)
    have e := L.same _ _ hp.1 hp.2.1
    unfold Garden.openedFrom
    by_cases c : D.hedge p = true ∧ ¬ J E (D.squaresAt p).1 (D.squaresAt p).2
    · rw [openR_yes c.1 c.2]
      have c2 : m.getD (D.squaresAt p).1 0 ≠ m.getD (D.squaresAt p).2 0 := fun z => c.2 (e.mp z)
      show (if _ ∧ m.getD (D.squaresAt p).1 0 ≠ m.getD (D.squaresAt p).2 0 then _ else _) = _
      rw [if_pos ⟨c.1, c2⟩]
      congr 1
      exact opened_from hw r _ _ hr' (L.merge hp.1 hp.2.1 c2)
    · rw [openR_no c]
      show (if _ ∧ m.getD (D.squaresAt p).1 0 ≠ m.getD (D.squaresAt p).2 0 then _ else _) = _
      rw [if_neg fun z => c ⟨z.1, fun y => z.2 (e.mpr y)⟩]
      exact opened_from hw r m E hr' L
theorem room_names (hw : 1 ≤ D.wide) : Lab D.squares (D.roomTable.1.map fun (x : Option Nat) => x.getD 0) (J (prs D)) := by
  have X := rooms_at hw
  have hm : ∀ t, t < D.squares → ∃ r, D.roomTable.1[t]? = some (some r) ∧ D.roomTable.1.getD t none = some r := by
    intro t ht
    have := (X.mark t ht).mpr ⟨t, ht, .refl t⟩
    have hl : t < D.roomTable.1.length := by rw [X.len]; exact ht
    rw [List.getD_eq_getElem?_getD, List.getElem?_eq_getElem hl] at this ⊢
    cases e : D.roomTable.1[t] with
    | none => rw [e] at this; cases this
    | some r => exact ⟨r, rfl, rfl⟩
  refine ⟨by rw [List.length_map]; exact X.len, fun s t hs ht => ?_⟩
  obtain ⟨a, a1, a2⟩ := hm s hs
  obtain ⟨b, b1, b2⟩ := hm t ht
  rw [List.getD_eq_getElem?_getD, List.getElem?_map, a1, List.getD_eq_getElem?_getD, List.getElem?_map, b1, ← conn_J, ← X.same s t a hs ht a2, b2]
  show a = b ↔ _
  constructor
  · intro e; rw [e]
  · intro e; injection e with e; exact e.symm
/-- **opened**, by what's joined -/
theorem opened_eq (hw : 1 ≤ D.wide) : D.opened = openR D (prs D) (List.range D.count) :=
  opened_from hw _ _ _ (fun _ h => List.mem_range.mp h) (room_names hw)
theorem openR_mem : ∀ (r : List Nat) (E : List (Nat × Nat)) (p : Nat), p ∈ openR D E r → p ∈ r ∧ D.hedge p = true
  | [], _, _, h => by unfold openR at h; cases h
  | q :: r, E, p, h => by
    by_cases c : D.hedge q = true ∧ ¬ J E (D.squaresAt q).1 (D.squaresAt q).2
    · rw [openR_yes c.1 c.2] at h
      rcases List.mem_cons.mp h with e | e
      · subst e; exact ⟨List.mem_cons_self, c.1⟩
      · have := openR_mem r _ p e
        exact ⟨List.mem_cons_of_mem _ this.1, this.2⟩
    · rw [openR_no c] at h
      have := openR_mem r _ p h
      exact ⟨List.mem_cons_of_mem _ this.1, this.2⟩
/-- behind the opening every hedge gone through stands between joined squares -/
theorem openR_joins : ∀ (r : List Nat) (E F : List (Nat × Nat)), (∀ e, e ∈ E → e ∈ F) → (∀ p, p ∈ openR D E r → D.squaresAt p ∈ F) → ∀ p, p ∈ r → D.hedge p = true → J F (D.squaresAt p).1 (D.squaresAt p).2
  | [], _, _, _, _, _, h, _ => by cases h
  | q :: r, E, F, hE, hF, p, hp, hh => by
    by_cases c : D.hedge q = true ∧ ¬ J E (D.squaresAt q).1 (D.squaresAt q).2
    · rw [openR_yes c.1 c.2] at hF
      rcases List.mem_cons.mp hp with e | e
      · subst e; exact .one (.inl (hF p List.mem_cons_self))
      · refine openR_joins r (D.squaresAt q :: E) F (fun e he => ?_) (fun p hp => hF p (List.mem_cons_of_mem _ hp)) p e hh
        rcases List.mem_cons.mp he with z | z
        · rw [z]; exact hF q List.mem_cons_self
        · exact hE e z
    · rw [openR_no c] at hF
      rcases List.mem_cons.mp hp with e | e
      · subst e
        exact J.mono hE (Classical.byContradiction fun z => c ⟨hh, z⟩)
      · exact openR_joins r E F hE hF p e hh

/-! ### hedges set one after another -/
theorem sets_hedge {z : Bool} : ∀ (c : List Nat) (D : Garden), (∀ p, p ∈ c → p < D.hedges.length) → ∀ q, (c.foldl (fun (E : Garden) (p : Nat) => E.set p z) D).hedge q = if q ∈ c then z else D.hedge q
  | [], D, _, q => by rw [if_neg (by simp)]; rfl
  | p :: c, D, h, q => by
    rw [List.foldl_cons, sets_hedge c (D.set p z) (fun x hx => by show x < (D.hedges.set p z).length; rw [List.length_set]; exact h x (List.mem_cons_of_mem _ hx)) q, set_hedge (h p List.mem_cons_self)]
    by_cases e : q ∈ c
    · rw [if_pos e, if_pos (List.mem_cons_of_mem _ e)]
    · rw [if_neg e]
      by_cases e2 : q = p
      · rw [if_pos e2, if_pos (by rw [e2]; exact List.mem_cons_self)]
      · rw [if_neg e2, if_neg (by rw [List.mem_cons]; intro x; exact x.elim e2 e)]
theorem sets_shape {z : Bool} : ∀ (c : List Nat) (D : Garden), (c.foldl (fun (E : Garden) (p : Nat) => E.set p z) D).wide = D.wide ∧ (c.foldl (fun (E : Garden) (p : Nat) => E.set p z) D).high = D.high ∧ (c.foldl (fun (E : Garden) (p : Nat) => E.set p z) D).hedges.length = D.hedges.length
  | [], _ => ⟨rfl, rfl, rfl⟩
  | p :: c, D => by
    rw [List.foldl_cons]
    have := sets_shape c (D.set p z) (z := z)
    exact ⟨this.1, this.2.1, this.2.2.trans (List.length_set ..)⟩
theorem squaresAt_of {D E : Garden} (hw : E.wide = D.wide) (hh : E.high = D.high) (q : Nat) : E.squaresAt q = D.squaresAt q := by
  unfold Garden.squaresAt Garden.uprights
  rw [hw, hh]
theorem count_of {D E : Garden} (hw : E.wide = D.wide) (hh : E.high = D.high) : E.count = D.count := by
  unfold Garden.count Garden.uprights
  rw [hw, hh]

/-- a passage planted between squares joined without it parts no room -/
theorem conn_set {p : Nat} (W : Whole D) (hp : p < D.count) (h : Conn (D.set p true) (D.squaresAt p).1 (D.squaresAt p).2) {s t : Nat} : Conn (D.set p true) s t ↔ Conn D s t := by
  have hl : p < D.hedges.length := by rw [W.len]; exact hp
  constructor
  · intro k
    induction k with
    | refl => exact .refl _
    | step _ e ih =>
      obtain ⟨q, h1, h2, h3⟩ := e
      rw [set_hedge hl] at h2
      split at h2
      · cases h2
      · exact .step ih ⟨q, h1, h2, h3⟩
  · intro k
    induction k with
    | refl => exact .refl _
    | step _ e ih =>
      obtain ⟨q, h1, h2, h3⟩ := e
      by_cases c : q = p
      · subst c
        refine ih.trans ?_
        rcases h3 with e | e <;> rw [e] at h
        · exact h
        · exact h.symm
      · exact .step ih ⟨q, h1, by rw [set_hedge hl, if_neg c]; exact h2, h3⟩
theorem planted_mem : ∀ (r : List Nat) (D : Garden), Whole D → (∀ p, p ∈ r → p < D.count) → r.Nodup → ∀ p, p ∈ D.plantedFrom r → p ∈ r ∧ D.hedge p = false
  | [], _, _, _, _, _, h => by unfold Garden.plantedFrom at h; cases h
  | q :: r, D, W, hr, nd, p, h => by
    have hr' : ∀ p, p ∈ r → p < D.count := fun p hp => hr p (List.mem_cons_of_mem _ hp)
    have nd' := (List.nodup_cons.mp nd).2
    have hq : q < D.hedges.length := by rw [W.len]; exact hr q List.mem_cons_self
    unfold Garden.plantedFrom at h
    split at h
    · rename_i c
      rcases List.mem_cons.mp h with e | e
      · subst e; exact ⟨List.mem_cons_self, c.1⟩
      · have := planted_mem r (D.set q true) (set_whole W) hr' nd' p e
        have hne : p ≠ q := fun z => (List.nodup_cons.mp nd).1 (z ▸ this.1)
        rw [set_hedge hq, if_neg hne] at this
        exact ⟨List.mem_cons_of_mem _ this.1, this.2⟩
    · have := planted_mem r D W hr' nd' p h
      exact ⟨List.mem_cons_of_mem _ this.1, this.2⟩
theorem planted_conn : ∀ (r : List Nat) (D : Garden), Whole D → (∀ p, p ∈ r → p < D.count) → ∀ s t, Conn ((D.plantedFrom r).foldl (fun (E : Garden) (p : Nat) => E.set p true) D) s t ↔ Conn D s t
  | [], D, _, _, s, t => by unfold Garden.plantedFrom; exact Iff.rfl
  | q :: r, D, W, hr, s, t => by
    have hr' : ∀ p, p ∈ r → p < D.count := fun p hp => hr p (List.mem_cons_of_mem _ hp)
    unfold Garden.plantedFrom
    split
    · rename_i c
      rw [List.foldl_cons, planted_conn r (D.set q true) (set_whole W) hr' s t]
      refine conn_set W (hr q List.mem_cons_self) ?_
      exact (far_some (D := D.set q true) W.wlo (side_squares (D := D) W.wlo (hr q List.mem_cons_self)).1).mp c.2
    · exact planted_conn r D W hr' s t

/-! ### mended: one room -/
theorem planted_in (W : Whole D) {p : Nat} (h : p ∈ D.planted) : p < D.count ∧ D.hedge p = false := by
  have := planted_mem _ D W (fun p hp => List.mem_range.mp hp) List.nodup_range p h
  exact ⟨List.mem_range.mp this.1, this.2⟩
theorem opened_in (W : Whole D) {p : Nat} (h : p ∈ D.opened) : p < D.count ∧ D.hedge p = true := by
  rw [opened_eq W.wlo] at h
  have := openR_mem _ _ p h
  exact ⟨List.mem_range.mp this.1, this.2⟩
theorem mended_shape : D.mended.wide = D.wide ∧ D.mended.high = D.high ∧ D.mended.hedges.length = D.hedges.length := by
  have a := sets_shape (z := false) D.opened D
  have b := sets_shape (z := true) D.planted (D.opened.foldl (fun (E : Garden) (p : Nat) => E.set p false) D)
  exact ⟨b.1.trans a.1, b.2.1.trans a.2.1, b.2.2.trans a.2.2⟩
theorem mended_whole (W : Whole D) : Whole D.mended := by
  have s := mended_shape (D := D)
  exact ⟨by rw [s.1]; exact W.wlo, by rw [s.2.1]; exact W.hlo, by rw [s.2.2, W.len, count_of s.1 s.2.1]⟩
theorem mended_hedge (W : Whole D) (q : Nat) : D.mended.hedge q = if q ∈ D.planted then true else if q ∈ D.opened then false else D.hedge q := by
  have a := sets_shape (z := false) D.opened D
  show ((D.planted.foldl (fun (E : Garden) (p : Nat) => E.set p true) (D.opened.foldl (fun (E : Garden) (p : Nat) => E.set p false) D))).hedge q = _
  rw [sets_hedge D.planted _ (fun p hp => by rw [a.2.2, W.len]; exact (planted_in W hp).1), sets_hedge D.opened D (fun p hp => by rw [W.len]; exact (opened_in W hp).1)]
theorem grid {R : Nat → Nat → Prop} (hw : 1 ≤ D.wide) (rf : ∀ s, R s s) (tr : ∀ s t u, R s t → R t u → R s u) (h : ∀ q, q < D.count → R (D.squaresAt q).1 (D.squaresAt q).2) : ∀ s, s < D.squares → R 0 s := by
  intro s
  induction s using Nat.strongRecOn with
  | _ s ih =>
    intro hs
    have go : ∀ k u, k < 4 → D.beyond s k = some u → u < s → R 0 s := by
      intro k u hk hb hu
      obtain ⟨h1, _, _, h2⟩ := beyond_side hw hs hk hb
      have lt := (side_squares hw h1).2.2.1
      have k1 := h _ h1
      rcases h2 with e | e <;> rw [e] at k1 lt
      · exact absurd lt (by omega)
      · exact tr _ _ _ (ih u hu (by omega)) k1
    by_cases c : 0 < D.col s
    · have : 0 < s := by
        rcases Nat.eq_zero_or_pos s with z | z
        · rw [z] at c; unfold Garden.col at c; rw [Nat.zero_mod] at c; omega
        · exact z
      refine go 3 (s - 1) (by omega) ?_ (by omega)
      show (if 0 < D.col s then some (s - 1) else none) = _
      rw [if_pos c]
    · by_cases c2 : 0 < D.row s
      · have hge : D.wide ≤ s := by
          rcases Nat.lt_or_ge s D.wide with z | z
          · unfold Garden.row at c2; rw [Nat.div_eq_of_lt z] at c2; omega
          · exact z
        refine go 0 (s - D.wide) (by omega) ?_ (by omega)
        show (if 0 < D.row s then some (s - D.wide) else none) = _
        rw [if_pos c2]
      · have : s = 0 := by
          unfold Garden.col at c
          unfold Garden.row at c2
          have := Nat.div_add_mod s D.wide
          have z1 : s / D.wide = 0 := Nat.eq_zero_of_not_pos c2
          have z2 : s % D.wide = 0 := Nat.eq_zero_of_not_pos c
          rw [z1, z2, Nat.mul_zero] at this
          exact this.symm
        rw [this]; exact rf 0
theorem mended_conn (W : Whole D) {s t : Nat} (hs : s < D.squares) (ht : t < D.squares) : Conn D.mended s t := by
  have sh := mended_shape (D := D)
  have eqAt := squaresAt_of (E := D.mended) sh.1 sh.2.1
  have eqC := count_of (E := D.mended) sh.1 sh.2.1
  -- what's joined in the garden stays joined
  have keep : ∀ a b, Conn D a b → Conn D.mended a b := by
    intro a b h0
    have h := (planted_conn (List.range D.count) D W (fun p hp => List.mem_range.mp hp) a b).mpr h0
    clear h0
    have ps := sets_shape (z := true) D.planted D
    induction h with
    | refl => exact .refl _
    | step _ e ih =>
      obtain ⟨q, h1, h2, h3⟩ := e
      have h2 : (D.planted.foldl (fun (E : Garden) (p : Nat) => E.set p true) D).hedge q = false := h2
      rw [sets_hedge D.planted D (fun p hp => by rw [W.len]; exact (planted_in W hp).1)] at h2
      have hq : q < D.count := by rw [← count_of (E := D.planted.foldl (fun (E : Garden) (p : Nat) => E.set p true) D) ps.1 ps.2.1]; exact h1
      refine .step ih ⟨q, by rw [eqC]; exact hq, ?_, ?_⟩
      · rw [mended_hedge W]
        by_cases c : q ∈ D.planted
        · rw [if_pos c] at h2; cases h2
        · rw [if_neg c] at h2 ⊢
          split
          · rfl
          · exact h2
      · rw [eqAt, ← squaresAt_of (E := D.planted.foldl (fun (E : Garden) (p : Nat) => E.set p true) D) ps.1 ps.2.1]; exact h3
  have opn : ∀ p, p ∈ D.opened → Conn D.mended (D.squaresAt p).1 (D.squaresAt p).2 := by
    intro p hp
    have hi := opened_in W hp
    refine .one ⟨p, by rw [eqC]; exact hi.1, ?_, .inl (eqAt p)⟩
    rw [mended_hedge W, if_neg (fun z => by have := (planted_in W z).2; rw [hi.2] at this; cases this), if_pos hp]
  have all : ∀ q, q < D.count → Conn D.mended (D.squaresAt q).1 (D.squaresAt q).2 := by
    intro q hq
    by_cases c : D.hedge q = true
    · have J1 := openR_joins (D := D) (List.range D.count) (prs D) (prs D ++ D.opened.map D.squaresAt) (fun e he => List.mem_append_left _ he)
        (fun p hp => List.mem_append_right _ (List.mem_map.mpr ⟨p, by rw [opened_eq W.wlo]; exact hp, rfl⟩)) q (List.mem_range.mpr hq) c
      have up : ∀ a b, J (prs D ++ D.opened.map D.squaresAt) a b → Conn D.mended a b := by
        intro a b h
        induction h with
        | refl => exact .refl _
        | @step u t _ e ih =>
          refine ih.trans ?_
          have one : ∀ x y, (x, y) ∈ prs D ++ D.opened.map D.squaresAt → Conn D.mended x y := by
            intro x y h
            rcases List.mem_append.mp h with h | h
            · exact keep x y (.one (edge_prs.mpr (.inl h)))
            · obtain ⟨p, hp, e⟩ := List.mem_map.mp h
              have := opn p hp
              rw [e] at this; exact this
          rcases e with e | e
          · exact one _ _ e
          · exact (one _ _ e).symm
      exact up _ _ J1
    · exact keep _ _ (.one ⟨q, hq, by cases e : D.hedge q with | true => exact absurd e c | false => rfl, .inl rfl⟩)
  have g := grid (R := Conn D.mended) W.wlo (fun s => .refl s) (fun _ _ _ h k => h.trans k) all
  exact (g s hs).symm.trans (g t ht)
end
end Gt

end
section
set_option linter.all false
set_option maxHeartbeats 2000000
namespace Gt
open Maze Gm

section
variable {D : Garden}
theorem outs_symm (hw : 1 ≤ D.wide) {s u : Nat} (hs : s < D.squares) (h : u ∈ D.outs s) : s ∈ D.outs u :=
  (outs_iff hw (outs_lt hw hs h)).mpr ((outs_iff hw hs).mp h).symm
theorem isWay_cons {s u : Nat} {l : List Nat} : D.isWay (s :: u :: l) = true ↔ s < D.squares ∧ u ∈ D.outs s ∧ D.isWay (u :: l) = true := by
  show (decide (s < D.squares) && ((D.outs s).contains u && D.isWay (u :: l))) = true ↔ _
  rw [Bool.and_eq_true, Bool.and_eq_true, decide_eq_true_eq, List.contains_iff_mem]
theorem isWay_one {s : Nat} : D.isWay [s] = true ↔ s < D.squares := by
  show decide (s < D.squares) = true ↔ _
  rw [decide_eq_true_eq]
/-- a way that comes nowhere twice, from s to t, told by its steps -/
structure Path (D : Garden) (s t : Nat) (l : List Nat) : Prop where
  way : D.isWay l = true
  nd : l.Nodup
  head : l.head? = some s
  last : l.getLast? = some t

/-! ### the first shortest way -/
structure Near (D : Garden) (t n s : Nat) (l : List Nat) : Prop where
  len : l.length = n + 1
  path : Path D s t l
  far : ∀ u, u ∈ l → ∃ k, k ≤ n ∧ Dist D t k u
theorem nearer_at (hw : 1 ≤ D.wide) {t : Nat} (ht : t < D.squares) : ∀ (n s : Nat), s < D.squares → Dist D t n s → Near D t n s (D.nearer (D.fars t) n s)
  | 0, s, hs, h => by
    have e : s = t := h.1
    subst e
    refine ⟨rfl, ⟨isWay_one.mpr hs, List.nodup_cons.mpr ⟨List.not_mem_nil, List.nodup_nil⟩, rfl, rfl⟩, fun u hu => ?_⟩
    have hu : u ∈ [s] := hu
    rw [List.mem_singleton.mp hu]
    exact ⟨0, Nat.le_refl _, h⟩
  | n + 1, s, hs, h => by
    obtain ⟨u, hu, hsu⟩ := dist_pred h
    have hul := walk_lt hw ht hu.1
    have huo := outs_symm hw hul hsu
    unfold Garden.nearer
    cases e : (D.outs s).find? fun (u : Nat) => (D.fars t).getD u none == some n with
    | none =>
      have := List.find?_eq_none.mp e u huo
      rw [beq_iff_eq] at this
      exact absurd ((fars_at hw ht u n).mpr hu) this
    | some v =>
      have hv := List.find?_some e
      have hvo := List.mem_of_find?_eq_some e
      rw [beq_iff_eq] at hv
      have hd := (fars_at hw ht v n).mp hv
      have hvl := outs_lt hw hs hvo
      have ih := nearer_at hw ht n v hvl hd
      show Near D t (n + 1) s (s :: D.nearer (D.fars t) n v)
      generalize D.nearer (D.fars t) n v = l at *
      match l, ih with
      | [], ih => have := ih.len; simp at this
      | x :: r, ih =>
        have hx := ih.path.head
        simp at hx
        subst hx
        refine ⟨by rw [List.length_cons, ih.len], ⟨isWay_cons.mpr ⟨hs, hvo, ih.path.way⟩, List.nodup_cons.mpr ⟨fun hm => ?_, ih.path.nd⟩, rfl, by rw [List.getLast?_cons_cons]; exact ih.path.last⟩, fun w hwm => ?_⟩
        · obtain ⟨k, hk, hdk⟩ := ih.far s hm
          have := dist_unique hdk h
          omega
        · rcases List.mem_cons.mp hwm with z | z
          · rw [z]; exact ⟨n + 1, Nat.le_refl _, h⟩
          · obtain ⟨k, hk, hdk⟩ := ih.far w z
            exact ⟨k, by omega, hdk⟩
theorem walk_symm (hw : 1 ≤ D.wide) {s : Nat} (hs : s < D.squares) : ∀ {n t : Nat}, Walk D s n t → Walk D t n s := by
  -- a step ahead of a walk
  have ahead : ∀ {n a b t : Nat}, b ∈ D.outs a → Walk D b n t → Walk D a (n + 1) t := by
    intro n
    induction n with
    | zero => intro a b t h k; exact ⟨a, rfl, by rw [show t = b from k]; exact h⟩
    | succ n ih =>
      intro a b t h k
      obtain ⟨u, h1, h2⟩ := k
      exact ⟨u, ih h h1, h2⟩
  intro n
  induction n with
  | zero => intro t h; exact Eq.symm h
  | succ n ih =>
    intro t h
    obtain ⟨u, h1, h2⟩ := h
    exact ahead (outs_symm hw (walk_lt hw hs h1) h2) (ih h1)
theorem dist_symm (hw : 1 ≤ D.wide) {s n t : Nat} (hs : s < D.squares) (h : Dist D s n t) : Dist D t n s :=
  ⟨walk_symm hw hs h.1, fun k hk z => h.2 k hk (walk_symm hw (walk_lt hw hs h.1) z)⟩
theorem way_of_path {s : Nat} : ∀ {l : List Nat} {t : Nat}, D.isWay l = true → l.head? = some s → l.getLast? = some t → ∀ a n, Walk D a n s → Walk D a (n + (l.length - 1)) t
  | [], _, h, _, _ => by cases h
  | [x], t, _, h1, h2 => by
    intro a n k
    simp at h1 h2
    subst h1 h2
    exact k
  | x :: y :: r, t, h, h1, h2 => by
    intro a n k
    obtain ⟨_, hy, hr⟩ := isWay_cons.mp h
    simp at h1
    subst h1
    rw [List.getLast?_cons_cons] at h2
    have := way_of_path (s := y) hr rfl h2 a (n + 1) ⟨x, k, hy⟩
    rw [List.length_cons, List.length_cons] at *
    have e : n + 1 + (r.length + 1 - 1) = n + (r.length + 1 + 1 - 1) := by omega
    rw [← e]
    exact this
theorem path_walk {s t : Nat} {l : List Nat} (P : Path D s t l) : Walk D s (l.length - 1) t := by
  have := way_of_path P.way P.head P.last s 0 rfl
  rwa [Nat.zero_add] at this
/-- **the first shortest way** between joined squares -/
theorem way_at (hw : 1 ≤ D.wide) {s t n : Nat} (hs : s < D.squares) (h : Dist D s n t) : D.way s t = some (D.nearer (D.fars t) n s) ∧ Near D t n s (D.nearer (D.fars t) n s) := by
  have ht := walk_lt hw hs h.1
  have h' := dist_symm hw hs h
  refine ⟨?_, nearer_at hw ht n s hs h'⟩
  show (((D.fars t).getD s none).map fun (n : Nat) => D.nearer (D.fars t) n s) = _
  rw [(fars_at hw ht s n).mpr h']
  rfl

/-! ### the farthest two -/
theorem farther_fold : ∀ (L : List (Nat × Nat × Nat)) (x : Nat × Nat × Nat), ∃ i, (L.foldl farther x = x ∧ (∀ y, y ∈ L → y.1 ≤ x.1)) ∨
    (∃ y, L[i]? = some y ∧ L.foldl farther x = y ∧ x.1 < y.1 ∧ (∀ z, z ∈ L → z.1 ≤ y.1) ∧ ∀ (j : Nat) (z : Nat × Nat × Nat), j < i → L[j]? = some z → z.1 < y.1)
  | [], x => ⟨0, .inl ⟨rfl, fun _ h => by cases h⟩⟩
  | a :: L, x => by
    rw [List.foldl_cons]
    unfold farther
    by_cases c : x.1 < a.1
    · rw [if_pos c]
      obtain ⟨i, h | ⟨y, h1, h2, h3, h4, h5⟩⟩ := farther_fold L a
      · refine ⟨0, .inr ⟨a, rfl, h.1, c, fun z hz => ?_, fun j z hj => by omega⟩⟩
        rcases List.mem_cons.mp hz with e | e
        · rw [e]; exact Nat.le_refl _
        · exact h.2 z e
      · refine ⟨i + 1, .inr ⟨y, h1, h2, by omega, fun z hz => ?_, fun j z hj hz => ?_⟩⟩
        · rcases List.mem_cons.mp hz with e | e
          · rw [e]; omega
          · exact h4 z e
        · cases j with
          | zero => simp at hz; rw [← hz]; exact h3
          | succ j => exact h5 j z (by omega) hz
    · rw [if_neg c]
      obtain ⟨i, h | ⟨y, h1, h2, h3, h4, h5⟩⟩ := farther_fold L x
      · refine ⟨0, .inl ⟨h.1, fun z hz => ?_⟩⟩
        rcases List.mem_cons.mp hz with e | e
        · rw [e]; omega
        · exact h.2 z e
      · refine ⟨i + 1, .inr ⟨y, h1, h2, h3, fun z hz => ?_, fun j z hj hz => ?_⟩⟩
        · rcases List.mem_cons.mp hz with e | e
          · rw [e]; omega
          · exact h4 z e
        · cases j with
          | zero => simp at hz; rw [← hz]; omega
          | succ j => exact h5 j z (by omega) hz
end
end Gt

end
section
set_option linter.all false
set_option maxHeartbeats 2000000
namespace Gt
open Maze Gm

section
variable {D : Garden}
theorem beyond_inj (hw : 1 ≤ D.wide) {s k k' u : Nat} (hk : k < 4) (hk' : k' < 4) (h : D.beyond s k = some u) (h' : D.beyond s k' = some u) : k = k' := by
  have up : 0 < D.row s → D.wide ≤ s := by
    intro z
    rcases Nat.lt_or_ge s D.wide with y | y
    · unfold Garden.row at z; rw [Nat.div_eq_of_lt y] at z; omega
    · exact y
  have lf : 0 < D.col s → 0 < s := by
    intro z
    rcases Nat.eq_zero_or_pos s with y | y
    · rw [y] at z; unfold Garden.col at z; rw [Nat.zero_mod] at z; omega
    · exact y
  have lt : D.col s < D.wide := Nat.mod_lt _ (by omega)
  have b0 : ∀ u, D.beyond s 0 = some u → 0 < D.row s ∧ u = s - D.wide := by
    intro u h
    have h : (if 0 < D.row s then some (s - D.wide) else none) = some u := h
    split at h
    · injection h with h; exact ⟨by assumption, h.symm⟩
    · cases h
  have b1 : ∀ u, D.beyond s 1 = some u → D.col s + 1 < D.wide ∧ u = s + 1 := by
    intro u h
    have h : (if D.col s + 1 < D.wide then some (s + 1) else none) = some u := h
    split at h
    · injection h with h; exact ⟨by assumption, h.symm⟩
    · cases h
  have b2 : ∀ u, D.beyond s 2 = some u → u = s + D.wide := by
    intro u h
    have h : (if D.row s + 1 < D.high then some (s + D.wide) else none) = some u := h
    split at h
    · injection h with h; exact h.symm
    · cases h
  have b3 : ∀ u, D.beyond s 3 = some u → 0 < D.col s ∧ u = s - 1 := by
    intro u h
    have h : (if 0 < D.col s then some (s - 1) else none) = some u := h
    split at h
    · injection h with h; exact ⟨by assumption, h.symm⟩
    · cases h
  have k4 : k = 0 ∨ k = 1 ∨ k = 2 ∨ k = 3 := by omega
  have k4' : k' = 0 ∨ k' = 1 ∨ k' = 2 ∨ k' = 3 := by omega
  rcases k4 with rfl | rfl | rfl | rfl <;> rcases k4' with rfl | rfl | rfl | rfl <;> first | rfl | exfalso
  · have a := b0 u h; have b := b1 u h'; have := up a.1; omega
  · have a := b0 u h; have b := b2 u h'; have := up a.1; omega
  · have a := b0 u h; have b := b3 u h'; have := up a.1; have := lf b.1; omega
  · have a := b1 u h; have b := b0 u h'; have := up b.1; omega
  · have a := b1 u h; have b := b2 u h'; omega
  · have a := b1 u h; have b := b3 u h'; omega
  · have a := b2 u h; have b := b0 u h'; have := up b.1; omega
  · have a := b2 u h; have b := b1 u h'; omega
  · have a := b2 u h; have b := b3 u h'; omega
  · have a := b3 u h; have b := b0 u h'; have := up b.1; have := lf a.1; omega
  · have a := b3 u h; have b := b1 u h'; omega
  · have a := b3 u h; have b := b2 u h'; omega
theorem side_inj (hw : 1 ≤ D.wide) {p q : Nat} (hp : p < D.count) (hq : q < D.count) (h : D.squaresAt p = D.squaresAt q) : p = q := by
  obtain ⟨_, _, _, ⟨k, hk, hb, e⟩, _⟩ := side_squares hw hp
  obtain ⟨_, _, _, ⟨k', hk', hb', e'⟩, _⟩ := side_squares hw hq
  rw [← h] at hb' e'
  have := beyond_inj hw hk hk' hb hb'
  subst this
  exact e.symm.trans e'
theorem goes_some {s k u : Nat} (h : D.goes s k = some u) : D.beyond s k = some u ∧ D.hedge (D.sideOf s k) = false := by
  unfold Garden.goes at h
  cases hb : D.beyond s k with
  | none => rw [hb] at h; cases h
  | some t =>
    rw [hb] at h
    have h : (if D.hedge (D.sideOf s k) = true then none else some t) = some u := h
    by_cases c : D.hedge (D.sideOf s k) = true
    · rw [if_pos c] at h; cases h
    · rw [if_neg c] at h
      injection h with h
      refine ⟨by rw [h], ?_⟩
      cases e : D.hedge (D.sideOf s k) with
      | true => exact absurd e c
      | false => rfl
/-- between s and u stands the side q -/
def Between (D : Garden) (q s u : Nat) : Prop := D.squaresAt q = (s, u) ∨ D.squaresAt q = (u, s)
theorem between_inj (W : Whole D) {p q s u : Nat} (hp : p < D.count) (hq : q < D.count) (h : Between D p s u) (k : Between D q s u) : p = q := by
  have a := (side_squares W.wlo hp).2.2.1
  have b := (side_squares W.wlo hq).2.2.1
  rcases h with h | h <;> rcases k with k | k
  · exact side_inj W.wlo hp hq (h.trans k.symm)
  · rw [h] at a; rw [k] at b; have a : s < u := a; have b : u < s := b; omega
  · rw [h] at a; rw [k] at b; have a : u < s := a; have b : s < u := b; omega
  · exact side_inj W.wlo hp hq (h.trans k.symm)
theorem edge_set (W : Whole D) {p s u : Nat} (hp : p < D.count) : Edge (D.set p true) s u ↔ Edge D s u ∧ ¬ Between D p s u := by
  have hl : p < D.hedges.length := by rw [W.len]; exact hp
  constructor
  · rintro ⟨q, h1, h2, h3⟩
    rw [set_hedge hl] at h2
    split at h2
    · cases h2
    · rename_i c
      exact ⟨⟨q, h1, h2, h3⟩, fun z => c (between_inj W h1 hp h3 z)⟩
  · rintro ⟨⟨q, h1, h2, h3⟩, n⟩
    refine ⟨q, h1, ?_, h3⟩
    have c : ¬ q = p := fun z => n (by rw [← z]; exact h3)
    rw [set_hedge hl, if_neg c]
    exact h2
/-- a way that doesn't go through a side joins its ends without that side -/
theorem way_without (W : Whole D) {p : Nat} (hp : p < D.count) : ∀ {l : List Nat} {s t : Nat}, D.isWay l = true → l.head? = some s → l.getLast? = some t → (∀ i a b, l[i]? = some a → l[i + 1]? = some b → ¬ Between D p a b) → Conn (D.set p true) s t
  | [], _, _, h, _, _, _ => by cases h
  | [x], s, t, _, h1, h2, _ => by
    simp at h1 h2
    subst h1 h2
    exact .refl _
  | x :: y :: r, s, t, h, h1, h2, h3 => by
    obtain ⟨hx, hy, hr⟩ := isWay_cons.mp h
    simp at h1
    subst h1
    rw [List.getLast?_cons_cons] at h2
    have e := (edge_set W hp).mpr ⟨(outs_iff W.wlo hx).mp hy, h3 0 x y rfl rfl⟩
    exact (Conn.one e).trans (way_without W hp hr rfl h2 fun i a b ha hb => h3 (i + 1) a b ha hb)

/-- the step from s to u can't be gone round -/
def Needed (D : Garden) (s u : Nat) : Prop := ∀ q, q < D.count → Between D q s u → ¬ Conn (D.set q true) s u
theorem only_cons (W : Whole D) {s u : Nat} {l : List Nat} (h : D.isWay (s :: u :: l) = true) : D.onlyWay (s :: u :: l) = true ↔ Needed D s u ∧ D.onlyWay (u :: l) = true := by
  obtain ⟨hs, hu, _⟩ := isWay_cons.mp h
  obtain ⟨k, hk, hb, hh⟩ := outs_beyond (List.contains_iff_mem.mpr hu)
  have hg := goes_of hb hh
  show ((match (List.range 4).find? fun (k : Nat) => D.goes s k == some u with
      | some k => ((D.set (D.sideOf s k) true).far s u).isNone
      | none => false) && D.onlyWay (u :: l)) = true ↔ _
  rw [Bool.and_eq_true]
  have e : (List.range 4).find? (fun (k : Nat) => D.goes s k == some u) = some k := by
    cases e : (List.range 4).find? (fun (k : Nat) => D.goes s k == some u) with
    | none =>
      have := List.find?_eq_none.mp e k (List.mem_range.mpr hk)
      rw [beq_iff_eq] at this
      exact absurd hg this
    | some k' =>
      have a := List.find?_some e
      rw [beq_iff_eq] at a
      have b := List.mem_range.mp (List.mem_of_find?_eq_some e)
      rw [beyond_inj W.wlo b hk (goes_some a).1 hb]
  rw [e]
  show ((D.set (D.sideOf s k) true).far s u).isNone = true ∧ _ ↔ _
  obtain ⟨h1, _, _, h2⟩ := beyond_side W.wlo hs hk hb
  rw [far_none (D := D.set (D.sideOf s k) true) W.wlo hs]
  constructor
  · rintro ⟨a, b⟩
    exact ⟨fun q hq hqb => by rw [between_inj W hq h1 hqb h2]; exact a, b⟩
  · rintro ⟨a, b⟩
    exact ⟨a _ h1 h2, b⟩
/-- **the only way**: no other from its beginning to its end comes nowhere twice -/
theorem only_unique (W : Whole D) : ∀ {l k : List Nat} {s t : Nat}, Path D s t l → D.onlyWay l = true → Path D s t k → k = l
  | [], _, _, _, P, _, _ => by have := P.head; cases this
  | [x], k, s, t, P, _, Q => by
    have h1 := P.head; have h2 := P.last
    simp at h1 h2
    subst h1 h2
    match k, Q with
    | [], Q => have := Q.head; cases this
    | [y], Q => have := Q.head; simp at this; rw [this]
    | y :: z :: r, Q =>
      have a := Q.head; have b := Q.last
      simp at a
      subst a
      rw [List.getLast?_cons_cons] at b
      have := List.mem_of_getLast? b
      exact absurd this (List.nodup_cons.mp Q.nd).1
  | x :: y :: r, k, s, t, P, o, Q => by
    have h1 := P.head
    simp at h1
    subst h1
    obtain ⟨hN, hO⟩ := (only_cons W P.way).mp o
    obtain ⟨hx, hy, hr⟩ := isWay_cons.mp P.way
    have hl := P.last
    rw [List.getLast?_cons_cons] at hl
    have nd := List.nodup_cons.mp P.nd
    have P' : Path D y t (y :: r) := ⟨hr, nd.2, rfl, hl⟩
    obtain ⟨q, q1, q2, q3⟩ := (outs_iff W.wlo hx).mp hy
    -- the side is not gone through behind its first step
    have T : Conn (D.set q true) y t := by
      refine way_without W q1 hr rfl hl fun i a b ha hb z => ?_
      have ma := List.mem_of_getElem? ha
      have mb := List.mem_of_getElem? hb
      rcases q3 with e | e <;> rcases z with z | z <;> rw [e] at z <;> injection z with z1 z2
      · exact nd.1 (z1 ▸ ma)
      · exact nd.1 (z1 ▸ mb)
      · exact nd.1 (z2 ▸ mb)
      · exact nd.1 (z2 ▸ ma)
    match k, Q with
    | [], Q => have := Q.head; cases this
    | [a], Q =>
      have h1 := Q.head; have h2 := Q.last
      simp at h1 h2
      subst h1 h2
      exact absurd (List.mem_of_getLast? hl) nd.1
    | a :: b :: r2, Q =>
      have h1 := Q.head
      simp at h1
      subst h1
      obtain ⟨_, hb, hr2⟩ := isWay_cons.mp Q.way
      have hl2 := Q.last
      rw [List.getLast?_cons_cons] at hl2
      have nd2 := List.nodup_cons.mp Q.nd
      by_cases e : b = y
      · subst e
        rw [only_unique W P' hO ⟨hr2, nd2.2, rfl, hl2⟩]
      · exfalso
        have T2 : Conn (D.set q true) a t := by
          refine way_without W q1 Q.way rfl Q.last fun i u v hu hv z => ?_
          have hav : a ≠ y := fun z => nd.1 (z ▸ List.mem_cons_self)
          cases i with
          | zero =>
            simp at hu hv
            subst hu hv
            rcases q3 with e3 | e3 <;> rcases z with z | z <;> rw [e3] at z <;> injection z with z1 z2
            · exact e z2.symm
            · exact hav z2.symm
            · exact hav z1.symm
            · exact e z1.symm
          | succ i =>
            have mu : u ∈ b :: r2 := List.mem_of_getElem? (i := i) (by simpa using hu)
            have mv : v ∈ b :: r2 := List.mem_of_getElem? (i := i + 1) (by simpa using hv)
            rcases q3 with e3 | e3 <;> rcases z with z | z <;> rw [e3] at z <;> injection z with z1 z2
            · exact nd2.1 (z1 ▸ mu)
            · exact nd2.1 (z1 ▸ mv)
            · exact nd2.1 (z2 ▸ mv)
            · exact nd2.1 (z2 ▸ mu)
        exact hN q q1 q3 (T2.trans T.symm)
end
end Gt

end
section
set_option linter.all false
set_option maxHeartbeats 2000000
namespace Gt
open Maze Gm

theorem forest_of : ∀ (E : List (Nat × Nat)), (∀ e, e ∈ E → ¬ J (E.erase e) e.1 e.2) → Forest E
  | [], _ => trivial
  | (a, b) :: E, h => by
    refine ⟨?_, forest_of E fun e he z => ?_⟩
    · have := h _ List.mem_cons_self
      rw [List.erase_cons_head] at this
      exact this
    · refine h e (List.mem_cons_of_mem _ he) (z.mono fun x hx => ?_)
      by_cases c : (a, b) = e
      · rw [c, List.erase_cons_head]
        exact List.mem_of_mem_erase hx
      · rw [List.erase_cons_tail (by simpa using c)]
        exact List.mem_cons_of_mem _ hx

section
variable {D : Garden}
theorem passages_nodup : D.passages.Nodup := List.nodup_range.filter _
theorem map_nodup {α β : Type} (f : α → β) : ∀ (l : List α), (∀ a b, a ∈ l → b ∈ l → f a = f b → a = b) → l.Nodup → (l.map f).Nodup
  | [], _, _ => List.nodup_nil
  | x :: l, h, n => by
    rw [List.map_cons, List.nodup_cons]
    have n := List.nodup_cons.mp n
    refine ⟨fun z => ?_, map_nodup f l (fun a b ha hb => h a b (List.mem_cons_of_mem _ ha) (List.mem_cons_of_mem _ hb)) n.2⟩
    obtain ⟨y, hy, e⟩ := List.mem_map.mp z
    have := h y x (List.mem_cons_of_mem _ hy) List.mem_cons_self e
    exact n.1 (this ▸ hy)
theorem prs_nodup (hw : 1 ≤ D.wide) : (prs D).Nodup :=
  map_nodup _ _ (fun _ _ ha hb e => side_inj hw (mem_passages.mp ha).1 (mem_passages.mp hb).1 e) passages_nodup
/-- where every passage is needed, there is no ring -/
theorem forest_needed (W : Whole D) (h : ∀ p, p < D.count → D.hedge p = false → ¬ Conn (D.set p true) (D.squaresAt p).1 (D.squaresAt p).2) : Forest (prs D) := by
  refine forest_of _ fun e he z => ?_
  obtain ⟨p, hp, rfl⟩ := List.mem_map.mp he
  have hp' := mem_passages.mp hp
  refine h p hp'.1 hp'.2 ?_
  have hl : p < D.hedges.length := by rw [W.len]; exact hp'.1
  have one : ∀ x y, (x, y) ∈ (prs D).erase (D.squaresAt p) → Edge (D.set p true) x y := by
    intro x y hx
    rw [(prs_nodup W.wlo).mem_erase_iff] at hx
    obtain ⟨q, hq, e⟩ := List.mem_map.mp hx.2
    have hq' := mem_passages.mp hq
    have c : ¬ q = p := fun z => hx.1 (by rw [← e, z])
    exact ⟨q, hq'.1, by rw [set_hedge hl, if_neg c]; exact hq'.2, .inl e⟩
  generalize (D.squaresAt p).1 = s at z
  generalize (D.squaresAt p).2 = t at z
  induction z with
  | refl => exact .refl _
  | step _ e ih =>
    rcases e with e | e
    · exact .step ih (one _ _ e)
    · exact .step ih (one _ _ e).symm
theorem conn_less {D E : Garden} (hw : E.wide = D.wide) (hh : E.high = D.high) (h : ∀ q, q < D.count → E.hedge q = false → D.hedge q = false) {s t : Nat} (k : Conn E s t) : Conn D s t := by
  induction k with
  | refl => exact .refl _
  | step _ e ih =>
    obtain ⟨q, h1, h2, h3⟩ := e
    rw [count_of hw hh] at h1
    rw [squaresAt_of hw hh] at h3
    exact .step ih ⟨q, h1, h q h1 h2, h3⟩
theorem sets_true : ∀ (c : List Nat) (D : Garden), (∀ p, p ∈ c → p < D.hedges.length) → ∀ q, D.hedge q = true → (c.foldl (fun (E : Garden) (p : Nat) => E.set p true) D).hedge q = true := by
  intro c D h q hq
  rw [sets_hedge c D h q]
  split
  · rfl
  · exact hq
theorem planted_lt : ∀ (r : List Nat) (D : Garden) (p : Nat), p ∈ D.plantedFrom r → p ∈ r
  | [], _, _, h => by unfold Garden.plantedFrom at h; cases h
  | q :: r, D, p, h => by
    unfold Garden.plantedFrom at h
    split at h
    · rcases List.mem_cons.mp h with e | e
      · rw [e]; exact List.mem_cons_self
      · exact List.mem_cons_of_mem _ (planted_lt r _ p e)
    · exact List.mem_cons_of_mem _ (planted_lt r _ p h)
theorem planted_needed : ∀ (r : List Nat) (D : Garden), Whole D → (∀ p, p ∈ r → p < D.count) → ∀ p, p ∈ r →
    ((D.plantedFrom r).foldl (fun (E : Garden) (p : Nat) => E.set p true) D).hedge p = false →
    ¬ Conn (((D.plantedFrom r).foldl (fun (E : Garden) (p : Nat) => E.set p true) D).set p true) (D.squaresAt p).1 (D.squaresAt p).2
  | [], _, _, _, _, h, _ => by cases h
  | q :: r, D, W, hr, p, hp, hf => by
    have hr' : ∀ p, p ∈ r → p < D.count := fun p hp => hr p (List.mem_cons_of_mem _ hp)
    have hq := hr q List.mem_cons_self
    have hql : q < D.hedges.length := by rw [W.len]; exact hq
    have inl : ∀ (E : Garden), E.hedges.length = D.count → ∀ p, p ∈ E.plantedFrom r → p < E.hedges.length := fun E hE p hp => by
      rw [hE]; exact hr' p (planted_lt r E p hp)
    unfold Garden.plantedFrom at hf ⊢
    split at hf
    · rename_i c
      rw [if_pos c]
      rw [List.foldl_cons] at hf ⊢
      have hl1 : (D.set q true).hedges.length = D.count := (set_whole (D := D) (p := q) (z := true) W).len
      rcases List.mem_cons.mp hp with e | e
      · subst e
        have := sets_true _ (D.set p true) (inl _ hl1) p (by rw [set_hedge hql, if_pos rfl])
        rw [this] at hf
        cases hf
      · exact planted_needed r (D.set q true) (set_whole W) hr' p e hf
    · rename_i c
      rw [if_neg c]
      rcases List.mem_cons.mp hp with e | e
      · subst e
        have sh := sets_shape (z := true) (D.plantedFrom r) D
        have hD : D.hedge p = false := by
          cases z : D.hedge p with
          | false => rfl
          | true =>
            have := sets_true _ D (inl D W.len) p z
            rw [this] at hf
            cases hf
        intro z
        refine c ⟨hD, (far_some (D := D.set p true) W.wlo (side_squares (D := D) W.wlo hq).1).mpr ?_⟩
        refine conn_less (D := D.set p true) (E := ((D.plantedFrom r).foldl (fun (E : Garden) (p : Nat) => E.set p true) D).set p true) sh.1 sh.2.1 (fun x _ hx => ?_) z
        rw [set_hedge (by rw [sh.2.2]; exact hql)] at hx
        rw [set_hedge hql]
        by_cases e : x = p
        · rw [if_pos e] at hx; cases hx
        · rw [if_neg e] at hx ⊢
          rw [sets_hedge _ D (inl D W.len)] at hx
          split at hx
          · cases hx
          · exact hx
      · exact planted_needed r D W hr' p e hf
/-- the garden with its planting alone -/
def plantedG (D : Garden) : Garden := D.planted.foldl (fun (E : Garden) (p : Nat) => E.set p true) D
theorem plantedG_shape : (plantedG D).wide = D.wide ∧ (plantedG D).high = D.high ∧ (plantedG D).hedges.length = D.hedges.length := sets_shape D.planted D
theorem plantedG_whole (W : Whole D) : Whole (plantedG D) := by
  have s := plantedG_shape (D := D)
  exact ⟨by rw [s.1]; exact W.wlo, by rw [s.2.1]; exact W.hlo, by rw [s.2.2, W.len, count_of s.1 s.2.1]⟩
theorem plantedG_hedge (W : Whole D) (q : Nat) : (plantedG D).hedge q = if q ∈ D.planted then true else D.hedge q :=
  sets_hedge D.planted D (fun p hp => by rw [W.len]; exact (planted_in W hp).1) q
theorem plantedG_conn (W : Whole D) (s t : Nat) : Conn (plantedG D) s t ↔ Conn D s t := planted_conn (List.range D.count) D W (fun _ hp => List.mem_range.mp hp) s t
theorem plantedG_forest (W : Whole D) : Forest (prs (plantedG D)) := by
  have s := plantedG_shape (D := D)
  refine forest_needed (plantedG_whole W) fun p hp hf => ?_
  rw [count_of s.1 s.2.1] at hp
  rw [squaresAt_of s.1 s.2.1]
  exact planted_needed (List.range D.count) D W (fun _ hp => List.mem_range.mp hp) p (List.mem_range.mpr hp) hf
theorem openR_forest : ∀ (r : List Nat) (E F : List (Nat × Nat)), Forest F → (∀ s t, J E s t ↔ J F s t) → Forest ((openR D E r).reverse.map D.squaresAt ++ F)
  | [], E, F, hF, _ => by unfold openR; exact hF
  | p :: r, E, F, hF, hE => by
    by_cases c : D.hedge p = true ∧ ¬ J E (D.squaresAt p).1 (D.squaresAt p).2
    · rw [openR_yes c.1 c.2, List.reverse_cons, List.map_append, List.append_assoc]
      refine openR_forest r (D.squaresAt p :: E) (D.squaresAt p :: F) ⟨fun z => c.2 ((hE _ _).mpr z), hF⟩ fun s t => ?_
      have a := J_cons (a := (D.squaresAt p).1) (b := (D.squaresAt p).2) (E := E) (s := s) (t := t)
      have b := J_cons (a := (D.squaresAt p).1) (b := (D.squaresAt p).2) (E := F) (s := s) (t := t)
      refine a.trans (Iff.trans ?_ b.symm)
      rw [hE, hE, hE, hE, hE]
    · rw [openR_no c]
      exact openR_forest r E F hF hE
theorem openR_nodup : ∀ (r : List Nat) (E : List (Nat × Nat)), r.Nodup → (openR D E r).Nodup
  | [], _, _ => by unfold openR; exact List.nodup_nil
  | p :: r, E, h => by
    have h := List.nodup_cons.mp h
    by_cases c : D.hedge p = true ∧ ¬ J E (D.squaresAt p).1 (D.squaresAt p).2
    · rw [openR_yes c.1 c.2]
      exact List.nodup_cons.mpr ⟨fun z => h.1 (openR_mem r _ p z).1, openR_nodup r _ h.2⟩
    · rw [openR_no c]
      exact openR_nodup r E h.2
theorem mended_perm (W : Whole D) : (D.opened.reverse ++ (plantedG D).passages).Perm D.mended.passages := by
  have sh := mended_shape (D := D)
  have sp := plantedG_shape (D := D)
  rw [List.perm_ext_iff_of_nodup]
  · intro q
    rw [List.mem_append, List.mem_reverse, mem_passages, mem_passages, count_of sh.1 sh.2.1, count_of sp.1 sp.2.1, mended_hedge W, plantedG_hedge W]
    constructor
    · rintro (h | ⟨h1, h2⟩)
      · have o := opened_in W h
        refine ⟨o.1, ?_⟩
        rw [if_neg (fun z => by have := (planted_in W z).2; rw [o.2] at this; cases this), if_pos h]
      · refine ⟨h1, ?_⟩
        split at h2
        · cases h2
        · rename_i c
          rw [if_neg c]
          split
          · rfl
          · exact h2
    · rintro ⟨h1, h2⟩
      by_cases c : q ∈ D.planted
      · rw [if_pos c] at h2; cases h2
      · rw [if_neg c] at h2
        by_cases c2 : q ∈ D.opened
        · exact .inl c2
        · rw [if_neg c2] at h2
          exact .inr ⟨h1, by rw [if_neg c]; exact h2⟩
  · rw [List.nodup_append]
    refine ⟨?_, passages_nodup, fun a ha b hb e => ?_⟩
    · rw [opened_eq W.wlo]
      exact (List.reverse_perm _).nodup_iff.mpr (openR_nodup _ _ List.nodup_range)
    · subst e
      have o := opened_in W (List.mem_reverse.mp ha)
      have p := (mem_passages.mp hb).2
      rw [plantedG_hedge W] at p
      split at p
      · cases p
      · rw [o.2] at p; cases p
  · exact passages_nodup
theorem mended_forest (W : Whole D) : Forest (prs D.mended) := by
  have sh := mended_shape (D := D)
  have sp := plantedG_shape (D := D)
  have e1 : prs D.mended = D.mended.passages.map D.squaresAt := List.map_congr_left fun q _ => squaresAt_of sh.1 sh.2.1 q
  have e2 : prs (plantedG D) = (plantedG D).passages.map D.squaresAt := List.map_congr_left fun q _ => squaresAt_of sp.1 sp.2.1 q
  have F := openR_forest (D := D) (List.range D.count) (prs D) (prs (plantedG D)) (plantedG_forest W) fun s t => by
    rw [← conn_J, ← conn_J, plantedG_conn W]
  rw [← opened_eq W.wlo, e2, ← List.map_append] at F
  rw [e1]
  have lt : ∀ e, e ∈ (D.opened.reverse ++ (plantedG D).passages).map D.squaresAt → e.1 < D.squares ∧ e.2 < D.squares := by
    intro e he
    obtain ⟨q, hq, rfl⟩ := List.mem_map.mp he
    have hq := (mended_perm W).mem_iff.mp hq
    have := (mem_passages.mp hq).1
    rw [count_of sh.1 sh.2.1] at this
    have := side_squares W.wlo this
    exact ⟨this.1, this.2.1⟩
  exact (forest_perm ((mended_perm W).map D.squaresAt) lt).mp F
theorem mended_squares : D.mended.squares = D.squares := by
  have sh := mended_shape (D := D)
  unfold Garden.squares
  rw [sh.1, sh.2.1]
/-- **what's mended is perfect** -/
theorem mended_perfect (W : Whole D) : D.mended.perfect = true := by
  have Wm := mended_whole W
  have h0 : 0 < D.mended.squares := Nat.mul_pos Wm.wlo Wm.hlo
  unfold Garden.perfect
  rw [Bool.and_eq_true, beq_iff_eq, beq_iff_eq, rings_forest Wm.wlo, one_room Wm.wlo h0]
  refine ⟨fun t ht => ?_, mended_forest W⟩
  rw [mended_squares] at h0 ht
  exact mended_conn W h0 ht
end
end Gt

end
section
set_option linter.all false
set_option maxHeartbeats 2000000
namespace Gn
open Maze Gm
/-! ### what may stand where on a sheet, as the program tells it -/
def first0 (j : Nat) : List Nat := if j % 2 = 0 then [43] else if j = 1 then [45] else if j = 21 then [10] else [45, 10]
def later (i j w : Nat) : List Nat :=
  if 20 < i then [] else if j = 2 * w + 1 then [10] else if i % 2 = 0 ∧ j % 2 = 0 then [43] else if i % 2 = 1 ∧ j % 2 = 1 then [32, 46, 65, 66]
  else if i = 20 ∨ (j = 0 ∨ j = 2 * w) then [hedgeAt i] else [hedgeAt i, 32, 46]
def sgnsAt (p w : Nat) : List Nat := if w = 0 ∨ p < 2 * w + 2 then first0 p else later (p / (2 * w + 2)) (p % (2 * w + 2)) w
def okN (g : List Nat) (p : Nat) : Prop := g.getD p 0 ∈ sgnsAt p (widOf g)
instance (g : List Nat) (p : Nat) : Decidable (okN g p) := inferInstanceAs (Decidable (_ ∈ _))
def mayEnd (g : List Nat) (w : Nat) : Bool := if w = 0 ∨ higOf g w = 0 then false else decide (g.drop (g.length - (2 * w + 2)) = g.take (2 * w + 2))
/-- the first place that is not ok; else the end, where it may not end -/
inductive FaultN (g : List Nat) : Option Nat → Prop
  | inn {p : Nat} : p < g.length → (∀ q, q < p → okN g q) → ¬ okN g p → FaultN g (some p)
  | fin : (∀ q, q < g.length → okN g q) → mayEnd g (widOf g) = false → FaultN g (some g.length)
  | no : (∀ q, q < g.length → okN g q) → mayEnd g (widOf g) = true → FaultN g none

theorem bytes_len (g : List Nat) : (bytes g).length = g.length := by unfold bytes; exact List.length_map ..
theorem at_ne {g : List Nat} (hb : ∀ n ∈ g, n < 256) (p : Nat) (c : UInt8) : (at0 (bytes g) p == c) = (g.getD p 0 == c.toNat) := by
  rw [Bool.eq_iff_iff, beq_iff_eq, beq_iff_eq]
  exact at_eq hb p c
theorem ok0_nat {g : List Nat} (hb : ∀ n ∈ g, n < 256) (k : Nat) : ok0 k (at0 (bytes g) k) = if k % 2 = 0 then g.getD k 0 == 43 else (g.getD k 0 == 45 && decide (k / 2 < 10)) := by
  unfold ok0
  rw [at_ne hb, at_ne hb]
  rfl
theorem wid_pos {g : List Nat} (h : widOf g ≠ 0) : 1 ≤ widOf g ∧ widOf g ≤ 10 ∧ g[2 * widOf g + 1]? = some 10 ∧ ∀ k, k < 2 * widOf g + 1 → g.getD k 0 ≠ 10 := by
  unfold widOf at h ⊢
  split at h
  · rename_i hin
    rw [if_pos hin]
    obtain ⟨a, b, c⟩ := sqAlong_ne h
    have hlt : g.idxOf 10 < g.length := List.idxOf_lt_length_iff.mpr hin
    refine ⟨a, b, ?_, fun k hk => ?_⟩
    · rw [← c, List.getElem?_eq_getElem hlt, List.getElem_idxOf hlt]
    · rw [← c] at hk
      have hkl : k < g.length := by omega
      rw [List.getD_eq_getElem?_getD, List.getElem?_eq_getElem hkl]
      have := List.not_of_lt_findIdx (p := fun x => x == 10) (xs := g) (i := k) hk
      intro e
      have e : g[k] = 10 := e
      rw [e] at this
      exact absurd this (by decide)
  · exact absurd rfl h
theorem wid_of {g : List Nat} {q : Nat} (h1 : q % 2 = 1) (h2 : 3 ≤ q) (h3 : q ≤ 21) (h4 : g.getD q 0 = 10) (h5 : ∀ k, k < q → g.getD k 0 ≠ 10) : widOf g ≠ 0 := by
  have hat : g[q]? = some 10 := by
    rw [List.getD_eq_getElem?_getD] at h4
    cases e : g[q]? with
    | none => rw [e] at h4; cases h4
    | some n => rw [e] at h4; exact congrArg some h4
  unfold widOf
  rw [if_pos (List.mem_of_getElem? hat), idx_of hat h5]
  unfold sqAlong
  rw [if_neg (by omega)]
  omega
theorem good_ne {g : List Nat} (hb : ∀ n ∈ g, n < 256) {p : Nat} (G : Gt.Good0 (bytes g) p) : ∀ k, k < p → g.getD k 0 ≠ 10 := fun k hk => by
  have z := G k hk
  rw [ok0_nat hb] at z
  split at z
  · intro e; rw [e] at z; cases z
  · intro e; rw [e] at z; cases z
/-- without a width: still in the first line -/
theorem ok_zero {g : List Nat} (hb : ∀ n ∈ g, n < 256) (hw : widOf g = 0) : ∀ p, (∀ q, q < p → okN g q) → Gt.Good0 (bytes g) p ∧ p ≤ 21
  | 0, _ => ⟨fun k hk => by omega, by omega⟩
  | p + 1, h => by
    obtain ⟨G, hp⟩ := ok_zero hb hw p fun q hq => h q (by omega)
    have ne := good_ne hb G
    have z := h p (by omega)
    unfold okN sgnsAt first0 at z
    rw [hw, if_pos (Or.inl rfl)] at z
    have hno : p % 2 = 1 → 3 ≤ p → g.getD p 0 ≠ 10 := fun a b e => wid_of a b hp e ne hw
    have hk : ok0 p (at0 (bytes g) p) = true ∧ p + 1 ≤ 21 := by
      rw [ok0_nat hb]
      split at z
      · rename_i h2
        rw [if_pos h2]
        have z := List.mem_singleton.mp z
        rw [z]
        exact ⟨rfl, by omega⟩
      · rename_i h2
        rw [if_neg h2]
        split at z
        · rename_i h3
          have z := List.mem_singleton.mp z
          rw [z, h3]
          exact ⟨rfl, by omega⟩
        · rename_i h3
          split at z
          · rename_i h4
            have z := List.mem_singleton.mp z
            exact absurd z (hno (by omega) (by omega))
          · rename_i h4
            simp only [List.mem_cons, List.not_mem_nil, or_false] at z
            rcases z with z | z
            · rw [z]
              simp only [beq_self_eq_true, Bool.true_and, decide_eq_true_eq]
              omega
            · exact absurd z (hno (by omega) (by omega))
    refine ⟨fun k hk' => ?_, hk.2⟩
    by_cases e : k = p
    · rw [e]; exact hk.1
    · exact G k (by omega)
theorem bad_first {g : List Nat} (hb : ∀ n ∈ g, n < 256) {p : Nat} (hz : g.getD p 0 ∉ first0 p) : ok0 p (at0 (bytes g) p) = false ∧ ¬ (p % 2 = 1 ∧ at0 (bytes g) p = 10 ∧ 3 ≤ p) := by
  rw [ok0_nat hb, at_eq hb]
  unfold first0 at hz
  split at hz
  · rename_i h2
    rw [if_pos h2]
    exact ⟨by simpa using hz, by omega⟩
  · rename_i h2
    rw [if_neg h2]
    split at hz
    · rename_i h3
      have hz : ¬ g.getD p 0 = 45 := fun e => hz (List.mem_singleton.mpr e)
      exact ⟨by rw [beq_false_of_ne hz]; rfl, by omega⟩
    · rename_i h3
      split at hz
      · rename_i h4
        have hz : ¬ g.getD p 0 = 10 := fun e => hz (List.mem_singleton.mpr e)
        refine ⟨?_, fun z => hz z.2.1⟩
        rw [decide_eq_false (by omega), Bool.and_false]
      · simp only [List.mem_cons, List.not_mem_nil, or_false, not_or] at hz
        exact ⟨by rw [beq_false_of_ne hz.1]; rfl, fun z => hz.2 z.2.1⟩
/-- what may stand in the other lines -/
theorem inSq {g : List Nat} (hb : ∀ n ∈ g, n < 256) (p : Nat) : (inSquare (at0 (bytes g) p)).isSome = true ↔ g.getD p 0 ∈ [32, 46, 65, 66] := by
  unfold inSquare
  simp only [at_eq hb]
  simp only [List.mem_cons, List.not_mem_nil, or_false]
  show (if g.getD p 0 = 32 then some 0 else if g.getD p 0 = 46 then some 1 else if g.getD p 0 = 65 then some 2 else if g.getD p 0 = 66 then some 3 else none : Option Nat).isSome = true ↔ _
  split
  · simp_all
  · split
    · simp_all
    · split
      · simp_all
      · split <;> simp_all
theorem atSd {g : List Nat} (hb : ∀ n ∈ g, n < 256) (c : UInt8) (p : Nat) : (atSide c (at0 (bytes g) p)).isSome = true ↔ g.getD p 0 ∈ [c.toNat, 32, 46] := by
  unfold atSide
  simp only [at_eq hb]
  simp only [List.mem_cons, List.not_mem_nil, or_false]
  show (if g.getD p 0 = 32 then some 0 else if g.getD p 0 = c.toNat then some 1 else if g.getD p 0 = 46 then some 2 else none : Option Nat).isSome = true ↔ _
  split
  · simp_all
  · split
    · simp_all
    · split <;> simp_all
theorem later_ok {g : List Nat} (hb : ∀ n ∈ g, n < 256) {w i j : Nat} (p : Nat) (hw : 1 ≤ w) (hi : 1 ≤ i) (hj : j < 2 * w + 2) (hl : i ≤ 20 ∨ (i = 21 ∧ j = 0)) : Gt.okAt w i j (at0 (bytes g) p) = true ↔ g.getD p 0 ∈ later i j w := by
  unfold Gt.okAt later
  by_cases h20 : 20 < i
  · rw [if_pos h20]
    have h0 : j = 0 := by omega
    subst h0
    have ho : i % 2 = 1 := by omega
    rw [if_pos ho, if_pos rfl]
    simp only [Bool.and_eq_true, decide_eq_true_eq, List.not_mem_nil, iff_false]
    omega
  · rw [if_neg h20]
    by_cases ho : i % 2 = 1
    · rw [if_pos ho]
      by_cases h0 : j = 0
      · subst h0
        rw [if_pos rfl, if_neg (by omega), if_neg (by omega), if_neg (by omega), if_pos (Or.inr (Or.inl rfl)), at_ne hb]
        unfold hedgeAt
        rw [if_neg (by omega), Bool.and_eq_true, beq_iff_eq, decide_eq_true_eq, List.mem_singleton]
        constructor
        · exact fun z => z.1
        · exact fun z => ⟨z, by omega⟩
      · rw [if_neg h0]
        unfold Gt.okO
        by_cases hf : j = 2 * w + 1
        · rw [if_pos hf, if_pos hf, at_ne hb, beq_iff_eq, List.mem_singleton]
          exact Iff.rfl
        · rw [if_neg hf, if_neg hf, if_neg (show ¬ (i % 2 = 0 ∧ j % 2 = 0) by omega)]
          by_cases h1 : j % 2 = 1
          · rw [if_pos h1, if_pos ⟨ho, h1⟩]
            exact inSq hb p
          · rw [if_neg h1, if_neg (show ¬ (i % 2 = 1 ∧ j % 2 = 1) by omega)]
            have hh : hedgeAt i = 124 := by unfold hedgeAt; rw [if_neg (by omega)]
            rw [hh]
            by_cases h2 : j = 2 * w
            · rw [if_pos h2, if_pos (Or.inr (Or.inr h2)), at_ne hb, beq_iff_eq, List.mem_singleton]
              exact Iff.rfl
            · rw [if_neg h2, if_neg (by omega)]
              exact atSd hb 124 p
    · rw [if_neg ho]
      unfold Gt.okE
      by_cases hf : j = 2 * w + 1
      · rw [if_pos hf, if_pos hf, at_ne hb, beq_iff_eq, List.mem_singleton]
        exact Iff.rfl
      · rw [if_neg hf, if_neg hf]
        by_cases h1 : j % 2 = 0
        · rw [if_pos h1, if_pos ⟨by omega, h1⟩, at_ne hb, beq_iff_eq, List.mem_singleton]
          exact Iff.rfl
        · rw [if_neg h1, if_neg (by omega), if_neg (by omega)]
          have hh : hedgeAt i = 45 := by unfold hedgeAt; rw [if_pos (by omega)]
          rw [hh, Bool.or_eq_true, Bool.and_eq_true, decide_eq_true_eq, atSd hb 45 p, at_ne hb, beq_iff_eq]
          by_cases h2 : i = 20
          · rw [if_pos (Or.inl h2), List.mem_singleton]
            constructor
            · rintro (z | z)
              · exact z
              · omega
            · exact Or.inl
          · rw [if_neg (by omega)]
            constructor
            · rintro (z | z)
              · rw [z]; exact List.mem_cons_self
              · exact z.1
            · exact fun z => Or.inr ⟨z, by omega⟩

theorem wid_line {g : List Nat} (hb : ∀ n ∈ g, n < 256) (hw : widOf g ≠ 0) {p : Nat} (hp : p ≤ 2 * widOf g + 1) (h : ∀ q, q < p → okN g q) : Gt.Good0 (bytes g) p := by
  obtain ⟨w1, w2, w3, w4⟩ := wid_pos hw
  intro k hk
  have z := h k hk
  unfold okN sgnsAt first0 at z
  rw [if_pos (Or.inr (by omega))] at z
  have hne := w4 k (by omega)
  rw [ok0_nat hb]
  split at z
  · rename_i h2
    rw [if_pos h2, List.mem_singleton.mp z]
    rfl
  · rename_i h2
    rw [if_neg h2]
    have z : g.getD k 0 = 45 := by
      split at z
      · exact List.mem_singleton.mp z
      · split at z
        · exact absurd (List.mem_singleton.mp z) hne
        · simp only [List.mem_cons, List.not_mem_nil, or_false] at z
          exact z.elim id fun e => absurd e hne
    rw [z]
    simp only [beq_self_eq_true, Bool.true_and, decide_eq_true_eq]
    omega
theorem wid_feed {g : List Nat} (hb : ∀ n ∈ g, n < 256) (hw : widOf g ≠ 0) : at0 (bytes g) (2 * widOf g + 1) = 10 := by
  obtain ⟨w1, w2, w3, w4⟩ := wid_pos hw
  rw [at_eq hb, List.getD_eq_getElem?_getD, w3]
  rfl
theorem feed_ok {g : List Nat} (hw : widOf g ≠ 0) : okN g (2 * widOf g + 1) := by
  obtain ⟨w1, w2, w3, w4⟩ := wid_pos hw
  unfold okN sgnsAt first0
  rw [if_pos (Or.inr (by omega)), List.getD_eq_getElem?_getD, w3, if_neg (by omega), if_neg (by omega)]
  show 10 ∈ _
  split
  · exact List.mem_singleton.mpr rfl
  · exact List.mem_cons_of_mem _ (List.mem_singleton.mpr rfl)
theorem wid_line0 {g : List Nat} (hb : ∀ n ∈ g, n < 256) (hw : widOf g ≠ 0) {p : Nat} (hp : 2 * widOf g + 2 ≤ p) (h : ∀ q, q < p → okN g q) : Line0 (bytes g) (widOf g) := by
  obtain ⟨w1, w2, w3, w4⟩ := wid_pos hw
  exact ⟨w1, w2, fun k hk => wid_line hb hw (p := 2 * widOf g + 1) (Nat.le_refl _) (fun q hq => h q (by omega)) k hk, wid_feed hb hw⟩
/-- where the later lines still can be told -/
theorem row_le {w p : Nat} (h : p ≤ 21 * (2 * w + 2)) : p / (2 * w + 2) ≤ 20 ∨ (p / (2 * w + 2) = 21 ∧ p % (2 * w + 2) = 0) := by
  have hM : 0 < 2 * w + 2 := by omega
  by_cases e : p = 21 * (2 * w + 2)
  · have d := dm (M := 2 * w + 2) (i := 21) (j := 0) hM
    rw [Nat.add_zero, ← e] at d
    exact Or.inr d
  · left
    have : p / (2 * w + 2) < 21 := (Nat.div_lt_iff_lt_mul hM).mpr (by omega)
    omega
theorem ok_iff {g : List Nat} (hb : ∀ n ∈ g, n < 256) (hw : widOf g ≠ 0) {p : Nat} (hp : 2 * widOf g + 2 ≤ p) (hl : p ≤ 21 * (2 * widOf g + 2)) : Gt.okP (widOf g) p (at0 (bytes g) p) = true ↔ okN g p := by
  obtain ⟨w1, w2, w3, w4⟩ := wid_pos hw
  have hM : 0 < 2 * widOf g + 2 := by omega
  unfold Gt.okP okN sgnsAt
  rw [if_neg (by omega)]
  exact later_ok hb p w1 ((Nat.le_div_iff_mul_le hM).mpr (by omega)) (Nat.mod_lt _ hM) (row_le hl)
theorem not_21 {g : List Nat} (hw : widOf g ≠ 0) : ¬ okN g (21 * (2 * widOf g + 2)) := by
  obtain ⟨w1, w2, w3, w4⟩ := wid_pos hw
  have hM : 0 < 2 * widOf g + 2 := by omega
  have d := dm (M := 2 * widOf g + 2) (i := 21) (j := 0) hM
  rw [Nat.add_zero] at d
  unfold okN sgnsAt later
  rw [if_neg (by omega), d.1, if_pos (by omega)]
  exact List.not_mem_nil
theorem le_21 {g : List Nat} (hw : widOf g ≠ 0) {p : Nat} (h : ∀ q, q < p → okN g q) : p ≤ 21 * (2 * widOf g + 2) := by
  by_cases e : p ≤ 21 * (2 * widOf g + 2)
  · exact e
  · exact absurd (h _ (by omega)) (not_21 hw)
theorem good_w {g : List Nat} (hb : ∀ n ∈ g, n < 256) (hw : widOf g ≠ 0) {p : Nat} (hp : 2 * widOf g + 2 ≤ p) (h : ∀ q, q < p → okN g q) : Gt.GoodW (bytes g) (widOf g) p := by
  have hl := le_21 hw h
  exact ⟨wid_line0 hb hw hp h, hp, fun q h1 h2 => (ok_iff hb hw h1 (by omega)).mpr (h q h2)⟩
/-- the first fault within -/
theorem fault_in {g : List Nat} (hb : ∀ n ∈ g, n < 256) {p : Nat} (hp : p < g.length) (h : ∀ q, q < p → okN g q) (hn : ¬ okN g p) : Gt.Fault (bytes g) p := by
  have hp' : p < (bytes g).length := by rw [bytes_len]; exact hp
  by_cases hw : widOf g = 0
  · obtain ⟨G, h21⟩ := ok_zero hb hw p h
    unfold okN sgnsAt at hn
    rw [hw, if_pos (Or.inl rfl)] at hn
    obtain ⟨a, b⟩ := bad_first hb hn
    exact .in0 hp' G a b
  · obtain ⟨w1, w2, w3, w4⟩ := wid_pos hw
    by_cases hl : p ≤ 2 * widOf g + 1
    · have G := wid_line hb hw hl h
      unfold okN sgnsAt at hn
      rw [if_pos (Or.inr (by omega))] at hn
      obtain ⟨a, b⟩ := bad_first hb hn
      exact .in0 hp' G a b
    · have G := good_w hb hw (p := p) (by omega) h
      refine .inW hp' G ?_
      rw [← Bool.not_eq_true, ok_iff hb hw (by omega) (le_21 hw h)]
      exact hn
/-! ### the end -/
theorem hig_pos {g : List Nat} {w : Nat} (h : higOf g w ≠ 0) : 1 ≤ higOf g w ∧ higOf g w ≤ 10 ∧ g.length = (2 * higOf g w + 1) * (2 * w + 2) := by
  unfold higOf at h ⊢
  split at h
  · exact absurd rfl h
  · rename_i e
    rw [if_neg e]
    obtain ⟨a, b, c⟩ := sqAlong_ne h
    refine ⟨a, b, ?_⟩
    have := dm_at g.length (2 * w + 2)
    rw [← c]
    omega
theorem hig_of {g : List Nat} {w h : Nat} (h2 : h ≤ 10) (e : g.length = (2 * h + 1) * (2 * w + 2)) : higOf g w = h := by
  have d := dm (M := 2 * w + 2) (i := 2 * h + 1) (j := 0) (by omega)
  rw [Nat.add_zero] at d
  unfold higOf
  rw [e, d.1, d.2, if_neg (by omega), sqAlong_of h2]
theorem full_iff {b : Nat → Nat → UInt8} {y m : Nat} : Gt.fullRow b y m = true ↔ ∀ x, x < m → b (2 * y + 2) (2 * x + 1) = 45 := by
  unfold Gt.fullRow Gt.levRow
  rw [List.all_map, List.all_eq_true]
  constructor
  · intro z x hx
    have z := z x (List.mem_range.mpr hx)
    have z : Gt.sdV 45 (b (2 * y + 2) (2 * x + 1)) = 1 := by simpa using z
    unfold Gt.sdV at z
    cases e : atSide 45 (b (2 * y + 2) (2 * x + 1)) with
    | none => rw [e] at z; cases z
    | some n =>
      rw [e] at z
      have z : n = 1 := z
      rw [z] at e
      exact (Gt.atSide_45 _).mp e
  · intro z x hx
    have z := z x (List.mem_range.mp hx)
    show (Gt.sdV 45 (b (2 * y + 2) (2 * x + 1)) == 1) = true
    unfold Gt.sdV
    rw [(Gt.atSide_45 _).mpr z]
    rfl
theorem ends_iff {g : List Nat} (hb : ∀ n ∈ g, n < 256) (hw : widOf g ≠ 0) (h : ∀ q, q < g.length → okN g q) (hl : 2 * widOf g + 2 ≤ g.length) :
    (mayEnd g (widOf g) = true ↔ Gt.Drawing (bytes g) (widOf g) (higOf g (widOf g))) ∧ (mayEnd g (widOf g) = false → ∀ k, ¬ Gt.Drawing (bytes g) (widOf g) k) := by
  obtain ⟨w1, w2, w3, w4⟩ := wid_pos hw
  have G := good_w hb hw hl h
  have G' : Gt.GoodW (bytes g) (widOf g) (bytes g).length := by rw [bytes_len]; exact G
  have L := wid_line0 hb hw hl h
  have h21 := le_21 hw h
  have key : higOf g (widOf g) ≠ 0 → (mayEnd g (widOf g) = true ↔ Gt.Drawing (bytes g) (widOf g) (higOf g (widOf g))) := by
    intro hh
    obtain ⟨a, b, c⟩ := hig_pos hh
    unfold mayEnd
    rw [if_neg (by omega), decide_eq_true_eq]
    generalize widOf g = w at *
    generalize higOf g w = k at *
    have hM : 0 < 2 * w + 2 := by omega
    have e1 : (2 * k + 1) * (2 * w + 2) = 2 * k * (2 * w + 2) + (2 * w + 2) := Nat.succ_mul _ _
    have e2 : g.length - (2 * w + 2) = 2 * k * (2 * w + 2) := by omega
    have e3 : ∀ x, bt (bytes g) w (2 * (k - 1) + 2) (2 * x + 1) = at0 (bytes g) (2 * k * (2 * w + 2) + (2 * x + 1)) := fun x => by
      unfold bt
      rw [show 2 * (k - 1) + 2 = 2 * k by omega]
    have l0 : ∀ x, x < w → g.getD (2 * x + 1) 0 = 45 := fun x hx => by
      have z := L.signs (2 * x + 1) (by omega)
      rw [ok0_nat hb, if_neg (by omega), Bool.and_eq_true, beq_iff_eq] at z
      exact z.1
    have l1 : ∀ x, x ≤ w → g.getD (2 * x) 0 = 43 := fun x hx => by
      have z := L.signs (2 * x) (by omega)
      rw [ok0_nat hb, if_pos (by omega), beq_iff_eq] at z
      exact z
    have lf : g.getD (2 * w + 1) 0 = 10 := (at_eq hb _ _).mp L.feed
    rw [e2]
    constructor
    · intro z
      refine ⟨G', a, b, by rw [bytes_len]; exact c, full_iff.mpr fun x hx => ?_⟩
      rw [e3, at_eq hb]
      refine Eq.trans ?_ (l0 x hx)
      have z1 := congrArg (fun l => l[2 * x + 1]?) z
      simp only [List.getElem?_drop, List.getElem?_take] at z1
      rw [if_pos (by omega)] at z1
      rw [List.getD_eq_getElem?_getD, List.getD_eq_getElem?_getD, z1]
    · intro X
      apply List.ext_getElem?
      intro j
      rw [List.getElem?_drop, List.getElem?_take]
      by_cases hj : j < 2 * w + 2
      · rw [if_pos hj]
        have hin : 2 * k * (2 * w + 2) + j < g.length := by omega
        have hj2 : j < g.length := by omega
        have d := dm (M := 2 * w + 2) (i := 2 * k) (j := j) hj
        have ok := h _ hin
        have hge : 2 * w + 2 ≤ 2 * k * (2 * w + 2) + j := by
          have : 1 * (2 * w + 2) ≤ 2 * k * (2 * w + 2) := Nat.mul_le_mul_right _ (by omega)
          omega
        have z2 : g.getD (2 * k * (2 * w + 2) + j) 0 = g.getD j 0 := by
          have okp : Gt.okP w (2 * k * (2 * w + 2) + j) (at0 (bytes g) (2 * k * (2 * w + 2) + j)) = true := G.ok _ hge hin
          unfold Gt.okP Gt.okAt Gt.okE at okp
          rw [d.1, d.2, if_neg (by omega)] at okp
          by_cases hf : j = 2 * w + 1
          · rw [if_pos hf, at_ne hb, beq_iff_eq] at okp
            rw [okp, hf, lf]
            rfl
          · rw [if_neg hf] at okp
            by_cases hv : j % 2 = 0
            · rw [if_pos hv, at_ne hb, beq_iff_eq] at okp
              rw [okp, show j = 2 * (j / 2) by omega, l1 (j / 2) (by omega)]
              rfl
            · have z := full_iff.mp X.last (j / 2) (by omega)
              rw [e3, show 2 * (j / 2) + 1 = j by omega, at_eq hb] at z
              have z3 := l0 (j / 2) (by omega)
              rw [show 2 * (j / 2) + 1 = j by omega] at z3
              rw [z, z3]
              rfl
        rw [List.getD_eq_getElem?_getD, List.getD_eq_getElem?_getD, List.getElem?_eq_getElem hin, List.getElem?_eq_getElem hj2] at z2
        rw [List.getElem?_eq_getElem hin, List.getElem?_eq_getElem hj2]
        exact congrArg some z2
      · rw [if_neg hj, List.getElem?_eq_none (by omega)]
  have hig : ∀ k, Gt.Drawing (bytes g) (widOf g) k → higOf g (widOf g) = k := fun k X => hig_of X.hi (by have := X.len; rw [bytes_len] at this; exact this)
  by_cases hh : higOf g (widOf g) = 0
  · have e : mayEnd g (widOf g) = false := by
      unfold mayEnd
      rw [if_pos (Or.inr hh)]
    have no : ∀ k, ¬ Gt.Drawing (bytes g) (widOf g) k := fun k X => by
      have := hig k X
      have := X.lo
      omega
    refine ⟨?_, fun _ => no⟩
    rw [e]
    constructor
    · intro z; cases z
    · intro X; exact absurd X (no _)
  · refine ⟨key hh, fun e k X => ?_⟩
    have e2 := hig k X
    rw [← e2] at X
    have := (key hh).mpr X
    rw [e] at this
    cases this
/-- **the fault**, as it's told -/
theorem fault_read {g : List Nat} (hb : ∀ n ∈ g, n < 256) {p : Nat} (F : FaultN g (some p)) : readSheet (bytes g) = .error p := by
  cases F with
  | inn hp h hn => exact Gt.read_fault (fault_in hb hp h hn)
  | fin h hm =>
    rw [← bytes_len g]
    refine Gt.read_fault ?_
    by_cases hw : widOf g = 0
    · obtain ⟨G, _⟩ := ok_zero hb hw _ h
      rw [← bytes_len g] at G
      exact .end0 G
    · by_cases hl : 2 * widOf g + 2 ≤ g.length
      · have G := good_w hb hw hl h
        rw [← bytes_len g] at G
        exact .endW G ((ends_iff hb hw h hl).2 hm)
      · have G := wid_line hb hw (p := g.length) (by omega) h
        rw [← bytes_len g] at G
        exact .end0 G
theorem sheet_read {g : List Nat} (hb : ∀ n ∈ g, n < 256) (F : FaultN g none) : Gt.Drawing (bytes g) (widOf g) (higOf g (widOf g)) := by
  cases F with
  | no h hm =>
    have hw : widOf g ≠ 0 := by
      intro e
      unfold mayEnd at hm
      rw [if_pos (Or.inl e)] at hm
      cases hm
    have hl : 2 * widOf g + 2 ≤ g.length := by
      have hh : higOf g (widOf g) ≠ 0 := by
        intro e
        unfold mayEnd at hm
        rw [if_pos (Or.inr e)] at hm
        cases hm
      obtain ⟨a, b, c⟩ := hig_pos hh
      rw [c]
      have : 1 * (2 * widOf g + 2) ≤ (2 * higOf g (widOf g) + 1) * (2 * widOf g + 2) := Nat.mul_le_mul_right _ (by omega)
      omega
    exact (ends_iff hb hw h hl).1.mp hm
end Gn

end
section
set_option linter.all false
set_option maxHeartbeats 2000000
namespace Gn
open Maze Gm
/-! ### the inner sides in their order -/
theorem side_cases {D : Garden} (hw : 1 ≤ D.wide) {q : Nat} (hq : q < D.count) :
    (∃ x y, x + 1 < D.wide ∧ y < D.high ∧ q = y * (D.wide - 1) + x ∧ D.squaresAt q = (y * D.wide + x, y * D.wide + (x + 1)) ∧ sideOf D.wide (D.squaresAt q).1 (D.squaresAt q).2 = (2 * y + 1) * (2 * D.wide + 2) + (2 * x + 2)) ∨
    (∃ x y, x < D.wide ∧ y + 1 < D.high ∧ q = (D.wide - 1) * D.high + (y * D.wide + x) ∧ D.squaresAt q = (y * D.wide + x, (y + 1) * D.wide + x) ∧ sideOf D.wide (D.squaresAt q).1 (D.squaresAt q).2 = (2 * y + 2) * (2 * D.wide + 2) + (2 * x + 1)) := by
  obtain ⟨w, h, hs⟩ := D
  have hw : 1 ≤ w := hw
  have hq : q < (w - 1) * h + w * (h - 1) := hq
  show (∃ x y, x + 1 < w ∧ y < h ∧ q = y * (w - 1) + x ∧ Garden.squaresAt ⟨w, h, hs⟩ q = (y * w + x, y * w + (x + 1)) ∧ sideOf w (Garden.squaresAt ⟨w, h, hs⟩ q).1 (Garden.squaresAt ⟨w, h, hs⟩ q).2 = (2 * y + 1) * (2 * w + 2) + (2 * x + 2)) ∨
    (∃ x y, x < w ∧ y + 1 < h ∧ q = (w - 1) * h + (y * w + x) ∧ Garden.squaresAt ⟨w, h, hs⟩ q = (y * w + x, (y + 1) * w + x) ∧ sideOf w (Garden.squaresAt ⟨w, h, hs⟩ q).1 (Garden.squaresAt ⟨w, h, hs⟩ q).2 = (2 * y + 2) * (2 * w + 2) + (2 * x + 1))
  have esq : Garden.squaresAt ⟨w, h, hs⟩ q = if q < (w - 1) * h then ((q / (w - 1)) * w + q % (w - 1), (q / (w - 1)) * w + q % (w - 1) + 1) else (q - (w - 1) * h, q - (w - 1) * h + w) := rfl
  by_cases c : q < (w - 1) * h
  · left
    have hM : 0 < w - 1 := by
      rcases Nat.eq_zero_or_pos (w - 1) with e | e
      · rw [e, Nat.zero_mul] at c; omega
      · exact e
    have hx := Nat.mod_lt q hM
    have hy : q / (w - 1) < h := (Nat.div_lt_iff_lt_mul hM).mpr (by rw [Nat.mul_comm]; exact c)
    have e := dm_at q (w - 1)
    rw [if_pos c] at esq
    refine ⟨q % (w - 1), q / (w - 1), by omega, hy, by omega, ?_, ?_⟩
    · rw [esq]; rfl
    · rw [esq]
      exact side_right (by omega)
  · right
    rw [if_neg c] at esq
    have hx := Nat.mod_lt (q - (w - 1) * h) hw
    have hy : (q - (w - 1) * h) / w < h - 1 := (Nat.div_lt_iff_lt_mul hw).mpr (by rw [Nat.mul_comm (h - 1) w]; omega)
    have e := dm_at (q - (w - 1) * h) w
    refine ⟨(q - (w - 1) * h) % w, (q - (w - 1) * h) / w, hx, Nat.add_lt_of_lt_sub hy, by omega, ?_, ?_⟩
    · rw [esq, Nat.succ_mul]
      congr 1 <;> omega
    · rw [esq]
      have e2 : q - (w - 1) * h + w = ((q - (w - 1) * h) / w + 1) * w + (q - (w - 1) * h) % w := by rw [Nat.succ_mul]; omega
      show sideOf w (q - (w - 1) * h) (q - (w - 1) * h + w) = _
      rw [e2]
      have := side_up (y := (q - (w - 1) * h) / w) hx
      rw [e] at this
      exact this
def innerS (w n : Nat) : List (Nat × Nat) := ((List.range n).filter fun s => decide (s % w < w - 1)).map (fun s => (s, s + 1)) ++ (List.range (n - w)).map fun s => (s, s + w)
theorem range_add (a b : Nat) : List.range (a + b) = List.range a ++ (List.range b).map (a + ·) := List.range_add
theorem up_eq {w : Nat} (hw : 1 ≤ w) : ∀ h : Nat, ((List.range (w * h)).filter fun s => decide (s % w < w - 1)).map (fun s => (s, s + 1)) =
    (List.range ((w - 1) * h)).map fun q => ((q / (w - 1)) * w + q % (w - 1), (q / (w - 1)) * w + q % (w - 1) + 1)
  | 0 => by simp
  | h + 1 => by
    rw [Nat.mul_succ, Nat.mul_succ, range_add, range_add, List.filter_append, List.map_append, List.map_append, up_eq hw h]
    congr 1
    have e : ∀ x, x < w → (w * h + x) % w = x := fun x hx => by rw [Nat.mul_add_mod, Nat.mod_eq_of_lt hx]
    rw [List.filter_map, List.map_map, List.map_map]
    have e1 : (List.range w).filter ((fun s => decide (s % w < w - 1)) ∘ fun x => w * h + x) = List.range (w - 1) := by
      have : (List.range w).filter ((fun s => decide (s % w < w - 1)) ∘ fun x => w * h + x) = (List.range w).filter fun x => decide (x < w - 1) := by
        apply List.filter_congr
        intro x hx
        show decide ((w * h + x) % w < w - 1) = _
        rw [e x (List.mem_range.mp hx)]
      rw [this]
      obtain ⟨v, rfl⟩ : ∃ v, w = v + 1 := ⟨w - 1, by omega⟩
      rw [List.range_succ, List.filter_append]
      have a : (List.range v).filter (fun x => decide (x < v + 1 - 1)) = List.range v := by
        rw [List.filter_eq_self]
        intro x hx
        have := List.mem_range.mp hx
        simp
        omega
      rw [a]
      simp
    rw [e1]
    apply List.map_congr_left
    intro x hx
    have hx := List.mem_range.mp hx
    show (w * h + x, w * h + x + 1) = (((w - 1) * h + x) / (w - 1) * w + ((w - 1) * h + x) % (w - 1), _)
    have d := dm (M := w - 1) (i := h) (j := x) hx
    rw [Nat.mul_comm h] at d
    show _ = (((w - 1) * h + x) / (w - 1) * w + ((w - 1) * h + x) % (w - 1), ((w - 1) * h + x) / (w - 1) * w + ((w - 1) * h + x) % (w - 1) + 1)
    rw [d.1, d.2, Nat.mul_comm h]
theorem inner_eq {D : Garden} (hw : 1 ≤ D.wide) : innerS D.wide D.squares = (List.range D.count).map D.squaresAt := by
  obtain ⟨w, h, hs⟩ := D
  have hw : 1 ≤ w := hw
  show innerS w (w * h) = (List.range ((w - 1) * h + w * (h - 1))).map (Garden.squaresAt ⟨w, h, hs⟩)
  unfold innerS
  rw [up_eq hw, range_add, List.map_append, List.map_map, show w * h - w = w * (h - 1) by rw [Nat.mul_sub, Nat.mul_one]]
  congr 1
  · apply List.map_congr_left
    intro q hq
    have hq := List.mem_range.mp hq
    show _ = if q < (w - 1) * h then ((q / (w - 1)) * w + q % (w - 1), (q / (w - 1)) * w + q % (w - 1) + 1) else (q - (w - 1) * h, q - (w - 1) * h + w)
    rw [if_pos hq]
  · apply List.map_congr_left
    intro q hq
    show _ = if (w - 1) * h + q < (w - 1) * h then ((((w - 1) * h + q) / (w - 1)) * w + ((w - 1) * h + q) % (w - 1), (((w - 1) * h + q) / (w - 1)) * w + ((w - 1) * h + q) % (w - 1) + 1) else ((w - 1) * h + q - (w - 1) * h, (w - 1) * h + q - (w - 1) * h + w)
    rw [if_neg (by omega)]
    congr 1 <;> omega
/-- the sides with a sign -/
def sidesW (g : List Nat) (w n sign : Nat) : List (Nat × Nat) := (innerS w n).filter fun e => g.getD (sideOf w e.1 e.2) 0 == sign
theorem sides_eq {D : Garden} (hw : 1 ≤ D.wide) (g : List Nat) (sign : Nat) : sidesW g D.wide D.squares sign = ((List.range D.count).filter fun q => g.getD (sideOf D.wide (D.squaresAt q).1 (D.squaresAt q).2) 0 == sign).map D.squaresAt := by
  unfold sidesW
  rw [inner_eq hw, List.filter_map]
  rfl
theorem innerS_mem {D : Garden} (hw : 1 ≤ D.wide) {e : Nat × Nat} : e ∈ innerS D.wide D.squares ↔ ∃ q, q < D.count ∧ D.squaresAt q = e := by
  rw [inner_eq hw, List.mem_map]
  constructor
  · rintro ⟨q, hq, rfl⟩; exact ⟨q, List.mem_range.mp hq, rfl⟩
  · rintro ⟨q, hq, rfl⟩; exact ⟨q, List.mem_range.mpr hq, rfl⟩
/-- what lies beyond sides, square by square -/
def adj (E : List (Nat × Nat)) (s : Nat) : List Nat := E.flatMap fun e => (if e.1 = s then [e.2] else []) ++ (if e.2 = s then [e.1] else [])
theorem mem_adj {E : List (Nat × Nat)} {s u : Nat} : u ∈ adj E s ↔ ((s, u) ∈ E ∨ (u, s) ∈ E) := by
  unfold adj
  rw [List.mem_flatMap]
  constructor
  · rintro ⟨⟨a, b⟩, he, hu⟩
    rcases List.mem_append.mp hu with z | z
    · simp only at z
      split at z
      · rename_i c
        rw [List.mem_singleton.mp z, ← c]; exact Or.inl he
      · cases z
    · simp only at z
      split at z
      · rename_i c
        rw [List.mem_singleton.mp z, ← c]; exact Or.inr he
      · cases z
  · rintro (z | z)
    · exact ⟨_, z, List.mem_append_left _ (by simp)⟩
    · exact ⟨_, z, List.mem_append_right _ (by simp)⟩
theorem adj_snoc (E : List (Nat × Nat)) (e : Nat × Nat) (s : Nat) : adj (E ++ [e]) s = adj E s ++ ((if e.1 = s then [e.2] else []) ++ (if e.2 = s then [e.1] else [])) := by
  unfold adj
  rw [List.flatMap_append]
  simp
theorem adj_len (E : List (Nat × Nat)) (s : Nat) : (adj E s).length ≤ 2 * E.length := by
  induction E with
  | nil => simp [adj]
  | cons e E ih =>
    have : adj (e :: E) s = ((if e.1 = s then [e.2] else []) ++ (if e.2 = s then [e.1] else [])) ++ adj E s := rfl
    rw [this, List.length_append, List.length_append, List.length_cons]
    split <;> split <;> simp <;> omega
/-! ### the passages of a garden's drawing -/
section
variable {g : List Nat} {w h : Nat}
theorem side_byte (X : Signs (bytes g) w h) (hb : ∀ n ∈ g, n < 256) {q : Nat} (hq : q < (gardenAt (bytes g) w h).count) :
    (g.getD (sideOf w ((gardenAt (bytes g) w h).squaresAt q).1 ((gardenAt (bytes g) w h).squaresAt q).2) 0 == 32) = !(gardenAt (bytes g) w h).hedge q := by
  have ew : (gardenAt (bytes g) w h).wide = w := rfl
  have eh : (gardenAt (bytes g) w h).high = h := rfl
  have k := side_cases (D := gardenAt (bytes g) w h) X.wlo hq
  rw [ew, eh] at k
  rcases k with ⟨x, y, hx, hy, e, es, ep⟩ | ⟨x, y, hx, hy, e, es, ep⟩
  · rw [ep, e, hedge_up (by omega) hy]
    have ok := X.ok (2 * y + 1) (2 * x + 2) (by omega) (by omega)
    have eb : bt (bytes g) w (2 * y + 1) (2 * x + 2) = at0 (bytes g) ((2 * y + 1) * (2 * w + 2) + (2 * x + 2)) := rfl
    rcases ok.upright (by omega) (by omega) (by omega) with z | ⟨z, _, _⟩
    · rw [z]
      rw [eb, at_eq hb] at z
      rw [z]; rfl
    · rw [z]
      rw [eb, at_eq hb] at z
      rw [z]; rfl
  · rw [ep, e, hedge_lev hx (by omega)]
    have ok := X.ok (2 * y + 2) (2 * x + 1) (by omega) (by omega)
    have eb : bt (bytes g) w (2 * y + 2) (2 * x + 1) = at0 (bytes g) ((2 * y + 2) * (2 * w + 2) + (2 * x + 1)) := rfl
    rcases ok.level (by omega) (by omega) (by omega) with z | ⟨z, _, _⟩
    · rw [z]
      rw [eb, at_eq hb] at z
      rw [z]; rfl
    · rw [z]
      rw [eb, at_eq hb] at z
      rw [z]; rfl
theorem passages_eq (X : Signs (bytes g) w h) (hb : ∀ n ∈ g, n < 256) : sidesW g w (w * h) 32 = Gt.prs (gardenAt (bytes g) w h) := by
  have e := sides_eq (D := gardenAt (bytes g) w h) X.wlo g 32
  have e1 : sidesW g (gardenAt (bytes g) w h).wide (gardenAt (bytes g) w h).squares 32 = sidesW g w (w * h) 32 := rfl
  rw [← e1, e]
  unfold Gt.prs Garden.passages
  congr 1
  apply List.filter_congr
  intro q hq
  exact side_byte X hb (List.mem_range.mp hq)
theorem garden_whole (X : Signs (bytes g) w h) : Gt.Whole (gardenAt (bytes g) w h) := ⟨X.wlo, X.hlo, garden_len _ _ _⟩
theorem adj_outs (X : Signs (bytes g) w h) {s u : Nat} (hs : s < w * h) : u ∈ adj (Gt.prs (gardenAt (bytes g) w h)) s ↔ u ∈ (gardenAt (bytes g) w h).outs s := by
  rw [mem_adj, Gt.outs_iff (D := gardenAt (bytes g) w h) X.wlo hs, Gt.edge_prs]
end
/-- a way in the garden, by what lies beyond -/
def isPWN (g : List Nat) (l : List Nat) : Bool := decide (2 ≤ l.length) && (decide (∀ s ∈ l, s < widOf g * higOf g (widOf g)) && (decide l.Nodup && decide (∀ p ∈ stepsOf l, p.2 ∈ adj (sidesW g (widOf g) (widOf g * higOf g (widOf g)) 32) p.1)))
theorem pw_eq {g l : List Nat} (hb : ∀ n ∈ g, n < 256) (hG : isG g = true) : isPWN g l = isPW g l := by
  have X := signs_isG hb hG
  rw [Bool.eq_iff_iff]
  unfold isPWN isPW
  simp only [Bool.and_eq_true, decide_eq_true_eq]
  refine and_congr_right fun h1 => and_congr_right fun h2 => and_congr_right fun h3 => ?_
  rw [passages_eq X hb, stepsOk_iff]
  refine forall_congr' fun p => forall_congr' fun hp => ?_
  have m := steps_mem hp
  rw [adj_outs X (h2 _ m.1), ← step_iff X (h2 _ m.1) (h2 _ m.2), List.contains_iff_mem]
end Gn

end
section
set_option linter.all false
set_option maxHeartbeats 2000000
namespace Gn
open Maze Gm
/-! ### sheets: the garden on one -/
def isWS (n : Nat) : Bool := decide (n ∈ [46, 65, 66])
def blankN (g : List Nat) : List Nat := g.map fun n => if isWS n = true then 32 else n
theorem blank_len (g : List Nat) : (blankN g).length = g.length := List.length_map ..
theorem blank_lt {g : List Nat} (hb : ∀ n ∈ g, n < 256) : ∀ n ∈ blankN g, n < 256 := fun n hn => by
  obtain ⟨m, hm, rfl⟩ := List.mem_map.mp hn
  split
  · decide
  · exact hb m hm
theorem isWS_iff {n : Nat} : isWS n = true ↔ n = 46 ∨ n = 65 ∨ n = 66 := by
  unfold isWS
  simp
theorem isWS_no {n : Nat} (h : n ≠ 46) (h2 : n ≠ 65) (h3 : n ≠ 66) : isWS n = false := by
  rw [← Bool.not_eq_true, isWS_iff]
  rintro (z | z | z)
  · exact h z
  · exact h2 z
  · exact h3 z
theorem blank_at (g : List Nat) (p : Nat) : (blankN g).getD p 0 = if isWS (g.getD p 0) = true then 32 else g.getD p 0 := by
  unfold blankN
  rw [List.getD_eq_getElem?_getD, List.getD_eq_getElem?_getD, List.getElem?_map]
  cases e : g[p]? with
  | none => rfl
  | some n => rfl
theorem blank_id {g : List Nat} (h : ∀ n ∈ g, isWS n = false) : blankN g = g := by
  unfold blankN
  refine (List.map_congr_left fun n hn => ?_).trans (List.map_id g)
  rw [h n hn]
  rfl
theorem blank_keep {g : List Nat} {p c : Nat} (h : g.getD p 0 = c) (hc : isWS c = false) : (blankN g).getD p 0 = c := by
  rw [blank_at, h, hc]
  rfl
theorem drawing_ok {g : List Nat} (hb : ∀ n ∈ g, n < 256) (F : FaultN g none) {i j : Nat} (hi : 1 ≤ i) (hi2 : i < 2 * higOf g (widOf g) + 1) (hj : j < 2 * widOf g + 2) : g.getD (i * (2 * widOf g + 2) + j) 0 ∈ later i j (widOf g) := by
  have X := sheet_read hb F
  have w1 := X.good.line0.lo
  have hh := X.hi
  have ok := X.good.ok (i * (2 * widOf g + 2) + j) (by
    have : 1 * (2 * widOf g + 2) ≤ i * (2 * widOf g + 2) := Nat.mul_le_mul_right _ hi
    omega) (by rw [X.len]; exact place_lt hi2 hj)
  have d := dm (M := 2 * widOf g + 2) (i := i) (j := j) hj
  unfold Gt.okP at ok
  rw [d.1, d.2] at ok
  exact (later_ok hb _ w1 hi hj (Or.inl (by omega))).mp ok
theorem line0_at {g : List Nat} (hb : ∀ n ∈ g, n < 256) (F : FaultN g none) {j : Nat} (hj : j < 2 * widOf g + 2) : g.getD j 0 = if j = 2 * widOf g + 1 then 10 else if j % 2 = 0 then 43 else 45 := by
  have X := sheet_read hb F
  have L := X.good.line0
  split
  · rename_i e
    have := L.feed
    rw [at_eq hb] at this
    rw [e, this]; rfl
  · rename_i e
    have := L.signs j (by omega)
    rw [ok0_nat hb] at this
    split
    · rename_i e2
      rw [if_pos e2, beq_iff_eq] at this
      exact this
    · rename_i e2
      rw [if_neg e2, Bool.and_eq_true, beq_iff_eq] at this
      exact this.1
theorem last_at {g : List Nat} (hb : ∀ n ∈ g, n < 256) (F : FaultN g none) {j : Nat} (hj : j < 2 * widOf g + 1) (ho : j % 2 = 1) : g.getD (2 * higOf g (widOf g) * (2 * widOf g + 2) + j) 0 = 45 := by
  have X := sheet_read hb F
  have z := full_iff.mp X.last (j / 2) (by omega)
  have hl := X.lo
  unfold bt at z
  rw [at_eq hb, show 2 * (j / 2) + 1 = j by omega, show 2 * (higOf g (widOf g) - 1) + 2 = 2 * higOf g (widOf g) by omega] at z
  exact z
/-- the garden on a sheet -/
theorem signs_blank {g : List Nat} (hb : ∀ n ∈ g, n < 256) (F : FaultN g none) : Signs (bytes (blankN g)) (widOf g) (higOf g (widOf g)) := by
  have X := sheet_read hb F
  have L := X.good.line0
  have hlen := X.len
  rw [bytes_len] at hlen
  refine ⟨L.lo, L.hi, X.lo, X.hi, by rw [bytes_len, blank_len]; exact hlen, fun i j hi hj => ?_⟩
  have hv : ∀ c : Nat, g.getD (i * (2 * widOf g + 2) + j) 0 = c → isWS c = false → ∀ d : UInt8, d.toNat = c → bt (bytes (blankN g)) (widOf g) i j = d := fun c e hc d hd => by
    show at0 (bytes (blankN g)) _ = d
    rw [at_eq (blank_lt hb), blank_keep e hc, hd]
  have hs : isWS (g.getD (i * (2 * widOf g + 2) + j) 0) = true → bt (bytes (blankN g)) (widOf g) i j = 32 := fun e => by
    show at0 (bytes (blankN g)) _ = 32
    rw [at_eq (blank_lt hb), blank_at, if_pos e]
    rfl
  by_cases h0 : i = 0
  · subst h0
    have z := line0_at hb F hj
    rw [Nat.zero_mul, Nat.zero_add] at hv
    refine ⟨fun e => ?_, fun e _ e2 => ?_, fun _ e => by omega, fun e _ e2 => ?_, fun _ e => by omega⟩
    · rw [if_pos e] at z
      exact hv 10 z (by decide) 10 rfl
    · rw [if_neg e, if_pos e2] at z
      exact hv 43 z (by decide) 43 rfl
    · rw [if_neg e, if_neg (by omega)] at z
      exact Or.inl (hv 45 z (by decide) 45 rfl)
  · have z := drawing_ok hb F (by omega) hi hj
    have hh := X.hi
    unfold later at z
    rw [if_neg (by omega)] at z
    refine ⟨fun e => ?_, fun e e1 e2 => ?_, fun e e1 e2 => ?_, fun e e1 e2 => ?_, fun e e1 e2 => ?_⟩
    · rw [if_pos e] at z
      exact hv 10 (List.mem_singleton.mp z) (by decide) 10 rfl
    · rw [if_neg e, if_pos ⟨e1, e2⟩] at z
      exact hv 43 (List.mem_singleton.mp z) (by decide) 43 rfl
    · rw [if_neg e, if_neg (by omega), if_pos ⟨e1, e2⟩] at z
      simp only [List.mem_cons, List.not_mem_nil, or_false] at z
      rcases z with z | z | z | z
      · exact hv 32 z (by decide) 32 rfl
      · exact hs (by rw [z]; decide)
      · exact hs (by rw [z]; decide)
      · exact hs (by rw [z]; decide)
    · rw [if_neg e, if_neg (by omega), if_neg (by omega)] at z
      have hh2 : hedgeAt i = 45 := by unfold hedgeAt; rw [if_pos e1]
      rw [hh2] at z
      by_cases hl : i = 2 * higOf g (widOf g)
      · have z2 := last_at hb F (j := j) (by omega) e2
        rw [← hl] at z2
        exact Or.inl (hv 45 z2 (by decide) 45 rfl)
      · split at z
        · exact Or.inl (hv 45 (List.mem_singleton.mp z) (by decide) 45 rfl)
        · simp only [List.mem_cons, List.not_mem_nil, or_false] at z
          rcases z with z | z | z
          · exact Or.inl (hv 45 z (by decide) 45 rfl)
          · exact Or.inr ⟨hv 32 z (by decide) 32 rfl, h0, hl⟩
          · exact Or.inr ⟨hs (by rw [z]; decide), h0, hl⟩
    · rw [if_neg e, if_neg (by omega), if_neg (by omega)] at z
      have hh2 : hedgeAt i = 124 := by unfold hedgeAt; rw [if_neg (by omega)]
      rw [hh2] at z
      split at z
      · exact Or.inl (hv 124 (List.mem_singleton.mp z) (by decide) 124 rfl)
      · rename_i c
        simp only [List.mem_cons, List.not_mem_nil, or_false] at z
        rcases z with z | z | z
        · exact Or.inl (hv 124 z (by decide) 124 rfl)
        · exact Or.inr ⟨hv 32 z (by decide) 32 rfl, by omega, by omega⟩
        · exact Or.inr ⟨hs (by rw [z]; decide), by omega, by omega⟩
theorem blank_size {g : List Nat} (hb : ∀ n ∈ g, n < 256) (F : FaultN g none) : widOf (blankN g) = widOf g ∧ higOf (blankN g) (widOf g) = higOf g (widOf g) ∧ isG (blankN g) = true := isG_signs (blank_lt hb) (signs_blank hb F)
/-- a garden's drawing: a sheet that shows nothing of a way -/
theorem isG_iff {g : List Nat} (hb : ∀ n ∈ g, n < 256) : isG g = true ↔ FaultN g none ∧ ∀ n ∈ g, isWS n = false := by
  constructor
  · intro hG
    have X := signs_isG hb hG
    have w1 := X.wlo
    have w2 := X.whi
    have h1 := X.hlo
    have h2 := X.hhi
    generalize ew : widOf g = w at *
    generalize eh : higOf g w = h at *
    have hlen := X.len
    rw [bytes_len] at hlen
    have hM : 0 < 2 * w + 2 := by omega
    have at_ : ∀ i j, i < 2 * h + 1 → j < 2 * w + 2 → (∀ c : UInt8, bt (bytes g) w i j = c → g.getD (i * (2 * w + 2) + j) 0 = c.toNat) := fun i j _ _ c e => (at_eq hb _ _).mp e
    have ij : ∀ p, p < g.length → p / (2 * w + 2) < 2 * h + 1 ∧ p % (2 * w + 2) < 2 * w + 2 := fun p hp => ⟨(Nat.div_lt_iff_lt_mul hM).mpr (by rw [← hlen]; exact hp), Nat.mod_lt _ hM⟩
    have val : ∀ i j, i < 2 * h + 1 → j < 2 * w + 2 → g.getD (i * (2 * w + 2) + j) 0 ∈ (if j = 2 * w + 1 then [10] else if i % 2 = 0 ∧ j % 2 = 0 then [43] else if i % 2 = 1 ∧ j % 2 = 1 then [32] else if (i = 0 ∨ i = 2 * h) ∨ (j = 0 ∨ j = 2 * w) then [hedgeAt i] else [hedgeAt i, 32]) := by
      intro i j hi hj
      have z := (signs_fit hb w1 hi hj).mp (X.ok i j hi hj)
      unfold fits signsAt at z
      have d := dm (M := 2 * w + 2) (i := i) (j := j) hj
      rw [d.1, d.2] at z
      exact z
    have ok : ∀ q, q < g.length → okN g q := by
      intro q hq
      obtain ⟨hi, hj⟩ := ij q hq
      have z := val _ _ hi hj
      rw [dm_at] at z
      unfold okN sgnsAt
      rw [ew]
      split
      · rename_i c
        have hq2 : q < 2 * w + 2 := by omega
        rw [Nat.div_eq_of_lt hq2, Nat.mod_eq_of_lt hq2] at z
        unfold first0
        by_cases c1 : q = 2 * w + 1
        · rw [if_pos c1] at z
          rw [if_neg (by omega), if_neg (by omega)]
          split
          · exact z
          · exact List.mem_cons_of_mem _ z
        · rw [if_neg c1] at z
          by_cases c2 : q % 2 = 0
          · rw [if_pos ⟨rfl, c2⟩] at z
            rw [if_pos c2]
            exact z
          · rw [if_neg (by omega), if_neg (by omega), if_pos (by omega)] at z
            have z := List.mem_singleton.mp z
            rw [if_neg c2, z]
            have e45 : hedgeAt 0 = 45 := rfl
            rw [e45]
            split
            · exact List.mem_singleton.mpr rfl
            · split
              · omega
              · exact List.mem_cons_self
      · rename_i c
        have hi1 : 1 ≤ q / (2 * w + 2) := (Nat.le_div_iff_mul_le hM).mpr (by omega)
        unfold later
        rw [if_neg (by omega)]
        split at z
        · rename_i c1; rw [if_pos c1]; exact z
        · rename_i c1
          rw [if_neg c1]
          split at z
          · rename_i c2; rw [if_pos c2]; exact z
          · rename_i c2
            rw [if_neg c2]
            split at z
            · rename_i c3
              rw [if_pos c3, List.mem_singleton.mp z]
              exact List.mem_cons_self
            · rename_i c3
              rw [if_neg c3]
              split at z
              · rw [List.mem_singleton.mp z]
                split
                · exact List.mem_singleton.mpr rfl
                · exact List.mem_cons_self
              · rename_i c4
                rw [if_neg (by omega)]
                simp only [List.mem_cons, List.not_mem_nil, or_false] at z ⊢
                rcases z with z | z
                · exact Or.inl z
                · exact Or.inr (Or.inl z)
    have hl : 2 * w + 2 ≤ g.length := by
      rw [hlen]
      have : 1 * (2 * w + 2) ≤ (2 * h + 1) * (2 * w + 2) := Nat.mul_le_mul_right _ (by omega)
      omega
    have hw0 : widOf g ≠ 0 := by omega
    have G := good_w hb hw0 (by rw [ew]; exact hl) ok
    rw [ew, ← bytes_len g] at G
    have Dr : Gt.Drawing (bytes g) w h := by
      refine ⟨G, h1, h2, X.len, full_iff.mpr fun x hx => ?_⟩
      rcases (X.ok (2 * (h - 1) + 2) (2 * x + 1) (by omega) (by omega)).level (by omega) (by omega) (by omega) with e | ⟨_, _, e⟩
      · exact e
      · omega
    have me : mayEnd g (widOf g) = true := by
      refine ((ends_iff hb hw0 ok (by rw [ew]; exact hl)).1).mpr ?_
      rw [ew, eh]
      exact Dr
    refine ⟨.no ok me, fun n hn => ?_⟩
    obtain ⟨p, hp, e⟩ := List.getElem_of_mem hn
    obtain ⟨hi, hj⟩ := ij p hp
    have z := val _ _ hi hj
    rw [dm_at, List.getD_eq_getElem?_getD, List.getElem?_eq_getElem hp, e] at z
    have z : n ∈ _ := z
    have hh : hedgeAt (p / (2 * w + 2)) = 45 ∨ hedgeAt (p / (2 * w + 2)) = 124 := by
      unfold hedgeAt
      split
      · exact Or.inl rfl
      · exact Or.inr rfl
    refine isWS_no ?_ ?_ ?_ <;>
    · intro e2
      rw [e2] at z
      split at z
      · simp at z
      · split at z
        · simp at z
        · split at z
          · simp at z
          · split at z
            · have z := List.mem_singleton.mp z
              omega
            · simp only [List.mem_cons, List.not_mem_nil, or_false] at z
              omega
  · rintro ⟨F, hn⟩
    have := (blank_size hb F).2.2
    rw [blank_id hn] at this
    exact this
/-! ### what a sheet holds, and its drawing -/
theorem sq_code (c : UInt8) : squareSign (Gt.sqV c) = c ∨ inSquare c = none := by
  unfold Gt.sqV inSquare
  by_cases h1 : c = 32
  · left; subst h1; rfl
  · by_cases h2 : c = 46
    · left; subst h2; rfl
    · by_cases h3 : c = 65
      · left; subst h3; rfl
      · by_cases h4 : c = 66
        · left; subst h4; rfl
        · right; simp [h1, h2, h3, h4]
theorem sd_code {k : UInt8} (c : UInt8) : sideSign k (Gt.sdV k c) = c ∨ atSide k c = none := by
  unfold Gt.sdV atSide
  by_cases h1 : c = 32
  · left; subst h1; rfl
  · by_cases h2 : c = k
    · left; subst h2; simp [h1, sideSign]
    · by_cases h3 : c = 46
      · left; subst h3; simp [h2, sideSign]
      · right; simp [h1, h2, h3]
theorem code_sq {n : Nat} (h : n < 4) : Gt.sqV (squareSign n) = n := by
  match n, h with
  | 0, _ => rfl
  | 1, _ => rfl
  | 2, _ => rfl
  | 3, _ => rfl
theorem code_sd {n : Nat} {k : UInt8} (hk : k = 45 ∨ k = 124) (h : n < 3) : Gt.sdV k (sideSign k n) = n := by
  rcases hk with rfl | rfl
  · match n, h with
    | 0, _ => rfl
    | 1, _ => rfl
    | 2, _ => rfl
  · match n, h with
    | 0, _ => rfl
    | 1, _ => rfl
    | 2, _ => rfl
section
variable {t : Bytes} {w h : Nat}
theorem ins_get {x y : Nat} (hx : x < w) (hy : y < h) : (Gt.sheetAt t w h).inner.getD (y * w + x) 0 = Gt.sqV (bt t w (2 * y + 1) (2 * x + 1)) := by
  show ((List.range h).flatMap fun y => Gt.inRow (bt t w) y w).getD _ 0 = _
  rw [List.getD_eq_getElem?_getD, flat_get (fun k _ => by unfold Gt.inRow; simp) hy hx]
  unfold Gt.inRow
  rw [List.getElem?_map, List.getElem?_range hx]
  rfl
theorem ups_len : (Gt.upsTo (bt t w) w h).length = h * (w - 1) := flat_len fun k _ => by unfold Gt.upRow; simp
theorem levs_len : (Gt.levsTo (bt t w) w h).length = h * w := flat_len fun k _ => by unfold Gt.levRow; simp
theorem ups_get {x y : Nat} (hx : x < w - 1) (hy : y < h) : (Gt.sheetAt t w h).sides.getD (y * (w - 1) + x) 0 = Gt.sdV 124 (bt t w (2 * y + 1) (2 * x + 2)) := by
  show (Gt.upsTo (bt t w) w h ++ Gt.levsTo (bt t w) w (h - 1)).getD _ 0 = _
  rw [List.getD_eq_getElem?_getD, List.getElem?_append_left (by rw [ups_len]; exact place_lt hy hx)]
  unfold Gt.upsTo
  rw [flat_get (fun k _ => by unfold Gt.upRow; simp) hy hx]
  unfold Gt.upRow
  rw [List.getElem?_map, List.getElem?_range hx]
  rfl
theorem levs_get {x y : Nat} (hx : x < w) (hy : y < h - 1) : (Gt.sheetAt t w h).sides.getD ((w - 1) * h + (y * w + x)) 0 = Gt.sdV 45 (bt t w (2 * y + 2) (2 * x + 1)) := by
  show (Gt.upsTo (bt t w) w h ++ Gt.levsTo (bt t w) w (h - 1)).getD _ 0 = _
  rw [List.getD_eq_getElem?_getD, List.getElem?_append_right (by rw [ups_len, Nat.mul_comm]; omega), ups_len, Nat.mul_comm h, Nat.add_sub_cancel_left]
  unfold Gt.levsTo
  rw [flat_get (fun k _ => by unfold Gt.levRow; simp) hy hx]
  unfold Gt.levRow
  rw [List.getElem?_map, List.getElem?_range hx]
  rfl
theorem sheet_inner_len : (Gt.sheetAt t w h).inner.length = w * h := by
  show ((List.range h).flatMap fun y => Gt.inRow (bt t w) y w).length = _
  rw [flat_len (M := w) fun k _ => by unfold Gt.inRow; simp]
  exact Nat.mul_comm ..
theorem sheet_sides_len : (Gt.sheetAt t w h).sides.length = (w - 1) * h + w * (h - 1) := by
  show (Gt.upsTo (bt t w) w h ++ Gt.levsTo (bt t w) w (h - 1)).length = _
  rw [List.length_append, ups_len, levs_len, Nat.mul_comm h, Nat.mul_comm (h - 1)]
end
end Gn

end
section
set_option linter.all false
set_option maxHeartbeats 2000000
namespace Gn
open Maze Gm
/-! ### a sheet and its drawing are one -/
theorem bt_val {g : List Nat} (hb : ∀ n ∈ g, n < 256) {w i j : Nat} {c : UInt8} (h : g.getD (i * (2 * w + 2) + j) 0 = c.toNat) : bt (bytes g) w i j = c := (at_eq hb _ _).mpr h
theorem sheet_drawn {g : List Nat} (hb : ∀ n ∈ g, n < 256) (F : FaultN g none) : (Gt.sheetAt (bytes g) (widOf g) (higOf g (widOf g))).drawn = bytes g := by
  have X := sheet_read hb F
  have hw := X.good.line0.lo
  have hh := X.hi
  have hl := X.lo
  generalize ew : widOf g = w at *
  generalize eh : higOf g w = h at *
  have hM : 0 < 2 * w + 2 := by omega
  have hlen := X.len
  apply List.ext_getElem?
  intro p
  by_cases hp : p < (bytes g).length
  · rw [at0_of hp, ← dm_at p (2 * w + 2)]
    have hi : p / (2 * w + 2) < 2 * h + 1 := (Nat.div_lt_iff_lt_mul hM).mpr (by rw [← hlen]; exact hp)
    have hj := Nat.mod_lt p hM
    generalize p / (2 * w + 2) = i at hi
    generalize p % (2 * w + 2) = j at hj
    have e := sheet_at (Gt.sheetAt (bytes g) w h) (i := i) (j := j) hi hj
    refine Eq.trans e (congrArg some ?_)
    show sgn (Gt.sheetAt (bytes g) w h) i j = bt (bytes g) w i j
    have dr : 1 ≤ i → g.getD (i * (2 * w + 2) + j) 0 ∈ later i j w := fun h1 => by
      have := drawing_ok hb F h1 (by rw [ew, eh]; exact hi) (by rw [ew]; exact hj)
      rw [ew] at this
      exact this
    have l0 : i = 0 → g.getD (i * (2 * w + 2) + j) 0 = if j = 2 * w + 1 then 10 else if j % 2 = 0 then 43 else 45 := fun h0 => by
      have := line0_at hb F (j := j) (by rw [ew]; exact hj)
      rw [ew] at this
      rw [h0, Nat.zero_mul, Nat.zero_add]
      exact this
    unfold sgn
    show (if j = 2 * w + 1 then (10 : UInt8) else if i % 2 = 0 then (if j % 2 = 0 then 43 else if i / 2 = 0 ∨ i / 2 = h then 45 else sideSign 45 ((Gt.sheetAt (bytes g) w h).sides.getD ((w - 1) * h + ((i / 2 - 1) * w + j / 2)) 0))
      else (if j % 2 = 1 then squareSign ((Gt.sheetAt (bytes g) w h).inner.getD (i / 2 * w + j / 2) 0) else if j = 0 ∨ j = 2 * w then 124 else sideSign 124 ((Gt.sheetAt (bytes g) w h).sides.getD (i / 2 * (w - 1) + (j / 2 - 1)) 0))) = _
    symm
    by_cases h0 : i = 0
    · have z := l0 h0
      by_cases c1 : j = 2 * w + 1
      · rw [if_pos c1] at z ⊢
        exact bt_val hb z
      · rw [if_neg c1] at z ⊢
        rw [if_pos (by omega)]
        by_cases c2 : j % 2 = 0
        · rw [if_pos c2] at z ⊢
          exact bt_val hb z
        · rw [if_neg c2] at z ⊢
          rw [if_pos (by omega)]
          exact bt_val hb z
    · have z := dr (by omega)
      unfold later at z
      rw [if_neg (by omega)] at z
      by_cases c1 : j = 2 * w + 1
      · rw [if_pos c1] at z ⊢
        exact bt_val hb (List.mem_singleton.mp z)
      · rw [if_neg c1] at z ⊢
        by_cases c2 : i % 2 = 0
        · rw [if_pos c2]
          by_cases c3 : j % 2 = 0
          · rw [if_pos ⟨c2, c3⟩] at z
            rw [if_pos c3]
            exact bt_val hb (List.mem_singleton.mp z)
          · rw [if_neg (by omega), if_neg (by omega)] at z
            rw [if_neg c3]
            by_cases c4 : i / 2 = 0 ∨ i / 2 = h
            · rw [if_pos c4]
              have z2 := last_at hb F (j := j) (by omega) (by omega)
              rw [ew, eh, show 2 * h = i by omega] at z2
              exact bt_val hb z2
            · rw [if_neg c4]
              have z2 := levs_get (t := bytes g) (w := w) (h := h) (x := j / 2) (y := i / 2 - 1) (by omega) (by omega)
              rw [z2, show 2 * (i / 2 - 1) + 2 = i by omega, show 2 * (j / 2) + 1 = j by omega]
              rcases sd_code (k := 45) (bt (bytes g) w i j) with e | e
              · exact e.symm
              · exfalso
                have a := (atSd hb 45 (i * (2 * w + 2) + j)).mpr (by
                  have hh2 : hedgeAt i = 45 := by unfold hedgeAt; rw [if_pos c2]
                  rw [hh2] at z
                  split at z
                  · rw [List.mem_singleton.mp z]; exact List.mem_cons_self
                  · exact z)
                have e : atSide 45 (at0 (bytes g) (i * (2 * w + 2) + j)) = none := e
                rw [e] at a
                cases a
        · rw [if_neg c2]
          rw [if_neg (by omega)] at z
          by_cases c3 : j % 2 = 1
          · rw [if_pos ⟨by omega, c3⟩] at z
            rw [if_pos c3]
            have z2 := ins_get (t := bytes g) (w := w) (h := h) (x := j / 2) (y := i / 2) (by omega) (by omega)
            rw [z2, show 2 * (i / 2) + 1 = i by omega, show 2 * (j / 2) + 1 = j by omega]
            rcases sq_code (bt (bytes g) w i j) with e | e
            · exact e.symm
            · exfalso
              have a := (inSq hb (i * (2 * w + 2) + j)).mpr z
              have e : inSquare (at0 (bytes g) (i * (2 * w + 2) + j)) = none := e
              rw [e] at a
              cases a
          · rw [if_neg (by omega)] at z
            rw [if_neg c3]
            have hh2 : hedgeAt i = 124 := by unfold hedgeAt; rw [if_neg c2]
            rw [hh2] at z
            by_cases c4 : j = 0 ∨ j = 2 * w
            · rw [if_pos (Or.inr c4)] at z
              rw [if_pos c4]
              exact bt_val hb (List.mem_singleton.mp z)
            · rw [if_neg (by omega)] at z
              rw [if_neg c4]
              have z2 := ups_get (t := bytes g) (w := w) (h := h) (x := j / 2 - 1) (y := i / 2) (by omega) (by omega)
              rw [z2, show 2 * (i / 2) + 1 = i by omega, show 2 * (j / 2 - 1) + 2 = j by omega]
              rcases sd_code (k := 124) (bt (bytes g) w i j) with e | e
              · exact e.symm
              · exfalso
                have a := (atSd hb 124 (i * (2 * w + 2) + j)).mpr z
                have e : atSide 124 (at0 (bytes g) (i * (2 * w + 2) + j)) = none := e
                rw [e] at a
                cases a
  · have e : (Gt.sheetAt (bytes g) w h).drawn.length = (2 * h + 1) * (2 * w + 2) := sheet_len _
    rw [List.getElem?_eq_none (by omega), List.getElem?_eq_none (by omega)]
theorem ext_getD {l k : List Nat} (h : l.length = k.length) (e : ∀ i, i < l.length → l.getD i 0 = k.getD i 0) : l = k := by
  apply List.ext_getElem h
  intro i h1 h2
  have := e i h1
  rw [List.getD_eq_getElem?_getD, List.getD_eq_getElem?_getD, List.getElem?_eq_getElem h1, List.getElem?_eq_getElem h2] at this
  exact this
structure Codes (Y : Sheet) (w h : Nat) : Prop where
  hw : Y.wide = w
  hh : Y.high = h
  ilen : Y.inner.length = w * h
  slen : Y.sides.length = (w - 1) * h + w * (h - 1)
  ilt : ∀ s, Y.inner.getD s 0 < 4
  slt : ∀ s, Y.sides.getD s 0 < 3
theorem drawn_sheet {Y : Sheet} {t : Bytes} {w h : Nat} (hw : 1 ≤ w) (C : Codes Y w h) (e : Y.drawn = t) : Gt.sheetAt t w h = Y := by
  have val : ∀ i j, i < 2 * h + 1 → j < 2 * w + 2 → bt t w i j = sgn Y i j := by
    intro i j hi hj
    have z := sheet_at Y (i := i) (j := j) (by rw [C.hh]; exact hi) (by rw [C.hw]; exact hj)
    rw [C.hw, e] at z
    unfold bt at0
    rw [List.getD_eq_getElem?_getD, z]
    rfl
  obtain ⟨w', h', inner, sides⟩ := Y
  have e1 : w' = w := C.hw
  have e2 : h' = h := C.hh
  subst e1 e2
  have ei : (Gt.sheetAt t w' h').inner = inner := by
    refine ext_getD (sheet_inner_len.trans C.ilen.symm) fun s hs => ?_
    rw [sheet_inner_len] at hs
    obtain ⟨a, b, c⟩ := sq_parts hw hs
    rw [← c, ins_get a b, val _ _ (by omega) (by omega)]
    unfold sgn
    show Gt.sqV (if 2 * (s % w') + 1 = 2 * w' + 1 then (10 : UInt8) else if (2 * (s / w') + 1) % 2 = 0 then _ else if (2 * (s % w') + 1) % 2 = 1 then squareSign (inner.getD ((2 * (s / w') + 1) / 2 * w' + (2 * (s % w') + 1) / 2) 0) else _) = _
    rw [if_neg (by omega), if_neg (by omega), if_pos (by omega), show (2 * (s / w') + 1) / 2 = s / w' by omega, show (2 * (s % w') + 1) / 2 = s % w' by omega]
    exact code_sq (C.ilt _)
  have es : (Gt.sheetAt t w' h').sides = sides := by
    refine ext_getD (sheet_sides_len.trans C.slen.symm) fun q hq => ?_
    rw [sheet_sides_len] at hq
    rcases side_cases (D := ⟨w', h', []⟩) hw hq with ⟨x, y, hx, hy, e, _, _⟩ | ⟨x, y, hx, hy, e, _, _⟩
    · have hx : x + 1 < w' := hx
      have hy : y < h' := hy
      have e : q = y * (w' - 1) + x := e
      rw [e, ups_get (by omega) hy, val _ _ (by omega) (by omega)]
      unfold sgn
      show Gt.sdV 124 (if 2 * x + 2 = 2 * w' + 1 then (10 : UInt8) else if (2 * y + 1) % 2 = 0 then _ else if (2 * x + 2) % 2 = 1 then _ else if 2 * x + 2 = 0 ∨ 2 * x + 2 = 2 * w' then 124 else sideSign 124 (sides.getD ((2 * y + 1) / 2 * (w' - 1) + ((2 * x + 2) / 2 - 1)) 0)) = _
      rw [if_neg (by omega), if_neg (by omega), if_neg (by omega), if_neg (by omega), show (2 * y + 1) / 2 = y by omega, show (2 * x + 2) / 2 - 1 = x by omega]
      exact code_sd (Or.inr rfl) (C.slt _)
    · have hx : x < w' := hx
      have hy : y + 1 < h' := hy
      have e : q = (w' - 1) * h' + (y * w' + x) := e
      rw [e, levs_get hx (by omega), val _ _ (by omega) (by omega)]
      unfold sgn
      show Gt.sdV 45 (if 2 * x + 1 = 2 * w' + 1 then (10 : UInt8) else if (2 * y + 2) % 2 = 0 then (if (2 * x + 1) % 2 = 0 then 43 else if (2 * y + 2) / 2 = 0 ∨ (2 * y + 2) / 2 = h' then 45 else sideSign 45 (sides.getD ((w' - 1) * h' + (((2 * y + 2) / 2 - 1) * w' + (2 * x + 1) / 2)) 0)) else _) = _
      rw [if_neg (by omega), if_pos (by omega), if_neg (by omega), if_neg (by omega), show (2 * y + 2) / 2 - 1 = y by omega, show (2 * x + 1) / 2 = x by omega]
      exact code_sd (Or.inl rfl) (C.slt _)
  show (⟨w', h', (Gt.sheetAt t w' h').inner, (Gt.sheetAt t w' h').sides⟩ : Sheet) = _
  rw [ei, es]
theorem plan_codes (p : Plan) : Codes p.sheet p.garden.wide p.garden.high := by
  refine ⟨rfl, rfl, ?_, ?_, fun s => ?_, fun s => ?_⟩
  · show ((List.range p.garden.squares).map _).length = _
    rw [List.length_map, List.length_range]
    rfl
  · show ((List.range p.garden.count).map _).length = _
    rw [List.length_map, List.length_range]
    rfl
  · show ((List.range p.garden.squares).map _).getD s 0 < 4
    rw [List.getD_eq_getElem?_getD, List.getElem?_map]
    cases (List.range p.garden.squares)[s]? with
    | none => exact Nat.zero_lt_succ _
    | some n =>
      simp only [Option.map_some, Option.getD_some]
      split
      · decide
      · split
        · decide
        · split <;> decide
  · show ((List.range p.garden.count).map _).getD s 0 < 3
    rw [List.getD_eq_getElem?_getD, List.getElem?_map]
    cases (List.range p.garden.count)[s]? with
    | none => exact Nat.zero_lt_succ _
    | some n =>
      simp only [Option.map_some, Option.getD_some]
      split
      · decide
      · split <;> decide
/-! ### the garden that a sheet shows -/
theorem hedge_byte {g : List Nat} (hb : ∀ n ∈ g, n < 256) {k : UInt8} (hk : k = 45 ∨ k = 124) (p : Nat) : (Gt.sdV k (at0 (bytes g) p) == 1) = (at0 (bytes (blankN g)) p == k) := by
  rw [at_ne (blank_lt hb), blank_at, Bool.eq_iff_iff, beq_iff_eq, beq_iff_eq]
  unfold Gt.sdV atSide
  simp only [at_eq hb]
  have e1 : UInt8.toNat 32 = 32 := rfl
  have e2 : UInt8.toNat 46 = 46 := rfl
  rw [e1, e2]
  have hk' : k.toNat = 45 ∨ k.toNat = 124 := by rcases hk with rfl | rfl <;> simp
  generalize k.toNat = m at *
  generalize g.getD p 0 = n at *
  by_cases h1 : n = 32
  · rw [if_pos h1]
    simp only [Option.getD_some]
    subst h1
    rw [if_neg (by decide)]
    omega
  · rw [if_neg h1]
    by_cases h2 : n = m
    · rw [if_pos h2]
      simp only [Option.getD_some, true_iff]
      rw [isWS_no (by omega) (by omega) (by omega)]
      exact h2
    · rw [if_neg h2]
      have : ¬ (if isWS n = true then 32 else n) = m := by
        split <;> omega
      by_cases h3 : n = 46
      · rw [if_pos h3]
        simp only [Option.getD_some]
        exact ⟨fun z => by omega, fun z => absurd z this⟩
      · rw [if_neg h3]
        exact ⟨fun z => (by cases z), fun z => absurd z this⟩
theorem sheet_garden {g : List Nat} (hb : ∀ n ∈ g, n < 256) (w h : Nat) : (Gt.sheetAt (bytes g) w h).garden = gardenAt (bytes (blankN g)) w h := by
  show (⟨w, h, (Gt.upsTo (bt (bytes g) w) w h ++ Gt.levsTo (bt (bytes g) w) w (h - 1)).map fun (x : Nat) => x == 1⟩ : Garden) = ⟨w, h, upsTo (bt (bytes (blankN g)) w) w h ++ levsTo (bt (bytes (blankN g)) w) w (h - 1)⟩
  congr 1
  rw [List.map_append]
  congr 1
  · unfold Gt.upsTo upsTo
    rw [List.map_flatMap]
    congr 1
    funext y
    unfold Gt.upRow upRow
    rw [List.map_map]
    apply List.map_congr_left
    intro x _
    exact hedge_byte hb (Or.inr rfl) _
  · unfold Gt.levsTo levsTo
    rw [List.map_flatMap]
    congr 1
    funext y
    unfold Gt.levRow levRow
    rw [List.map_map]
    apply List.map_congr_left
    intro x _
    exact hedge_byte hb (Or.inl rfl) _
/-! ### a garden drawn -/
def gsgn (D : Garden) (i j : Nat) : UInt8 :=
  if j = 2 * D.wide + 1 then 10
  else if i % 2 = 0 then (if j % 2 = 0 then 43 else if i / 2 = 0 ∨ i / 2 = D.high ∨ D.hedge (D.uprights + ((i / 2 - 1) * D.wide + j / 2)) = true then 45 else 32)
  else (if j % 2 = 1 then 32 else if j = 0 ∨ j = 2 * D.wide ∨ D.hedge (i / 2 * (D.wide - 1) + (j / 2 - 1)) = true then 124 else 32)
theorem garden_line_len (z : Garden) (i : Nat) : ((if i % 2 = 0 then z.levelSigns (i / 2) else z.rowSigns (i / 2)) ++ [10]).length = 2 * z.wide + 2 := by
  rw [List.length_append]
  split
  · unfold Garden.levelSigns; simp
  · unfold Garden.rowSigns; simp
theorem garden_drawn_len (z : Garden) : z.drawn.length = (2 * z.high + 1) * (2 * z.wide + 2) := flat_len fun k _ => garden_line_len z k
theorem garden_at (z : Garden) {i j : Nat} (hi : i < 2 * z.high + 1) (hj : j < 2 * z.wide + 2) : z.drawn[i * (2 * z.wide + 2) + j]? = some (gsgn z i j) := by
  unfold Garden.drawn
  rw [flat_get (fun k _ => garden_line_len z k) hi hj]
  unfold gsgn
  by_cases hl : j = 2 * z.wide + 1
  · rw [if_pos hl, List.getElem?_append_right]
    · subst hl
      have e : (if i % 2 = 0 then z.levelSigns (i / 2) else z.rowSigns (i / 2)).length = 2 * z.wide + 1 := by
        have := garden_line_len z i
        rw [List.length_append] at this
        simp at this
        omega
      rw [e, Nat.sub_self]; rfl
    · have := garden_line_len z i
      rw [List.length_append] at this
      simp at this
      omega
  · rw [if_neg hl, List.getElem?_append_left]
    · by_cases ho : i % 2 = 0
      · rw [if_pos ho, if_pos ho]
        unfold Garden.levelSigns
        rw [List.getElem?_map, List.getElem?_range (by omega)]
        rfl
      · rw [if_neg ho, if_neg ho]
        unfold Garden.rowSigns
        rw [List.getElem?_map, List.getElem?_range (by omega)]
        rfl
    · have := garden_line_len z i
      rw [List.length_append] at this
      simp at this
      omega
theorem garden_drawn {t : Bytes} {w h : Nat} (X : Signs t w h) : (gardenAt t w h).drawn = t := by
  have hw := X.wlo
  have hM : 0 < 2 * w + 2 := by omega
  have hlen := X.len
  apply List.ext_getElem?
  intro p
  by_cases hp : p < t.length
  · rw [at0_of hp, ← dm_at p (2 * w + 2)]
    have hi : p / (2 * w + 2) < 2 * h + 1 := (Nat.div_lt_iff_lt_mul hM).mpr (by rw [← hlen]; exact hp)
    have hj := Nat.mod_lt p hM
    generalize p / (2 * w + 2) = i at hi
    generalize p % (2 * w + 2) = j at hj
    have e := garden_at (gardenAt t w h) (i := i) (j := j) hi hj
    refine Eq.trans e (congrArg some ?_)
    show gsgn (gardenAt t w h) i j = bt t w i j
    have ok := X.ok i j hi hj
    unfold gsgn
    show (if j = 2 * w + 1 then (10 : UInt8) else if i % 2 = 0 then (if j % 2 = 0 then 43 else if i / 2 = 0 ∨ i / 2 = h ∨ (gardenAt t w h).hedge ((w - 1) * h + ((i / 2 - 1) * w + j / 2)) = true then 45 else 32)
      else (if j % 2 = 1 then 32 else if j = 0 ∨ j = 2 * w ∨ (gardenAt t w h).hedge (i / 2 * (w - 1) + (j / 2 - 1)) = true then 124 else 32)) = _
    by_cases c1 : j = 2 * w + 1
    · rw [if_pos c1, ok.feed c1]
    · rw [if_neg c1]
      by_cases c2 : i % 2 = 0
      · rw [if_pos c2]
        by_cases c3 : j % 2 = 0
        · rw [if_pos c3, ok.corner c1 c2 c3]
        · rw [if_neg c3]
          rcases ok.level c1 c2 (by omega) with e | ⟨e, n0, n1⟩
          · rw [e]
            by_cases c4 : i / 2 = 0 ∨ i / 2 = h
            · rw [if_pos (by rcases c4 with z | z; exact Or.inl z; exact Or.inr (Or.inl z))]
            · have z := hedge_lev (t := t) (w := w) (h := h) (x := j / 2) (y := i / 2 - 1) (by omega) (by omega)
              rw [if_pos]
              refine Or.inr (Or.inr ?_)
              rw [z, show 2 * (i / 2 - 1) + 2 = i by omega, show 2 * (j / 2) + 1 = j by omega, e]
              rfl
          · rw [e]
            have z := hedge_lev (t := t) (w := w) (h := h) (x := j / 2) (y := i / 2 - 1) (by omega) (by omega)
            rw [show 2 * (i / 2 - 1) + 2 = i by omega, show 2 * (j / 2) + 1 = j by omega, e] at z
            rw [if_neg]
            rintro (y | y | y)
            · omega
            · omega
            · rw [z] at y; cases y
      · rw [if_neg c2]
        by_cases c3 : j % 2 = 1
        · rw [if_pos c3, ok.square c1 (by omega) c3]
        · rw [if_neg c3]
          rcases ok.upright c1 (by omega) (by omega) with e | ⟨e, n0, n1⟩
          · rw [e]
            by_cases c4 : j = 0 ∨ j = 2 * w
            · rw [if_pos (by rcases c4 with z | z; exact Or.inl z; exact Or.inr (Or.inl z))]
            · have z := hedge_up (t := t) (w := w) (h := h) (x := j / 2 - 1) (y := i / 2) (by omega) (by omega)
              rw [if_pos]
              refine Or.inr (Or.inr ?_)
              rw [z, show 2 * (i / 2) + 1 = i by omega, show 2 * (j / 2 - 1) + 2 = j by omega, e]
              rfl
          · rw [e]
            have z := hedge_up (t := t) (w := w) (h := h) (x := j / 2 - 1) (y := i / 2) (by omega) (by omega)
            rw [show 2 * (i / 2) + 1 = i by omega, show 2 * (j / 2 - 1) + 2 = j by omega, e] at z
            rw [if_neg]
            rintro (y | y | y)
            · omega
            · omega
            · rw [z] at y; cases y
  · have e : (gardenAt t w h).drawn.length = (2 * h + 1) * (2 * w + 2) := garden_drawn_len _
    rw [List.getElem?_eq_none (by omega), List.getElem?_eq_none (by omega)]
end Gn

end
section
set_option linter.all false
set_option maxHeartbeats 2000000
namespace Gn
set_option linter.all false
open Maze Gm
/-! ### the walk from A -/
def walkF (A : Nat → List Nat) : Nat → List Nat → List Nat → List Nat
  | 0, walked, _ => walked
  | _ + 1, walked, [] => walked
  | f + 1, walked, a :: _ => walkF A f (walked ++ [a]) ((A a).filter fun s => decide (¬ s ∈ walked ++ [a]))
theorem walkF_nil (A : Nat → List Nat) (f : Nat) (walked : List Nat) : walkF A f walked [] = walked := by
  cases f <;> rfl
def begins (g : List Nat) (w n : Nat) : List Nat := (List.range n).filter fun s => g.getD (placeOf w s) 0 == 65
def nOf (g : List Nat) : Nat := widOf g * higOf g (widOf g)
def ptsOf (g : List Nat) : List (Nat × Nat) := sidesW g (widOf g) (nOf g) 46
def walkN (g : List Nat) : List Nat := walkF (adj (ptsOf g)) (nOf g + 1) [] (begins g (widOf g) (nOf g))
/-- what's true of a walk under way -/
structure WOk (E : List (Nat × Nat)) (n : Nat) (walked : List Nat) : Prop where
  nd : walked.Nodup
  lt : ∀ s ∈ walked, s < n
  st : ∀ p ∈ stepsOf walked, p.2 ∈ adj E p.1
structure WAt (E : List (Nat × Nat)) (n : Nat) (walked ahead : List Nat) : Prop where
  ok : WOk E n walked
  lt : ∀ s ∈ ahead, s < n
  new : ∀ s ∈ ahead, ¬ s ∈ walked
  from_ : ∀ a, walked.getLast? = some a → ∀ s ∈ ahead, s ∈ adj E a
theorem steps_snoc {l : List Nat} {a : Nat} {p : Nat × Nat} (h : p ∈ stepsOf (l ++ [a])) : p ∈ stepsOf l ∨ (p.2 = a ∧ l.getLast? = some p.1) := by
  obtain ⟨i, h1, h2⟩ := Gt.steps_ix.mp h
  by_cases c : i + 1 < l.length
  · rw [List.getElem?_append_left (by omega)] at h1 h2
    exact Or.inl (Gt.steps_ix.mpr ⟨i, h1, h2⟩)
  · have hl : i + 1 < (l ++ [a]).length := (List.getElem?_eq_some_iff.mp h2).1
    rw [List.length_append, List.length_singleton] at hl
    have e : i + 1 = l.length := by omega
    right
    rw [e, List.getElem?_append_right (Nat.le_refl _), Nat.sub_self] at h2
    rw [List.getElem?_append_left (by omega)] at h1
    refine ⟨(Option.some.inj h2).symm, ?_⟩
    rw [List.getLast?_eq_getElem?, show l.length - 1 = i by omega]
    exact h1
theorem WAt.next {E : List (Nat × Nat)} {n : Nat} {walked ahead : List Nat} {a : Nat} (hE : ∀ e ∈ E, e.1 < n ∧ e.2 < n) (h : WAt E n walked (a :: ahead)) :
    WAt E n (walked ++ [a]) ((adj E a).filter fun s => decide (¬ s ∈ walked ++ [a])) := by
  have ha := h.new a List.mem_cons_self
  refine ⟨⟨?_, fun s hs => ?_, fun p hp => ?_⟩, fun s hs => ?_, fun s hs => ?_, fun b hb s hs => ?_⟩
  · refine List.nodup_append.mpr ⟨h.ok.nd, List.nodup_cons.mpr ⟨List.not_mem_nil, List.nodup_nil⟩, fun x hx y hy => ?_⟩
    rw [List.mem_singleton.mp hy]
    intro e
    rw [e] at hx
    exact ha hx
  · rcases List.mem_append.mp hs with z | z
    · exact h.ok.lt s z
    · rw [List.mem_singleton.mp z]; exact h.lt a List.mem_cons_self
  · rcases steps_snoc hp with z | ⟨z1, z2⟩
    · exact h.ok.st p z
    · rw [z1]; exact h.from_ p.1 z2 a List.mem_cons_self
  · rcases mem_adj.mp (List.mem_filter.mp hs).1 with z | z
    · exact (hE _ z).2
    · exact (hE _ z).1
  · have := (List.mem_filter.mp hs).2
    rw [decide_eq_true_eq] at this
    exact this
  · rw [List.getLast?_append] at hb
    have : a = b := by simpa using hb
    rw [← this]
    exact (List.mem_filter.mp hs).1
theorem WAt.len {E : List (Nat × Nat)} {n : Nat} {walked ahead : List Nat} {a : Nat} (h : WAt E n walked (a :: ahead)) : walked.length < n := by
  have := Gt.count_le (n := n) (l := a :: walked) (List.nodup_cons.mpr ⟨h.new a List.mem_cons_self, h.ok.nd⟩) fun s hs => by
    rcases List.mem_cons.mp hs with z | z
    · rw [z]; exact h.lt a List.mem_cons_self
    · exact h.ok.lt s z
  rw [List.length_cons] at this
  omega
theorem walkF_ok {E : List (Nat × Nat)} {n : Nat} (hE : ∀ e ∈ E, e.1 < n ∧ e.2 < n) : ∀ (f : Nat) (walked ahead : List Nat), WAt E n walked ahead → WOk E n (walkF (adj E) f walked ahead)
  | 0, walked, ahead, h => h.ok
  | f + 1, walked, [], h => h.ok
  | f + 1, walked, a :: r, h => walkF_ok hE f _ _ (h.next hE)
section
variable {g : List Nat} {w h : Nat}
theorem sidesW_lt {sign : Nat} (hw : 1 ≤ w) : ∀ e ∈ sidesW g w (w * h) sign, e.1 < w * h ∧ e.2 < w * h := by
  intro e he
  have z := (List.mem_filter.mp he).1
  obtain ⟨q, hq, rfl⟩ := (innerS_mem (D := ⟨w, h, []⟩) hw).mp z
  have := Gt.side_squares (D := ⟨w, h, []⟩) hw hq
  exact ⟨this.1, this.2.1⟩
theorem begins_at (g : List Nat) (w n : Nat) (E : List (Nat × Nat)) : WAt E n [] (begins g w n) :=
  ⟨⟨List.nodup_nil, fun s hs => (by cases hs), fun p hp => (by cases hp)⟩, fun s hs => List.mem_range.mp (List.mem_filter.mp hs).1, fun s _ z => (by cases z), fun a z => (by cases z)⟩
end
theorem walkN_ok {g : List Nat} (hw : 1 ≤ widOf g) : WOk (ptsOf g) (nOf g) (walkN g) :=
  walkF_ok (sidesW_lt (g := g) (w := widOf g) (h := higOf g (widOf g)) (sign := 46) hw) _ _ _ (begins_at ..)
/-- the walk goes by passages of the garden on the sheet -/
theorem pts_blank {g : List Nat} {w n : Nat} : ∀ e ∈ sidesW g w n 46, e ∈ sidesW (blankN g) w n 32 := by
  intro e he
  obtain ⟨h1, h2⟩ := List.mem_filter.mp he
  refine List.mem_filter.mpr ⟨h1, ?_⟩
  rw [beq_iff_eq] at h2 ⊢
  rw [blank_at, h2]
  rfl
theorem walk_pw {g : List Nat} (hb : ∀ n ∈ g, n < 256) (F : FaultN g none) {l : List Nat} (hl : 2 ≤ l.length) (O : WOk (ptsOf g) (nOf g) l) : isPW (blankN g) l = true := by
  obtain ⟨e1, e2, e3⟩ := blank_size hb F
  rw [← pw_eq (blank_lt hb) e3]
  unfold isPWN
  rw [e1, e2]
  simp only [Bool.and_eq_true, decide_eq_true_eq]
  refine ⟨hl, O.lt, O.nd, fun p hp => ?_⟩
  rcases mem_adj.mp (O.st p hp) with z | z
  · exact mem_adj.mpr (Or.inl (pts_blank _ z))
  · exact mem_adj.mpr (Or.inr (pts_blank _ z))
theorem nat8_draw {g : List Nat} (hb : ∀ n ∈ g, n < 256) (w : Nat) (l : List Nat) : nat8 (drawOn 46 65 66 w (bytes g) l) = drawOn 46 65 66 w g l := by
  unfold nat8
  rw [drawOn_map]
  show drawOn 46 65 66 w (nat8 (bytes g)) l = _
  rw [nat8_bytes hb]
theorem pw_drawn {g l : List Nat} (hb : ∀ n ∈ g, n < 256) (hG : isG g = true) (hP : isPW g l = true) :
    Plan.right ⟨gardenAt (bytes g) (widOf g) (higOf g (widOf g)), l⟩ = true ∧ nat8 (Plan.drawn ⟨gardenAt (bytes g) (widOf g) (higOf g (widOf g)), l⟩) = drawOn 46 65 66 (widOf g) g l := by
  have X := signs_isG hb hG
  have hR := right_iff X l
  unfold isPW at hP
  simp only [Bool.and_eq_true, decide_eq_true_eq] at hP
  obtain ⟨p1, p2, p3, p4⟩ := hP
  have S : Steps (widOf g) (higOf g (widOf g)) l := ⟨p2, fun q hq => ((stepsOk_iff _ _ l).mp p4 q hq).1⟩
  refine ⟨hR.mpr ⟨p1, p2, p3, p4⟩, ?_⟩
  rw [drawn_eq X p1 p3 S, nat8_draw hb]
theorem right_pw {g l : List Nat} (hb : ∀ n ∈ g, n < 256) (hG : isG g = true) (h : Plan.right ⟨gardenAt (bytes g) (widOf g) (higOf g (widOf g)), l⟩ = true) : isPW g l = true := by
  have X := signs_isG hb hG
  obtain ⟨p1, p2, p3, p4⟩ := (right_iff X l).mp h
  unfold isPW
  simp only [Bool.and_eq_true, decide_eq_true_eq]
  exact ⟨p1, p2, p3, p4⟩
theorem bytes_nat8 (t : Bytes) : bytes (nat8 t) = t := by
  unfold bytes nat8
  rw [List.map_map]
  refine (List.map_congr_left fun c _ => ?_).trans (List.map_id t)
  show UInt8.ofNat c.toNat = c
  exact UInt8.ofNat_toNat
/-- what the sheet shows, as the program tells it -/
def sheetOf (g : List Nat) : Sheet := Gt.sheetAt (bytes g) (widOf g) (higOf g (widOf g))
def gardenOf (g : List Nat) : Garden := gardenAt (bytes (blankN g)) (widOf g) (higOf g (widOf g))
theorem plan_draw {g : List Nat} (hb : ∀ n ∈ g, n < 256) (F : FaultN g none) {l : List Nat} (hP : isPW (blankN g) l = true) (hd : drawOn 46 65 66 (widOf g) (blankN g) l = g) : (sheetOf g).plan = some ⟨gardenOf g, l⟩ := by
  obtain ⟨e1, e2, e3⟩ := blank_size hb F
  have X := sheet_read hb F
  obtain ⟨r, d⟩ := pw_drawn (blank_lt hb) e3 hP
  rw [e1, e2] at r d
  rw [hd] at d
  have d2 : Plan.drawn ⟨gardenOf g, l⟩ = bytes g := by
    have d3 := congrArg bytes d
    rw [bytes_nat8] at d3
    exact d3
  have e : sheetOf g = Plan.sheet ⟨gardenOf g, l⟩ := drawn_sheet (w := widOf g) (h := higOf g (widOf g)) X.good.line0.lo (plan_codes ⟨gardenOf g, l⟩) d2
  rw [e]
  exact Gt.plan_of (D := gardenOf g) X.good.line0.lo (garden_len _ _ _) r
theorem plan_some {g : List Nat} (hb : ∀ n ∈ g, n < 256) (F : FaultN g none) {p : Plan} (h : (sheetOf g).plan = some p) :
    p.garden = gardenOf g ∧ isPW (blankN g) p.way = true ∧ drawOn 46 65 66 (widOf g) (blankN g) p.way = g := by
  obtain ⟨e1, e2, e3⟩ := blank_size hb F
  obtain ⟨r, s, gd⟩ := Gt.of_plan h
  have eg : p.garden = gardenOf g := gd.trans (sheet_garden hb _ _)
  obtain ⟨pg, pw⟩ := p
  have eg : pg = gardenOf g := eg
  subst eg
  have hP : isPW (blankN g) pw = true := by
    refine right_pw (blank_lt hb) e3 ?_
    rw [e1, e2]
    exact r
  refine ⟨rfl, hP, ?_⟩
  have d := (pw_drawn (blank_lt hb) e3 hP).2
  rw [e1, e2] at d
  have d2 : Plan.drawn ⟨gardenOf g, pw⟩ = bytes g := by
    show (Plan.sheet ⟨gardenOf g, pw⟩).drawn = _
    rw [s]
    exact sheet_drawn hb F
  have d3 : nat8 (Plan.drawn ⟨gardenOf g, pw⟩) = drawOn 46 65 66 (widOf g) (blankN g) pw := d
  refine d3.symm.trans ?_
  rw [d2]
  exact nat8_bytes hb
end Gn

end
section
set_option linter.all false
set_option maxHeartbeats 2000000
namespace Gn
open Maze Gm
set_option linter.all false
theorem sd_two {k c : UInt8} (hk : k = 45 ∨ k = 124) : Gt.sdV k c = 2 ↔ c = 46 := by
  unfold Gt.sdV atSide
  have h46 : ¬ (46 : UInt8) = 32 := by decide
  have hk6 : ¬ (46 : UInt8) = k := by rcases hk with rfl | rfl <;> decide
  by_cases h1 : c = 32
  · rw [if_pos h1, h1]; decide
  · rw [if_neg h1]
    by_cases h2 : c = k
    · rw [if_pos h2]
      refine ⟨fun z => (by cases z), fun z => ?_⟩
      rw [z] at h2; exact absurd h2 hk6
    · rw [if_neg h2]
      by_cases h3 : c = 46
      · rw [if_pos h3]; exact ⟨fun _ => h3, fun _ => rfl⟩
      · rw [if_neg h3]; exact ⟨fun z => (by cases z), fun z => absurd z h3⟩
theorem sq_two {c : UInt8} : Gt.sqV c = 2 ↔ c = 65 := by
  unfold Gt.sqV inSquare
  by_cases h1 : c = 32
  · rw [if_pos h1, h1]; decide
  · rw [if_neg h1]
    by_cases h2 : c = 46
    · rw [if_pos h2, h2]; decide
    · rw [if_neg h2]
      by_cases h3 : c = 65
      · rw [if_pos h3]; exact ⟨fun _ => h3, fun _ => rfl⟩
      · rw [if_neg h3]
        by_cases h4 : c = 66
        · rw [if_pos h4, h4]; decide
        · rw [if_neg h4]; exact ⟨fun z => (by cases z), fun z => absurd z h3⟩
section
variable {g : List Nat}
theorem side_pt (hb : ∀ n ∈ g, n < 256) (hw : 1 ≤ widOf g) {q : Nat} (hq : q < (gardenOf g).count) :
    g.getD (sideOf (widOf g) ((gardenOf g).squaresAt q).1 ((gardenOf g).squaresAt q).2) 0 = 46 ↔ (sheetOf g).sides.getD q 0 = 2 := by
  have k := side_cases (D := gardenOf g) hw hq
  have ew : (gardenOf g).wide = widOf g := rfl
  have eh : (gardenOf g).high = higOf g (widOf g) := rfl
  rw [ew, eh] at k
  rcases k with ⟨x, y, hx, hy, e, es, ep⟩ | ⟨x, y, hx, hy, e, es, ep⟩
  · rw [ep, e]
    unfold sheetOf
    rw [ups_get (by omega) hy, sd_two (Or.inr rfl)]
    exact (at_eq hb _ 46).symm
  · rw [ep, e]
    unfold sheetOf
    rw [levs_get hx (by omega), sd_two (Or.inl rfl)]
    exact (at_eq hb _ 46).symm
theorem begin_pt (hb : ∀ n ∈ g, n < 256) (hw : 1 ≤ widOf g) {s : Nat} (hs : s < nOf g) : g.getD (placeOf (widOf g) s) 0 = 65 ↔ (sheetOf g).inner.getD s 0 = 2 := by
  obtain ⟨a, b, c⟩ := sq_parts hw hs
  have e := ins_get (t := bytes g) (w := widOf g) (h := higOf g (widOf g)) a b
  unfold sheetOf
  rw [c] at e
  rw [e, sq_two]
  have e2 := placeOf_at (w := widOf g) (y := s / widOf g) a
  rw [c] at e2
  rw [e2]
  exact (at_eq hb _ 65).symm
theorem walk_way (hb : ∀ n ∈ g, n < 256) (F : FaultN g none) {p : Plan} (h : (sheetOf g).plan = some p) : walkN g = p.way := by
  have hw : 1 ≤ widOf g := (sheet_read hb F).good.line0.lo
  obtain ⟨eg, _, _⟩ := plan_some hb F h
  obtain ⟨r, s, _⟩ := Gt.of_plan h
  obtain ⟨pg, l⟩ := p
  have eg : pg = gardenOf g := eg
  subst eg
  have R := Gt.right_of r
  show walkN g = l
  have s : Plan.sheet ⟨gardenOf g, l⟩ = sheetOf g := s
  have hsq : (gardenOf g).squares = nOf g := rfl
  have hlen : l.length ≤ nOf g := Gt.count_le R.nd R.inn
  have pts : ∀ e, e ∈ ptsOf g ↔ ∃ q, q < (gardenOf g).count ∧ (gardenOf g).squaresAt q = e ∧ follows l e.1 e.2 = true := by
    intro e
    have m := innerS_mem (D := gardenOf g) hw (e := e)
    unfold ptsOf sidesW
    rw [List.mem_filter, beq_iff_eq]
    have m : e ∈ innerS (widOf g) (nOf g) ↔ _ := m
    rw [m]
    have two : ∀ q, q < (gardenOf g).count → ((sheetOf g).sides.getD q 0 = 2 ↔ follows l ((gardenOf g).squaresAt q).1 ((gardenOf g).squaresAt q).2 = true) := by
      intro q hq
      rw [← s, Gt.sheet_side hq]
      by_cases c : follows l ((gardenOf g).squaresAt q).1 ((gardenOf g).squaresAt q).2 = true
      · rw [if_pos c]; exact ⟨fun _ => c, fun _ => rfl⟩
      · rw [if_neg c]
        constructor
        · intro z; split at z <;> cases z
        · intro z; exact absurd z c
    constructor
    · rintro ⟨⟨q, hq, rfl⟩, z⟩
      exact ⟨q, hq, rfl, (two q hq).mp ((side_pt hb hw hq).mp z)⟩
    · rintro ⟨q, hq, rfl, z⟩
      exact ⟨⟨q, hq, rfl⟩, (side_pt hb hw hq).mpr ((two q hq).mpr z)⟩
  have near : ∀ a u, u ∈ adj (ptsOf g) a → follows l a u = true := by
    intro a u hu
    rcases mem_adj.mp hu with z | z
    · obtain ⟨q, _, _, z⟩ := (pts _).mp z
      exact z
    · obtain ⟨q, _, _, z⟩ := (pts _).mp z
      exact (Gt.follows_comm l _ _).mp z
  have next : ∀ i a u, l[i]? = some a → l[i + 1]? = some u → u ∈ adj (ptsOf g) a := by
    intro i a u h1 h2
    have hu := R.step i a u h1 h2
    rw [List.contains_iff_mem] at hu
    have ha := R.inn a (List.mem_of_getElem? h1)
    obtain ⟨q, hq, _, hb2⟩ := (Gt.outs_iff (D := gardenOf g) hw ha).mp hu
    have fo : follows l a u = true := (Gt.follows_at R.nd h1).mpr (Or.inl h2)
    rw [mem_adj]
    rcases hb2 with z | z
    · exact Or.inl ((pts _).mpr ⟨q, hq, z, fo⟩)
    · exact Or.inr ((pts _).mpr ⟨q, hq, z, (Gt.follows_comm l _ _).mp fo⟩)
  have main : ∀ (f i : Nat) (ahead : List Nat), l.length ≤ f + i → (∀ s ∈ ahead, l[i]? = some s) → (ahead = [] → l.length ≤ i) → walkF (adj (ptsOf g)) f (l.take i) ahead = l := by
    intro f
    induction f with
    | zero =>
      intro i ahead h1 _ _
      show l.take i = l
      exact List.take_of_length_le (by omega)
    | succ f ih =>
      intro i ahead h1 h2 h3
      cases ahead with
      | nil =>
        show l.take i = l
        exact List.take_of_length_le (h3 rfl)
      | cons a rest =>
        have ha := h2 a List.mem_cons_self
        show walkF (adj (ptsOf g)) f (l.take i ++ [a]) ((adj (ptsOf g) a).filter fun s => decide (¬ s ∈ l.take i ++ [a])) = l
        have et : l.take i ++ [a] = l.take (i + 1) := by
          rw [List.take_add_one, ha]; rfl
        rw [et]
        refine ih (i + 1) _ (by omega) (fun u hu => ?_) (fun he => ?_)
        · obtain ⟨u1, u2⟩ := List.mem_filter.mp hu
          rw [decide_eq_true_eq] at u2
          rcases (Gt.follows_at R.nd ha).mp (near a u u1) with z | ⟨z1, z2⟩
          · exact z
          · exfalso
            refine u2 (List.mem_of_getElem? (i := i - 1) ?_)
            rw [List.getElem?_take, if_pos (by omega)]
            exact z2
        · by_cases c : i + 1 < l.length
          · exfalso
            have hu : l[i + 1]? = some l[i + 1] := List.getElem?_eq_getElem c
            generalize l[i + 1] = u at hu
            have : u ∈ (adj (ptsOf g) a).filter fun s => decide (¬ s ∈ l.take (i + 1)) := by
              refine List.mem_filter.mpr ⟨next i a u ha hu, ?_⟩
              rw [decide_eq_true_eq]
              intro z
              obtain ⟨j, hj, e⟩ := List.getElem_of_mem z
              rw [List.length_take] at hj
              have e2 : l[j]? = some u := by
                rw [← e, List.getElem_take, List.getElem?_eq_getElem (by omega)]
              have := Gt.nd_ix R.nd e2 hu
              omega
            rw [he] at this
            cases this
          · omega
  have h0 : l[0]? = some (l.headD 0) := Gt.head_ix R.two
  have bg : ∀ s, s < nOf g → (g.getD (placeOf (widOf g) s) 0 = 65 ↔ s = l.headD 0) := by
    intro q hq
    rw [begin_pt hb hw hq, ← s]
    have ein : (Plan.sheet ⟨gardenOf g, l⟩).inner.getD q 0 = if q = l.headD 0 then 2 else if q = l.getLastD 0 then 3 else if l.contains q = true then 1 else 0 := by
      show ((List.range (gardenOf g).squares).map _).getD _ 0 = _
      rw [List.getD_eq_getElem?_getD, List.getElem?_map, List.getElem?_range (show q < (gardenOf g).squares from hq)]
      rfl
    rw [ein]
    by_cases c : q = l.headD 0
    · rw [if_pos c]; exact ⟨fun _ => c, fun _ => rfl⟩
    · rw [if_neg c]
      constructor
      · intro z
        split at z
        · cases z
        · split at z <;> cases z
      · intro z; exact absurd z c
  have := main (nOf g + 1) 0 (begins g (widOf g) (nOf g)) (by omega) (fun q hq => ?_) (fun he => ?_)
  · exact this
  · obtain ⟨q1, q2⟩ := List.mem_filter.mp hq
    rw [beq_iff_eq] at q2
    rw [(bg q (List.mem_range.mp q1)).mp q2]
    exact h0
  · exfalso
    have hin := R.inn _ (List.mem_of_getElem? h0)
    have : l.headD 0 ∈ begins g (widOf g) (nOf g) := List.mem_filter.mpr ⟨List.mem_range.mpr hin, by rw [beq_iff_eq]; exact (bg _ hin).mpr rfl⟩
    rw [he] at this
    cases this
end
/-- the way on a sheet; none: no plan's -/
def wayOn (g : List Nat) : List Nat := if (walkN g).length < 2 then [] else if drawOn 46 65 66 (widOf g) (blankN g) (walkN g) = g then walkN g else []
theorem way_plan {g : List Nat} (hb : ∀ n ∈ g, n < 256) (F : FaultN g none) :
    (wayOn g = [] ∧ (sheetOf g).plan = none) ∨ (2 ≤ (wayOn g).length ∧ (sheetOf g).plan = some ⟨gardenOf g, wayOn g⟩ ∧ isPW (blankN g) (wayOn g) = true ∧ wayOn g = walkN g) := by
  have hw : 1 ≤ widOf g := (sheet_read hb F).good.line0.lo
  by_cases c : (walkN g).length < 2
  · left
    refine ⟨by unfold wayOn; rw [if_pos c], ?_⟩
    cases e : (sheetOf g).plan with
    | none => rfl
    | some p =>
      exfalso
      have h1 := walk_way hb F e
      obtain ⟨r, _, _⟩ := Gt.of_plan e
      have := (Gt.right_of r).two
      rw [h1] at c
      omega
  · have hP := walk_pw hb F (by omega) (walkN_ok hw)
    by_cases d : drawOn 46 65 66 (widOf g) (blankN g) (walkN g) = g
    · right
      have e : wayOn g = walkN g := by unfold wayOn; rw [if_neg c, if_pos d]
      rw [e]
      exact ⟨by omega, plan_draw hb F hP d, hP, rfl⟩
    · left
      refine ⟨by unfold wayOn; rw [if_neg c, if_neg d], ?_⟩
      cases e : (sheetOf g).plan with
      | none => rfl
      | some p =>
        exfalso
        have h1 := walk_way hb F e
        obtain ⟨_, _, h2⟩ := plan_some hb F e
        rw [← h1] at h2
        exact d h2
/-! ### what's asked of garden, way -/
inductive PlanN (g : List Nat) : List Int → Prop
  | long : 1024 < g.length → PlanN g [-2]
  | fault {p : Nat} : ¬ 1024 < g.length → FaultN g (some p) → PlanN g [-6, (p : Int)]
  | none : ¬ 1024 < g.length → FaultN g none → wayOn g = [] → PlanN g [-9]
theorem ofPlan_eq (z : Bytes) (f : Plan → Ans) : MazeK.ofPlan z f = if 1024 < z.length then says (-2) else match readSheet z with
    | .error p => faulty p
    | .ok y => match y.plan with
      | none => says (-9)
      | some p => f p := rfl
theorem plan_refused {g : List Nat} (hb : ∀ n ∈ g, n < 256) {r : List Int} (h : PlanN g r) (f : Plan → Ans) : (MazeK.ofPlan (bytes g) f).code :: (MazeK.ofPlan (bytes g) f).nums.map (fun (n : Nat) => (n : Int)) = r := by
  rw [ofPlan_eq, bytes_len]
  cases h with
  | long h => rw [if_pos h]; rfl
  | fault h F => rw [if_neg h, fault_read hb F]; rfl
  | none h F e =>
    rw [if_neg h, Gt.read_of (sheet_read hb F)]
    rcases way_plan hb F with ⟨_, z⟩ | ⟨z, _⟩
    · have z : (Gt.sheetAt (bytes g) (widOf g) (higOf g (widOf g))).plan = Option.none := z
      show (match (Gt.sheetAt (bytes g) (widOf g) (higOf g (widOf g))).plan with | Option.none => says (-9) | some p => f p).code :: _ = _
      simp only [z]
      rfl
    · rw [e] at z
      exact absurd z (by decide)
theorem plan_told {g : List Nat} (hb : ∀ n ∈ g, n < 256) (h : ¬ 1024 < g.length) (F : FaultN g none) (hn : wayOn g ≠ []) (f : Plan → Ans) : MazeK.ofPlan (bytes g) f = f ⟨gardenOf g, wayOn g⟩ := by
  rw [ofPlan_eq, bytes_len, if_neg h, Gt.read_of (sheet_read hb F)]
  rcases way_plan hb F with ⟨z, _⟩ | ⟨_, z, _⟩
  · exact absurd z hn
  · have z : (Gt.sheetAt (bytes g) (widOf g) (higOf g (widOf g))).plan = some ⟨gardenOf g, wayOn g⟩ := z
    show (match (Gt.sheetAt (bytes g) (widOf g) (higOf g (widOf g))).plan with | Option.none => says (-9) | some p => f p) = _
    simp only [z]
theorem garden_ans (g : List Nat) : PyWqbacr.garden (g.map fun (n : Nat) => (n : Int)) = (MazeK.ofPlan (bytes g) fun p => tells (nat8 p.garden.drawn)).code :: (MazeK.ofPlan (bytes g) fun p => tells (nat8 p.garden.drawn)).nums.map (fun (n : Nat) => (n : Int)) := by
  show (MazeK.answer (.garden (PlanNeutral.text (g.map fun (n : Nat) => (n : Int))))).code :: (MazeK.answer (.garden (PlanNeutral.text (g.map fun (n : Nat) => (n : Int))))).nums.map (fun (n : Nat) => (n : Int)) = _
  rw [text_nat]
  rfl
theorem way_ans (g : List Nat) : PyWqbacr.way (g.map fun (n : Nat) => (n : Int)) = (MazeK.ofPlan (bytes g) fun p => tells p.way).code :: (MazeK.ofPlan (bytes g) fun p => tells p.way).nums.map (fun (n : Nat) => (n : Int)) := by
  show (MazeK.answer (.way (PlanNeutral.text (g.map fun (n : Nat) => (n : Int))))).code :: (MazeK.answer (.way (PlanNeutral.text (g.map fun (n : Nat) => (n : Int))))).nums.map (fun (n : Nat) => (n : Int)) = _
  rw [text_nat]
  rfl
theorem garden_refused {g : List Nat} (hb : ∀ n ∈ g, n < 256) {r : List Int} (h : PlanN g r) : PyWqbacr.garden (g.map fun (n : Nat) => (n : Int)) = r := (garden_ans g).trans (plan_refused hb h _)
theorem way_refused {g : List Nat} (hb : ∀ n ∈ g, n < 256) {r : List Int} (h : PlanN g r) : PyWqbacr.way (g.map fun (n : Nat) => (n : Int)) = r := (way_ans g).trans (plan_refused hb h _)
theorem garden_told {g : List Nat} (hb : ∀ n ∈ g, n < 256) (h : ¬ 1024 < g.length) (F : FaultN g none) (hn : wayOn g ≠ []) : PyWqbacr.garden (g.map fun (n : Nat) => (n : Int)) = 0 :: (blankN g).map fun (n : Nat) => (n : Int) := by
  rw [garden_ans, plan_told hb h F hn]
  show (0 : Int) :: (nat8 (gardenOf g).drawn).map _ = _
  unfold gardenOf
  rw [garden_drawn (signs_blank hb F), nat8_bytes (blank_lt hb)]
theorem way_told {g : List Nat} (hb : ∀ n ∈ g, n < 256) (h : ¬ 1024 < g.length) (F : FaultN g none) (hn : wayOn g ≠ []) : PyWqbacr.way (g.map fun (n : Nat) => (n : Int)) = 0 :: (wayOn g).map fun (n : Nat) => (n : Int) := by
  rw [way_ans, plan_told hb h F hn]
  rfl
end Gn

end
section
set_option linter.all false
set_option maxHeartbeats 2000000
namespace Gn
open Maze Gm
set_option linter.all false
/-! ### rooms by labels -/
def joinR (m : List Nat) (e : Nat × Nat) : List Nat := m.map fun z => if z = m.getD e.2 0 then m.getD e.1 0 else z
def roomsN (E : List (Nat × Nat)) (n : Nat) : List Nat := E.foldl joinR (List.range n)
theorem joinR_len (m : List Nat) (e : Nat × Nat) : (joinR m e).length = m.length := List.length_map ..
theorem lab_join {n : Nat} {m : List Nat} {F : List (Nat × Nat)} (L : Gt.Lab n m (Gt.J F)) {e : Nat × Nat} (h1 : e.1 < n) (h2 : e.2 < n) : Gt.Lab n (joinR m e) (Gt.J (e :: F)) := by
  by_cases c : m.getD e.1 0 = m.getD e.2 0
  · have hid : joinR m e = m := by
      unfold joinR
      refine (List.map_congr_left fun z _ => ?_).trans (List.map_id m)
      rw [c]
      by_cases h : z = m.getD e.2 0
      · rw [if_pos h, h]; rfl
      · rw [if_neg h]; rfl
    rw [hid]
    refine ⟨L.len, fun s t hs ht => ?_⟩
    rw [L.same s t hs ht]
    exact (Gt.J_in ((L.same _ _ h1 h2).mp c)).symm
  · exact L.merge h1 h2 c
theorem lab_range (n : Nat) : Gt.Lab n (List.range n) (Gt.J []) := by
  have g : ∀ s, s < n → (List.range n).getD s 0 = s := fun s hs => by
    rw [List.getD_eq_getElem?_getD, List.getElem?_range hs]; rfl
  refine ⟨List.length_range, fun s t hs ht => ?_⟩
  rw [g s hs, g t ht, Gt.J_nil]
theorem lab_fold {n : Nat} : ∀ (E : List (Nat × Nat)) (m : List Nat) (F : List (Nat × Nat)), (∀ e ∈ E, e.1 < n ∧ e.2 < n) → Gt.Lab n m (Gt.J F) → Gt.Lab n (E.foldl joinR m) (Gt.J (E.reverse ++ F))
  | [], m, F, _, L => L
  | e :: E, m, F, h, L => by
    rw [List.foldl_cons, List.reverse_cons, List.append_assoc]
    have he := h e List.mem_cons_self
    exact lab_fold E (joinR m e) (e :: F) (fun x hx => h x (List.mem_cons_of_mem _ hx)) (lab_join L he.1 he.2)
theorem J_mem {E F : List (Nat × Nat)} (h : ∀ e, e ∈ E ↔ e ∈ F) {s t : Nat} : Gt.J E s t ↔ Gt.J F s t := ⟨Gt.J.mono fun e he => (h e).mp he, Gt.J.mono fun e he => (h e).mpr he⟩
theorem lab_rooms {n : Nat} {E : List (Nat × Nat)} (h : ∀ e ∈ E, e.1 < n ∧ e.2 < n) : Gt.Lab n (roomsN E n) (Gt.J E) := by
  have L := lab_fold E (List.range n) [] h (lab_range n)
  refine ⟨L.len, fun s t hs ht => ?_⟩
  have e := L.same s t hs ht
  unfold roomsN
  rw [e]
  exact J_mem fun e => by rw [List.append_nil, List.mem_reverse]
/-! ### how many different -/
def ddN (l : List Nat) : List Nat := l.foldl (fun acc x => if x ∈ acc then acc else acc ++ [x]) []
theorem dd_go : ∀ (l acc : List Nat), acc.Nodup → (l.foldl (fun acc x => if x ∈ acc then acc else acc ++ [x]) acc).Nodup ∧ ∀ x, x ∈ l.foldl (fun acc x => if x ∈ acc then acc else acc ++ [x]) acc ↔ x ∈ acc ∨ x ∈ l
  | [], acc, h => ⟨h, fun x => by simp⟩
  | y :: l, acc, h => by
    rw [List.foldl_cons]
    by_cases c : y ∈ acc
    · rw [if_pos c]
      obtain ⟨a, b⟩ := dd_go l acc h
      refine ⟨a, fun x => ?_⟩
      rw [b x, List.mem_cons]
      constructor
      · rintro (z | z)
        · exact Or.inl z
        · exact Or.inr (Or.inr z)
      · rintro (z | z | z)
        · exact Or.inl z
        · rw [z]; exact Or.inl c
        · exact Or.inr z
    · rw [if_neg c]
      have h' : (acc ++ [y]).Nodup := List.nodup_append.mpr ⟨h, List.nodup_cons.mpr ⟨List.not_mem_nil, List.nodup_nil⟩, fun a ha b hb => by
        rw [List.mem_singleton.mp hb]; intro e; rw [e] at ha; exact c ha⟩
      obtain ⟨a, b⟩ := dd_go l (acc ++ [y]) h'
      refine ⟨a, fun x => ?_⟩
      rw [b x, List.mem_append, List.mem_singleton, List.mem_cons]
      constructor
      · rintro ((z | z) | z)
        · exact Or.inl z
        · exact Or.inr (Or.inl z)
        · exact Or.inr (Or.inr z)
      · rintro (z | z | z)
        · exact Or.inl (Or.inl z)
        · exact Or.inl (Or.inr z)
        · exact Or.inr z
theorem dd_nodup (l : List Nat) : (ddN l).Nodup := (dd_go l [] List.nodup_nil).1
theorem dd_mem (l : List Nat) (x : Nat) : x ∈ ddN l ↔ x ∈ l := by
  have := (dd_go l [] List.nodup_nil).2 x
  unfold ddN
  simpa using this
theorem sub_len : ∀ {l k : List Nat}, l.Nodup → (∀ x ∈ l, x ∈ k) → l.length ≤ k.length
  | [], _, _, _ => Nat.zero_le _
  | x :: l, k, h, hs => by
    have hx := hs x List.mem_cons_self
    obtain ⟨h1, h2⟩ := List.nodup_cons.mp h
    have := sub_len (l := l) (k := k.erase x) h2 fun y hy => by
      have hne : y ≠ x := fun e => by rw [e] at hy; exact h1 hy
      exact (List.mem_erase_of_ne hne).mpr (hs y (List.mem_cons_of_mem _ hy))
    rw [List.length_erase_of_mem hx] at this
    have : 0 < k.length := List.length_pos_of_mem hx
    rw [List.length_cons]
    omega
theorem dd_one {l : List Nat} (h : l ≠ []) : (ddN l).length = 1 ↔ ∀ x ∈ l, ∀ y ∈ l, x = y := by
  constructor
  · intro e x hx y hy
    match hd : ddN l, e with
    | [a], _ =>
      have h1 := (dd_mem l x).mpr hx
      have h2 := (dd_mem l y).mpr hy
      rw [hd] at h1 h2
      rw [List.mem_singleton.mp h1, List.mem_singleton.mp h2]
  · intro e
    match l, h with
    | a :: r, _ =>
      have h1 : (ddN (a :: r)).length ≤ [a].length := sub_len (dd_nodup _) fun x hx => List.mem_singleton.mpr (e x ((dd_mem _ x).mp hx) a List.mem_cons_self)
      have h2 : a ∈ ddN (a :: r) := (dd_mem _ a).mpr List.mem_cons_self
      have := List.length_pos_of_mem h2
      simp at h1
      omega
theorem dd_le (l : List Nat) : (ddN l).length ≤ l.length := sub_len (dd_nodup l) fun x hx => (dd_mem l x).mp hx
theorem dd_all : ∀ {l : List Nat}, (ddN l).length = l.length ↔ l.Nodup := by
  intro l
  constructor
  · intro e
    by_cases c : l.Nodup
    · exact c
    · exfalso
      -- a duplicate: then fewer
      have key : ∀ (l : List Nat), ¬ l.Nodup → ∃ k : List Nat, k.length < l.length ∧ ∀ x, x ∈ l → x ∈ k := by
        intro l
        induction l with
        | nil => intro h; exact absurd List.nodup_nil h
        | cons a r ih =>
          intro h
          by_cases ha : a ∈ r
          · refine ⟨r, by simp, fun x hx => ?_⟩
            rcases List.mem_cons.mp hx with z | z
            · rw [z]; exact ha
            · exact z
          · have hr : ¬ r.Nodup := fun z => h (List.nodup_cons.mpr ⟨ha, z⟩)
            obtain ⟨k, h1, h2⟩ := ih hr
            refine ⟨a :: k, by simp; omega, fun x hx => ?_⟩
            rcases List.mem_cons.mp hx with z | z
            · rw [z]; exact List.mem_cons_self
            · exact List.mem_cons_of_mem _ (h2 x z)
      obtain ⟨k, h1, h2⟩ := key l c
      have := sub_len (dd_nodup l) (k := k) fun x hx => h2 x ((dd_mem l x).mp hx)
      omega
  · intro h
    have h1 := dd_le l
    have h2 := sub_len h (k := ddN l) fun x hx => (dd_mem l x).mpr hx
    omega
/-! ### perfect -/
theorem lab_at {n : Nat} {m : List Nat} {R : Nat → Nat → Prop} (L : Gt.Lab n m R) {s : Nat} (hs : s < n) : m[s]? = some (m.getD s 0) := by
  rw [List.getD_eq_getElem?_getD, List.getElem?_eq_getElem (by rw [L.len]; exact hs)]; rfl
theorem lab_one {n : Nat} {m : List Nat} {E : List (Nat × Nat)} (L : Gt.Lab n m (Gt.J E)) (hn : 0 < n) : (ddN m).length = 1 ↔ ∀ t, t < n → Gt.J E 0 t := by
  have hne : m ≠ [] := by intro e; have := L.len; rw [e] at this; simp at this; omega
  rw [dd_one hne]
  constructor
  · intro h t ht
    exact (L.same 0 t hn ht).mp (h _ (List.mem_of_getElem? (lab_at L hn)) _ (List.mem_of_getElem? (lab_at L ht)))
  · intro h x hx y hy
    obtain ⟨i, hi, ei⟩ := List.getElem_of_mem hx
    obtain ⟨j, hj, ej⟩ := List.getElem_of_mem hy
    rw [L.len] at hi hj
    have e := (L.same i j hi hj).mpr ((h i hi).symm.trans (h j hj))
    have a := lab_at L hi
    have b := lab_at L hj
    rw [List.getElem?_eq_getElem (by rw [L.len]; exact hi), ei] at a
    rw [List.getElem?_eq_getElem (by rw [L.len]; exact hj), ej] at b
    rw [Option.some.inj a, Option.some.inj b, e]
def isPerf (g : List Nat) : Bool := decide ((sidesW g (widOf g) (nOf g) 32).length + 1 = nOf g) && decide ((ddN (roomsN (sidesW g (widOf g) (nOf g) 32) (nOf g))).length = 1)
theorem perf_eq {g : List Nat} (hb : ∀ n ∈ g, n < 256) (hG : isG g = true) : isPerf g = (gardenAt (bytes g) (widOf g) (higOf g (widOf g))).perfect := by
  have X := signs_isG hb hG
  have hn : 0 < nOf g := Nat.mul_pos X.wlo X.hlo
  have hp := Gt.perfect_iff (D := gardenAt (bytes g) (widOf g) (higOf g (widOf g))) X.wlo hn
  have e := passages_eq X hb
  have e : sidesW g (widOf g) (nOf g) 32 = Gt.prs (gardenAt (bytes g) (widOf g) (higOf g (widOf g))) := e
  rw [Bool.eq_iff_iff, hp]
  unfold isPerf
  rw [Bool.and_eq_true, decide_eq_true_eq, decide_eq_true_eq, e]
  have L := lab_rooms (n := nOf g) (E := Gt.prs (gardenAt (bytes g) (widOf g) (higOf g (widOf g)))) fun e he => Gt.prs_lt (D := gardenAt (bytes g) (widOf g) (higOf g (widOf g))) X.wlo e he
  rw [lab_one L hn]
  have el : (Gt.prs (gardenAt (bytes g) (widOf g) (higOf g (widOf g)))).length = (gardenAt (bytes g) (widOf g) (higOf g (widOf g))).passages.length := by unfold Gt.prs; exact List.length_map ..
  rw [el]
  constructor
  · rintro ⟨a, b⟩
    exact ⟨fun t ht => Gt.conn_J.mpr (b t ht), a⟩
  · rintro ⟨a, b⟩
    exact ⟨b, fun t ht => Gt.conn_J.mp (a t ht)⟩
/-! ### the only way -/
theorem only_iff {D : Garden} (W : Gt.Whole D) : ∀ {l : List Nat}, D.isWay l = true → (D.onlyWay l = true ↔ ∀ i a b, l[i]? = some a → l[i + 1]? = some b → Gt.Needed D a b)
  | [], h => by cases h
  | [s], h => by
    show true = true ↔ _
    refine ⟨fun _ i a b h1 h2 => ?_, fun _ => rfl⟩
    simp at h2
  | s :: u :: l, h => by
    rw [Gt.only_cons W h, only_iff W (Gt.isWay_cons.mp h).2.2]
    constructor
    · rintro ⟨h1, h2⟩ i a b ha hb
      cases i with
      | zero =>
        have ha : s = a := Option.some.inj ha
        have hb : u = b := Option.some.inj hb
        rw [← ha, ← hb]; exact h1
      | succ i => exact h2 i a b ha hb
    · intro h
      exact ⟨h 0 s u rfl rfl, fun i a b ha hb => h (i + 1) a b ha hb⟩
section
variable {D : Garden} {l : List Nat} {E : List (Nat × Nat)}
/-- the sides of a garden that a way doesn't take -/
structure Rest (D : Garden) (l : List Nat) (E : List (Nat × Nat)) : Prop where
  inn : ∀ e, e ∈ E ↔ ∃ q, q < D.count ∧ D.squaresAt q = e ∧ D.hedge q = false ∧ follows l e.1 e.2 = false
theorem rest_edge (R : Rest D l E) {s u : Nat} : ((s, u) ∈ E ∨ (u, s) ∈ E) ↔ Gt.Edge D s u ∧ follows l s u = false := by
  have fc : follows l s u = false ↔ follows l u s = false := by
    rw [← Bool.not_eq_true, ← Bool.not_eq_true, Gt.follows_comm]
  constructor
  · rintro (h | h)
    · obtain ⟨q, h1, h2, h3, h4⟩ := (R.inn _).mp h
      exact ⟨⟨q, h1, h3, Or.inl h2⟩, h4⟩
    · obtain ⟨q, h1, h2, h3, h4⟩ := (R.inn _).mp h
      exact ⟨⟨q, h1, h3, Or.inr h2⟩, fc.mpr h4⟩
  · rintro ⟨⟨q, h1, h3, h2 | h2⟩, h4⟩
    · exact Or.inl ((R.inn _).mpr ⟨q, h1, h2, h3, h4⟩)
    · exact Or.inr ((R.inn _).mpr ⟨q, h1, h2, h3, fc.mp h4⟩)
theorem way_range (hW : D.isWay l = true) : ∀ (k i : Nat) (a b : Nat), l[i]? = some a → l[i + k]? = some b → ∀ (X : Garden), (∀ j s u, i ≤ j → j < i + k → l[j]? = some s → l[j + 1]? = some u → Gt.Edge X s u) → Gt.Conn X a b
  | 0, i, a, b, h1, h2, X, _ => by
    rw [Nat.add_zero, h1] at h2
    rw [Option.some.inj h2]; exact .refl _
  | k + 1, i, a, b, h1, h2, X, hs => by
    have hlt := (List.getElem?_eq_some_iff.mp h2).1
    have h3 : l[i + k]? = some l[i + k] := List.getElem?_eq_getElem (by omega)
    exact .step (way_range hW k i a _ h1 h3 X fun j s u a1 a2 => hs j s u a1 (by omega)) (hs (i + k) _ b (by omega) (by omega) h3 h2)
theorem only_rest (W : Gt.Whole D) (hW : D.isWay l = true) (nd : l.Nodup) (R : Rest D l E) : D.onlyWay l = true ↔ ∀ (i j a b : Nat), i < j → l[i]? = some a → l[j]? = some b → ¬ Gt.J E a b := by
  have inn := Gt.isWay_ix hW
  have step : ∀ i s u, l[i]? = some s → l[i + 1]? = some u → Gt.Edge D s u := fun i s u h1 h2 => by
    have := inn.2 i s u h1 h2
    rw [List.contains_iff_mem] at this
    exact (Gt.outs_iff W.wlo (inn.1 s (List.mem_of_getElem? h1))).mp this
  rw [only_iff W hW]
  constructor
  · intro h i j a b hij ha hb hJ
    have hjl := (List.getElem?_eq_some_iff.mp hb).1
    have hu : l[i + 1]? = some l[i + 1] := List.getElem?_eq_getElem (by omega)
    generalize l[i + 1] = u at hu
    obtain ⟨q, hq, hqh, hqb⟩ := step i a u ha hu
    refine h i a u ha hu q hq hqb ?_
    -- from a by E to b, back along the way to u
    have fo : follows l a u = true := (Gt.follows_at nd ha).mpr (Or.inl hu)
    have c1 : Gt.Conn (D.set q true) a b := by
      clear hb
      induction hJ with
      | refl => exact .refl _
      | step _ he ih =>
        rename_i v t _
        refine .step ih ?_
        obtain ⟨e1, e2⟩ := (rest_edge R).mp he
        refine (Gt.edge_set W hq).mpr ⟨e1, fun z => ?_⟩
        have : follows l v t = true := by
          rcases hqb with y | y <;> rcases z with x | x
          · rw [y] at x; injection x with x1 x2; rw [← x1, ← x2]; exact fo
          · rw [y] at x; injection x with x1 x2; rw [← x1, ← x2]; exact (Gt.follows_comm l _ _).mp fo
          · rw [y] at x; injection x with x1 x2; rw [← x1, ← x2]; exact (Gt.follows_comm l _ _).mp fo
          · rw [y] at x; injection x with x1 x2; rw [← x1, ← x2]; exact fo
        rw [e2] at this
        cases this
    have c2 : Gt.Conn (D.set q true) u b := by
      refine way_range hW (j - (i + 1)) (i + 1) u b hu (by rw [show i + 1 + (j - (i + 1)) = j by omega]; exact hb) (D.set q true) fun k s v k1 k2 hs hv => ?_
      refine (Gt.edge_set W hq).mpr ⟨step k s v hs hv, fun z => ?_⟩
      have hs' : s = a ∨ s = u := by
        rcases hqb with y | y <;> rcases z with x | x <;> · rw [y] at x; injection x with x1 x2; first | exact Or.inl x1.symm | exact Or.inr x2.symm | exact Or.inr x1.symm | exact Or.inl x2.symm
      have hv' : v = a ∨ v = u := by
        rcases hqb with y | y <;> rcases z with x | x <;> · rw [y] at x; injection x with x1 x2; first | exact Or.inr x2.symm | exact Or.inl x1.symm | exact Or.inl x2.symm | exact Or.inr x1.symm
      have ns : ∀ k', i + 1 ≤ k' → ∀ x, l[k']? = some x → x ≠ a := fun k' hk x hx e => by
        rw [e] at hx
        have := Gt.nd_ix nd hx ha
        omega
      have e1 := hs'.resolve_left (ns k (by omega) s hs)
      have e2 := hv'.resolve_left (ns (k + 1) (by omega) v hv)
      rw [e1] at hs
      rw [e2] at hv
      have := Gt.nd_ix nd hs hv
      omega
    exact c1.trans c2.symm
  · intro h i a u ha hu q hq hqb hc
    have fo : follows l a u = true := (Gt.follows_at nd ha).mpr (Or.inl hu)
    have main : ∀ t, Gt.Conn (D.set q true) a t → ∃ k x, k ≤ i ∧ l[k]? = some x ∧ Gt.J E x t := by
      intro t ht
      induction ht with
      | refl => exact ⟨i, a, Nat.le_refl _, ha, .refl _⟩
      | step _ he ih =>
        rename_i v t _
        obtain ⟨k, x, hk, hx, hJ⟩ := ih
        obtain ⟨e1, e2⟩ := (Gt.edge_set W hq).mp he
        cases fv : follows l v t with
        | false => exact ⟨k, x, hk, hx, hJ.trans (.one ((rest_edge R).mpr ⟨e1, fv⟩))⟩
        | true =>
          -- a step of the way: v stands on it
          obtain ⟨p, hp, hpp⟩ := (follows_iff l v t).mp fv
          have hv : ∃ m : Nat, l[m]? = some v := by
            obtain ⟨m1, m2⟩ := steps_mem hp
            rcases hpp with ⟨z, _⟩ | ⟨_, z⟩
            · rw [z] at m1; exact List.getElem?_of_mem m1
            · rw [z] at m2; exact List.getElem?_of_mem m2
          obtain ⟨m, hm⟩ := hv
          by_cases cm : m ≤ i
          · rcases (Gt.follows_at nd hm).mp fv with z | ⟨z1, z2⟩
            · by_cases cmi : m = i
              · exfalso
                rw [cmi, ha] at hm
                rw [cmi, hu] at z
                refine e2 ?_
                rw [← Option.some.inj hm, ← Option.some.inj z]
                exact hqb
              · exact ⟨m + 1, t, by omega, z, .refl _⟩
            · exact ⟨m - 1, t, by omega, z2, .refl _⟩
          · exact absurd hJ (h k m x v (by omega) hx hm)
    obtain ⟨k, x, hk, hx, hJ⟩ := main u hc
    exact h k (i + 1) x u (by omega) hx hu hJ
end
def isOnlyN (g : List Nat) (l : List Nat) : Bool := decide ((ddN (l.map fun s => (roomsN (sidesW g (widOf g) (nOf g) 32) (nOf g)).getD s 0)).length = l.length)
theorem lab_nodup {n : Nat} {m : List Nat} {E : List (Nat × Nat)} (L : Gt.Lab n m (Gt.J E)) {l : List Nat} (hl : ∀ s ∈ l, s < n) : (l.map fun s => m.getD s 0).Nodup ↔ ∀ (i j a b : Nat), i < j → l[i]? = some a → l[j]? = some b → ¬ Gt.J E a b := by
  constructor
  · intro h i j a b hij ha hb hJ
    have e := (L.same a b (hl a (List.mem_of_getElem? ha)) (hl b (List.mem_of_getElem? hb))).mpr hJ
    have h1 : (l.map fun s => m.getD s 0)[i]? = some (m.getD a 0) := by rw [List.getElem?_map, ha]; rfl
    have h2 : (l.map fun s => m.getD s 0)[j]? = some (m.getD a 0) := by rw [List.getElem?_map, hb, e]; rfl
    have := Gt.nd_ix h h1 h2
    omega
  · intro h
    rw [List.nodup_iff_pairwise_ne, List.pairwise_iff_getElem]
    intro i j hi hj hij e
    rw [List.length_map] at hi hj
    rw [List.getElem_map, List.getElem_map] at e
    have a1 : l[i]? = some l[i] := List.getElem?_eq_getElem hi
    have a2 : l[j]? = some l[j] := List.getElem?_eq_getElem hj
    refine h i j _ _ hij a1 a2 ((L.same _ _ (hl _ (List.mem_of_getElem? a1)) (hl _ (List.mem_of_getElem? a2))).mp e)
end Gn

end
section
set_option linter.all false
set_option maxHeartbeats 2000000
namespace Gn
open Maze Gm
set_option linter.all false
/-! ### the sides that a plan's way doesn't take -/
theorem side_free {g : List Nat} (hb : ∀ n ∈ g, n < 256) (F : FaultN g none) {q : Nat} (hq : q < (gardenOf g).count) :
    g.getD (sideOf (widOf g) ((gardenOf g).squaresAt q).1 ((gardenOf g).squaresAt q).2) 0 = 32 ↔ (sheetOf g).sides.getD q 0 = 0 := by
  have X := sheet_read hb F
  have hw := X.good.line0.lo
  have hh := X.hi
  have k := side_cases (D := gardenOf g) hw hq
  have ew : (gardenOf g).wide = widOf g := rfl
  have eh : (gardenOf g).high = higOf g (widOf g) := rfl
  rw [ew, eh] at k
  rcases k with ⟨x, y, hx, hy, e, es, ep⟩ | ⟨x, y, hx, hy, e, es, ep⟩
  · rw [ep, e]
    unfold sheetOf
    rw [ups_get (by omega) hy]
    have z := drawing_ok hb F (i := 2 * y + 1) (j := 2 * x + 2) (by omega) (by omega) (by omega)
    unfold later at z
    rw [if_neg (by omega), if_neg (by omega), if_neg (by omega), if_neg (by omega), if_neg (by omega)] at z
    have hh2 : hedgeAt (2 * y + 1) = 124 := by unfold hedgeAt; rw [if_neg (by omega)]
    rw [hh2] at z
    have a := (atSd hb 124 ((2 * y + 1) * (2 * widOf g + 2) + (2 * x + 2))).mpr z
    have eb : bt (bytes g) (widOf g) (2 * y + 1) (2 * x + 2) = at0 (bytes g) ((2 * y + 1) * (2 * widOf g + 2) + (2 * x + 2)) := rfl
    rw [eb]
    refine (at_eq hb _ 32).symm.trans ?_
    generalize at0 (bytes g) ((2 * y + 1) * (2 * widOf g + 2) + (2 * x + 2)) = c at a
    rcases sd_code (k := 124) c with z | z
    · constructor
      · intro e; rw [e]; rfl
      · intro e; rw [e] at z; exact z.symm
    · rw [z] at a; cases a
  · rw [ep, e]
    unfold sheetOf
    rw [levs_get hx (by omega)]
    have z := drawing_ok hb F (i := 2 * y + 2) (j := 2 * x + 1) (by omega) (by omega) (by omega)
    unfold later at z
    rw [if_neg (by omega), if_neg (by omega), if_neg (by omega), if_neg (by omega), if_neg (by omega)] at z
    have hh2 : hedgeAt (2 * y + 2) = 45 := by unfold hedgeAt; rw [if_pos (by omega)]
    rw [hh2] at z
    have a := (atSd hb 45 ((2 * y + 2) * (2 * widOf g + 2) + (2 * x + 1))).mpr z
    have eb : bt (bytes g) (widOf g) (2 * y + 2) (2 * x + 1) = at0 (bytes g) ((2 * y + 2) * (2 * widOf g + 2) + (2 * x + 1)) := rfl
    rw [eb]
    refine (at_eq hb _ 32).symm.trans ?_
    generalize at0 (bytes g) ((2 * y + 2) * (2 * widOf g + 2) + (2 * x + 1)) = c at a
    rcases sd_code (k := 45) c with z | z
    · constructor
      · intro e; rw [e]; rfl
      · intro e; rw [e] at z; exact z.symm
    · rw [z] at a; cases a
theorem rest_sheet {g l : List Nat} (hb : ∀ n ∈ g, n < 256) (F : FaultN g none) (h : (sheetOf g).plan = some ⟨gardenOf g, l⟩) : Rest (gardenOf g) l (sidesW g (widOf g) (nOf g) 32) := by
  have hw : 1 ≤ widOf g := (sheet_read hb F).good.line0.lo
  obtain ⟨r, s, _⟩ := Gt.of_plan h
  refine ⟨fun e => ?_⟩
  have m : e ∈ innerS (widOf g) (nOf g) ↔ _ := innerS_mem (D := gardenOf g) hw (e := e)
  unfold sidesW
  rw [List.mem_filter, beq_iff_eq, m]
  have two : ∀ q, q < (gardenOf g).count → ((sheetOf g).sides.getD q 0 = 0 ↔ (gardenOf g).hedge q = false ∧ follows l ((gardenOf g).squaresAt q).1 ((gardenOf g).squaresAt q).2 = false) := by
    intro q hq
    rw [← s, Gt.sheet_side hq]
    cases c : follows l ((gardenOf g).squaresAt q).1 ((gardenOf g).squaresAt q).2 with
    | true => rw [if_pos rfl]; simp
    | false =>
      rw [if_neg Bool.false_ne_true]
      cases d : (gardenOf g).hedge q with
      | true => rw [if_pos rfl]; simp
      | false => rw [if_neg Bool.false_ne_true]; simp
  constructor
  · rintro ⟨⟨q, hq, rfl⟩, z⟩
    obtain ⟨a, b⟩ := (two q hq).mp ((side_free hb F hq).mp z)
    exact ⟨q, hq, rfl, a, b⟩
  · rintro ⟨q, hq, rfl, a, b⟩
    exact ⟨⟨q, hq, rfl⟩, (side_free hb F hq).mpr ((two q hq).mpr ⟨a, b⟩)⟩
theorem only_eq {g l : List Nat} (hb : ∀ n ∈ g, n < 256) (F : FaultN g none) (h : (sheetOf g).plan = some ⟨gardenOf g, l⟩) : isOnlyN g l = (gardenOf g).onlyWay l := by
  have X := signs_blank hb F
  have R := rest_sheet hb F h
  obtain ⟨r, s, _⟩ := Gt.of_plan h
  have RR := Gt.right_of r
  have hW : (gardenOf g).isWay l = true := by
    unfold Plan.right at r
    rw [Bool.and_eq_true] at r
    exact r.1
  have Wh : Gt.Whole (gardenOf g) := garden_whole X
  have L := lab_rooms (n := nOf g) (E := sidesW g (widOf g) (nOf g) 32) (sidesW_lt (g := g) (w := widOf g) (h := higOf g (widOf g)) (sign := 32) X.wlo)
  have e1 := lab_nodup L (l := l) RR.inn
  have e2 := only_rest Wh hW RR.nd R
  rw [Bool.eq_iff_iff, e2]
  unfold isOnlyN
  rw [decide_eq_true_eq, ← e1]
  have := dd_all (l := l.map fun s => (roomsN (sidesW g (widOf g) (nOf g) 32) (nOf g)).getD s 0)
  rw [List.length_map] at this
  exact this
/-! ### ways found wave by wave -/
structure BP (D : Garden) (s n t : Nat) (p : List Nat) : Prop where
  len : p.length = n + 1
  path : Gt.Path D s t p
  far : ∀ u ∈ p, ∃ k, k ≤ n ∧ Gt.Dist D s k u
theorem isWay_snoc {D : Garden} {u : Nat} (hu : u < D.squares) : ∀ {p : List Nat} {t : Nat}, D.isWay p = true → p.getLast? = some t → u ∈ D.outs t → D.isWay (p ++ [u]) = true
  | [], _, h, _, _ => by cases h
  | [x], t, h, e, ho => by
    have e : x = t := Option.some.inj e
    subst e
    exact Gt.isWay_cons.mpr ⟨Gt.isWay_one.mp h, ho, Gt.isWay_one.mpr hu⟩
  | x :: y :: r, t, h, e, ho => by
    obtain ⟨h1, h2, h3⟩ := Gt.isWay_cons.mp h
    rw [List.getLast?_cons_cons] at e
    exact Gt.isWay_cons.mpr ⟨h1, h2, isWay_snoc hu h3 e ho⟩
section
variable {D : Garden} {s : Nat}
theorem dist_zero : Gt.Dist D s 0 s := ⟨rfl, fun k hk => absurd hk (Nat.not_lt_zero k)⟩
theorem bp_start (hs : s < D.squares) : BP D s 0 s [s] := by
  refine ⟨rfl, ⟨Gt.isWay_one.mpr hs, List.nodup_cons.mpr ⟨List.not_mem_nil, List.nodup_nil⟩, rfl, rfl⟩, fun u hu => ⟨0, Nat.le_refl _, ?_⟩⟩
  rw [List.mem_singleton.mp hu]
  exact dist_zero
theorem bp_step (hw : 1 ≤ D.wide) (hs : s < D.squares) {n t u : Nat} {p : List Nat} (h : BP D s n t p) (ho : u ∈ D.outs t) (hd : Gt.Dist D s (n + 1) u) : BP D s (n + 1) u (p ++ [u]) := by
  have hul := Gt.walk_lt hw hs hd.1
  have hnew : u ∉ p := fun z => by
    obtain ⟨k, hk, hk2⟩ := h.far u z
    have := Gt.dist_unique hk2 hd
    omega
  refine ⟨by rw [List.length_append, h.len]; rfl, ⟨isWay_snoc hul h.path.way h.path.last ho, ?_, ?_, ?_⟩, fun v hv => ?_⟩
  · refine List.nodup_append.mpr ⟨h.path.nd, List.nodup_cons.mpr ⟨List.not_mem_nil, List.nodup_nil⟩, fun a ha b hb e => ?_⟩
    rw [List.mem_singleton.mp hb] at e
    rw [e] at ha
    exact hnew ha
  · have := h.path.head
    cases p with
    | nil => cases this
    | cons a r => exact this
  · rw [List.getLast?_append]
    rfl
  · rcases List.mem_append.mp hv with z | z
    · obtain ⟨k, hk, hk2⟩ := h.far v z
      exact ⟨k, by omega, hk2⟩
    · rw [List.mem_singleton.mp z]
      exact ⟨n + 1, Nat.le_refl _, hd⟩
/-- a new square beyond one at distance d -/
theorem dist_new {d t u : Nat} (h : Gt.Dist D s d t) (ho : u ∈ D.outs t) (hn : ∀ k, k ≤ d → ¬ Gt.Dist D s k u) : Gt.Dist D s (d + 1) u := by
  have w : Gt.Walk D s (d + 1) u := ⟨t, h.1, ho⟩
  obtain ⟨m, hm, hd⟩ := Gt.dist_of_walk w
  by_cases c : m ≤ d
  · exact absurd hd (hn m c)
  · have : m = d + 1 := by omega
    rw [this] at hd
    exact hd
/-- what's known of the ways before the wave d + 1 begins -/
structure Wave (D : Garden) (s d : Nat) (f : Nat → Option (List Nat)) (R : List Nat) : Prop where
  val : ∀ t p, f t = some p → ∃ n, n ≤ d ∧ BP D s n t p ∧ Gt.Dist D s n t
  has : ∀ t n, n ≤ d → Gt.Dist D s n t → ∃ p, f t = some p
  front : ∀ t, t ∈ R ↔ Gt.Dist D s d t
/-- .. while it goes on: the front's first squares gone through, of the next one so many neighbours -/
structure Mid (D : Garden) (s d : Nat) (f : Nat → Option (List Nat)) (done ahead : List Nat) : Prop where
  val : ∀ t p, f t = some p → ∃ n, n ≤ d + 1 ∧ BP D s n t p ∧ Gt.Dist D s n t
  has : ∀ t n, n ≤ d → Gt.Dist D s n t → ∃ p, f t = some p
  new : ∀ t, t ∈ ahead ↔ (Gt.Dist D s (d + 1) t ∧ ∃ p, f t = some p)
  all : ∀ t, t ∈ done → ∀ u ∈ D.outs t, ∃ p, f u = some p
  nd : ahead.Nodup
theorem Wave.start (hs : s < D.squares) : Wave D s 0 (fun t => if t = s then some [s] else none) [s] := by
  refine ⟨fun t p h => ?_, fun t n hn h => ?_, fun t => ?_⟩
  · by_cases c : t = s
    · simp only [c, if_true] at h
      rw [← Option.some.inj h, c]
      exact ⟨0, Nat.le_refl _, bp_start hs, dist_zero⟩
    · simp only [c, if_false] at h
      cases h
  · have : n = 0 := by omega
    subst this
    have e : t = s := h.1
    exact ⟨[s], by simp only [e, if_true]⟩
  · rw [List.mem_singleton]
    constructor
    · rintro rfl; exact dist_zero
    · intro h; exact h.1
theorem Wave.mid {d : Nat} {f : Nat → Option (List Nat)} {R : List Nat} (h : Wave D s d f R) : Mid D s d f [] [] := by
  refine ⟨fun t p e => ?_, h.has, fun t => ?_, (fun t ht => by cases ht), List.nodup_nil⟩
  · obtain ⟨n, a, b, c⟩ := h.val t p e
    exact ⟨n, by omega, b, c⟩
  · constructor
    · intro z; cases z
    · rintro ⟨hd, p, e⟩
      obtain ⟨n, a, b, c⟩ := h.val t p e
      have := Gt.dist_unique c hd
      omega
theorem Mid.add (hw : 1 ≤ D.wide) (hs : s < D.squares) {d : Nat} {f : Nat → Option (List Nat)} {done ahead : List Nat} (h : Mid D s d f done ahead) {t u : Nat} {p : List Nat} (ht : Gt.Dist D s d t) (ho : u ∈ D.outs t) (hp : f t = some p) (hu : f u = none) :
    Mid D s d (fun v => if v = u then some (p ++ [u]) else f v) done (ahead ++ [u]) := by
  have hn : ∀ k, k ≤ d → ¬ Gt.Dist D s k u := fun k hk z => by
    obtain ⟨q, e⟩ := h.has u k hk z
    rw [hu] at e; cases e
  have hd := dist_new ht ho hn
  obtain ⟨n, a, b, c⟩ := h.val t p hp
  have en := Gt.dist_unique c ht
  subst en
  have bp := bp_step hw hs b ho hd
  have some_ : ∀ v, (∃ q, (if v = u then some (p ++ [u]) else f v) = some q) ↔ (v = u ∨ ∃ q, f v = some q) := fun v => by
    by_cases e : v = u
    · rw [if_pos e]; exact ⟨fun _ => Or.inl e, fun _ => ⟨_, rfl⟩⟩
    · rw [if_neg e]
      constructor
      · exact Or.inr
      · rintro (z | z)
        · exact absurd z e
        · exact z
  refine ⟨fun v q e => ?_, fun v k hk z => ?_, fun v => ?_, fun v hv x hx => ?_, ?_⟩
  · by_cases ev : v = u
    · simp only [ev, if_true] at e
      rw [ev, ← Option.some.inj e]
      exact ⟨_, Nat.le_refl _, bp, hd⟩
    · simp only [ev, if_false] at e
      exact h.val v q e
  · exact (some_ v).mpr (Or.inr (h.has v k hk z))
  · rw [List.mem_append, List.mem_singleton, h.new v]
    have := some_ v
    constructor
    · rintro (⟨z1, z2⟩ | z)
      · exact ⟨z1, this.mpr (Or.inr z2)⟩
      · rw [z]; exact ⟨hd, (some_ u).mpr (Or.inl rfl)⟩
    · rintro ⟨z1, z2⟩
      rcases this.mp z2 with e | e
      · exact Or.inr e
      · exact Or.inl ⟨z1, e⟩
  · exact (some_ x).mpr (Or.inr (h.all v hv x hx))
  · refine List.nodup_append.mpr ⟨h.nd, List.nodup_cons.mpr ⟨List.not_mem_nil, List.nodup_nil⟩, fun a ha b hb e => ?_⟩
    rw [List.mem_singleton.mp hb] at e
    rw [e] at ha
    obtain ⟨_, q, hq⟩ := (h.new u).mp ha
    rw [hu] at hq
    cases hq
theorem Mid.done' {d : Nat} {f : Nat → Option (List Nat)} {done ahead : List Nat} (h : Mid D s d f done ahead) {t : Nat} (ht : ∀ u ∈ D.outs t, ∃ p, f u = some p) : Mid D s d f (done ++ [t]) ahead :=
  ⟨h.val, h.has, h.new, (fun v hv => by
    rcases List.mem_append.mp hv with z | z
    · exact h.all v z
    · rw [List.mem_singleton.mp z]; exact ht), h.nd⟩
theorem Mid.len (hw : 1 ≤ D.wide) (hs : s < D.squares) {d : Nat} {f : Nat → Option (List Nat)} {done ahead : List Nat} (h : Mid D s d f done ahead) : ahead.length ≤ D.squares :=
  Gt.count_le h.nd fun t ht => Gt.walk_lt hw hs ((h.new t).mp ht).1.1
theorem Mid.wave {d : Nat} {f : Nat → Option (List Nat)} {R done ahead : List Nat} (hR : ∀ t, t ∈ R ↔ Gt.Dist D s d t) (h : Mid D s d f done ahead) (hd : ∀ t, t ∈ R → t ∈ done) : Wave D s (d + 1) f ahead := by
  have all : ∀ t, Gt.Dist D s (d + 1) t → ∃ p, f t = some p := fun t ht => by
    obtain ⟨u, hu, ho⟩ := Gt.dist_pred ht
    exact h.all u (hd u ((hR u).mpr hu)) t ho
  refine ⟨h.val, fun t n hn ht => ?_, fun t => ?_⟩
  · by_cases c : n ≤ d
    · exact h.has t n c ht
    · have : n = d + 1 := by omega
      rw [this] at ht
      exact all t ht
  · rw [h.new t]
    exact ⟨fun z => z.1, fun z => ⟨z, all t z⟩⟩
theorem Wave.fin {d : Nat} {f : Nat → Option (List Nat)} (h : Wave D s d f []) : ∀ t n, Gt.Dist D s n t → ∃ p, f t = some p ∧ BP D s n t p := by
  intro t n ht
  have hn : n ≤ d := by
    by_cases c : n ≤ d
    · exact c
    · obtain ⟨u, hu⟩ := Gt.dist_all ht d (by omega)
      have := (h.front u).mpr hu
      cases this
  obtain ⟨p, e⟩ := h.has t n hn ht
  obtain ⟨m, _, b, c⟩ := h.val t p e
  have := Gt.dist_unique c ht
  subst this
  exact ⟨p, e, b⟩
theorem Wave.lt (hw : 1 ≤ D.wide) (hs : s < D.squares) {d : Nat} {f : Nat → Option (List Nat)} {R : List Nat} (h : Wave D s d f R) (hR : R ≠ []) : d < D.squares := by
  cases R with
  | nil => exact absurd rfl hR
  | cons t r => exact Gt.dist_lt hw hs ((h.front t).mp List.mem_cons_self)
end
/-! ### a shortest way -/
theorem shortest_eq {D : Garden} {l : List Nat} (hw : 1 ≤ D.wide) (h : Plan.right ⟨D, l⟩ = true) : ∃ n, Gt.Dist D (l.headD 0) n (l.getLastD 0) ∧ Plan.shortest ⟨D, l⟩ = decide (l.length = n + 1) := by
  have R := Gt.right_of h
  have hW : D.isWay l = true := by
    unfold Plan.right at h
    rw [Bool.and_eq_true] at h
    exact h.1
  have hne : l ≠ [] := by intro e; have := R.two; rw [e] at this; simp at this
  have hh : l.head? = some (l.headD 0) := by
    cases l with
    | nil => exact absurd rfl hne
    | cons a r => rfl
  have hl : l.getLast? = some (l.getLastD 0) := by
    rw [List.getLastD_eq_getLast?, List.getLast?_eq_some_getLast hne]; rfl
  have P : Gt.Path D (l.headD 0) (l.getLastD 0) l := ⟨hW, R.nd, hh, hl⟩
  obtain ⟨n, _, hn⟩ := Gt.dist_of_walk (Gt.path_walk P)
  have hs : l.headD 0 < D.squares := R.inn _ (List.mem_of_getElem? (Gt.head_ix R.two))
  refine ⟨n, hn, ?_⟩
  have e := (Gt.far_at hw hs (l.getLastD 0) n).mpr hn
  show (D.far (l.headD 0) (l.getLastD 0) == some (l.length - 1)) = _
  rw [e, Bool.eq_iff_iff, beq_iff_eq, decide_eq_true_eq]
  have := R.two
  constructor
  · intro z; have := Option.some.inj z; omega
  · intro z; rw [z]; rfl
/-! ### what's asked of judge -/
theorem judge_ans (g : List Nat) : PyWqbacr.judge (g.map fun (n : Nat) => (n : Int)) = (MazeK.ofPlan (bytes g) fun p => tells [p.garden.perfect.toNat, p.shortest.toNat, (p.garden.onlyWay p.way).toNat, p.way.length - 1]).code :: (MazeK.ofPlan (bytes g) fun p => tells [p.garden.perfect.toNat, p.shortest.toNat, (p.garden.onlyWay p.way).toNat, p.way.length - 1]).nums.map (fun (n : Nat) => (n : Int)) := by
  show (MazeK.answer (.judge (PlanNeutral.text (g.map fun (n : Nat) => (n : Int))))).code :: (MazeK.answer (.judge (PlanNeutral.text (g.map fun (n : Nat) => (n : Int))))).nums.map (fun (n : Nat) => (n : Int)) = _
  rw [text_nat]
  rfl
theorem judge_refused {g : List Nat} (hb : ∀ n ∈ g, n < 256) {r : List Int} (h : PlanN g r) : PyWqbacr.judge (g.map fun (n : Nat) => (n : Int)) = r := (judge_ans g).trans (plan_refused hb h _)
theorem judge_told {g : List Nat} (hb : ∀ n ∈ g, n < 256) (h : ¬ 1024 < g.length) (F : FaultN g none) (hn : wayOn g ≠ []) : PyWqbacr.judge (g.map fun (n : Nat) => (n : Int)) =
    [0, ((isPerf (blankN g)).toNat : Int), ((Plan.shortest ⟨gardenOf g, wayOn g⟩).toNat : Int), ((isOnlyN g (wayOn g)).toNat : Int), (((wayOn g).length - 1 : Nat) : Int)] := by
  rw [judge_ans, plan_told hb h F hn]
  obtain ⟨e1, e2, e3⟩ := blank_size hb F
  have p := perf_eq (blank_lt hb) e3
  rw [e1, e2] at p
  rcases way_plan hb F with ⟨z, _⟩ | ⟨_, z, _⟩
  · exact absurd z hn
  · rw [p, only_eq hb F z]
    rfl
end Gn

end
section
set_option linter.all false
set_option maxHeartbeats 2000000
namespace Gn
open Maze Gm
set_option linter.all false
/-! ### sides that join, gone through in an order -/
def kstep (x : List Nat × List (Nat × Nat)) (e : Nat × Nat) : List Nat × List (Nat × Nat) := if x.1.getD e.1 0 ≠ x.1.getD e.2 0 then (joinR x.1 e, x.2 ++ [e]) else x
def kruN (L : List (Nat × Nat)) (n : Nat) : List (Nat × Nat) := (L.foldl kstep (List.range n, [])).2
open Classical in
noncomputable def kr : List (Nat × Nat) → List (Nat × Nat) → List (Nat × Nat)
  | _, [] => []
  | F, e :: r => if Gt.J F e.1 e.2 then kr F r else e :: kr (e :: F) r
theorem kr_yes {F r : List (Nat × Nat)} {e : Nat × Nat} (h : Gt.J F e.1 e.2) : kr F (e :: r) = kr F r := by
  rw [kr, if_pos h]
theorem kr_no {F r : List (Nat × Nat)} {e : Nat × Nat} (h : ¬ Gt.J F e.1 e.2) : kr F (e :: r) = e :: kr (e :: F) r := by
  rw [kr, if_neg h]
theorem kru_go {n : Nat} : ∀ (L : List (Nat × Nat)) (m : List Nat) (acc F : List (Nat × Nat)), (∀ e ∈ L, e.1 < n ∧ e.2 < n) → Gt.Lab n m (Gt.J F) → (L.foldl kstep (m, acc)).2 = acc ++ kr F L
  | [], m, acc, F, _, _ => by rw [kr, List.append_nil]; rfl
  | e :: L, m, acc, F, h, Lb => by
    have he := h e List.mem_cons_self
    have hL : ∀ x ∈ L, x.1 < n ∧ x.2 < n := fun x hx => h x (List.mem_cons_of_mem _ hx)
    rw [List.foldl_cons]
    have es : kstep (m, acc) e = if m.getD e.1 0 ≠ m.getD e.2 0 then (joinR m e, acc ++ [e]) else (m, acc) := rfl
    rw [es]
    by_cases c : m.getD e.1 0 = m.getD e.2 0
    · have hJ := (Lb.same _ _ he.1 he.2).mp c
      rw [if_neg (fun z => z c), kru_go L m acc F hL Lb, kr_yes hJ]
    · have hJ : ¬ Gt.J F e.1 e.2 := fun z => c ((Lb.same _ _ he.1 he.2).mpr z)
      rw [if_pos c, kru_go L (joinR m e) (acc ++ [e]) (e :: F) hL (lab_join Lb he.1 he.2), kr_no hJ, List.append_assoc]
      rfl
theorem kru_eq {n : Nat} {L : List (Nat × Nat)} (h : ∀ e ∈ L, e.1 < n ∧ e.2 < n) : kruN L n = kr [] L := by
  unfold kruN
  rw [kru_go L _ [] [] h (lab_range n), List.nil_append]
theorem J_add {F G : List (Nat × Nat)} (h : ∀ s t, Gt.J F s t ↔ Gt.J G s t) (e : Nat × Nat) : ∀ s t, Gt.J (e :: F) s t ↔ Gt.J (e :: G) s t := by
  intro s t
  obtain ⟨a, b⟩ := e
  rw [Gt.J_cons, Gt.J_cons, h, h, h, h, h]
theorem kr_congr : ∀ (L F G : List (Nat × Nat)), (∀ s t, Gt.J F s t ↔ Gt.J G s t) → kr F L = kr G L
  | [], F, G, _ => by rw [kr, kr]
  | e :: L, F, G, h => by
    by_cases c : Gt.J F e.1 e.2
    · rw [kr_yes c, kr_yes ((h _ _).mp c), kr_congr L F G h]
    · rw [kr_no c, kr_no (fun z => c ((h _ _).mpr z)), kr_congr L (e :: F) (e :: G) (J_add h e)]
theorem kr_append : ∀ (L F M : List (Nat × Nat)), kr F (L ++ M) = kr F L ++ kr (L ++ F) M
  | [], F, M => by rw [kr]; rfl
  | e :: L, F, M => by
    rw [List.cons_append]
    by_cases c : Gt.J F e.1 e.2
    · rw [kr_yes c, kr_yes c, kr_append L F M]
      congr 1
      refine kr_congr M _ _ fun s t => ?_
      have c2 : Gt.J (L ++ F) e.1 e.2 := c.mono fun x hx => List.mem_append_right _ hx
      exact (Gt.J_in c2).symm
    · rw [kr_no c, kr_no c, kr_append L (e :: F) M, List.cons_append]
      congr 2
      refine kr_congr M _ _ fun s t => J_mem fun x => ?_
      simp only [List.mem_append, List.mem_cons]
      constructor
      · rintro (z | z | z)
        · exact Or.inl (Or.inr z)
        · exact Or.inl (Or.inl z)
        · exact Or.inr z
      · rintro ((z | z) | z)
        · exact Or.inr (Or.inl z)
        · exact Or.inl z
        · exact Or.inr (Or.inr z)
theorem kr_sub : ∀ (L F : List (Nat × Nat)) (e : Nat × Nat), e ∈ kr F L → e ∈ L
  | [], F, e, h => by rw [kr] at h; cases h
  | x :: L, F, e, h => by
    by_cases c : Gt.J F x.1 x.2
    · rw [kr_yes c] at h; exact List.mem_cons_of_mem _ (kr_sub L F e h)
    · rw [kr_no c] at h
      rcases List.mem_cons.mp h with z | z
      · rw [z]; exact List.mem_cons_self
      · exact List.mem_cons_of_mem _ (kr_sub L _ e z)
theorem kr_mem {L1 L2 : List (Nat × Nat)} {e : Nat × Nat} (nd : (L1 ++ e :: L2).Nodup) : e ∈ kr [] (L1 ++ e :: L2) ↔ ¬ Gt.J L1 e.1 e.2 := by
  obtain ⟨n1, n2, n3⟩ := List.nodup_append.mp nd
  obtain ⟨n4, n5⟩ := List.nodup_cons.mp n2
  have h1 : ¬ e ∈ kr [] L1 := fun z => n3 e (kr_sub _ _ _ z) e List.mem_cons_self rfl
  have h2 : ∀ F, ¬ e ∈ kr F L2 := fun F z => n4 (kr_sub _ _ _ z)
  rw [kr_append, List.append_nil, List.mem_append]
  by_cases c : Gt.J L1 e.1 e.2
  · rw [kr_yes c]
    exact ⟨fun z => (z.elim h1 (h2 _)).elim, fun z => absurd c z⟩
  · rw [kr_no c]
    exact ⟨fun _ => c, fun _ => Or.inr List.mem_cons_self⟩
/-! ### planted, by the passages behind -/
def Pr (D : Garden) (r : List Nat) : List (Nat × Nat) := (r.filter fun q => !D.hedge q).map D.squaresAt
theorem Pr_mem {D : Garden} {r : List Nat} {e : Nat × Nat} : e ∈ Pr D r ↔ ∃ q, q ∈ r ∧ D.hedge q = false ∧ D.squaresAt q = e := by
  unfold Pr
  rw [List.mem_map]
  constructor
  · rintro ⟨q, hq, e⟩
    obtain ⟨a, b⟩ := List.mem_filter.mp hq
    exact ⟨q, a, by simpa using b, e⟩
  · rintro ⟨q, a, b, e⟩
    exact ⟨q, List.mem_filter.mpr ⟨a, by rw [b]; rfl⟩, e⟩
/-- kept ones, each needed where all behind it still stand -/
def Br : List (Nat × Nat) → List (Nat × Nat) → Prop
  | [], _ => True
  | q :: K, F => ¬ Gt.J (K ++ F) q.1 q.2 ∧ Br K F
theorem Br.mono : ∀ {K F G : List (Nat × Nat)}, (∀ e, e ∈ G → e ∈ F) → Br K F → Br K G
  | [], _, _, _, _ => trivial
  | q :: K, F, G, h, b => ⟨fun z => b.1 (z.mono fun e he => by
      rcases List.mem_append.mp he with y | y
      · exact List.mem_append_left _ y
      · exact List.mem_append_right _ (h e y)), Br.mono h b.2⟩
theorem Br.rem : ∀ {K F : List (Nat × Nat)} {p : Nat × Nat}, Br K (p :: F) → Gt.J (K ++ F) p.1 p.2 → Gt.J F p.1 p.2
  | [], _, _, _, h => h
  | q :: K, F, p, b, h => by
    obtain ⟨x, y⟩ := q
    have sub : ∀ e, e ∈ K ++ F → e ∈ K ++ (p :: F) := fun e he => by
      rcases List.mem_append.mp he with z | z
      · exact List.mem_append_left _ z
      · exact List.mem_append_right _ (List.mem_cons_of_mem _ z)
    have hp : Gt.J (K ++ (p :: F)) p.1 p.2 := .one (Or.inl (List.mem_append_right _ List.mem_cons_self))
    rw [List.cons_append, Gt.J_cons] at h
    rcases h with h | ⟨h1, h2⟩ | ⟨h1, h2⟩
    · exact Br.rem b.2 h
    · exact absurd (((h1.mono sub).symm.trans hp).trans (h2.mono sub).symm) b.1
    · exact absurd ((h2.mono sub).trans (hp.symm.trans (h1.mono sub))) b.1
theorem conn_list {X : Garden} {L : List (Nat × Nat)} (h : ∀ e, e ∈ Gt.prs X ↔ e ∈ L) {s t : Nat} : Gt.Conn X s t ↔ Gt.J L s t := Gt.conn_J.trans (J_mem h)
theorem prs_mem {X : Garden} {e : Nat × Nat} : e ∈ Gt.prs X ↔ ∃ q, q < X.count ∧ X.hedge q = false ∧ X.squaresAt q = e := by
  unfold Gt.prs
  rw [List.mem_map]
  constructor
  · rintro ⟨q, hq, e⟩
    obtain ⟨a, b⟩ := Gt.mem_passages.mp hq
    exact ⟨q, a, b, e⟩
  · rintro ⟨q, a, b, e⟩
    exact ⟨q, Gt.mem_passages.mpr ⟨a, b⟩, e⟩
theorem planted_go {D : Garden} : ∀ (r : List Nat) (X : Garden) (ks : List Nat), Gt.Whole X → X.wide = D.wide → X.high = D.high → (ks ++ r).Nodup → (∀ q ∈ ks ++ r, q < X.count) → (∀ q, q < X.count → (X.hedge q = false ↔ q ∈ ks ∨ (q ∈ r ∧ D.hedge q = false))) →
    (∀ q ∈ r, X.hedge q = D.hedge q) → Br (ks.map D.squaresAt) (Pr D r) → ∀ (r1 : List Nat) (p : Nat) (r2 : List Nat), r = r1 ++ p :: r2 → D.hedge p = false → (p ∈ X.plantedFrom r ↔ Gt.J (Pr D r2) (D.squaresAt p).1 (D.squaresAt p).2)
  | [], X, ks, _, _, _, _, _, _, _, _, r1, p, r2, e, _ => by
    have := congrArg List.length e
    simp at this
  | q :: r, X, ks, W, ew, eh, nd, lt, hg, hr, br, r1, p, r2, e, hp => by
    obtain ⟨n1, n2, n3⟩ := List.nodup_append.mp nd
    obtain ⟨n4, n5⟩ := List.nodup_cons.mp n2
    have hql : q < X.count := lt q (List.mem_append_right _ List.mem_cons_self)
    have hqh : q < X.hedges.length := by rw [W.len]; exact hql
    have hqk : q ∉ ks := fun z => n3 q z q List.mem_cons_self rfl
    have hsq : ∀ z, X.squaresAt z = D.squaresAt z := Gt.squaresAt_of ew eh
    have hq := hr q List.mem_cons_self
    have nd' : (ks ++ r).Nodup := List.nodup_append.mpr ⟨n1, n5, fun a ha b hb => n3 a ha b (List.mem_cons_of_mem _ hb)⟩
    have lt' : ∀ z ∈ ks ++ r, z < X.count := fun z hz => by
      rcases List.mem_append.mp hz with y | y
      · exact lt z (List.mem_append_left _ y)
      · exact lt z (List.mem_append_right _ (List.mem_cons_of_mem _ y))
    cases hd : D.hedge q with
    | true =>
      have hX : X.hedge q = true := hq.trans hd
      have ep : X.plantedFrom (q :: r) = X.plantedFrom r := by
        rw [Garden.plantedFrom, if_neg]
        rintro ⟨z, _⟩
        rw [hX] at z; cases z
      rw [ep]
      have ePr : Pr D (q :: r) = Pr D r := by unfold Pr; rw [List.filter_cons_of_neg (by rw [hd]; decide)]
      rw [ePr] at br
      have hg' : ∀ z, z < X.count → (X.hedge z = false ↔ z ∈ ks ∨ (z ∈ r ∧ D.hedge z = false)) := fun z hz => by
        rw [hg z hz]
        constructor
        · rintro (y | ⟨y1, y2⟩)
          · exact Or.inl y
          · rcases List.mem_cons.mp y1 with x | x
            · rw [x, hd] at y2; cases y2
            · exact Or.inr ⟨x, y2⟩
        · rintro (y | ⟨y1, y2⟩)
          · exact Or.inl y
          · exact Or.inr ⟨List.mem_cons_of_mem _ y1, y2⟩
      cases r1 with
      | nil =>
        have e : q :: r = p :: r2 := e
        injection e with e1 e2
        rw [e1, hp] at hd; cases hd
      | cons a r1 =>
        have e : q :: r = a :: (r1 ++ p :: r2) := e
        injection e with e1 e2
        exact planted_go r X ks W ew eh nd' lt' hg' (fun z hz => hr z (List.mem_cons_of_mem _ hz)) br r1 p r2 e2 hp
    | false =>
      have hX : X.hedge q = false := hq.trans hd
      have ePr : Pr D (q :: r) = D.squaresAt q :: Pr D r := by unfold Pr; rw [List.filter_cons_of_pos (by rw [hd]; rfl), List.map_cons]
      rw [ePr] at br
      -- the garden without q
      have hset : ∀ z, z < X.count → ((X.set q true).hedge z = false ↔ z ∈ ks ∨ (z ∈ r ∧ D.hedge z = false)) := fun z hz => by
        rw [Gt.set_hedge hqh]
        by_cases c : z = q
        · rw [if_pos c, c]
          constructor
          · intro y; cases y
          · rintro (y | ⟨y, _⟩)
            · exact absurd y hqk
            · exact absurd y n4
        · rw [if_neg c, hg z hz]
          constructor
          · rintro (y | ⟨y1, y2⟩)
            · exact Or.inl y
            · exact Or.inr ⟨(List.mem_cons.mp y1).resolve_left c, y2⟩
          · rintro (y | ⟨y1, y2⟩)
            · exact Or.inl y
            · exact Or.inr ⟨List.mem_cons_of_mem _ y1, y2⟩
      have cset : ∀ s t, Gt.Conn (X.set q true) s t ↔ Gt.J (ks.map D.squaresAt ++ Pr D r) s t := fun s t => conn_list fun e => by
        rw [prs_mem, List.mem_append, List.mem_map, Pr_mem]
        have hs2 : ∀ z, (X.set q true).squaresAt z = D.squaresAt z := fun z => hsq z
        constructor
        · rintro ⟨z, z1, z2, z3⟩
          rw [hs2] at z3
          rcases (hset z z1).mp z2 with y | ⟨y1, y2⟩
          · exact Or.inl ⟨z, y, z3⟩
          · exact Or.inr ⟨z, y1, y2, z3⟩
        · rintro (⟨z, y, z3⟩ | ⟨z, y1, y2, z3⟩)
          · have hz := lt' z (List.mem_append_left _ y)
            exact ⟨z, hz, (hset z hz).mpr (Or.inl y), by rw [hs2]; exact z3⟩
          · have hz := lt' z (List.mem_append_right _ y1)
            exact ⟨z, hz, (hset z hz).mpr (Or.inr ⟨y1, y2⟩), by rw [hs2]; exact z3⟩
      have hfar : ((X.set q true).far (X.squaresAt q).1 (X.squaresAt q).2).isSome = true ↔ Gt.J (ks.map D.squaresAt ++ Pr D r) (D.squaresAt q).1 (D.squaresAt q).2 := by
        rw [Gt.far_some (D := X.set q true) W.wlo (Gt.side_squares W.wlo hql).1, cset, hsq]
      by_cases c : Gt.J (ks.map D.squaresAt ++ Pr D r) (D.squaresAt q).1 (D.squaresAt q).2
      · have ep : X.plantedFrom (q :: r) = q :: (X.set q true).plantedFrom r := by
          rw [Garden.plantedFrom, if_pos ⟨hX, hfar.mpr c⟩]
        rw [ep]
        cases r1 with
        | nil =>
          have e : q :: r = p :: r2 := e
          injection e with e1 e2
          subst e1 e2
          exact ⟨fun _ => Br.rem br c, fun _ => List.mem_cons_self⟩
        | cons a r1 =>
          have e : q :: r = a :: (r1 ++ p :: r2) := e
          injection e with e1 e2
          have hpr : p ∈ r := by rw [e2]; exact List.mem_append_right _ List.mem_cons_self
          have hne : p ≠ q := fun z => by rw [z] at hpr; exact n4 hpr
          have ih := planted_go r (X.set q true) ks (Gt.set_whole W) ew eh nd' lt' hset (fun z hz => by
            rw [Gt.set_hedge hqh, if_neg (fun y => by rw [y] at hz; exact n4 hz)]
            exact hr z (List.mem_cons_of_mem _ hz)) (br.mono fun x hx => List.mem_cons_of_mem _ hx) r1 p r2 e2 hp
          rw [← ih, List.mem_cons]
          exact ⟨fun z => z.resolve_left hne, Or.inr⟩
      · have ep : X.plantedFrom (q :: r) = X.plantedFrom r := by
          rw [Garden.plantedFrom, if_neg]
          rintro ⟨_, z⟩
          exact c (hfar.mp z)
        rw [ep]
        cases r1 with
        | nil =>
          have e : q :: r = p :: r2 := e
          injection e with e1 e2
          subst e1 e2
          constructor
          · intro z; exact absurd (Gt.planted_lt _ _ _ z) n4
          · intro z; exact absurd (z.mono fun x hx => List.mem_append_right _ hx) c
        | cons a r1 =>
          have e : q :: r = a :: (r1 ++ p :: r2) := e
          injection e with e1 e2
          refine planted_go r X (q :: ks) W ew eh ?_ ?_ ?_ (fun z hz => hr z (List.mem_cons_of_mem _ hz)) ⟨c, br.mono fun x hx => List.mem_cons_of_mem _ hx⟩ r1 p r2 e2 hp
          · refine List.nodup_append.mpr ⟨List.nodup_cons.mpr ⟨hqk, n1⟩, n5, fun a ha b hb z => ?_⟩
            rcases List.mem_cons.mp ha with y | y
            · rw [← z, y] at hb; exact n4 hb
            · exact n3 a y b (List.mem_cons_of_mem _ hb) z
          · intro z hz
            rcases List.mem_append.mp hz with y | y
            · rcases List.mem_cons.mp y with x | x
              · rw [x]; exact hql
              · exact lt z (List.mem_append_left _ x)
            · exact lt z (List.mem_append_right _ (List.mem_cons_of_mem _ y))
          · intro z hz
            rw [hg z hz]
            constructor
            · rintro (y | ⟨y1, y2⟩)
              · exact Or.inl (List.mem_cons_of_mem _ y)
              · rcases List.mem_cons.mp y1 with x | x
                · rw [x]; exact Or.inl List.mem_cons_self
                · exact Or.inr ⟨x, y2⟩
            · rintro (y | ⟨y1, y2⟩)
              · rcases List.mem_cons.mp y with x | x
                · rw [x]; exact Or.inr ⟨List.mem_cons_self, hd⟩
                · exact Or.inl x
              · exact Or.inr ⟨List.mem_cons_of_mem _ y1, y2⟩
theorem planted_iff {D : Garden} (W : Gt.Whole D) {r1 r2 : List Nat} {p : Nat} (e : List.range D.count = r1 ++ p :: r2) (hp : D.hedge p = false) : p ∈ D.planted ↔ Gt.J (Pr D r2) (D.squaresAt p).1 (D.squaresAt p).2 := by
  unfold Garden.planted
  refine planted_go (List.range D.count) D [] W rfl rfl (by rw [List.nil_append]; exact List.nodup_range) (fun q hq => by rw [List.nil_append] at hq; exact List.mem_range.mp hq) (fun q hq => ?_) (fun _ _ => rfl) trivial r1 p r2 e hp
  constructor
  · intro z; exact Or.inr ⟨List.mem_range.mpr hq, z⟩
  · rintro (z | ⟨_, z⟩)
    · cases z
    · exact z
/-! ### opened, by the same order -/
theorem kr_open {D : Garden} : ∀ (r : List Nat) (F : List (Nat × Nat)), kr F ((r.filter fun q => D.hedge q).map D.squaresAt) = (Gt.openR D F r).map D.squaresAt
  | [], F => by rw [List.filter_nil, List.map_nil, kr, Gt.openR]; rfl
  | q :: r, F => by
    cases hd : D.hedge q with
    | false =>
      rw [List.filter_cons_of_neg (by rw [hd]; decide), Gt.openR_no (by rw [hd]; rintro ⟨z, _⟩; cases z), kr_open r F]
    | true =>
      rw [List.filter_cons_of_pos hd, List.map_cons]
      by_cases c : Gt.J F (D.squaresAt q).1 (D.squaresAt q).2
      · rw [kr_yes c, Gt.openR_no (fun z => z.2 c), kr_open r F]
      · rw [kr_no c, Gt.openR_yes hd c, List.map_cons, kr_open r]
/-- the sides kept: passages from behind, then hedges -/
def orderD (D : Garden) : List (Nat × Nat) := (Gt.prs D).reverse ++ ((List.range D.count).filter fun q => D.hedge q).map D.squaresAt
theorem range_split {n p : Nat} (h : p < n) : ∃ r2, List.range n = List.range p ++ p :: r2 := by
  obtain ⟨k, rfl⟩ : ∃ k, n = p + (k + 1) := ⟨n - p - 1, by omega⟩
  refine ⟨(List.range k).map fun x => p + (x + 1), ?_⟩
  rw [range_add, List.range_succ_eq_map, List.map_cons, List.map_map]
  rfl
theorem keep_iff {D : Garden} (W : Gt.Whole D) {q : Nat} (hq : q < D.count) : D.squaresAt q ∈ kr [] (orderD D) ↔ D.mended.hedge q = false := by
  unfold orderD
  rw [kr_append, List.append_nil, List.mem_append, Gt.mended_hedge W]
  have e2 : kr (Gt.prs D).reverse (((List.range D.count).filter fun q => D.hedge q).map D.squaresAt) = (Gt.openR D (Gt.prs D) (List.range D.count)).map D.squaresAt := by
    rw [kr_congr _ _ (Gt.prs D) fun s t => J_mem fun e => List.mem_reverse, kr_open]
  rw [e2, ← Gt.opened_eq W.wlo]
  have hop : D.squaresAt q ∈ D.opened.map D.squaresAt ↔ q ∈ D.opened := by
    rw [List.mem_map]
    constructor
    · rintro ⟨z, hz, e⟩
      rw [← Gt.side_inj W.wlo (Gt.opened_in W hz).1 hq e]
      exact hz
    · intro z; exact ⟨q, z, rfl⟩
  rw [hop]
  cases hd : D.hedge q with
  | true =>
    have n1 : ¬ D.squaresAt q ∈ kr [] (Gt.prs D).reverse := fun z => by
      have := kr_sub _ _ _ z
      rw [List.mem_reverse] at this
      obtain ⟨z, z1, z2, z3⟩ := prs_mem.mp this
      rw [Gt.side_inj W.wlo z1 hq z3, hd] at z2
      cases z2
    have n2 : ¬ q ∈ D.planted := fun z => by have := (Gt.planted_in W z).2; rw [hd] at this; cases this
    rw [if_neg n2]
    by_cases c : q ∈ D.opened
    · rw [if_pos c]; exact ⟨fun _ => rfl, fun _ => Or.inr c⟩
    · rw [if_neg c]; exact ⟨fun z => (z.elim n1 c).elim, fun z => by cases z⟩
  | false =>
    have n1 : ¬ q ∈ D.opened := fun z => by have := (Gt.opened_in W z).2; rw [hd] at this; cases this
    obtain ⟨r2, er⟩ := range_split hq
    have hp := planted_iff W er hd
    have ep : Gt.prs D = Pr D (List.range q) ++ D.squaresAt q :: Pr D r2 := by
      show ((List.range D.count).filter fun p => !D.hedge p).map D.squaresAt = _
      rw [er, List.filter_append, List.filter_cons_of_pos (by rw [hd]; rfl), List.map_append, List.map_cons]
      rfl
    have erev : (Gt.prs D).reverse = (Pr D r2).reverse ++ D.squaresAt q :: (Pr D (List.range q)).reverse := by
      rw [ep, List.reverse_append, List.reverse_cons, List.append_assoc]
      rfl
    have nd : ((Pr D r2).reverse ++ D.squaresAt q :: (Pr D (List.range q)).reverse).Nodup := by
      rw [← erev]
      exact List.pairwise_reverse.mpr (List.Pairwise.imp (fun h => Ne.symm h) (Gt.prs_nodup W.wlo))
    rw [erev, kr_mem nd, if_neg n1]
    have hJ : Gt.J (Pr D r2).reverse (D.squaresAt q).1 (D.squaresAt q).2 ↔ q ∈ D.planted := (J_mem fun e => List.mem_reverse).trans hp.symm
    by_cases c : q ∈ D.planted
    · rw [if_pos c]
      exact ⟨fun z => (z.elim (fun y => absurd (hJ.mpr c) y) fun y => absurd y n1), fun z => by cases z⟩
    · rw [if_neg c]
      exact ⟨fun _ => rfl, fun _ => Or.inl fun y => c (hJ.mp y)⟩
end Gn

end
section
set_option linter.all false
set_option maxHeartbeats 2000000
namespace Gn
open Maze Gm
set_option linter.all false
/-! ### hedges in their order -/
section
variable {g : List Nat} {w h : Nat}
theorem hedge_sign (X : Signs (bytes g) w h) (hb : ∀ n ∈ g, n < 256) {q : Nat} (hq : q < (gardenAt (bytes g) w h).count) :
    (g.getD (sideOf w ((gardenAt (bytes g) w h).squaresAt q).1 ((gardenAt (bytes g) w h).squaresAt q).2) 0 == 124) = (decide (q < (w - 1) * h) && (gardenAt (bytes g) w h).hedge q) ∧
    (g.getD (sideOf w ((gardenAt (bytes g) w h).squaresAt q).1 ((gardenAt (bytes g) w h).squaresAt q).2) 0 == 45) = (!decide (q < (w - 1) * h) && (gardenAt (bytes g) w h).hedge q) := by
  have ew : (gardenAt (bytes g) w h).wide = w := rfl
  have eh : (gardenAt (bytes g) w h).high = h := rfl
  have k := side_cases (D := gardenAt (bytes g) w h) X.wlo hq
  rw [ew, eh] at k
  rcases k with ⟨x, y, hx, hy, e, es, ep⟩ | ⟨x, y, hx, hy, e, es, ep⟩
  · rw [ep, e, hedge_up (by omega) hy]
    have hlt : y * (w - 1) + x < (w - 1) * h := by
      have := place_lt (M := w - 1) (n := h) (i := y) (j := x) hy (by omega)
      rw [Nat.mul_comm (w - 1)]; exact this
    rw [decide_eq_true hlt]
    have ok := X.ok (2 * y + 1) (2 * x + 2) (by omega) (by omega)
    have eb : bt (bytes g) w (2 * y + 1) (2 * x + 2) = at0 (bytes g) ((2 * y + 1) * (2 * w + 2) + (2 * x + 2)) := rfl
    rcases ok.upright (by omega) (by omega) (by omega) with z | ⟨z, _, _⟩
    · rw [z]
      rw [eb, at_eq hb] at z
      rw [z]; exact ⟨rfl, rfl⟩
    · rw [z]
      rw [eb, at_eq hb] at z
      rw [z]; exact ⟨rfl, rfl⟩
  · rw [ep, e, hedge_lev hx (by omega)]
    rw [decide_eq_false (by omega)]
    have ok := X.ok (2 * y + 2) (2 * x + 1) (by omega) (by omega)
    have eb : bt (bytes g) w (2 * y + 2) (2 * x + 1) = at0 (bytes g) ((2 * y + 2) * (2 * w + 2) + (2 * x + 1)) := rfl
    rcases ok.level (by omega) (by omega) (by omega) with z | ⟨z, _, _⟩
    · rw [z]
      rw [eb, at_eq hb] at z
      rw [z]; exact ⟨rfl, rfl⟩
    · rw [z]
      rw [eb, at_eq hb] at z
      rw [z]; exact ⟨rfl, rfl⟩
theorem two_filters {f : Nat → Bool} (a b : Nat) : (List.range (a + b)).filter (fun q => decide (q < a) && f q) ++ (List.range (a + b)).filter (fun q => !decide (q < a) && f q) = (List.range (a + b)).filter f := by
  rw [range_add, List.filter_append, List.filter_append, List.filter_append]
  have e1 : (List.range a).filter (fun q => decide (q < a) && f q) = (List.range a).filter f := List.filter_congr fun q hq => by rw [decide_eq_true (List.mem_range.mp hq)]; rfl
  have e2 : ((List.range b).map (a + ·)).filter (fun q => decide (q < a) && f q) = [] := by
    rw [List.filter_eq_nil_iff]
    intro q hq
    obtain ⟨x, _, rfl⟩ := List.mem_map.mp hq
    rw [decide_eq_false (by omega)]
    exact Bool.false_ne_true
  have e3 : (List.range a).filter (fun q => !decide (q < a) && f q) = [] := by
    rw [List.filter_eq_nil_iff]
    intro q hq
    rw [decide_eq_true (List.mem_range.mp hq)]
    exact Bool.false_ne_true
  have e4 : ((List.range b).map (a + ·)).filter (fun q => !decide (q < a) && f q) = ((List.range b).map (a + ·)).filter f := List.filter_congr fun q hq => by
    obtain ⟨x, _, rfl⟩ := List.mem_map.mp hq
    rw [decide_eq_false (by omega)]; rfl
  rw [e1, e2, e3, e4, List.append_nil, List.nil_append]
theorem hedges_eq (X : Signs (bytes g) w h) (hb : ∀ n ∈ g, n < 256) : sidesW g w (w * h) 124 ++ sidesW g w (w * h) 45 = ((List.range (gardenAt (bytes g) w h).count).filter fun q => (gardenAt (bytes g) w h).hedge q).map (gardenAt (bytes g) w h).squaresAt := by
  have s1 : sidesW g w (w * h) 124 = _ := sides_eq (D := gardenAt (bytes g) w h) X.wlo g 124
  have s2 : sidesW g w (w * h) 45 = _ := sides_eq (D := gardenAt (bytes g) w h) X.wlo g 45
  rw [s1, s2, ← List.map_append]
  congr 1
  have ec : (gardenAt (bytes g) w h).count = (w - 1) * h + w * (h - 1) := rfl
  have f1 : (List.range (gardenAt (bytes g) w h).count).filter (fun q => g.getD (sideOf (gardenAt (bytes g) w h).wide ((gardenAt (bytes g) w h).squaresAt q).1 ((gardenAt (bytes g) w h).squaresAt q).2) 0 == 124) = (List.range (gardenAt (bytes g) w h).count).filter (fun q => decide (q < (w - 1) * h) && (gardenAt (bytes g) w h).hedge q) :=
    List.filter_congr fun q hq => (hedge_sign X hb (List.mem_range.mp hq)).1
  have f2 : (List.range (gardenAt (bytes g) w h).count).filter (fun q => g.getD (sideOf (gardenAt (bytes g) w h).wide ((gardenAt (bytes g) w h).squaresAt q).1 ((gardenAt (bytes g) w h).squaresAt q).2) 0 == 45) = (List.range (gardenAt (bytes g) w h).count).filter (fun q => !decide (q < (w - 1) * h) && (gardenAt (bytes g) w h).hedge q) :=
    List.filter_congr fun q hq => (hedge_sign X hb (List.mem_range.mp hq)).2
  rw [f1, f2, ec]
  exact two_filters _ _
theorem order_eq (X : Signs (bytes g) w h) (hb : ∀ n ∈ g, n < 256) : (sidesW g w (w * h) 32).reverse ++ (sidesW g w (w * h) 124 ++ sidesW g w (w * h) 45) = orderD (gardenAt (bytes g) w h) := by
  rw [hedges_eq X hb, passages_eq X hb]
  rfl
end
/-! ### places set, each to its own -/
theorem setsV_len {α β : Type} (f : β → Nat) (v : β → α) : ∀ (L : List β) (g : List α), (L.foldl (fun d e => d.set (f e) (v e)) g).length = g.length
  | [], g => rfl
  | e :: L, g => by rw [List.foldl_cons, setsV_len f v L, List.length_set]
theorem setsV_other {α β : Type} (f : β → Nat) (v : β → α) {p : Nat} : ∀ (L : List β) (g : List α), (∀ e ∈ L, f e ≠ p) → (L.foldl (fun d e => d.set (f e) (v e)) g)[p]? = g[p]?
  | [], g, _ => rfl
  | e :: L, g, h => by
    rw [List.foldl_cons, setsV_other f v L _ fun x hx => h x (List.mem_cons_of_mem _ hx), List.getElem?_set_ne (h e List.mem_cons_self)]
theorem setsV_at {α β : Type} (f : β → Nat) (v : β → α) {e : β} : ∀ (L : List β) (g : List α), e ∈ L → (L.map f).Nodup → f e < g.length → (L.foldl (fun d e => d.set (f e) (v e)) g)[f e]? = some (v e)
  | [], g, h, _, _ => by cases h
  | x :: L, g, h, nd, hl => by
    rw [List.map_cons] at nd
    obtain ⟨n1, n2⟩ := List.nodup_cons.mp nd
    rw [List.foldl_cons]
    by_cases c : e ∈ L
    · exact setsV_at f v L _ c n2 (by rw [List.length_set]; exact hl)
    · have ex : e = x := (List.mem_cons.mp h).resolve_right c
      subst ex
      rw [setsV_other f v L _ fun y hy z => n1 (List.mem_map.mpr ⟨y, hy, z⟩), List.getElem?_set_self hl]
theorem place_side_inj {D : Garden} (hw : 1 ≤ D.wide) {p q : Nat} (hp : p < D.count) (hq : q < D.count) (h : sideOf D.wide (D.squaresAt p).1 (D.squaresAt p).2 = sideOf D.wide (D.squaresAt q).1 (D.squaresAt q).2) : p = q := by
  have key : ∀ {a b c d : Nat}, b < 2 * D.wide + 2 → d < 2 * D.wide + 2 → a * (2 * D.wide + 2) + b = c * (2 * D.wide + 2) + d → a = c ∧ b = d := fun {a b c d} hb hd e => by
    have d1 := dm (M := 2 * D.wide + 2) (i := a) (j := b) hb
    have d2 := dm (M := 2 * D.wide + 2) (i := c) (j := d) hd
    rw [e] at d1
    exact ⟨d1.1.symm.trans d2.1, d1.2.symm.trans d2.2⟩
  rcases side_cases hw hp with ⟨x, y, hx, hy, e, _, ep⟩ | ⟨x, y, hx, hy, e, _, ep⟩ <;> rcases side_cases hw hq with ⟨x', y', hx', hy', e', _, ep'⟩ | ⟨x', y', hx', hy', e', _, ep'⟩
  · rw [ep, ep'] at h
    obtain ⟨a, b⟩ := key (by omega) (by omega) h
    have a : y = y' := by omega
    have b : x = x' := by omega
    rw [e, e', a, b]
  · rw [ep, ep'] at h
    obtain ⟨a, b⟩ := key (by omega) (by omega) h
    omega
  · rw [ep, ep'] at h
    obtain ⟨a, b⟩ := key (by omega) (by omega) h
    omega
  · rw [ep, ep'] at h
    obtain ⟨a, b⟩ := key (by omega) (by omega) h
    have a : y = y' := by omega
    have b : x = x' := by omega
    rw [e, e', a, b]
/-! ### the garden drawn with passages at just these sides -/
def sgnOf (w : Nat) (K : List (Nat × Nat)) (e : Nat × Nat) : Nat := if e ∈ K then 32 else if e.1 / w = e.2 / w then 124 else 45
def drawG (g : List Nat) (w n : Nat) (K : List (Nat × Nat)) : List Nat := (innerS w n).foldl (fun d e => d.set (sideOf w e.1 e.2) (sgnOf w K e)) g
theorem drawG_len (g : List Nat) (w n : Nat) (K : List (Nat × Nat)) : (drawG g w n K).length = g.length := setsV_len _ _ _ _
theorem drawG_lt {g : List Nat} {w n : Nat} {K : List (Nat × Nat)} (hb : ∀ m ∈ g, m < 256) : ∀ m ∈ drawG g w n K, m < 256 := by
  unfold drawG
  have : ∀ (L : List (Nat × Nat)) (d : List Nat), (∀ m ∈ d, m < 256) → ∀ m ∈ L.foldl (fun d e => d.set (sideOf w e.1 e.2) (sgnOf w K e)) d, m < 256 := by
    intro L
    induction L with
    | nil => intro d hd; exact hd
    | cons e L ih =>
      intro d hd
      rw [List.foldl_cons]
      refine ih _ fun m hm => ?_
      rcases List.mem_or_eq_of_mem_set hm with z | z
      · exact hd m z
      · rw [z]; unfold sgnOf; split
        · decide
        · split <;> decide
  exact this _ _ hb
section
variable {g : List Nat} {w h : Nat} {K : List (Nat × Nat)}
theorem drawG_other (hw : 1 ≤ w) {p : Nat} (hp : ∀ q, q < (gardenAt (bytes g) w h).count → sideOf w ((gardenAt (bytes g) w h).squaresAt q).1 ((gardenAt (bytes g) w h).squaresAt q).2 ≠ p) : (drawG g w (w * h) K).getD p 0 = g.getD p 0 := by
  rw [List.getD_eq_getElem?_getD, List.getD_eq_getElem?_getD]
  unfold drawG
  rw [setsV_other]
  intro e he
  obtain ⟨q, hq, rfl⟩ := (innerS_mem (D := gardenAt (bytes g) w h) hw).mp he
  exact hp q hq
theorem drawG_at (X : Signs (bytes g) w h) {q : Nat} (hq : q < (gardenAt (bytes g) w h).count) :
    (drawG g w (w * h) K).getD (sideOf w ((gardenAt (bytes g) w h).squaresAt q).1 ((gardenAt (bytes g) w h).squaresAt q).2) 0 = sgnOf w K ((gardenAt (bytes g) w h).squaresAt q) := by
  have hw := X.wlo
  have hin : (gardenAt (bytes g) w h).squaresAt q ∈ innerS w (w * h) := (innerS_mem (D := gardenAt (bytes g) w h) hw).mpr ⟨q, hq, rfl⟩
  have hnd : ((innerS w (w * h)).map fun e => sideOf w e.1 e.2).Nodup := by
    have ei : innerS w (w * h) = _ := inner_eq (D := gardenAt (bytes g) w h) hw
    rw [ei, List.map_map]
    refine Gt.map_nodup _ _ (fun a b ha hb e => ?_) List.nodup_range
    exact place_side_inj (D := gardenAt (bytes g) w h) hw (List.mem_range.mp ha) (List.mem_range.mp hb) e
  have hlt : sideOf w ((gardenAt (bytes g) w h).squaresAt q).1 ((gardenAt (bytes g) w h).squaresAt q).2 < g.length := by
    have hl := X.len
    rw [bytes_len] at hl
    rw [hl]
    rcases side_cases (D := gardenAt (bytes g) w h) hw hq with ⟨x, y, hx, hy, _, _, ep⟩ | ⟨x, y, hx, hy, _, _, ep⟩
    · have hx : x + 1 < w := hx
      have hy : y < h := hy
      exact Nat.le_trans (Nat.le_of_eq (congrArg Nat.succ ep)) (place_lt (by omega) (by omega))
    · have hx : x < w := hx
      have hy : y + 1 < h := hy
      exact Nat.le_trans (Nat.le_of_eq (congrArg Nat.succ ep)) (place_lt (by omega) (by omega))
  rw [List.getD_eq_getElem?_getD]
  unfold drawG
  rw [setsV_at (fun e : Nat × Nat => sideOf w e.1 e.2) (sgnOf w K) _ g hin hnd hlt]
  rfl
theorem drawG_signs (X : Signs (bytes g) w h) (hb : ∀ n ∈ g, n < 256) : Signs (bytes (drawG g w (w * h) K)) w h := by
  have hw := X.wlo
  refine ⟨X.wlo, X.whi, X.hlo, X.hhi, by rw [bytes_len, drawG_len]; have := X.len; rw [bytes_len] at this; exact this, fun i j hi hj => ?_⟩
  have hbn := drawG_lt (w := w) (n := w * h) (K := K) hb
  by_cases c : ∃ q, q < (gardenAt (bytes g) w h).count ∧ sideOf w ((gardenAt (bytes g) w h).squaresAt q).1 ((gardenAt (bytes g) w h).squaresAt q).2 = i * (2 * w + 2) + j
  · obtain ⟨q, hq, eq⟩ := c
    have v := drawG_at (K := K) X hq
    rw [eq] at v
    have d := dm (M := 2 * w + 2) (i := i) (j := j) hj
    rcases side_cases (D := gardenAt (bytes g) w h) hw hq with ⟨x, y, hx, hy, _, es, ep⟩ | ⟨x, y, hx, hy, _, es, ep⟩
    · have hx : x + 1 < w := hx
      have hy : y < h := hy
      have ep : sideOf w ((gardenAt (bytes g) w h).squaresAt q).1 ((gardenAt (bytes g) w h).squaresAt q).2 = (2 * y + 1) * (2 * w + 2) + (2 * x + 2) := ep
      have d2 := dm (M := 2 * w + 2) (i := 2 * y + 1) (j := 2 * x + 2) (by omega)
      rw [← ep, eq] at d2
      have ei : i = 2 * y + 1 := d.1.symm.trans d2.1
      have ej : j = 2 * x + 2 := d.2.symm.trans d2.2
      have es : (gardenAt (bytes g) w h).squaresAt q = (y * w + x, y * w + (x + 1)) := es
      have hs : sgnOf w K ((gardenAt (bytes g) w h).squaresAt q) = 32 ∨ sgnOf w K ((gardenAt (bytes g) w h).squaresAt q) = 124 := by
        unfold sgnOf
        by_cases c : (gardenAt (bytes g) w h).squaresAt q ∈ K
        · rw [if_pos c]; exact Or.inl rfl
        · rw [if_neg c, es]
          have d3 := dm (M := w) (i := y) (j := x) (by omega)
          have d4 := dm (M := w) (i := y) (j := x + 1) hx
          right
          show (if (y * w + x) / w = (y * w + (x + 1)) / w then 124 else 45) = 124
          rw [if_pos (by rw [d3.1, d4.1])]
      refine ⟨fun z => by omega, fun _ z => by omega, fun _ _ z => by omega, fun _ z => by omega, fun _ _ _ => ?_⟩
      rcases hs with z | z
      · right
        refine ⟨?_, by omega, by omega⟩
        rw [z] at v
        exact bt_val hbn v
      · left
        rw [z] at v
        exact bt_val hbn v
    · have hx : x < w := hx
      have hy : y + 1 < h := hy
      have ep : sideOf w ((gardenAt (bytes g) w h).squaresAt q).1 ((gardenAt (bytes g) w h).squaresAt q).2 = (2 * y + 2) * (2 * w + 2) + (2 * x + 1) := ep
      have d2 := dm (M := 2 * w + 2) (i := 2 * y + 2) (j := 2 * x + 1) (by omega)
      rw [← ep, eq] at d2
      have ei : i = 2 * y + 2 := d.1.symm.trans d2.1
      have ej : j = 2 * x + 1 := d.2.symm.trans d2.2
      have es : (gardenAt (bytes g) w h).squaresAt q = (y * w + x, (y + 1) * w + x) := es
      have hs : sgnOf w K ((gardenAt (bytes g) w h).squaresAt q) = 32 ∨ sgnOf w K ((gardenAt (bytes g) w h).squaresAt q) = 45 := by
        unfold sgnOf
        by_cases c : (gardenAt (bytes g) w h).squaresAt q ∈ K
        · rw [if_pos c]; exact Or.inl rfl
        · rw [if_neg c, es]
          have d3 := dm (M := w) (i := y) (j := x) hx
          have d4 := dm (M := w) (i := y + 1) (j := x) hx
          right
          show (if (y * w + x) / w = ((y + 1) * w + x) / w then 124 else 45) = 45
          rw [if_neg (by rw [d3.1, d4.1]; omega)]
      refine ⟨fun z => by omega, fun _ _ z => by omega, fun _ z => by omega, fun _ _ _ => ?_, fun _ z => by omega⟩
      rcases hs with z | z
      · right
        refine ⟨?_, by omega, by omega⟩
        rw [z] at v
        exact bt_val hbn v
      · left
        rw [z] at v
        exact bt_val hbn v
  · have v := drawG_other (g := g) (w := w) (h := h) (K := K) hw (p := i * (2 * w + 2) + j) fun q hq z => c ⟨q, hq, z⟩
    have e : bt (bytes (drawG g w (w * h) K)) w i j = bt (bytes g) w i j := by
      have : g.getD (i * (2 * w + 2) + j) 0 = (bt (bytes g) w i j).toNat := (at_eq hb _ _).mp rfl
      exact bt_val hbn (v.trans this)
    rw [e]
    exact X.ok i j hi hj
theorem drawG_garden (X : Signs (bytes g) w h) (hb : ∀ n ∈ g, n < 256) (hK : ∀ q, q < (gardenAt (bytes g) w h).count → ((gardenAt (bytes g) w h).squaresAt q ∈ K ↔ (gardenAt (bytes g) w h).mended.hedge q = false)) : gardenAt (bytes (drawG g w (w * h) K)) w h = (gardenAt (bytes g) w h).mended := by
  have Y := drawG_signs (K := K) X hb
  have hbn := drawG_lt (w := w) (n := w * h) (K := K) hb
  have W := garden_whole X
  have WM := Gt.mended_whole W
  have sh := Gt.mended_shape (D := gardenAt (bytes g) w h)
  have hd : ∀ q, q < (gardenAt (bytes g) w h).count → (gardenAt (bytes (drawG g w (w * h) K)) w h).hedge q = (gardenAt (bytes g) w h).mended.hedge q := fun q hq => by
    have ecnt : (gardenAt (bytes (drawG g w (w * h) K)) w h).count = (gardenAt (bytes g) w h).count := Gt.count_of rfl rfl
    have esq : (gardenAt (bytes (drawG g w (w * h) K)) w h).squaresAt q = (gardenAt (bytes g) w h).squaresAt q := Gt.squaresAt_of rfl rfl q
    have s1 := side_byte Y hbn (q := q) (by rw [ecnt]; exact hq)
    have v := drawG_at (K := K) X hq
    rw [esq, v] at s1
    have hk := hK q hq
    by_cases c : (gardenAt (bytes g) w h).squaresAt q ∈ K
    · have : sgnOf w K ((gardenAt (bytes g) w h).squaresAt q) = 32 := by unfold sgnOf; rw [if_pos c]
      rw [this] at s1
      rw [hk.mp c]
      cases e : (gardenAt (bytes (drawG g w (w * h) K)) w h).hedge q with
      | false => rfl
      | true => rw [e] at s1; cases s1
    · have : sgnOf w K ((gardenAt (bytes g) w h).squaresAt q) ≠ 32 := by unfold sgnOf; rw [if_neg c]; split <;> decide
      rw [beq_false_of_ne this] at s1
      cases e : (gardenAt (bytes (drawG g w (w * h) K)) w h).hedge q with
      | false => rw [e] at s1; cases s1
      | true =>
        cases e2 : (gardenAt (bytes g) w h).mended.hedge q with
        | true => rfl
        | false => exact absurd (hk.mpr e2) c
  have hl : (gardenAt (bytes (drawG g w (w * h) K)) w h).hedges = (gardenAt (bytes g) w h).mended.hedges := by
    have ecnt : (gardenAt (bytes (drawG g w (w * h) K)) w h).count = (gardenAt (bytes g) w h).count := Gt.count_of rfl rfl
    have l1 : (gardenAt (bytes (drawG g w (w * h) K)) w h).hedges.length = (gardenAt (bytes g) w h).count := (garden_len _ _ _).trans ecnt
    have l2 : (gardenAt (bytes g) w h).mended.hedges.length = (gardenAt (bytes g) w h).count := by rw [sh.2.2]; exact garden_len _ _ _
    apply List.ext_getElem (l1.trans l2.symm)
    intro q h1 h2
    have := hd q (by rw [← l1]; exact h1)
    unfold Garden.hedge at this
    rw [List.getD_eq_getElem?_getD, List.getD_eq_getElem?_getD, List.getElem?_eq_getElem h1, List.getElem?_eq_getElem h2] at this
    exact this
  have e1 : (gardenAt (bytes g) w h).mended.wide = w := sh.1
  have e2 : (gardenAt (bytes g) w h).mended.high = h := sh.2.1
  generalize (gardenAt (bytes g) w h).mended = M at hl e1 e2
  obtain ⟨a, b, c⟩ := M
  have e1 : a = w := e1
  have e2 : b = h := e2
  have hl : (gardenAt (bytes (drawG g w (w * h) K)) w h).hedges = c := hl
  rw [e1, e2, ← hl]
  rfl
end
def keepN (g : List Nat) : List (Nat × Nat) := kruN ((sidesW g (widOf g) (nOf g) 32).reverse ++ (sidesW g (widOf g) (nOf g) 124 ++ sidesW g (widOf g) (nOf g) 45)) (nOf g)
def mendN (g : List Nat) : List Nat := drawG g (widOf g) (nOf g) (keepN g)
theorem mend_ok {g : List Nat} (hb : ∀ n ∈ g, n < 256) (hG : isG g = true) : isG (mendN g) = true ∧ (∀ n ∈ mendN g, n < 256) ∧ widOf (mendN g) = widOf g ∧ higOf (mendN g) (widOf g) = higOf g (widOf g) ∧
    gardenAt (bytes (mendN g)) (widOf g) (higOf g (widOf g)) = (gardenAt (bytes g) (widOf g) (higOf g (widOf g))).mended := by
  have X := signs_isG hb hG
  have W := garden_whole X
  have hlt := drawG_lt (w := widOf g) (n := nOf g) (K := keepN g) hb
  have Y : Signs (bytes (mendN g)) (widOf g) (higOf g (widOf g)) := drawG_signs X hb
  obtain ⟨a, b, c⟩ := isG_signs hlt Y
  refine ⟨c, hlt, a, b, drawG_garden X hb fun q hq => ?_⟩
  have ek : keepN g = kr [] (orderD (gardenAt (bytes g) (widOf g) (higOf g (widOf g)))) := by
    unfold keepN
    have eo : (sidesW g (widOf g) (nOf g) 32).reverse ++ (sidesW g (widOf g) (nOf g) 124 ++ sidesW g (widOf g) (nOf g) 45) = orderD (gardenAt (bytes g) (widOf g) (higOf g (widOf g))) := order_eq X hb
    rw [← eo]
    refine kru_eq fun e he => ?_
    have bd : ∀ s, ∀ e ∈ sidesW g (widOf g) (nOf g) s, e.1 < nOf g ∧ e.2 < nOf g := fun s => sidesW_lt (g := g) (w := widOf g) (h := higOf g (widOf g)) (sign := s) X.wlo
    rcases List.mem_append.mp he with z | z
    · exact bd 32 e (List.mem_reverse.mp z)
    · rcases List.mem_append.mp z with y | y
      · exact bd 124 e y
      · exact bd 45 e y
  rw [ek]
  exact keep_iff W hq
end Gn

end
section
set_option linter.all false
set_option maxHeartbeats 2000000
namespace Gn
open Maze Gm
set_option linter.all false
/-! ### where there is no ring there is but one way -/
theorem forest_bridge {D : Garden} (W : Gt.Whole D) (F : Gt.Forest (Gt.prs D)) {q : Nat} (hq : q < D.count) (hh : D.hedge q = false) : ¬ Gt.Conn (D.set q true) (D.squaresAt q).1 (D.squaresAt q).2 := by
  have hin : D.squaresAt q ∈ Gt.prs D := prs_mem.mpr ⟨q, hq, hh, rfl⟩
  have pm := List.perm_cons_erase hin
  have F2 := (Gt.forest_perm (n := D.squares) pm (Gt.prs_lt W.wlo)).mp F
  intro c
  refine F2.1 ((Gt.conn_J.mp c).mono fun e he => ?_)
  obtain ⟨p, p1, p2, p3⟩ := prs_mem.mp he
  have hql : q < D.hedges.length := by rw [W.len]; exact hq
  have p1 : p < D.count := p1
  rw [Gt.set_hedge hql] at p2
  by_cases c2 : p = q
  · rw [if_pos c2] at p2; cases p2
  · rw [if_neg c2] at p2
    have p3 : D.squaresAt p = e := p3
    refine (List.mem_erase_of_ne fun z => c2 ?_).mpr (prs_mem.mpr ⟨p, p1, p2, p3⟩)
    exact Gt.side_inj W.wlo p1 hq (p3.trans z)
theorem path_unique {D : Garden} (W : Gt.Whole D) (F : Gt.Forest (Gt.prs D)) {s t : Nat} {l k : List Nat} (h : Gt.Path D s t l) (h' : Gt.Path D s t k) : k = l := by
  refine Gt.only_unique W h ((only_iff W h.way).mpr fun i a b ha hb q hq hbt hc => ?_) h'
  have inn := Gt.isWay_ix h.way
  have := inn.2 i a b ha hb
  rw [List.contains_iff_mem] at this
  obtain ⟨p, p1, p2, p3⟩ := (Gt.outs_iff W.wlo (inn.1 a (List.mem_of_getElem? ha))).mp this
  have epq : p = q := Gt.between_inj W p1 hq p3 hbt
  subst epq
  refine forest_bridge W F p1 p2 ?_
  rcases p3 with z | z
  · rw [z]; exact hc
  · rw [z]; exact hc.symm
/-! ### the farthest two, pair by pair -/
section
variable {D : Garden}
def rowF (D : Garden) (s : Nat) (t : Nat) : Option (Nat × Nat × Nat) := if s ≤ t then ((D.fars s).getD t none).map fun (n : Nat) => (n, s, t) else none
def inT (D : Garden) (s j : Nat) (x : Nat × Nat × Nat) : Nat × Nat × Nat := ((List.range j).filterMap (rowF D s)).foldl farther x
def outT (D : Garden) (i : Nat) : Nat × Nat × Nat := (List.range i).foldl (fun x s => inT D s D.squares x) (0, 0, 0)
theorem longest_eq : D.longest = outT D D.squares := by
  unfold Garden.longest outT
  rw [List.foldl_flatMap]
  rfl
theorem outT_succ (i : Nat) : outT D (i + 1) = inT D i D.squares (outT D i) := by
  unfold outT
  rw [List.range_succ, List.foldl_append]
  rfl
theorem inT_succ (s j : Nat) (x : Nat × Nat × Nat) : inT D s (j + 1) x = match rowF D s j with
    | none => inT D s j x
    | some y => farther (inT D s j x) y := by
  unfold inT
  rw [List.range_succ, List.filterMap_append, List.foldl_append, List.filterMap_cons, List.filterMap_nil]
  cases rowF D s j <;> rfl
theorem inT_low {s : Nat} (x : Nat × Nat × Nat) : ∀ j, j ≤ s → inT D s j x = x
  | 0, _ => rfl
  | j + 1, h => by
    rw [inT_succ]
    have : rowF D s j = none := by unfold rowF; rw [if_neg (by omega)]
    rw [this]
    exact inT_low x j (by omega)
theorem inT_self (hw : 1 ≤ D.wide) {s : Nat} (hs : s < D.squares) (x : Nat × Nat × Nat) : inT D s (s + 1) x = x := by
  rw [inT_succ, inT_low x s (Nat.le_refl _)]
  have : rowF D s s = some (0, s, s) := by
    unfold rowF
    rw [if_pos (Nat.le_refl _), (Gt.fars_at hw hs s 0).mpr dist_zero]
    rfl
  rw [this]
  unfold farther
  show (if x.1 < 0 then _ else x) = x
  rw [if_neg (by omega)]
theorem inT_step (hw : 1 ≤ D.wide) {s t d : Nat} (hs : s < D.squares) (hst : s ≤ t) (h : Gt.Dist D s d t) (x : Nat × Nat × Nat) : inT D s (t + 1) x = farther (inT D s t x) (d, s, t) := by
  rw [inT_succ]
  have : rowF D s t = some (d, s, t) := by
    unfold rowF
    rw [if_pos hst, (Gt.fars_at hw hs t d).mpr h]
    rfl
  rw [this]
/-- the longest way so far -/
def LInv (D : Garden) (x : Nat × Nat × Nat) (l : List Nat) : Prop := (x.1 = 0 ∧ l = []) ∨ (1 ≤ x.1 ∧ BP D x.2.1 x.1 x.2.2 l ∧ Gt.Dist D x.2.1 x.1 x.2.2)
theorem dist_pos {s t d : Nat} (h : Gt.Dist D s d t) (hne : s ≠ t) : 1 ≤ d := by
  cases d with
  | zero => exact absurd h.1.symm hne
  | succ d => omega
theorem LInv.step {x : Nat × Nat × Nat} {l p : List Nat} {s t d : Nat} (h : LInv D x l) (hd : 1 ≤ d) (b : BP D s d t p) (hdi : Gt.Dist D s d t) : LInv D (farther x (d, s, t)) (if l.length < p.length then p else l) := by
  unfold farther
  show LInv D (if x.1 < d then (d, s, t) else x) _
  have hp := b.len
  rcases h with ⟨h1, h2⟩ | ⟨h1, h2⟩
  · rw [if_pos (by omega), if_pos (by rw [h2, hp]; simp)]
    exact Or.inr ⟨hd, b, hdi⟩
  · have hl := h2.1.len
    by_cases c : x.1 < d
    · rw [if_pos c, if_pos (by omega)]
      exact Or.inr ⟨hd, b, hdi⟩
    · rw [if_neg c, if_neg (by omega)]
      exact Or.inr ⟨h1, h2⟩
theorem longest_pos (hw : 1 ≤ D.wide) (hn : 2 ≤ D.squares) (hc : ∀ t, t < D.squares → Gt.Conn D 0 t) : 1 ≤ D.longest.1 := by
  obtain ⟨n, hwk⟩ := (Gt.conn_walk hw (by omega)).mp (hc 1 (by omega))
  obtain ⟨d, _, hd⟩ := Gt.dist_of_walk hwk
  have hd1 := dist_pos hd (by decide)
  have e : D.longest = (((List.range D.squares).flatMap fun (s : Nat) => (List.range D.squares).filterMap (rowF D s)).foldl farther (0, 0, 0)) := rfl
  have hin : (d, 0, 1) ∈ (List.range D.squares).flatMap fun (s : Nat) => (List.range D.squares).filterMap (rowF D s) := by
    rw [List.mem_flatMap]
    refine ⟨0, List.mem_range.mpr (by omega), List.mem_filterMap.mpr ⟨1, List.mem_range.mpr (by omega), ?_⟩⟩
    unfold rowF
    rw [if_pos (by omega), (Gt.fars_at hw (by omega) 1 d).mpr hd]
    rfl
  rw [e]
  obtain ⟨i, ⟨h1, h2⟩ | ⟨y, _, h2, _, h4, _⟩⟩ := Gt.farther_fold ((List.range D.squares).flatMap fun (s : Nat) => (List.range D.squares).filterMap (rowF D s)) (0, 0, 0)
  · have := h2 _ hin
    have : d ≤ 0 := this
    omega
  · rw [h2]
    have := h4 _ hin
    have : d ≤ y.1 := this
    omega
/-- **the way of a plan that's made** -/
theorem way_longest (W : Gt.Whole D) (F : Gt.Forest (Gt.prs D)) {l : List Nat} (h : LInv D D.longest l) (hp : 1 ≤ D.longest.1) : (D.way D.longest.2.1 D.longest.2.2).getD [] = l ∧ Plan.right ⟨D, l⟩ = true := by
  rcases h with ⟨h, _⟩ | ⟨_, b, hd⟩
  · omega
  · have hW := b.path.way
    have inn := Gt.isWay_ix hW
    have hne : l ≠ [] := by intro e; have := b.len; rw [e] at this; cases this
    have hs : D.longest.2.1 < D.squares := by
      refine inn.1 _ ?_
      have := b.path.head
      cases l with
      | nil => cases this
      | cons a r => rw [← Option.some.inj this]; exact List.mem_cons_self
    obtain ⟨e1, e2⟩ := Gt.way_at W.wlo hs hd
    rw [e1]
    refine ⟨path_unique W F b.path e2.path, ?_⟩
    unfold Plan.right
    simp only [Bool.and_eq_true, decide_eq_true_eq]
    exact ⟨hW, b.path.nd, by have := b.len; omega⟩
end
/-! ### what's asked of make -/
def goodL (g l : List Nat) : Prop := LInv (gardenAt (bytes g) (widOf g) (higOf g (widOf g))) (gardenAt (bytes g) (widOf g) (higOf g (widOf g))).longest l
theorem make_ans (g : List Nat) : PyWqbacr.make (g.map fun (n : Nat) => (n : Int)) = (MazeK.answer (.make (bytes g))).code :: (MazeK.answer (.make (bytes g))).nums.map (fun (n : Nat) => (n : Int)) := by
  show (MazeK.answer (.make (PlanNeutral.text (g.map fun (n : Nat) => (n : Int))))).code :: (MazeK.answer (.make (PlanNeutral.text (g.map fun (n : Nat) => (n : Int))))).nums.map (fun (n : Nat) => (n : Int)) = _
  rw [text_nat]
theorem make_eq (g : List Nat) : MazeK.answer (.make (bytes g)) = if 1024 < (bytes g).length then says (-2) else match readDrawing (bytes g) with
    | .error _ => says (-6)
    | .ok D => if D.squares < 2 then says (-5) else tells (nat8 D.made.drawn) := rfl
theorem make_long {g : List Nat} (h : 1024 < g.length) : PyWqbacr.make (g.map fun (n : Nat) => (n : Int)) = [-2] := by
  rw [make_ans, make_eq, bytes_len, if_pos h]
  rfl
theorem make_bad {g : List Nat} (hb : ∀ n ∈ g, n < 256) (h : ¬ 1024 < g.length) (hG : isG g = false) : PyWqbacr.make (g.map fun (n : Nat) => (n : Int)) = [-6] := by
  rw [make_ans, make_eq, bytes_len, if_neg h]
  cases hr : readDrawing (bytes g) with
  | error p => rfl
  | ok D =>
    obtain ⟨w, h, X, _⟩ := of_read hr
    have := (isG_signs hb (signs_iff.mp X)).2.2
    rw [hG] at this; cases this
theorem make_one {g : List Nat} (hb : ∀ n ∈ g, n < 256) (h : ¬ 1024 < g.length) (hG : isG g = true) (hn : nOf g = 1) : PyWqbacr.make (g.map fun (n : Nat) => (n : Int)) = [-5] := by
  have hr := read_of (signs_iff.mpr (signs_isG hb hG))
  rw [make_ans, make_eq, bytes_len, if_neg h, hr]
  have e : (gardenAt (bytes g) (widOf g) (higOf g (widOf g))).squares < 2 := by
    show nOf g < 2
    omega
  show (if (gardenAt (bytes g) (widOf g) (higOf g (widOf g))).squares < 2 then says (-5) else _).code :: (if (gardenAt (bytes g) (widOf g) (higOf g (widOf g))).squares < 2 then says (-5) else _).nums.map _ = _
  rw [if_pos e]
  rfl
theorem mend_parts {g : List Nat} (hb : ∀ n ∈ g, n < 256) (hG : isG g = true) : nOf (mendN g) = nOf g ∧ Gt.Whole (gardenAt (bytes (mendN g)) (widOf (mendN g)) (higOf (mendN g) (widOf (mendN g)))) ∧ (∀ s t, s < nOf g → t < nOf g → Gt.Conn (gardenAt (bytes (mendN g)) (widOf (mendN g)) (higOf (mendN g) (widOf (mendN g)))) s t) ∧
    gardenAt (bytes (mendN g)) (widOf (mendN g)) (higOf (mendN g) (widOf (mendN g))) = (gardenAt (bytes g) (widOf g) (higOf g (widOf g))).mended := by
  obtain ⟨a, b, c, d, e⟩ := mend_ok hb hG
  have X := signs_isG hb hG
  have W := garden_whole X
  have en : nOf (mendN g) = nOf g := by unfold nOf; rw [c, d]
  have eg : gardenAt (bytes (mendN g)) (widOf (mendN g)) (higOf (mendN g) (widOf (mendN g))) = (gardenAt (bytes g) (widOf g) (higOf g (widOf g))).mended := by rw [c, d]; exact e
  refine ⟨en, garden_whole (signs_isG b a), fun s t hs ht => ?_, eg⟩
  rw [eg]
  exact Gt.mended_conn W hs ht
theorem make_told {g l : List Nat} (hb : ∀ n ∈ g, n < 256) (h : ¬ 1024 < g.length) (hG : isG g = true) (hn : 2 ≤ nOf g) (hl : goodL (mendN g) l) :
    isPW (mendN g) l = true ∧ PyWqbacr.make (g.map fun (n : Nat) => (n : Int)) = 0 :: (drawOn 46 65 66 (widOf (mendN g)) (mendN g) l).map fun (n : Nat) => (n : Int) := by
  obtain ⟨a, b, c, d, e⟩ := mend_ok hb hG
  obtain ⟨en, WM, cM, eg⟩ := mend_parts hb hG
  have X := signs_isG hb hG
  have W := garden_whole X
  have F := Gt.mended_forest W
  rw [← eg] at F
  have hsq : (gardenAt (bytes (mendN g)) (widOf (mendN g)) (higOf (mendN g) (widOf (mendN g)))).squares = nOf g := en
  have hp := longest_pos (D := gardenAt (bytes (mendN g)) (widOf (mendN g)) (higOf (mendN g) (widOf (mendN g)))) WM.wlo (by rw [hsq]; exact hn) fun t ht => cM 0 t (by omega) (by rw [hsq] at ht; exact ht)
  obtain ⟨ey, rt⟩ := way_longest WM F hl hp
  have hP := right_pw b a rt
  refine ⟨hP, ?_⟩
  have hr := read_of (signs_iff.mpr X)
  rw [make_ans, make_eq, bytes_len, if_neg h, hr]
  have e2 : ¬ (gardenAt (bytes g) (widOf g) (higOf g (widOf g))).squares < 2 := by
    show ¬ nOf g < 2
    omega
  have e3 : (gardenAt (bytes g) (widOf g) (higOf g (widOf g))).made = ⟨gardenAt (bytes (mendN g)) (widOf (mendN g)) (higOf (mendN g) (widOf (mendN g))), l⟩ := by
    unfold Garden.made
    rw [← eg, ey]
  show (if (gardenAt (bytes g) (widOf g) (higOf g (widOf g))).squares < 2 then says (-5) else tells (nat8 (gardenAt (bytes g) (widOf g) (higOf g (widOf g))).made.drawn)).code :: (if (gardenAt (bytes g) (widOf g) (higOf g (widOf g))).squares < 2 then says (-5) else tells (nat8 (gardenAt (bytes g) (widOf g) (higOf g (widOf g))).made.drawn)).nums.map _ = _
  rw [if_neg e2, e3]
  show (0 : Int) :: (nat8 (Plan.drawn ⟨_, l⟩)).map _ = _
  rw [(pw_drawn b a hP).2]
end Gn

end
section
set_option linter.all false
set_option maxHeartbeats 2000000
set_option maxRecDepth 100000
set_option maxHeartbeats 2000000
set_option linter.all false
set_option Elab.async false
namespace Gp
open PySem PySem.Spec PyProof.Rows L2
/-! ### a def of the text: its object, how its arguments bind, its name -/
structure Own (K : PySem.W.Frag) (mg : Str → Option Value) (x : Str) (st : Stmt) (ps : List Str) (f : Addr) (fd : FuncData) : Prop where
  F : Fun K x x st f fd
  b : Binds K fd ps []
  m : mg x = some (.ref f)
theorem own_mk {K : PySem.W.Frag} {h : Heap} {mg : Str → Option Value} {x : Str} {st : Stmt} {ps : List Str} {f : Addr} {oc : Value} {od an : Option Addr} {osl : Array (Option Value)} {kV doc pm cdv ct : Value} (X : K.In h) (G : h.Ns mainGlobals mg)
    (a : PySem.W.nsIn K mainGlobals x = some (some (.ref f))) (l : K.lookup f = some ⟨oc, od, .func (PySem.W.fnOf x x (defArgs st) (defBody st) (defScope st) .none kV doc pm an cdv ct), osl⟩)
    (c : PySem.W.codeIn K cdv x = true) (k : PySem.W.keepIn K (.ref f) = true)
    (hb : ∀ (kV doc pm : Value) (an : Option Addr) (cdv ct : Value) (us : List Value), us.length = ps.length → bindArgs (PySem.W.fnOf x x (defArgs st) (defBody st) (defScope st) .none kV doc pm an cdv ct) ⟨us, []⟩ = pure (ps.zip us)) :
    Own K mg x st ps f (PySem.W.fnOf x x (defArgs st) (defBody st) (defScope st) .none kV doc pm an cdv ct) :=
  ⟨fun_mk l c k, (fun_mk l c k).binds hb, PySem.W.mg_of X G a⟩
theorem pgI {X : Cx} {x : Str} {n : Int} {pos : Pos} (h : ∃ tk, X.mg x = some (.int n tk)) (hg : Gl X x) (hd : (x == ("__debug__" : Str)) = false := by decide) : PE X (.Name x pos) (tC (.int n)) := by
  obtain ⟨tk, h⟩ := h
  exact pe_glob hg h ⟨tk, rfl⟩ hd
theorem pcall {X : Cx} {k : Nat} {x : Str} {st : Stmt} {ps : List Str} {f : Addr} {fd : FuncData} {sp : Sp} {p pos : Pos} {e : Expr} {es : List Expr} {t : TA} (O : Own X.K X.mg x st ps f fd) (G : FnOk X.prog X.w X.K X.mg X.base CX0 k f fd ps sp)
    (hr : Room k X.A) (hg : Gl X x) (ha : PA X (e :: es) t) (hdb : (x == ("__debug__" : Str)) = false := by decide) (he : starEach (e :: es) X.env = (false, eval e X.env) :: starEach es X.env := by rfl) (hpl : (backTo pos (starEach es X.env)).any (·.1) = false := by rfl) :
    PE X (.Call (.Name x p) (e :: es) [] pos) (tCall sp [] E0 t) := pe_call G hr hg O.m O.F.kp O.b .nil pass0 ha hdb he hpl
def natV (n : Nat) : V := V.int (n : Int)
def natL (l : List Nat) : List V := l.map natV
/-! ### lists of pairs, lists of lists -/
open Gm Gn
def prV (e : Nat × Nat) : List V := [V.int (e.1 : Int), V.int (e.2 : Int)]
def Sides (K : PySem.W.Frag) (H : Hp) (p : Addr) (E : List (Nat × Nat)) : Prop :=
  ∃ rs : List Addr, H p = some (.lst (rs.map V.ref)) ∧ rs.length = E.length ∧ ∀ (i : Nat) (r : Addr) (e : Nat × Nat), rs[i]? = some r → E[i]? = some e → H r = some (.tup (prV e))
def Nest (H : Hp) (p : Addr) (L : List (List Nat)) : Prop :=
  ∃ rs : List Addr, H p = some (.lst (rs.map V.ref)) ∧ rs.length = L.length ∧ ∀ (i : Nat) (r : Addr) (l : List Nat), rs[i]? = some r → L[i]? = some l → H r = some (.lst (natL l))
/-- a drawing whose size is known -/
def Sz (g : List Nat) : Prop := widOf g ≠ 0 ∧ higOf g (widOf g) ≠ 0
def optV : Option Nat → V
  | none => .non
  | some p => .int (p : Int)
inductive GRef (g : List Nat) : List Int → Prop
  | long : 1024 < g.length → GRef g [-2]
  | bad : ¬ 1024 < g.length → isG g = false → GRef g [-6]
  | ok : ¬ 1024 < g.length → isG g = true → GRef g []
inductive PRef (g : List Nat) : List Int → Prop
  | no {r : List Int} : PlanN g r → PRef g r
  | ok : ¬ 1024 < g.length → FaultN g none → wayOn g ≠ [] → PRef g []
def stepN (g : List Nat) (w s u : Nat) : Bool := decide (apart w s u = 1) && g.getD (sideOf w s u) 0 == 32
/-! ### what each def promises -/
def sp_squares_along : Sp := fun vs H Q _ => ∃ s : Nat, vs = [.int s] ∧ Q (.int (sqAlong s : Nat)) H
def sp_line_length : Sp := fun vs H Q _ => ∃ w : Nat, vs = [.int w] ∧ Q (.int ((2 * w + 2 : Nat) : Int)) H
def sp_wide_of (K : PySem.W.Frag) : Sp := fun vs H Q _ => ∃ (a : Addr) (g : List Nat), vs = [.ref a] ∧ SqL K H a (natL g) ∧ Q (.int (widOf g : Nat)) H
def sp_high_of (K : PySem.W.Frag) : Sp := fun vs H Q _ => ∃ (a : Addr) (g : List Nat) (w : Nat), vs = [.ref a, .int w] ∧ w ≤ 10 ∧ SqL K H a (natL g) ∧ Q (.int (higOf g w : Nat)) H
def sp_squares_of (K : PySem.W.Frag) : Sp := fun vs H Q _ => ∃ (a : Addr) (g : List Nat), vs = [.ref a] ∧ SqL K H a (natL g) ∧ Q (.int (nOf g : Nat)) H
def sp_place_of : Sp := fun vs H Q _ => ∃ s w : Nat, vs = [.int s, .int w] ∧ (1 ≤ w ∧ w ≤ 10) ∧ Q (.int (placeOf w s : Nat)) H
def sp_side_between : Sp := fun vs H Q _ => ∃ s u w : Nat, vs = [.int s, .int u, .int w] ∧ (1 ≤ w ∧ w ≤ 10) ∧ Q (.int (sideOf w s u : Nat)) H
def sp_inner_sides (K : PySem.W.Frag) : Sp := fun vs H Q _ => ∃ (a : Addr) (g : List Nat), vs = [.ref a] ∧ SqL K H a (natL g) ∧ Sz g ∧ ∀ (H' : Hp) (p : Addr), Same H H' → Sides K H' p (innerS (widOf g) (nOf g)) → Q (.ref p) H'
def sp_sides_with (K : PySem.W.Frag) : Sp := fun vs H Q _ => ∃ (a : Addr) (g : List Nat) (n : Nat), vs = [.ref a, .int n] ∧ SqL K H a (natL g) ∧ Sz g ∧ ∀ (H' : Hp) (p : Addr), Same H H' → Sides K H' p (sidesW g (widOf g) (nOf g) n) → Q (.ref p) H'
def sp_beyond_sides (K : PySem.W.Frag) : Sp := fun vs H Q _ => ∃ (a : Addr) (E : List (Nat × Nat)) (n : Nat), vs = [.ref a, .int n] ∧ Sides K H a E ∧ n ≤ 100 ∧ E.length ≤ 1000 ∧ (∀ e ∈ E, e.1 < n ∧ e.2 < n ∧ e.1 ≠ e.2) ∧
  ∀ (H' : Hp) (p : Addr), Same H H' → Nest H' p ((List.range n).map (adj E)) → Q (.ref p) H'
def sp_first_line_signs : Sp := fun vs H Q _ => ∃ j : Nat, vs = [.int j] ∧ ∀ (H' : Hp) (p : Addr), Same H H' → H' p = some (.tup (natL (first0 j))) → Q (.ref p) H'
def sp_later_line_signs : Sp := fun vs H Q _ => ∃ i j w : Nat, vs = [.int i, .int j, .int w] ∧ ∀ (H' : Hp) (p : Addr), Same H H' → H' p = some (.tup (natL (later i j w))) → Q (.ref p) H'
def sp_signs_at : Sp := fun vs H Q _ => ∃ p w : Nat, vs = [.int p, .int w] ∧ w ≤ 10 ∧ ∀ (H' : Hp) (q : Addr), Same H H' → H' q = some (.tup (natL (sgnsAt p w))) → Q (.ref q) H'
def sp_may_end (K : PySem.W.Frag) : Sp := fun vs H Q _ => ∃ (a : Addr) (g : List Nat) (w : Nat), vs = [.ref a, .int w] ∧ w ≤ 10 ∧ SqL K H a (natL g) ∧ ∀ H' : Hp, Same H H' → Q (.bl (mayEnd g w)) H'
def sp_fault_of (K : PySem.W.Frag) : Sp := fun vs H Q _ => ∃ (a : Addr) (g : List Nat), vs = [.ref a] ∧ SqL K H a (natL g) ∧ ∀ (H' : Hp) (r : Option Nat), Same H H' → FaultN g r → Q (optV r) H'
def sp_is_way_sign : Sp := fun vs H Q _ => ∃ n : Nat, vs = [.int n] ∧ ∀ H' : Hp, Same H H' → Q (.bl (isWS n)) H'
def sp_is_garden (K : PySem.W.Frag) : Sp := fun vs H Q _ => ∃ (a : Addr) (g : List Nat), vs = [.ref a] ∧ SqL K H a (natL g) ∧ (∀ n ∈ g, n < 256) ∧ g.length ≤ 1024 ∧ ∀ H' : Hp, Same H H' → Q (.bl (isG g)) H'
def sp_plan_drawing (K : PySem.W.Frag) : Sp := fun vs H Q _ => ∃ (a b : Addr) (g l : List Nat), vs = [.ref a, .ref b] ∧ SqL K H a (natL g) ∧ SqL K H b (natL l) ∧ (∀ n ∈ g, n < 256) ∧ l.length ≤ 30000 ∧ isG g = true ∧ isPW g l = true ∧
  ∀ (H' : Hp) (p : Addr), Same H H' → H' p = some (.lst (natL (drawOn 46 65 66 (widOf g) g l))) → Q (.ref p) H'
def sp_garden_on (K : PySem.W.Frag) : Sp := fun vs H Q _ => ∃ (a : Addr) (g : List Nat), vs = [.ref a] ∧ SqL K H a (natL g) ∧ g.length ≤ 1024 ∧ ∀ (H' : Hp) (p : Addr), Same H H' → H' p = some (.lst (natL (blankN g))) → Q (.ref p) H'
def sp_walk_from_beginning (K : PySem.W.Frag) : Sp := fun vs H Q _ => ∃ (a : Addr) (g : List Nat), vs = [.ref a] ∧ SqL K H a (natL g) ∧ Sz g ∧ ∀ (H' : Hp) (p : Addr), Same H H' → H' p = some (.lst (natL (walkN g))) → Q (.ref p) H'
def sp_way_on (K : PySem.W.Frag) : Sp := fun vs H Q _ => ∃ (a : Addr) (g : List Nat), vs = [.ref a] ∧ SqL K H a (natL g) ∧ (∀ n ∈ g, n < 256) ∧ g.length ≤ 1024 ∧ FaultN g none ∧ ∀ (H' : Hp) (p : Addr), Same H H' → H' p = some (.lst (natL (wayOn g))) → Q (.ref p) H'
def sp_all_once (K : PySem.W.Frag) : Sp := fun vs H Q _ => ∃ (a : Addr) (l : List Nat) (n : Nat), vs = [.ref a, .int n] ∧ SqL K H a (natL l) ∧ l.length ≤ 30000 ∧ ∀ H' : Hp, Same H H' → Q (.bl (decide ((∀ s ∈ l, s < n) ∧ l.Nodup))) H'
def sp_beyond_passages (K : PySem.W.Frag) : Sp := fun vs H Q _ => ∃ (a : Addr) (g : List Nat), vs = [.ref a] ∧ SqL K H a (natL g) ∧ Sz g ∧ ∀ (H' : Hp) (p : Addr), Same H H' → Nest H' p ((List.range (nOf g)).map (adj (sidesW g (widOf g) (nOf g) 32))) → Q (.ref p) H'
def sp_is_plan_way (K : PySem.W.Frag) : Sp := fun vs H Q _ => ∃ (a b : Addr) (g l : List Nat), vs = [.ref a, .ref b] ∧ SqL K H a (natL g) ∧ SqL K H b (natL l) ∧ (∀ n ∈ g, n < 256) ∧ l.length ≤ 30000 ∧ isG g = true ∧ ∀ H' : Hp, Same H H' → Q (.bl (isPW g l)) H'
def sp_garden_refusal (K : PySem.W.Frag) : Sp := fun vs H Q _ => ∃ (a : Addr) (g : List Nat), vs = [.ref a] ∧ SqL K H a (natL g) ∧ (∀ n ∈ g, n < 256) ∧ ∀ (H' : Hp) (p : Addr) (r : List Int), Same H H' → H' p = some (.lst (r.map V.int)) → GRef g r → Q (.ref p) H'
def sp_plan_refusal (K : PySem.W.Frag) : Sp := fun vs H Q _ => ∃ (a : Addr) (g : List Nat), vs = [.ref a] ∧ SqL K H a (natL g) ∧ (∀ n ∈ g, n < 256) ∧ ∀ (H' : Hp) (p : Addr) (r : List Int), Same H H' → H' p = some (.lst (r.map V.int)) → PRef g r → Q (.ref p) H'
def sp_print_of (K : PySem.W.Frag) : Sp := fun vs H Q _ => ∃ (a b : Addr) (g l : List Nat), vs = [.ref a, .ref b] ∧ SqL K H a (natL g) ∧ SqL K H b (natL l) ∧ (∀ n ∈ g, n < 256) ∧ l.length ≤ 30000 ∧
  ∀ (H' : Hp) (p : Addr), H' p = some (.lst ((printM g l).map V.int)) → Q (.ref p) H'
def sp_garden (K : PySem.W.Frag) : Sp := fun vs H Q _ => ∃ (a : Addr) (g : List Nat), vs = [.ref a] ∧ SqL K H a (natL g) ∧ (∀ n ∈ g, n < 256) ∧ ∀ (H' : Hp) (p : Addr), H' p = some (.lst ((PyWqbacr.garden (g.map fun (n : Nat) => (n : Int))).map V.int)) → Q (.ref p) H'
def sp_way (K : PySem.W.Frag) : Sp := fun vs H Q _ => ∃ (a : Addr) (g : List Nat), vs = [.ref a] ∧ SqL K H a (natL g) ∧ (∀ n ∈ g, n < 256) ∧ ∀ (H' : Hp) (p : Addr), H' p = some (.lst ((PyWqbacr.way (g.map fun (n : Nat) => (n : Int))).map V.int)) → Q (.ref p) H'
/-- a dict of squares and lists -/
def dkv (ks : List (Nat × Addr)) : List (Key × V) := ks.map fun (x : Nat × Addr) => ((Sum.inl (x.1 : Int) : Key), V.ref x.2)
structure DictP (H : Hp) (p : Addr) (ks : List (Nat × Addr)) (f : Nat → Option (List Nat)) : Prop where
  at_ : H p = some (.dK (dkv ks))
  nd : (ks.map fun x => x.1).Nodup
  no : ∀ t, f t = none → ¬ t ∈ ks.map fun x => x.1
  yes : ∀ t l, f t = some l → ∃ a, (t, a) ∈ ks ∧ H a = some (.lst (natL l))
def sp_joined (K : PySem.W.Frag) : Sp := fun vs H Q _ => ∃ (a r : Addr) (m : List Nat) (e : Nat × Nat), vs = [.ref a, .ref r] ∧ SqL K H a (natL m) ∧ H r = some (.tup (prV e)) ∧ e.1 < m.length ∧ e.2 < m.length ∧ m.length ≤ 1000 ∧ ∀ (H' : Hp) (p : Addr), Same H H' → H' p = some (.lst (natL (joinR m e))) → Q (.ref p) H'
def sp_rooms_by (K : PySem.W.Frag) : Sp := fun vs H Q _ => ∃ (a : Addr) (E : List (Nat × Nat)) (n : Nat), vs = [.ref a, .int n] ∧ Sides K H a E ∧ n ≤ 100 ∧ (∀ e ∈ E, e.1 < n ∧ e.2 < n) ∧ ∀ (H' : Hp) (p : Addr), Same H H' → H' p = some (.lst (natL (roomsN E n))) → Q (.ref p) H'
def sp_is_perfect (K : PySem.W.Frag) : Sp := fun vs H Q _ => ∃ (a : Addr) (g : List Nat), vs = [.ref a] ∧ SqL K H a (natL g) ∧ Sz g ∧ ∀ H' : Hp, Same H H' → Q (.bl (isPerf g)) H'
def sp_shortest_ways (_ : PySem.W.Frag) : Sp := fun vs H Q _ => ∃ (B : Addr) (n b : Nat) (A : Nat → List Nat) (D : Maze.Garden), vs = [.ref B, .int b] ∧ Nest H B ((List.range n).map A) ∧ D.squares = n ∧ n ≤ 100 ∧ 1 ≤ D.wide ∧ (∀ s, s < n → ∀ u, u ∈ A s ↔ u ∈ D.outs s) ∧ b < n ∧
  ∀ (H' : Hp) (p : Addr) (ks : List (Nat × Addr)) (f : Nat → Option (List Nat)), Same H H' → DictP H' p ks f → (∀ t m, Gt.Dist D b m t → ∃ q, f t = some q ∧ BP D b m t q) → Q (.ref p) H'
def sp_is_shortest (K : PySem.W.Frag) : Sp := fun vs H Q _ => ∃ (a b : Addr) (g l : List Nat), vs = [.ref a, .ref b] ∧ SqL K H a (natL g) ∧ SqL K H b (natL l) ∧ (∀ n ∈ g, n < 256) ∧ isG g = true ∧ isPW g l = true ∧ ∀ H' : Hp, Same H H' → Q (.bl (Maze.Plan.shortest ⟨gardenAt (bytes g) (widOf g) (higOf g (widOf g)), l⟩)) H'
def sp_is_only (K : PySem.W.Frag) : Sp := fun vs H Q _ => ∃ (a b : Addr) (g l : List Nat), vs = [.ref a, .ref b] ∧ SqL K H a (natL g) ∧ SqL K H b (natL l) ∧ Sz g ∧ (∀ s ∈ l, s < nOf g) ∧ l.length ≤ 1000 ∧ ∀ H' : Hp, Same H H' → Q (.bl (isOnlyN g l)) H'
def sp_judge (K : PySem.W.Frag) : Sp := fun vs H Q _ => ∃ (a : Addr) (g : List Nat), vs = [.ref a] ∧ SqL K H a (natL g) ∧ (∀ n ∈ g, n < 256) ∧ ∀ (H' : Hp) (p : Addr), H' p = some (.lst ((PyWqbacr.judge (g.map fun (n : Nat) => (n : Int))).map V.int)) → Q (.ref p) H'
def sp_garden_drawing (K : PySem.W.Frag) : Sp := fun vs H Q _ => ∃ (a b : Addr) (g : List Nat) (E : List (Nat × Nat)), vs = [.ref a, .ref b] ∧ SqL K H a (natL g) ∧ Sides K H b E ∧ Sz g ∧ ∀ (H' : Hp) (p : Addr), Same H H' → H' p = some (.lst (natL (drawG g (widOf g) (nOf g) E))) → Q (.ref p) H'
def sp_sides_that_join (K : PySem.W.Frag) : Sp := fun vs H Q _ => ∃ (a : Addr) (E : List (Nat × Nat)) (n : Nat), vs = [.ref a, .int n] ∧ Sides K H a E ∧ 1 ≤ n ∧ n ≤ 100 ∧ E.length ≤ 1000 ∧ (∀ e ∈ E, e.1 < n ∧ e.2 < n) ∧ ∀ (H' : Hp) (p : Addr), Same H H' → Sides K H' p (kruN E n) → Q (.ref p) H'
def sp_mended (K : PySem.W.Frag) : Sp := fun vs H Q _ => ∃ (a : Addr) (g : List Nat), vs = [.ref a] ∧ SqL K H a (natL g) ∧ Sz g ∧ ∀ (H' : Hp) (p : Addr), Same H H' → H' p = some (.lst (natL (mendN g))) → Q (.ref p) H'
def sp_longest_way (K : PySem.W.Frag) : Sp := fun vs H Q _ => ∃ (a : Addr) (g : List Nat), vs = [.ref a] ∧ SqL K H a (natL g) ∧ (∀ n ∈ g, n < 256) ∧ isG g = true ∧ (∀ s t, s < nOf g → t < nOf g → Gt.Conn (gardenAt (bytes g) (widOf g) (higOf g (widOf g))) s t) ∧
  ∀ (H' : Hp) (p : Addr) (l : List Nat), Same H H' → H' p = some (.lst (natL l)) → goodL g l → Q (.ref p) H'
def sp_make (K : PySem.W.Frag) : Sp := fun vs H Q _ => ∃ (a : Addr) (g : List Nat), vs = [.ref a] ∧ SqL K H a (natL g) ∧ (∀ n ∈ g, n < 256) ∧ ∀ (H' : Hp) (p : Addr), H' p = some (.lst ((PyWqbacr.make (g.map fun (n : Nat) => (n : Int))).map V.int)) → Q (.ref p) H'
section
variable {P : Program} {w : World} {K : PySem.W.Frag} {mg : Str → Option Value} {base : Heap}
/-! ### small things -/
theorem boot_any : bootBuiltins "any" = some (.builtin "any") := by decide +kernel
theorem boot_set : bootBuiltins "set" = some (.type "set") := by decide +kernel
theorem Same.new {H H1 : Hp} (s : Same H H1) {p : Addr} (hp : H1 p = Option.none) (o : HO) : Same H (upd H1 p o) := fun b u e => by
  have e1 := s b u e
  rw [upd_ne (ne_of_none e1 hp)]
  exact e1
theorem natL_len (l : List Nat) : (natL l).length = l.length := List.length_map _
theorem natL_at {l : List Nat} {i n : Nat} (h : l[i]? = some n) : (natL l)[i]? = some (V.int (n : Int)) := by
  unfold natL
  rw [List.getElem?_map, h]
  all_goals rfl
theorem of_natL_at {l : List Nat} {i : Nat} {x : V} (h : (natL l)[i]? = some x) : ∃ n, l[i]? = some n ∧ x = V.int (n : Int) := by
  unfold natL at h
  rw [List.getElem?_map] at h
  cases e : l[i]? with
  | none =>
    rw [e] at h
    cases h
  | some n =>
    rw [e] at h
    exact ⟨n, rfl, (Option.some.inj h).symm⟩
theorem natL_flat (l : List Nat) : (natL l).all flatV = true := by
  unfold natL
  rw [List.all_map, List.all_eq_true]
  intro n _
  rfl
theorem inV_nat (n : Nat) (l : List Nat) : inV (V.int (n : Int)) (natL l) = decide (n ∈ l) := by
  unfold inV natL
  rw [List.any_map, Bool.eq_iff_iff, List.any_eq_true, decide_eq_true_eq]
  constructor
  · rintro ⟨m, hm, e⟩
    have e' : ((m : Int) == (n : Int)) = true := e
    rw [beq_iff_eq] at e'
    have e2 : m = n := by omega
    rw [← e2]
    exact hm
  · intro h
    exact ⟨n, h, show ((n : Int) == (n : Int)) = true from beq_self_eq_true _⟩
theorem for_enum {K : PySem.W.Frag} {a : Addr} {xs : List V} {g : TG} {tb : TS} {D : Ends} {σ : L2.St} {H : Hp} (Pv : Nat → L2.St → Hp → Prop) (h0 : Pv 0 σ H) (hl : ∀ i σ H, i ≤ xs.length → Pv i σ H → SqL K H a xs)
    (hs : ∀ i x T σ H, xs[i]? = some x → Pv i σ H → H T = Option.none → g (.ref T) σ (upd H T (.tup [.int (i : Nat), x])) fun σ2 H2 => tb { D with nx := Pv (i + 1), ct := Pv (i + 1), bk := D.nx } σ2 H2) (hd : ∀ σ H, Pv xs.length σ H → D.nx σ H) :
    ∃ W : Nat → Nat → L2.St → Hp → Prop, (∃ m, W 0 m σ H) ∧ ∀ i m σ H, W i m σ H →
      ((Ite K a).stop i H ∧ D.nx σ H) ∨ ((Ite K a).go i H ∧ ∃ N : L2.St → Hp → Prop, (∀ σ' H', N σ' H' → ∃ m', m' < m ∧ W (i + 1) m' σ' H') ∧ ∀ x H', (Ite K a).yld i H x H' → g x σ H' fun σ2 H2 => tb { D with nx := N, ct := N, bk := D.nx } σ2 H2) := by
  refine ⟨fun i m σ H => m = xs.length - i ∧ i ≤ xs.length ∧ Pv i σ H, ⟨xs.length, by simp, Nat.zero_le _, h0⟩, ?_⟩
  rintro i m σ H ⟨rfl, hi, p⟩
  have q := hl i σ H hi p
  by_cases hlt : i < xs.length
  · refine .inr ⟨⟨xs, xs[i], q, by simp [hlt]⟩, Pv (i + 1), fun σ' H' p' => ⟨xs.length - (i + 1), by omega, rfl, hlt, p'⟩, fun x H' y => ?_⟩
    obtain ⟨T, x', e1, e2, e3, y⟩ := y
    subst e1 e3
    exact hs i x' T σ _ (y xs q) p e2
  · have e : i = xs.length := by omega
    subst e
    exact .inl ⟨⟨xs, q, Nat.le_refl _⟩, hd σ H p⟩
theorem dec_true {p : Prop} {b : Bool} [Decidable p] (h : p ↔ b = true) : decide p = b := by
  cases b with
  | true => exact decide_eq_true (h.mpr rfl)
  | false => exact decide_eq_false fun z => Bool.false_ne_true (h.mp z)

theorem eq_test {i j : Int} : (decide (V.int i = V.int j) = true) ↔ i = j := by simp
theorem ne_test {i j : Int} : ((!decide (V.int i = V.int j)) = true) ↔ i ≠ j := by simp
theorem ifT {c A B : Prop} [Decidable c] (h : c) (a : A) : if c then A else B := by
  rw [if_pos h]
  exact a
theorem ifF {c A B : Prop} [Decidable c] (h : ¬ c) (b : B) : if c then A else B := by
  rw [if_neg h]
  exact b
theorem in_two (i m : Nat) : inV (V.int (i : Int)) [V.int 0, V.int (2 * (m : Int))] = true ↔ i = 0 ∨ i = 2 * m := by
  have e : inV (V.int (i : Int)) [V.int 0, V.int (2 * (m : Int))] = (((0 : Int) == (i : Int)) || (((2 * (m : Int)) == (i : Int)) || false)) := rfl
  rw [e]
  simp only [Bool.or_eq_true, beq_iff_eq, Bool.or_false]
  omega
theorem wid_le (g : List Nat) : widOf g ≤ 10 := by
  unfold widOf
  split
  · unfold sqAlong
    split <;> omega
  · exact Nat.zero_le _
theorem nodup_take {l : List Nat} (i : Nat) (h : l.Nodup) : (l.take i).Nodup := List.Pairwise.sublist (List.take_sublist i l) h
theorem take_snoc {α : Type} {l : List α} {i : Nat} {x : α} (h : l[i]? = some x) : l.take (i + 1) = l.take i ++ [x] := by
  rw [List.take_add_one, h]
  rfl
/-- the squares met so far, as the dict's pairs -/
def metOf (l : List Nat) : List (Key × V) := l.map fun (s : Nat) => ((Sum.inl (s : Int) : Key), V.bl true)
theorem metOf_not {l : List Nat} {s : Nat} (h : ¬ s ∈ l) : valV (metOf l) (Sum.inl (s : Int) : Key) = Option.none := by
  cases e : valV (metOf l) (Sum.inl (s : Int) : Key) with
  | none => rfl
  | some v =>
    have q := valV_in e
    unfold metOf at q
    rw [List.map_map] at q
    obtain ⟨u, hu, e2⟩ := List.mem_map.mp q
    have e3 : (Sum.inl (u : Int) : Key) = Sum.inl (s : Int) := e2
    injection e3 with e3
    have e4 : u = s := by omega
    rw [e4] at hu
    exact absurd hu h
theorem metOf_in {l : List Nat} {s : Nat} (h : s ∈ l) : ∃ v, valV (metOf l) (Sum.inl (s : Int) : Key) = some v := by
  cases e : valV (metOf l) (Sum.inl (s : Int) : Key) with
  | none =>
    have q := valV_not e
    exact absurd (by unfold metOf; rw [List.map_map]; exact List.mem_map.mpr ⟨s, h, rfl⟩) q
  | some v => exact ⟨v, rfl⟩
theorem metOf_snoc {l : List Nat} {s : Nat} (h : ¬ s ∈ l) : putK (metOf l) (Sum.inl (s : Int) : Key) (V.bl true) = metOf (l ++ [s]) := by
  rw [putK_new _ (metOf_not h)]
  unfold metOf
  rw [List.map_append]
  rfl
theorem side_lt {n m s u : Nat} (hn : 1 ≤ n) (hs : s < n * m) (hu : u < n * m) (h : apart n s u = 1) : sideOf n s u < (2 * m + 1) * (2 * n + 2) := by
  rcases side_form hn hs hu h with ⟨x, y, hx, hy, e, _⟩ | ⟨x, y, hx, hy, e, _⟩
  · rw [e]
    exact place_lt (by omega) (by omega)
  · rw [e]
    exact place_lt (by omega) (by omega)
theorem placeOf_lt {n m s : Nat} (hn : 1 ≤ n) (hs : s < n * m) : placeOf n s < (2 * m + 1) * (2 * n + 2) := by
  obtain ⟨hx, hy, _⟩ := sq_parts hn hs
  unfold Gm.placeOf
  exact place_lt (by omega) (by omega)
theorem isPW_iff {g l : List Nat} (hb : ∀ n ∈ g, n < 256) : isPW g l = true ↔ 2 ≤ l.length ∧ ((∀ s ∈ l, s < widOf g * higOf g (widOf g)) ∧ l.Nodup) ∧ ∀ p ∈ stepsOf l, stepN g (widOf g) p.1 p.2 = true := by
  unfold isPW
  simp only [Bool.and_eq_true, decide_eq_true_eq]
  rw [stepsOk_iff]
  have e : (∀ p ∈ stepsOf l, apart (widOf g) p.1 p.2 = 1 ∧ at0 (bytes g) (sideOf (widOf g) p.1 p.2) = 32) ↔ ∀ p ∈ stepsOf l, stepN g (widOf g) p.1 p.2 = true := by
    have one : ∀ p : Nat × Nat, (apart (widOf g) p.1 p.2 = 1 ∧ at0 (bytes g) (sideOf (widOf g) p.1 p.2) = 32) ↔ stepN g (widOf g) p.1 p.2 = true := by
      intro p
      unfold stepN
      rw [Bool.and_eq_true, decide_eq_true_eq, beq_iff_eq, at_eq hb]
      rfl
    constructor
    · intro h p hp
      exact (one p).mp (h p hp)
    · intro h p hp
      exact (one p).mpr (h p hp)
  rw [e]
  constructor
  · rintro ⟨h1, h2, h3, h4⟩
    exact ⟨h1, ⟨h2, h3⟩, h4⟩
  · rintro ⟨h1, ⟨h2, h3⟩, h4⟩
    exact ⟨h1, h2, h3, h4⟩
theorem isG_len {g : List Nat} (hb : ∀ n ∈ g, n < 256) (h : isG g = true) : 1 ≤ widOf g ∧ widOf g ≤ 10 ∧ higOf g (widOf g) ≤ 10 ∧ g.length = (2 * higOf g (widOf g) + 1) * (2 * widOf g + 2) := by
  have X := signs_isG hb h
  refine ⟨X.wlo, X.whi, X.hhi, ?_⟩
  have e := X.len
  unfold bytes at e
  rw [List.length_map] at e
  exact e
theorem steps_at {l : List Nat} {i s u : Nat} (h1 : l[i]? = some s) (h2 : l[i + 1]? = some u) : (stepsOf l)[i]? = some (s, u) := by
  unfold stepsOf
  rw [List.getElem?_zip_eq_some, List.getElem?_tail]
  exact ⟨h1, h2⟩
theorem steps_len (l : List Nat) : (stepsOf l).length = l.length - 1 := by
  unfold stepsOf
  rw [List.length_zip, List.length_tail]
  omega
theorem ixN_nat {n j : Nat} (h : j < n) : ixN n (j : Int) = some j := by
  unfold ixN
  rw [if_pos (by omega), if_pos (by omega)]
  congr 1
theorem natL_set (l : List Nat) (j n : Nat) : (natL l).set j (V.int (n : Int)) = natL (l.set j n) := by
  unfold natL
  rw [List.map_set]
  rfl
theorem Same.set {H H1 : Hp} (s : Same H H1) {p : Addr} (hp : H p = Option.none) (o : HO) : Same H (upd H1 p o) := fun b u e => by
  rw [upd_ne (ne_of_none e hp)]
  exact s b u e
def dots (n : Nat) (g l : List Nat) : List Nat := l.foldl (fun d s => d.set (placeOf n s) 46) g
def lines (n : Nat) (g : List Nat) (ps : List (Nat × Nat)) : List Nat := ps.foldl (fun d p => d.set (sideOf n p.1 p.2) 46) g
theorem dots_len (n : Nat) (g l : List Nat) : (dots n g l).length = g.length := sets_len _ _ _ _
theorem lines_len (n : Nat) (g : List Nat) (ps : List (Nat × Nat)) : (lines n g ps).length = g.length := sets_len _ _ _ _
theorem byte_lt {z : Int} (h : 0 ≤ z ∧ z ≤ 255) : z.toNat < 256 := by omega
theorem nat_of : ∀ {l : List Int}, (∀ z ∈ l, 0 ≤ z) → (l.map Int.toNat).map (fun (n : Nat) => (n : Int)) = l
  | [], _ => rfl
  | z :: r, h => by
    rw [List.map_cons, List.map_cons, nat_of fun y hy => h y (List.mem_cons_of_mem _ hy)]
    have := h z (List.mem_cons_self ..)
    congr 1
    omega
theorem natL_cast (l : List Nat) : natL l = (l.map fun (n : Nat) => (n : Int)).map V.int := by
  unfold natL natV
  rw [List.map_map]
  rfl
/-! ### data of ints -/
def natD (l : List Nat) : PyData := .list (l.map fun (n : Nat) => PyData.int (n : Int))
theorem natD_all {H : Hp} : ∀ l : List Nat, DpAll K H (natL l) (l.map fun (n : Nat) => PyData.int (n : Int))
  | [] => .nil
  | n :: l => .cons (.int _) (natD_all l)
theorem natD_dp {H : Hp} {a : Addr} {l : List Nat} (h : SqL K H a (natL l)) : Dp K H (.ref a) (natD l) := .lst h (natD_all l)
theorem natD_lay : ∀ l : List Nat, PyData.canLayAll0 (l.map fun (n : Nat) => PyData.int (n : Int)) = true
  | [] => by rw [List.map_nil, PyData.canLayAll0]
  | n :: l => by rw [List.map_cons, PyData.canLayAll0, natD_lay l, PyData.canLay0]; rfl
theorem natD_depth : ∀ l : List Nat, PyData.depthAll (l.map fun (n : Nat) => PyData.int (n : Int)) ≤ 1
  | [] => by rw [List.map_nil, PyData.depthAll]; decide
  | n :: l => by
    rw [List.map_cons, PyData.depthAll]
    have := natD_depth l
    have e : PyData.depth (.int (n : Int)) ≤ 1 := by rw [PyData.depth]; decide
    omega
theorem natD_shaped (l : List Nat) : SeqAt.shaped (natD l) = true := by
  unfold SeqAt.shaped natD
  rw [PyData.canLay0, natD_lay, PyData.depth, Bool.true_and, decide_eq_true_eq]
  have := natD_depth l
  omega
theorem natD_eqvAll : ∀ l k : List Nat, PyData.eqvAll (l.map fun (n : Nat) => PyData.int (n : Int)) (k.map fun (n : Nat) => PyData.int (n : Int)) = decide (l = k)
  | [], [] => by rw [List.map_nil, PyData.eqvAll]; rfl
  | [], m :: k => by rw [List.map_nil, List.map_cons, PyData.eqvAll]; rfl
  | n :: l, [] => by rw [List.map_nil, List.map_cons, PyData.eqvAll]; rfl
  | n :: l, m :: k => by
    rw [List.map_cons, List.map_cons, PyData.eqvAll, natD_eqvAll l k, PyData.eqv, Bool.eq_iff_iff]
    simp only [Bool.and_eq_true, beq_iff_eq, decide_eq_true_eq, List.cons.injEq]
    have e : ((n : Int) = (m : Int)) ↔ n = m := by omega
    rw [e]
theorem natD_eqv (l k : List Nat) : PyData.eqv (natD l) (natD k) = decide (l = k) := by
  unfold natD
  rw [PyData.eqv]
  exact natD_eqvAll l k
theorem cut_nat (l : List Nat) (lo hi : Option Int) : cutV (natL l) lo hi = natL ((l.drop (HT.sIx l.length 0 lo)).take (HT.sIx l.length l.length hi - HT.sIx l.length 0 lo)) := by
  unfold cutV natL
  rw [List.length_map, ← List.map_drop, ← List.map_take]
/-! ### lists of pairs, lists of lists -/
theorem Sides.same {H H' : Hp} {p : Addr} {E : List (Nat × Nat)} (s : Same H H') (h : Sides K H p E) : Sides K H' p E := by
  obtain ⟨rs, h1, h2, h3⟩ := h
  exact ⟨rs, s _ _ h1, h2, fun i r e a b => s _ _ (h3 i r e a b)⟩
theorem Nest.same {H H' : Hp} {p : Addr} {L : List (List Nat)} (s : Same H H') (h : Nest H p L) : Nest H' p L := by
  obtain ⟨rs, h1, h2, h3⟩ := h
  exact ⟨rs, s _ _ h1, h2, fun i r e a b => s _ _ (h3 i r e a b)⟩
/-- a list under way: D holds pairs, a pair is added that lies at r -/
theorem Sides.snoc {H : Hp} {D r : Addr} {E : List (Nat × Nat)} {e : Nat × Nat} {acc : List V} (h : Sides K H D E) (hd : H D = some (.lst acc)) (hr : H r = some (.tup (prV e))) : Sides K (upd H D (.lst (acc ++ [.ref r]))) D (E ++ [e]) := by
  obtain ⟨rs, h1, h2, h3⟩ := h
  rw [hd] at h1
  injection h1 with h1
  injection h1 with h1
  subst h1
  refine ⟨rs ++ [r], ?_, by rw [List.length_append, List.length_append, h2]; rfl, fun i r' e' a b => ?_⟩
  · rw [upd_same, List.map_append]
    rfl
  · have key : ∀ {q : Addr} {f : Nat × Nat}, H q = some (.tup (prV f)) → upd H D (.lst (rs.map V.ref ++ [.ref r])) q = some (.tup (prV f)) := fun {q f} hq => by
      rw [upd_ne (ne_of hq hd (by intro z; cases z))]
      exact hq
    by_cases c : i < rs.length
    · rw [List.getElem?_append_left c] at a
      rw [List.getElem?_append_left (by omega)] at b
      exact key (h3 i r' e' a b)
    · have hi : i < (rs ++ [r]).length := (List.getElem?_eq_some_iff.mp a).1
      rw [List.length_append, List.length_singleton] at hi
      have ei : i = rs.length := by omega
      rw [ei, List.getElem?_append_right (Nat.le_refl _), Nat.sub_self] at a
      rw [ei, h2, List.getElem?_append_right (Nat.le_refl _), Nat.sub_self] at b
      have a : r = r' := Option.some.inj a
      have b : e = e' := Option.some.inj b
      subst a b
      exact key hr
theorem Sides.nil {H : Hp} {D : Addr} (h : H D = some (.lst [])) : Sides K H D [] := ⟨[], h, rfl, fun i r e a => by rw [List.getElem?_nil] at a; cases a⟩
theorem Sides.cat {H : Hp} {D1 D2 p : Addr} {E1 E2 : List (Nat × Nat)} {xs ys : List V} (h1 : Sides K H D1 E1) (h2 : Sides K H D2 E2) (e1 : H D1 = some (.lst xs)) (e2 : H D2 = some (.lst ys)) (hp : H p = Option.none) : Sides K (upd H p (.lst (xs ++ ys))) p (E1 ++ E2) := by
  obtain ⟨rs, a1, a2, a3⟩ := h1
  obtain ⟨qs, b1, b2, b3⟩ := h2
  rw [e1] at a1
  rw [e2] at b1
  injection a1 with a1
  injection a1 with a1
  injection b1 with b1
  injection b1 with b1
  subst a1 b1
  refine ⟨rs ++ qs, by rw [upd_same, List.map_append], by rw [List.length_append, List.length_append, a2, b2], fun i r e a b => ?_⟩
  have key : ∀ {q : Addr} {f : Nat × Nat}, H q = some (.tup (prV f)) → upd H p (.lst (rs.map V.ref ++ qs.map V.ref)) q = some (.tup (prV f)) := fun {q f} hq => by
    rw [upd_ne (ne_of_none hq hp)]
    exact hq
  by_cases c : i < rs.length
  · rw [List.getElem?_append_left c] at a
    rw [List.getElem?_append_left (by omega)] at b
    exact key (a3 i r e a b)
  · rw [List.getElem?_append_right (by omega)] at a
    rw [List.getElem?_append_right (by omega), ← a2] at b
    exact key (b3 _ r e a b)
theorem Sides.get {H : Hp} {p : Addr} {E : List (Nat × Nat)} (h : Sides K H p E) : ∃ rs : List Addr, H p = some (.lst (rs.map V.ref)) ∧ rs.length = E.length ∧ ∀ (i : Nat) (x : V), (rs.map V.ref)[i]? = some x → ∃ (r : Addr) (e : Nat × Nat), x = V.ref r ∧ rs[i]? = some r ∧ E[i]? = some e ∧ H r = some (.tup (prV e)) := by
  obtain ⟨rs, h1, h2, h3⟩ := h
  refine ⟨rs, h1, h2, fun i x hx => ?_⟩
  rw [List.getElem?_map] at hx
  cases hr : rs[i]? with
  | none => rw [hr] at hx; cases hx
  | some r =>
    rw [hr] at hx
    have hi : i < rs.length := (List.getElem?_eq_some_iff.mp hr).1
    have he : E[i]? = some E[i] := List.getElem?_eq_getElem (by omega)
    exact ⟨r, E[i], (Option.some.inj hx).symm, rfl, he, h3 i r _ hr he⟩
theorem take_filter_snoc {α : Type} {E : List α} {i : Nat} {e : α} {f : α → Bool} (h : E[i]? = some e) : (E.take (i + 1)).filter f = (E.take i).filter f ++ if f e = true then [e] else [] := by
  rw [take_snoc h, List.filter_append]
  congr 1
  by_cases c : f e = true
  · rw [if_pos c, List.filter_cons_of_pos c]; rfl
  · rw [if_neg c, List.filter_cons_of_neg c]; rfl
theorem sz_of {g : List Nat} (h : Sz g) : (1 ≤ widOf g ∧ widOf g ≤ 10) ∧ (1 ≤ higOf g (widOf g) ∧ higOf g (widOf g) ≤ 10) ∧ g.length = (2 * higOf g (widOf g) + 1) * (2 * widOf g + 2) ∧ nOf g ≤ 100 ∧ widOf g ≤ nOf g := by
  obtain ⟨a, b, _⟩ := wid_pos h.1
  obtain ⟨c, d, e⟩ := hig_pos h.2
  refine ⟨⟨a, b⟩, ⟨c, d⟩, e, ?_, ?_⟩
  · exact Nat.mul_le_mul b d
  · unfold nOf
    exact Nat.le_mul_of_pos_right _ c
theorem sizeLine_big : sizeLine = 16777216 := by decide
theorem side_len {g : List Nat} (h : Sz g) {e : Nat × Nat} (he : e ∈ innerS (widOf g) (nOf g)) : sideOf (widOf g) e.1 e.2 < g.length ∧ e.1 < nOf g ∧ e.2 < nOf g ∧ e.1 ≠ e.2 := by
  obtain ⟨⟨w1, w2⟩, ⟨h1, h2⟩, hl, _⟩ := sz_of h
  obtain ⟨q, hq, rfl⟩ := (innerS_mem (D := ⟨widOf g, higOf g (widOf g), []⟩) w1).mp he
  obtain ⟨s1, s2, s3, _⟩ := Gt.side_squares (D := ⟨widOf g, higOf g (widOf g), []⟩) w1 hq
  refine ⟨?_, s1, s2, Nat.ne_of_lt s3⟩
  rw [hl]
  rcases side_cases (D := ⟨widOf g, higOf g (widOf g), []⟩) w1 hq with ⟨x, y, hx, hy, _, _, ep⟩ | ⟨x, y, hx, hy, _, _, ep⟩
  · have hx : x + 1 < widOf g := hx
    have hy : y < higOf g (widOf g) := hy
    exact Nat.le_trans (Nat.le_of_eq (congrArg Nat.succ ep)) (place_lt (by omega) (by omega))
  · have hx : x < widOf g := hx
    have hy : y + 1 < higOf g (widOf g) := hy
    exact Nat.le_trans (Nat.le_of_eq (congrArg Nat.succ ep)) (place_lt (by omega) (by omega))
theorem innerS_len (v n : Nat) (hn : n ≤ 100) : (innerS v n).length ≤ 200 := by
  unfold innerS
  rw [List.length_append, List.length_map, List.length_map, List.length_range]
  have := List.length_filter_le (fun s => decide (s % v < v - 1)) (List.range n)
  rw [List.length_range] at this
  omega
theorem sz_fault {g : List Nat} (hb : ∀ n ∈ g, n < 256) (F : FaultN g none) : Sz g := by
  have X := sheet_read hb F
  have := X.good.line0.lo
  have := X.lo
  exact ⟨by omega, by omega⟩
theorem sz_garden {g : List Nat} (hb : ∀ n ∈ g, n < 256) (h : isG g = true) : Sz g := sz_fault hb ((isG_iff hb).mp h).1
theorem yes_of {σ : L2.St} {H : Hp} {F G : Hp → Prop} (h : F H) : tYes σ H (fun b H3 => if b = true then F H3 else G H3) := by
  show if true = true then F H else G H
  rw [if_pos rfl]
  exact h
theorem ix_listK {X : Cx} {K : PySem.W.Frag} (h : X.K = K) : IxR X (rIxL K) := by
  subst h
  exact ix_list
theorem ix_tupK {X : Cx} {K : PySem.W.Frag} (h : X.K = K) : IxR X (rIxT K) := by
  subst h
  exact ix_tup
theorem op_inK {X : Cx} {K : PySem.W.Frag} (h : X.K = K) : OpR X (compareOp .In) (rIn K false) := by
  subst h
  exact op_in_seq
theorem op_notInK {X : Cx} {K : PySem.W.Frag} (h : X.K = K) : OpR X (compareOp .NotIn) (rIn K true) := by
  subst h
  exact op_notIn_seq
/-! ### sets of ints -/
theorem vals_ints : ∀ {ns : List Nat} {us : List Value}, Vals (natL ns) us → IntsAre us (ns.map fun (n : Nat) => (n : Int))
  | [], _, r => by
    cases r
    exact .nil
  | n :: ns, _, r => by
    cases r with
    | cons r1 r2 =>
      obtain ⟨t, e⟩ := r1
      subst e
      exact .cons _ t (vals_ints r2)
theorem met_nat : ∀ (l acc : List Nat), (l.map fun (n : Nat) => (n : Int)).foldl step_dedup (acc.map fun (n : Nat) => (n : Int)) = (l.foldl (fun acc x => if x ∈ acc then acc else acc ++ [x]) acc).map fun (n : Nat) => (n : Int)
  | [], acc => rfl
  | x :: l, acc => by
    rw [List.map_cons, List.foldl_cons, List.foldl_cons]
    have e : step_dedup (acc.map fun (n : Nat) => (n : Int)) (x : Int) = (if x ∈ acc then acc else acc ++ [x]).map fun (n : Nat) => (n : Int) := by
      unfold step_dedup
      have h : ((acc.map fun (n : Nat) => (n : Int)).any fun y => y == (x : Int)) = decide (x ∈ acc) := by
        rw [List.any_map, Bool.eq_iff_iff, List.any_eq_true, decide_eq_true_eq]
        constructor
        · rintro ⟨y, hy, e⟩
          have e : ((y : Int) == (x : Int)) = true := e
          rw [beq_iff_eq] at e
          have e2 : y = x := by omega
          rw [← e2]
          exact hy
        · intro h
          exact ⟨x, h, show ((x : Int) == (x : Int)) = true from beq_self_eq_true _⟩
      rw [h]
      by_cases c : x ∈ acc
      · rw [decide_eq_true c, if_pos rfl, if_pos c]
      · rw [decide_eq_false c, if_neg Bool.false_ne_true, if_neg c, List.map_append]
        rfl
    rw [e]
    exact met_nat l _
theorem first_met (l : List Nat) : firstMet (fun i => (l.map fun (n : Nat) => (n : Int)).getD i 0) l.length = (ddN l).map fun (n : Nat) => (n : Int) := by
  unfold firstMet ddN
  have e : (List.range l.length).map (fun i => (l.map fun (n : Nat) => (n : Int)).getD i 0) = l.map fun (n : Nat) => (n : Int) := by
    apply List.ext_getElem?
    intro i
    rw [List.getElem?_map]
    by_cases h : i < l.length
    · rw [List.getElem?_range h, List.getElem?_map, List.getElem?_eq_getElem h]
      simp only [Option.map_some]
      rw [List.getD_eq_getElem?_getD, List.getElem?_map, List.getElem?_eq_getElem h]
      rfl
    · rw [List.getElem?_eq_none (by rw [List.length_range]; omega), List.getElem?_eq_none (by rw [List.length_map]; omega)]
      rfl
  rw [e]
  exact met_nat l []
section
variable {X : Cx}
def rSetL (K : PySem.W.Frag) : List V → Hp → VK → Prop := fun vs H Q => ∃ (a : Addr) (l : List Nat), vs = [V.ref a] ∧ SqL K H a (natL l) ∧ l.length ≤ 1000 ∧ ∀ (q : Addr) (S : Int → Bool), H q = Option.none → Q (.ref q) (upd H q (.set S (ddN l).length))
theorem call_set_ints (hc : X.calm = true) : CallR X (.type "set") (rSetL X.K) := by
  intro pins s σ H vs us Q I r h
  obtain ⟨a, l, rfl, hs, hl, q⟩ := h
  obtain ⟨its, rv, pl, _⟩ := I.list hs
  rw [Vals.ref1 r]
  have hlen : its.length = l.length := by rw [← rv.length, natL_len]
  have hsz : its.toArray.size = l.length := by rw [List.size_toArray]; exact hlen
  refine PySem.call_set_list (prog := X.prog) (w := X.w) (ns := l.map fun (n : Nat) => (n : Int)) (I.ok.hd hc) pl.isList (by simpa using vals_ints rv) (by rw [hsz]; unfold scanBound; omega) fun h' tk hS hk => ?_
  rw [hsz, first_met, List.length_map] at hS
  obtain ⟨S, hS⟩ : ∃ S, Heap.SetOf (intKind X.prog X.w) h' s.heap.objs.size S (ddN l).length := ⟨_, hS⟩
  refine ⟨.ref s.heap.objs.size, _, I.laid (t' := tk) (o := .set S (ddN l).length) (fun b u e => hk b u (Heap.lt_size e) e) (Nat.le_refl _) ?_, rfl, q _ _ (I.hok.fresh (Nat.le_refl _))⟩
  exact hS
theorem call_len_set : CallR X (.builtin "len") (fun xs H Q => ∃ (a : Addr) (S : Int → Bool) (n : Nat), xs = [V.ref a] ∧ H a = some (.set S n) ∧ Q (.int (n : Int)) H) := by
  intro pins s σ H xs us Q I r h
  obtain ⟨a, S, n, rfl, ha, q⟩ := h
  rw [Vals.ref1 r]
  obtain ⟨o, es, ep, t, ho, hex, hd, _, _, hb, hf, e⟩ : s.heap.SetOf (intKind X.prog X.w) a S n := I.hok a _ ha
  refine PySem.call_len_set ho hex hd hf (by unfold scanBound at hb; omega) ⟨.int (n : Int), H, I.tok _, ⟨_, by rw [e]⟩, q⟩
end
/-! ### list(range(n)) -/
theorem vals_of {P : Nat → V} : ∀ (n : Nat) (us : List Value), us.length = n → (∀ (j : Nat) (v : Value), us[j]? = some v → RelV (P j) v) → Vals ((List.range n).map P) us := by
  intro n
  induction n with
  | zero =>
    intro us h _
    cases us with
    | nil => exact .nil
    | cons _ _ => cases h
  | succ n ih =>
    intro us h hv
    rw [List.range_succ, List.map_append]
    have hne : us ≠ [] := by intro e; rw [e] at h; cases h
    have e : us = us.dropLast ++ [us.getLast hne] := (List.dropLast_concat_getLast hne).symm
    rw [e]
    refine Vals.append (ih us.dropLast (by rw [List.length_dropLast]; omega) fun j v hj => ?_) (.cons ?_ .nil)
    · have hjl : j < us.dropLast.length := (List.getElem?_eq_some_iff.mp hj).1
      refine hv j v ?_
      rw [e, List.getElem?_append_left hjl]
      exact hj
    · refine hv n _ ?_
      rw [← List.getLast?_eq_some_getLast hne, List.getLast?_eq_getElem?, h]
      rfl
section
variable {X : Cx}
theorem call_range_obj : CallR X (.type "range") (fun vs H Q => ∃ n : Nat, vs = [V.int (n : Int)] ∧ ∀ p, H p = Option.none → Q (.ref p) (upd H p (.rng 0 (n : Int)))) := by
  intro pins s σ H vs us Q I r h
  obtain ⟨n, rfl, q⟩ := h
  obtain ⟨u, rfl, t, rfl⟩ := vals1 r
  refine call_range_1 ⟨.ref s.heap.objs.size, _, I.laid (t' := s.toks + 1 + 1) (o := .rng 0 (n : Int)) (fun b u e => Heap.get?_push_of_some _ e) (Nat.le_refl _) ?_, rfl, q _ (I.hok.fresh (Nat.le_refl _))⟩
  exact ⟨_, _, _, Heap.get?_push_size _ rfl⟩
theorem call_list_rng (hc : X.calm = true) : CallR X (.type "list") (fun vs H Q => ∃ (a : Addr) (n : Nat), vs = [V.ref a] ∧ H a = some (.rng 0 (n : Int)) ∧ n ≤ 1000 ∧ ∀ l, H l = Option.none → Q (.ref l) (upd H l (.lst (natL (List.range n))))) := by
  intro pins s σ H vs us Q I r h
  obtain ⟨a, n, rfl, ha, hn, q⟩ := h
  rw [Vals.ref1 r]
  obtain ⟨t, u, v, ho⟩ : ∃ t u v, s.heap.get? a = some { cls := .type "range", data := .fields #[.int 0 t, .int (n : Int) u, .int 1 v] } := I.hok a _ ha
  have hsz : Builtin.Range.rangeSize 0 (n : Int) 1 = n := by rw [rangeSize_one]; split <;> omega
  refine PySem.call_list_range (n := n) (I.ok.hd hc) ho (small_one (by decide) (by decide) (by omega) (by omega)) hsz (by omega) fun h' tk acc' c' hk hS hacc => ?_
  refine ⟨.ref s.heap.objs.size, _, I.laid (t' := tk) (o := .lst (natL (List.range n))) hk (Nat.le_refl _) ?_, rfl, q _ (I.hok.fresh (Nat.le_refl _))⟩
  have big := sizeLine_big
  refine ⟨by rw [natL_len, List.length_range]; omega, acc'.toList, c', ?_, by rw [Array.toArray_toList]; exact hS⟩
  unfold natL
  refine vals_of n acc'.toList (by rw [Array.length_toList]; exact hacc.1) fun j w hj => ?_
  obtain ⟨t', e⟩ := hacc.2 j w (by rw [← Array.getElem?_toList]; exact hj)
  refine ⟨t', ?_⟩
  rw [e]
  congr 1
  omega
end
/-! ### list(reversed(xs)) -/
section
variable {prog : Program} {w : World} {A : Around} {E : Value → Shared → Prop} {s : Shared}
theorem rev_no_len : typeLookup (.type "list_reverseiterator") "__len__" = pure Option.none := by rw [typeLookup_type, builtinLookup_eq_fast]; kernel_rfl
theorem rev_hint : typeLookup (.type "list_reverseiterator") "__length_hint__" = pure (some (.builtin "list_reverseiterator.__length_hint__")) := by rw [typeLookup_type, builtinLookup_eq_fast]; kernel_rfl
theorem hint_rev {I l : Addr} {i : Int} {Q : Bool → Shared → Prop} (hit : s.heap.IsRevIter I l i) (h : Q false s) : wpAny (model prog w) A (Builtin.List.listLengthHint (.ref I)) Q E s := by
  unfold Builtin.List.listLengthHint
  refine wpAny_bind (wpAny_specialOf hit.typeIs rev_no_len ?_)
  refine wpAny_ite_split (fun hab => absurd hab (by decide)) (fun _ => ?_)
  refine wpAny_ite_split (fun hab => absurd hab (by decide)) (fun _ => ?_)
  refine wpAny_bind (wpAny_specialOf hit.typeIs rev_hint ?_)
  generalize hid : ("list_reverseiterator.__length_hint__" : String) = id0
  wp_delta
  rw [show splitId id0 = some ("list_reverseiterator", "__length_hint__") from by subst hid; decide +kernel]
  subst hid
  refine wpAny_bind (wpAny_isInstance (T := "list_reverseiterator") (b := true) hit.typeIs (by rw [isSubtype_type]; kernel_rfl) ?_)
  refine wpAny_ite_split (fun hab => absurd hab (by decide)) (fun _ => ?_)
  refine wpAny_ite_split (fun _ => ?_) (fun hab => absurd (by decide +kernel) hab)
  refine wpAny_ite_split (fun hab => absurd hab (by decide +kernel)) (fun _ => ?_)
  exact wpAny_pure h
theorem extend_rev {R : Result → Shared → Prop} {I l : Addr} {items : Array Value} (hh : A.handled = none) (hit : s.heap.IsRevIter I l ((items.size : Int) - 1)) (hl : s.heap.IsList l items) (hne : l ≠ I)
    (hlen : items.size ≤ 2 ^ 24) (S : Addr) (res : Value) (c₀ : Nat) (hS : s.heap.get? S = some { cls := .type "list", data := .seq #[] c₀ }) (hSl : S ≠ l)
    (hR : ∀ h' tk acc' c', (∀ b o, b ≠ S → b ≠ I → s.heap.get? b = some o → h'.get? b = some o) → h'.get? S = some { cls := .type "list", dict := Option.none, data := .seq acc' c', slots := #[] } →
      ItemsOf (fun i v => items[items.size - 1 - i]? = some v) acc' items.size → R (.ok (.ret res)) { s with heap := h', toks := tk }) :
    wpAny (model prog w) A.in1 (Builtin.List.listExtendWith (.ref S) (.ref I) res)
      (fun fin s' => match fin with | .done f => R (.ok f) s' | .again c' => c'.quiet = true ∧ codeAny (model prog w) A c' R s') (fun e s' => R (.error e) s') s := by
  have hSI : S ≠ I := fun e => by
    obtain ⟨o, ho, hc, _⟩ := hit
    rw [← e, hS] at ho
    rw [← Option.some.inj ho] at hc
    simp at hc
  have hSf : S ∉ [I, l] := fun hm => by
    rcases List.mem_cons.mp hm with e | e
    · exact hSI e
    · exact hSl (List.mem_singleton.mp e)
  have W := (Walks.listRev (prog := prog) (w := w) (A := A.in1) hh I l hne items).toS
  unfold Builtin.List.listExtendWith
  refine wpAny_bind (wpAny_typeOf hit.typeIs ?_)
  have h1 : Builtin.List.listSameRef (.ref S) (.ref I) = false := by simp [Builtin.List.listSameRef, hSI]
  have h2 : (Value.type "list_reverseiterator" == Value.type "list") = false := by decide
  have h3 : (Value.type "list_reverseiterator" == Value.type "tuple") = false := by decide
  simp only [h1, h2, h3, Bool.or_false, Bool.false_eq_true, if_false]
  refine wpAny_bind (wpAny_pyIter_revIter hit ?_)
  refine wpAny_bind (wpAny_holding (hint_rev hit ?_))
  refine wpAny_ite_split (fun hab => absurd hab (by decide +kernel)) (fun _ => ?_)
  refine wpAny_pure ⟨plainId_quiet F.plain_extend_loop _, ?_⟩
  refine codeAny_extend_loopS W (by rw [sizeLine_eq]; omega) S hSf res items.size 0 _ #[] c₀ rfl (Nat.zero_le _) ⟨Nat.zero_le _, by simpa using hit, hl⟩ hS (ItemsOf.nil _) fun s' acc' c' hm hS' hacc => ?_
  rw [Moved.eq_with hm]
  refine hR s'.heap s'.toks acc' c' (fun b o hb hb2 e => hm.heap b o (fun hmem => ?_) e) hS' hacc
  rcases List.mem_cons.mp hmem with e' | hmem
  · exact hb e'
  · exact hb2 (List.mem_singleton.mp hmem)
theorem init_rev {R : Result → Shared → Prop} {I l : Addr} {items : Array Value} (hh : A.handled = none) (hit : s.heap.IsRevIter I l ((items.size : Int) - 1)) (hl : s.heap.IsList l items) (hne : l ≠ I)
    (hlen : items.size ≤ 2 ^ 24) (S : Addr) (hS : s.heap.get? S = some { cls := .type "list", data := .seq #[] }) (hSl : S ≠ l)
    (hR : ∀ h' tk acc' c', (∀ b o, b ≠ S → b ≠ I → s.heap.get? b = some o → h'.get? b = some o) → h'.get? S = some { cls := .type "list", dict := Option.none, data := .seq acc' c', slots := #[] } →
      ItemsOf (fun i v => items[items.size - 1 - i]? = some v) acc' items.size → R (.ok (.ret .none)) { s with heap := h', toks := tk }) :
    wpAny (model prog w) A.in1 (Builtin.«list.__init__» ⟨[.ref S, .ref I], []⟩)
      (fun fin s' => match fin with | .done f => R (.ok f) s' | .again c' => c'.quiet = true ∧ codeAny (model prog w) A c' R s') (fun e s' => R (.error e) s') s := by
  have hSI : S ≠ I := fun e => by
    obtain ⟨o, ho, hc, _⟩ := hit
    rw [← e, hS] at ho
    rw [← Option.some.inj ho] at hc
    simp at hc
  show wpAny _ _ (do let old ← Builtin.List.listItems (.ref S); Builtin.List.listUpdate (.ref S) (fun _ => #[]); letGo old.toList.reverse; Builtin.List.listExtendWith (.ref S) (.ref I) .none) _ _ s
  refine wpAny_bind ?_
  unfold Builtin.List.listItems
  refine wpAny_bind (wpAny_seqItems hS rfl (wpAny_pure ?_))
  show wpAny _ _ (updateSeq S (fun _ => #[]) >>= fun _ => letGo (#[] : Array Value).toList.reverse >>= fun _ => Builtin.List.listExtendWith (.ref S) (.ref I) .none) _ _ s
  refine wpAny_bind (wpAny_updateSeq hS rfl ?_)
  have hS₂ := Heap.get?_update_self (Obj.mapSeq (fun _ => (#[] : Array Value))) hS rfl
  have oth : ∀ b o, b ≠ S → s.heap.get? b = some o → (s.heap.update S (Obj.mapSeq (fun _ => (#[] : Array Value)))).get? b = some o :=
    fun b o hb e => (Heap.get?_update_other _ _ (Ne.symm hb)).trans e
  refine wpAny_bind (wpAny_letGo ?_)
  refine extend_rev hh (hit.at fun o e => oth I o (Ne.symm hSI) e) (hl.at fun o e => oth l o (Ne.symm hSl) e) hne hlen S .none _ hS₂ hSl fun h' tk acc' c' hk hS' hacc => ?_
  exact hR h' tk acc' c' (fun b o hb hb2 e => hk b o hb hb2 (oth b o hb e)) hS' hacc
theorem call_list_revit {Q : Value → Shared → Prop} {I l : Addr} {items : Array Value} (hh : A.handled = none) (hit : s.heap.IsRevIter I l ((items.size : Int) - 1)) (hl : s.heap.IsList l items) (hne : l ≠ I) (hlen : items.size ≤ 2 ^ 24)
    (hQ : ∀ h' tk acc' c', (∀ b o, b ≠ I → s.heap.get? b = some o → h'.get? b = some o) →
      h'.get? s.heap.objs.size = some { cls := .type "list", dict := Option.none, data := .seq acc' c', slots := #[] } → ItemsOf (fun i v => items[items.size - 1 - i]? = some v) acc' items.size → Q (.ref s.heap.objs.size) { s with heap := h', toks := tk }) :
    wpAny (model prog w) A (call (.type "list") [.ref I]) Q E s := by
  refine callType_codes (Q₁ := fun obj s₁ => obj = .ref s.heap.objs.size ∧ s₁ = { s with heap := s.heap.push { cls := .type "list", data := .seq #[] } }) F.called_list (F.typeCall_list_1 _) F.entry_list_init
    (code_list_new _ ⟨rfl, rfl⟩) fun obj s₁ h₁ => ?_
  obtain ⟨rfl, rfl⟩ := h₁
  have hS : (s.heap.push { cls := .type "list", data := .seq #[] }).get? s.heap.objs.size = some { cls := .type "list", data := .seq #[] } := Heap.get?_push_size _ rfl
  have hll : l < s.heap.objs.size := by obtain ⟨_, e, _⟩ := hl; exact Heap.lt_size e
  refine ⟨⟨_, hS, rfl⟩, F.args_list_init_2 _ _, init_rev (A := A.in1) hh (hit.at fun o e => Heap.get?_push_of_some _ e) (hl.push _) hne hlen _ hS (Nat.ne_of_gt hll) fun h' tk acc' c' hk hS' hacc => ?_⟩
  exact ⟨rfl, hQ h' tk acc' c' (fun b o hb e => hk b o (Nat.ne_of_lt (Heap.lt_size e)) hb (Heap.get?_push_of_some _ e)) hS' hacc⟩
end
section
variable {X : Cx}
theorem vals_rev {xs : List V} {us vs : List Value} (r : Vals xs us) (h : vs = us.reverse) : Vals xs.reverse vs := by
  rw [h]
  exact r.reverse
def tRev (K : PySem.W.Frag) (ta : TA) : TE := fun σ H Q => ta σ H fun vs H1 => ∃ (a : Addr) (xs : List V), vs = [V.ref a] ∧ SqL K H1 a xs ∧ ∀ q, H1 q = Option.none → Q (.ref q) (upd H1 q (.lst xs.reverse))
theorem pe_list_rev {e : Expr} {ta : TA} {p pos p2 pos2 : Pos} (hc : X.calm = true) (hg : Gl X "list") (hm : X.mg "list" = Option.none) (hg2 : Gl X "reversed") (hm2 : X.mg "reversed" = Option.none) (ha : PA X [e] ta) (hs : starEach [e] X.env = [(false, eval e X.env)] := by rfl)
    (hs2 : starEach [.Call (.Name "reversed" p2) [e] [] pos2] X.env = [(false, eval (.Call (.Name "reversed" p2) [e] [] pos2) X.env)] := by rfl) :
    PE X (.Call (.Name "list" p) [.Call (.Name "reversed" p2) [e] [] pos2] [] pos) (tRev X.K ta) := by
  intro pins s σ H Q I h
  refine wpAny_Call_Name_kw (ld_blt I hg hm PyProof.Rows.boot_list ?_)
  refine PyProof.Rows.callWith_type1 ?_ hs2 rfl
  rw [hs2]
  show wpAny _ _ (spliced ((false, eval (.Call (.Name "reversed" p2) [e] [] pos2) X.env) :: backTo pos (starEach [] X.env))) _ _ s
  refine Calls.spliced_cons ?_
  refine wpAny_Call_Name_kw (ld_blt I hg2 hm2 boot_reversed5 ?_)
  refine PyProof.Rows.callWith_type1 (thn (ha pos2 pins s σ H _ I h) fun us s1 ⟨vs, H1, I1, r1, q1⟩ => ?_) hs rfl
  obtain ⟨a, xs, e, hq, q⟩ := q1
  subst e
  rw [Vals.ref1 r1]
  obtain ⟨its, rv, pl, hz⟩ := I1.list hq
  have hll := rv.length
  have big := sizeLine_big
  refine call_reversed_list pl.isList ?_
  refine Calls.spliced_nil ?_
  have hal : a < s1.heap.objs.size := by obtain ⟨_, e, _⟩ := pl.isList; exact Heap.lt_size e
  refine call_list_revit (I := s1.heap.objs.size) (l := a) (items := its.toArray) (I1.ok.hd hc) ⟨_, Heap.get?_push_size _ rfl, rfl, rfl⟩ (pl.isList.push _) (Nat.ne_of_lt hal) (by rw [List.size_toArray]; omega) fun h' tk acc' c' hk hS hacc => ?_
  have esz : (s1.heap.push (revObj a ((its.toArray.size : Int) - 1))).objs.size = s1.heap.objs.size + 1 := Heap.size_push _ _
  refine ⟨.ref (s1.heap.push (revObj a ((its.toArray.size : Int) - 1))).objs.size, _, I1.laid (t' := tk) (o := .lst xs.reverse) (fun b u e => hk b u (Nat.ne_of_lt (Heap.lt_size e)) (Heap.get?_push_of_some _ e)) (by rw [esz]; omega) ?_, rfl, q _ (I1.hok.fresh (by rw [esz]; omega))⟩
  refine ⟨by rw [List.length_reverse]; exact hz, acc'.toList, c', vals_rev rv ?_, by rw [Array.toArray_toList]; exact hS⟩
  have h1 : acc'.size = its.length := hacc.1
  have h2 : ∀ (j : Nat) (v : Value), acc'[j]? = some v → its.toArray[its.length - 1 - j]? = some v := hacc.2
  apply List.ext_getElem?
  intro i
  by_cases hi : i < its.length
  · have hi2 : i < acc'.size := by omega
    have e1 : acc'[i]? = some acc'[i] := Array.getElem?_eq_getElem hi2
    have e2 := h2 i _ e1
    rw [Array.getElem?_toList, e1, List.getElem?_reverse hi]
    simp only [List.getElem?_toArray] at e2
    exact e2.symm
  · rw [Array.getElem?_toList, Array.getElem?_eq_none (by omega), List.getElem?_eq_none (by rw [List.length_reverse]; omega)]
end
/-! ### a pair among pairs -/
def prD (e : Nat × Nat) : PyData := .tuple [.int (e.1 : Int), .int (e.2 : Int)]
theorem prD_eqv (e f : Nat × Nat) : PyData.eqv (prD e) (prD f) = decide (e = f) := by
  unfold prD
  rw [PyData.eqv, PyData.eqvAll, PyData.eqvAll, PyData.eqvAll, PyData.eqv, PyData.eqv, Bool.eq_iff_iff]
  simp only [Bool.and_eq_true, beq_iff_eq, and_true, decide_eq_true_eq]
  obtain ⟨a, b⟩ := e
  obtain ⟨c, d⟩ := f
  simp only [Prod.mk.injEq]
  omega
theorem prD_lay (e : Nat × Nat) : PyData.canLay0 (prD e) = true := by
  unfold prD
  rw [PyData.canLay0, PyData.canLayAll0, PyData.canLayAll0, PyData.canLayAll0, PyData.canLay0, PyData.canLay0]
  rfl
theorem prD_depth (e : Nat × Nat) : PyData.depth (prD e) = 1 := by
  unfold prD
  rw [PyData.depth, PyData.depthAll, PyData.depthAll, PyData.depthAll, PyData.depth, PyData.depth]
  rfl
theorem vals_refs : ∀ {rs : List Addr} {us : List Value}, Vals (rs.map V.ref) us → us = rs.map Value.ref
  | [], _, r => by
    cases r
    rfl
  | a :: rs, _, r => by
    cases r with
    | cons r1 r2 =>
      cases r1
      rw [vals_refs r2]
      rfl
section
variable {X : Cx}
def rInS (K : PySem.W.Frag) : R2 := fun x y H Q => ∃ (r p : Addr) (e : Nat × Nat) (E : List (Nat × Nat)), x = V.ref r ∧ y = V.ref p ∧ H r = some (.tup (prV e)) ∧ Sides K H p E ∧ Q (.bl (decide (e ∈ E))) H
theorem op_in_sides (hu : X.A.units + 64 < cLine) : OpR X (compareOp .In) (rInS X.K) := by
  intro pins s σ H x y v u Q I rx ry h
  obtain ⟨r, p, e, E', rfl, rfl, hr, hS, q⟩ := h
  obtain ⟨rs, h1, h2, h3⟩ := hS
  obtain ⟨its, rv, pl, _⟩ := I.list (SqL.of (K := X.K) h1)
  have ei := vals_refs rv
  subst ei
  have rd : ∀ {a : Addr} {f : Nat × Nat} {z : Value}, H a = some (.tup (prV f)) → RelV (V.ref a) z → ∃ as, Reads s.heap z (prD f) as := fun {a f z} ha rz =>
    Dp.reads I (prD f) (V.ref a) z (.tup (SqT.of ha) (.cons (.int _) (.cons (.int _) .nil))) rz
  obtain ⟨bs, rb⟩ := rd hr rx
  let g : Value → Bool := fun z => @decide (∃ a, z = Value.ref a ∧ H a = some (.tup (prV e))) (Classical.propDecidable _)
  have at_ : ∀ {i : Nat} {a : Addr}, rs[i]? = some a → ∃ f, E'[i]? = some f ∧ H a = some (.tup (prV f)) := fun {i a} hi => by
    have hl := (List.getElem?_eq_some_iff.mp hi).1
    have hf : E'[i]? = some E'[i] := List.getElem?_eq_getElem (by omega)
    exact ⟨_, hf, h3 i a _ hi hf⟩
  have prV_inj : ∀ {f f' : Nat × Nat}, prV f = prV f' → f = f' := fun {f f'} z => by
    unfold prV at z
    injection z with z1 z2
    injection z2 with z2 _
    injection z1 with z1
    injection z2 with z2
    exact Prod.ext (by omega) (by omega)
  have gv : ∀ {a : Addr} {f : Nat × Nat}, H a = some (.tup (prV f)) → g (.ref a) = decide (f = e) := fun {a f} ha => by
    show @decide (∃ a', Value.ref a = Value.ref a' ∧ H a' = some (.tup (prV e))) (Classical.propDecidable _) = decide (f = e)
    rw [decide_eq_decide]
    constructor
    · rintro ⟨a', z1, z2⟩
      injection z1 with z1
      rw [← z1, ha] at z2
      injection z2 with z2
      injection z2 with z2
      exact prV_inj z2
    · rintro rfl
      exact ⟨a, rfl, ha⟩
  cases ry
  refine SeqAt.in_listAt g pl.isList (fun z hz => ?_) ⟨.bl _, H, I, rfl, ?_⟩
  · have hz : z ∈ rs.map Value.ref := by simpa using hz
    obtain ⟨a, ha, rfl⟩ := List.mem_map.mp hz
    obtain ⟨i, hi⟩ := List.getElem?_of_mem ha
    obtain ⟨f, hf, hHa⟩ := at_ hi
    obtain ⟨as, ra⟩ := rd hHa (z := .ref a) rfl
    rw [gv hHa, ← prD_eqv]
    exact SeqAt.eqAt_reads (prD f) (prD e) X.A.in1 s _ _ as bs ra rb (prD_lay f) (prD_lay e) (by rw [prD_depth, prD_depth]; show X.A.units + 1 + min 1 1 < cLine; omega)
  · have e1 : (rs.map Value.ref).toArray.any g = decide (e ∈ E') := by
      rw [show (rs.map Value.ref).toArray.any g = (rs.map Value.ref).any g by simp, List.any_map, Bool.eq_iff_iff, List.any_eq_true, decide_eq_true_eq]
      constructor
      · rintro ⟨a, ha, z⟩
        obtain ⟨i, hi⟩ := List.getElem?_of_mem ha
        obtain ⟨f, hf, hHa⟩ := at_ hi
        have z : g (.ref a) = true := z
        rw [gv hHa, decide_eq_true_eq] at z
        rw [← z]
        exact List.mem_of_getElem? hf
      · intro he
        obtain ⟨i, hi⟩ := List.getElem?_of_mem he
        have hl := (List.getElem?_eq_some_iff.mp hi).1
        have hr' : rs[i]? = some rs[i] := List.getElem?_eq_getElem (by omega)
        refine ⟨rs[i], List.mem_of_getElem? hr', ?_⟩
        show g (.ref rs[i]) = true
        rw [gv (h3 i _ _ hr' hi), decide_eq_true_eq]
    rw [e1]
    exact q
end
/-! ### lists told apart -/
theorem ne_nat_sides {H : Hp} {a b : Addr} {m : List Nat} {E : List (Nat × Nat)} (h : H a = some (.lst (natL m))) (hb : Sides K H b E) (hm : m ≠ []) : a ≠ b := by
  obtain ⟨rs, h1, _⟩ := hb
  refine ne_of h h1 fun z => ?_
  injection z with z
  cases m with
  | nil => exact hm rfl
  | cons x m =>
    cases rs with
    | nil => cases z
    | cons r rs =>
      have z : V.int (x : Int) :: natL m = V.ref r :: rs.map V.ref := z
      injection z with z _
      cases z
theorem Sides.rev {H : Hp} {p q : Addr} {E : List (Nat × Nat)} {xs : List V} (h : Sides K H p E) (hp : H p = some (.lst xs)) (hq : H q = Option.none) : Sides K (upd H q (.lst xs.reverse)) q E.reverse := by
  obtain ⟨rs, h1, h2, h3⟩ := h
  rw [hp] at h1
  injection h1 with h1
  injection h1 with h1
  subst h1
  refine ⟨rs.reverse, by rw [upd_same, List.map_reverse], by rw [List.length_reverse, List.length_reverse, h2], fun i r e a b => ?_⟩
  have hi : i < rs.length := by
    have := (List.getElem?_eq_some_iff.mp a).1
    rw [List.length_reverse] at this
    exact this
  rw [List.getElem?_reverse hi] at a
  rw [List.getElem?_reverse (by omega), ← h2] at b
  have := h3 _ r e a b
  rw [upd_ne (ne_of_none this hq)]
  exact this
def upsN (v i : Nat) : List (Nat × Nat) := ((List.range i).filter fun s => decide (s % v < v - 1)).map fun s => (s, s + 1)
def levsN (v i : Nat) : List (Nat × Nat) := (List.range i).map fun s => (s, s + v)
theorem upsN_succ (v i : Nat) : upsN v (i + 1) = upsN v i ++ if decide (i % v < v - 1) = true then [(i, i + 1)] else [] := by
  unfold upsN
  rw [List.range_succ, List.filter_append, List.map_append]
  congr 1
  by_cases c : decide (i % v < v - 1) = true
  · rw [if_pos c, List.filter_cons_of_pos (p := fun s => decide (s % v < v - 1)) c]; rfl
  · rw [if_neg c, List.filter_cons_of_neg (p := fun s => decide (s % v < v - 1)) c]; rfl
theorem levsN_succ (v i : Nat) : levsN v (i + 1) = levsN v i ++ [(i, i + v)] := by
  unfold levsN
  rw [List.range_succ, List.map_append]
  rfl
theorem sides_len {H : Hp} {D : Addr} {E : List (Nat × Nat)} {acc : List V} (h : Sides K H D E) (e : H D = some (.lst acc)) : acc.length = E.length := by
  obtain ⟨rs, h1, h2, _⟩ := h
  rw [e] at h1
  injection h1 with h1
  injection h1 with h1
  rw [h1, List.length_map, h2]
theorem upsN_len (v i : Nat) : (upsN v i).length ≤ i := by
  unfold upsN
  rw [List.length_map]
  have := List.length_filter_le (fun s => decide (s % v < v - 1)) (List.range i)
  rw [List.length_range] at this
  exact this
theorem Sides.at {H : Hp} {D : Addr} {E : List (Nat × Nat)} (h : Sides K H D E) : ∃ acc, H D = some (.lst acc) := by
  obtain ⟨rs, h1, _⟩ := h
  exact ⟨_, h1⟩
theorem sidesW_take {g : List Nat} {v n sign i : Nat} {e : Nat × Nat} (h : (innerS v n)[i]? = some e) :
    ((innerS v n).take (i + 1)).filter (fun e => g.getD (sideOf v e.1 e.2) 0 == sign) = ((innerS v n).take i).filter (fun e => g.getD (sideOf v e.1 e.2) 0 == sign) ++ if (g.getD (sideOf v e.1 e.2) 0 == sign) = true then [e] else [] := take_filter_snoc h
theorem tup_0 {H : Hp} {r : Addr} {e : Nat × Nat} (_ : H r = some (.tup (prV e))) : atI (prV e) 0 = some (V.int (e.1 : Int)) := rfl
theorem tup_1 {H : Hp} {r : Addr} {e : Nat × Nat} (_ : H r = some (.tup (prV e))) : atI (prV e) 1 = some (V.int (e.2 : Int)) := rfl
theorem nat_getD {l : List Nat} {i : Nat} (h : i < l.length) : l[i]? = some (l.getD i 0) := by
  rw [List.getD_eq_getElem?_getD, List.getElem?_eq_getElem h]
  rfl
/-- lists of one's own, in a list of one's own -/
structure NestA (H0 H : Hp) (D : Addr) (rs : List Addr) (n : Nat) (f : Nat → List Nat) : Prop where
  at_ : H D = some (.lst (rs.map V.ref))
  len : rs.length = n
  nd : rs.Nodup
  new : ∀ r ∈ rs, H0 r = Option.none ∧ r ≠ D
  val : ∀ s r, rs[s]? = some r → H r = some (.lst (natL (f s)))
theorem NestA.app {H0 H : Hp} {D : Addr} {rs : List Addr} {n : Nat} {f : Nat → List Nat} (h : NestA H0 H D rs n f) {j v : Nat} {r : Addr} (hj : rs[j]? = some r) : NestA H0 (upd H r (.lst (natL (f j) ++ [.int (v : Int)]))) D rs n (fun s => if s = j then f s ++ [v] else f s) := by
  refine ⟨?_, h.len, h.nd, h.new, fun s q hs => ?_⟩
  · rw [upd_ne (Ne.symm (h.new r (List.mem_of_getElem? hj)).2)]
    exact h.at_
  · by_cases c : s = j
    · subst c
      rw [hs] at hj
      have e : q = r := Option.some.inj hj
      subst e
      rw [upd_same, if_pos rfl]
      unfold natL
      rw [List.map_append]
      rfl
    · rw [if_neg c, upd_ne]
      · exact h.val s q hs
      · intro e
        subst e
        exact c (Gt.nd_ix h.nd hs hj)
theorem drawG_snoc {g : List Nat} {v : Nat} {E L : List (Nat × Nat)} {i : Nat} {e : Nat × Nat} (h : L[i]? = some e) : (L.take (i + 1)).foldl (fun d e => d.set (sideOf v e.1 e.2) (sgnOf v E e)) g = ((L.take i).foldl (fun d e => d.set (sideOf v e.1 e.2) (sgnOf v E e)) g).set (sideOf v e.1 e.2) (sgnOf v E e) := by
  rw [take_snoc h, List.foldl_append]
  rfl
theorem roomsN_len : ∀ (E : List (Nat × Nat)) (m : List Nat), (E.foldl joinR m).length = m.length
  | [], m => rfl
  | e :: E, m => by rw [List.foldl_cons, roomsN_len E, joinR_len]
theorem sidesW_bounds {g : List Nat} (hZ : Sz g) (n : Nat) : (sidesW g (widOf g) (nOf g) n).length ≤ 1000 ∧ ∀ e ∈ sidesW g (widOf g) (nOf g) n, e.1 < nOf g ∧ e.2 < nOf g ∧ e.1 ≠ e.2 := by
  obtain ⟨_, _, _, hn, _⟩ := sz_of hZ
  constructor
  · have := List.length_filter_le (fun e => g.getD (sideOf (widOf g) e.1 e.2) 0 == n) (innerS (widOf g) (nOf g))
    have := innerS_len (widOf g) (nOf g) hn
    unfold sidesW
    omega
  · intro e he
    exact (side_len hZ (List.mem_filter.mp he).1).2
theorem kst_len : ∀ (L : List (Nat × Nat)) (x : List Nat × List (Nat × Nat)), (L.foldl kstep x).1.length = x.1.length ∧ (L.foldl kstep x).2.length ≤ x.2.length + L.length
  | [], x => ⟨rfl, Nat.le_refl _⟩
  | e :: L, x => by
    rw [List.foldl_cons]
    obtain ⟨h1, h2⟩ := kst_len L (kstep x e)
    rw [h1, List.length_cons]
    have h3 : (kstep x e).1.length = x.1.length ∧ (kstep x e).2.length ≤ x.2.length + 1 := by
      unfold kstep
      by_cases c : x.1.getD e.1 0 ≠ x.1.getD e.2 0
      · rw [if_pos c]
        exact ⟨joinR_len _ _, by show (x.2 ++ [e]).length ≤ _; rw [List.length_append]; exact Nat.le_refl _⟩
      · rw [if_neg c]
        exact ⟨rfl, by omega⟩
    exact ⟨h3.1, by omega⟩
theorem kst_snoc {L : List (Nat × Nat)} {x : List Nat × List (Nat × Nat)} {i : Nat} {e : Nat × Nat} (h : L[i]? = some e) : (L.take (i + 1)).foldl kstep x = kstep ((L.take i).foldl kstep x) e := by
  rw [take_snoc h, List.foldl_append]
  rfl
theorem fault_not {g : List Nat} (hb : ∀ n ∈ g, n < 256) {p : Nat} (F : FaultN g (some p)) (G : FaultN g none) : False := by
  have h1 := fault_read hb F
  rw [Gt.read_of (sheet_read hb G)] at h1
  cases h1
theorem blankN_snoc {g : List Nat} {i n : Nat} (h : g[i]? = some n) : blankN (g.take (i + 1)) = blankN (g.take i) ++ [if isWS n = true then 32 else n] := by
  rw [take_snoc h]
  unfold blankN
  rw [List.map_append]
  rfl
theorem natL_snoc (l : List Nat) (n : Nat) : natL l ++ [V.int (n : Int)] = natL (l ++ [n]) := by
  unfold natL
  rw [List.map_append]
  rfl
theorem begins_succ (g : List Nat) (v i : Nat) : begins g v (i + 1) = begins g v i ++ if (g.getD (placeOf v i) 0 == 65) = true then [i] else [] := by
  unfold begins
  rw [List.range_succ, List.filter_append]
  congr 1
  by_cases c : (g.getD (placeOf v i) 0 == 65) = true
  · rw [if_pos c, List.filter_cons_of_pos (p := fun s => g.getD (placeOf v s) 0 == 65) c]; rfl
  · rw [if_neg c, List.filter_cons_of_neg (p := fun s => g.getD (placeOf v s) 0 == 65) c]; rfl
theorem begins_len (g : List Nat) (v i : Nat) : (begins g v i).length ≤ i := by
  unfold begins
  have := List.length_filter_le (fun s => g.getD (placeOf v s) 0 == 65) (List.range i)
  rw [List.length_range] at this
  exact this
theorem Nest.get {H : Hp} {p : Addr} {n : Nat} {f : Nat → List Nat} (h : Nest H p ((List.range n).map f)) : ∃ rs : List Addr, H p = some (.lst (rs.map V.ref)) ∧ rs.length = n ∧ ∀ s, s < n → ∃ r, (rs.map V.ref)[s]? = some (.ref r) ∧ H r = some (.lst (natL (f s))) := by
  obtain ⟨rs, h1, h2, h3⟩ := h
  rw [List.length_map, List.length_range] at h2
  refine ⟨rs, h1, h2, fun s hs => ?_⟩
  have hr : rs[s]? = some rs[s] := List.getElem?_eq_getElem (by omega)
  refine ⟨rs[s], by rw [List.getElem?_map, hr]; rfl, h3 s _ _ hr ?_⟩
  rw [List.getElem?_map, List.getElem?_range hs]
  rfl
theorem pwn_iff {g l : List Nat} : isPWN g l = true ↔ 2 ≤ l.length ∧ ((∀ s ∈ l, s < nOf g) ∧ l.Nodup) ∧ ∀ p ∈ stepsOf l, p.2 ∈ adj (sidesW g (widOf g) (nOf g) 32) p.1 := by
  unfold isPWN
  simp only [Bool.and_eq_true, decide_eq_true_eq]
  constructor
  · rintro ⟨h1, h2, h3, h4⟩
    exact ⟨h1, ⟨h2, h3⟩, h4⟩
  · rintro ⟨h1, ⟨h2, h3⟩, h4⟩
    exact ⟨h1, h2, h3, h4⟩
theorem dkv_in {ks : List (Nat × Addr)} (nd : (ks.map fun x => x.1).Nodup) {t : Nat} {a : Addr} (h : (t, a) ∈ ks) : valV (dkv ks) (Sum.inl (t : Int) : Key) = some (V.ref a) := by
  induction ks with
  | nil => cases h
  | cons x r ih =>
    obtain ⟨n1, n2⟩ := List.nodup_cons.mp nd
    show valV (((Sum.inl (x.1 : Int) : Key), V.ref x.2) :: dkv r) (Sum.inl (t : Int) : Key) = some (V.ref a)
    rcases List.mem_cons.mp h with e | e
    · rw [← e]
      exact valV_pos rfl
    · rw [valV_neg, ih n2 e]
      intro z
      have z : (Sum.inl (x.1 : Int) : Key) = Sum.inl (t : Int) := z
      injection z with z
      have z2 : x.1 = t := by omega
      exact n1 (List.mem_map.mpr ⟨(t, a), e, z2.symm⟩)
theorem dkv_not {ks : List (Nat × Addr)} {t : Nat} (h : ¬ t ∈ ks.map fun x => x.1) : valV (dkv ks) (Sum.inl (t : Int) : Key) = Option.none := by
  cases e : valV (dkv ks) (Sum.inl (t : Int) : Key) with
  | none => rfl
  | some v =>
    have q := valV_in e
    unfold dkv at q
    rw [List.map_map] at q
    obtain ⟨u, hu, e2⟩ := List.mem_map.mp q
    have e3 : (Sum.inl (u.1 : Int) : Key) = Sum.inl (t : Int) := e2
    injection e3 with e3
    have e4 : u.1 = t := by omega
    exact absurd (List.mem_map.mpr ⟨u, hu, e4⟩) h
theorem dkv_snoc {ks : List (Nat × Addr)} {t : Nat} {a : Addr} (h : ¬ t ∈ ks.map fun x => x.1) : putK (dkv ks) (Sum.inl (t : Int) : Key) (V.ref a) = dkv (ks ++ [(t, a)]) := by
  rw [putK_new _ (dkv_not h)]
  unfold dkv
  rw [List.map_append]
  rfl
theorem DictP.get {H : Hp} {p : Addr} {ks : List (Nat × Addr)} {f : Nat → Option (List Nat)} (h : DictP H p ks f) {t : Nat} {l : List Nat} (e : f t = some l) : ∃ a, (t, a) ∈ ks ∧ valV (dkv ks) (Sum.inl (t : Int) : Key) = some (V.ref a) ∧ H a = some (.lst (natL l)) := by
  obtain ⟨a, h1, h2⟩ := h.yes t l e
  exact ⟨a, h1, dkv_in h.nd h1, h2⟩
theorem DictP.same {H H' : Hp} {p : Addr} {ks : List (Nat × Addr)} {f : Nat → Option (List Nat)} (s : Same H H') (h : DictP H p ks f) : DictP H' p ks f :=
  ⟨s _ _ h.at_, h.nd, h.no, fun t l e => by obtain ⟨a, h1, h2⟩ := h.yes t l e; exact ⟨a, h1, s _ _ h2⟩⟩
/-- a list that is no value of the dict is written -/
theorem DictP.other {H : Hp} {p q : Addr} {ks : List (Nat × Addr)} {f : Nat → Option (List Nat)} {xs ys : List V} (h : DictP H p ks f) (hq : H q = some (.lst xs)) (hn : ∀ x ∈ ks, x.2 ≠ q) : DictP (upd H q (.lst ys)) p ks f := by
  refine ⟨?_, h.nd, h.no, fun t l e => ?_⟩
  · rw [upd_ne (ne_of h.at_ hq (by intro z; cases z))]
    exact h.at_
  · obtain ⟨a, h1, h2⟩ := h.yes t l e
    refine ⟨a, h1, ?_⟩
    rw [upd_ne (hn _ h1)]
    exact h2
theorem DictP.put {H : Hp} {p a : Addr} {ks : List (Nat × Addr)} {f : Nat → Option (List Nat)} {u : Nat} {l : List Nat} (h : DictP H p ks f) (hu : f u = none) (ha : H a = some (.lst (natL l))) : DictP (upd H p (.dK (dkv (ks ++ [(u, a)])))) p (ks ++ [(u, a)]) (fun v => if v = u then some l else f v) := by
  have hn := h.no u hu
  have key : ∀ {q : Addr} {k : List Nat}, H q = some (.lst (natL k)) → upd H p (.dK (dkv (ks ++ [(u, a)]))) q = some (.lst (natL k)) := fun {q k} hq => by
    rw [upd_ne (ne_of hq h.at_ (by intro z; cases z))]
    exact hq
  refine ⟨upd_same, ?_, fun t e z => ?_, fun t k e => ?_⟩
  · rw [List.map_append]
    refine List.nodup_append.mpr ⟨h.nd, List.nodup_cons.mpr ⟨List.not_mem_nil, List.nodup_nil⟩, fun x hx y hy e => ?_⟩
    have hy : y = u := List.mem_singleton.mp hy
    rw [e, hy] at hx
    exact hn hx
  · by_cases c : t = u
    · rw [if_pos c] at e
      cases e
    · rw [if_neg c] at e
      rw [List.map_append] at z
      rcases List.mem_append.mp z with y | y
      · exact h.no t e y
      · exact c (List.mem_singleton.mp y)
  · by_cases c : t = u
    · rw [if_pos c] at e
      refine ⟨a, ?_, ?_⟩
      · rw [c]
        exact List.mem_append_right _ (List.mem_singleton.mpr rfl)
      · rw [← Option.some.inj e]
        exact key ha
    · rw [if_neg c] at e
      obtain ⟨b, h1, h2⟩ := h.yes t k e
      exact ⟨b, List.mem_append_left _ h1, key h2⟩
theorem DictP.len {H : Hp} {p : Addr} {ks : List (Nat × Addr)} {f : Nat → Option (List Nat)} {n : Nat} (h : DictP H p ks f) (hf : ∀ t l, f t = some l → t < n) : ks.length ≤ n := by
  have := Gt.count_le (n := n) h.nd fun t ht => by
    cases e : f t with
    | none => exact absurd ht (h.no t e)
    | some l => exact hf t l e
  rw [List.length_map] at this
  exact this
end
end Gp

end
section
set_option linter.all false
set_option maxHeartbeats 2000000
namespace Gp
open PySem PySem.Spec PyProof.Rows L2
open Gm Gn
set_option maxRecDepth 100000
set_option maxHeartbeats 2000000
set_option linter.all false
set_option Elab.async false
/-! the defs by places, their scopes, and what the top has written (made by a tool of mine from the text) -/
def top (i : Nat) : Stmt := PySem.Challenge.pw_gardenplans_s05_make.main.body.getD i (.Pass ⟨0, 0, 0, 0⟩)
abbrev s_squares_along : Stmt := top 10
abbrev s_line_length : Stmt := top 11
abbrev s_wide_of : Stmt := top 12
abbrev s_high_of : Stmt := top 13
abbrev s_squares_of : Stmt := top 14
abbrev s_place_of : Stmt := top 15
abbrev s_side_between : Stmt := top 16
abbrev s_inner_sides : Stmt := top 17
abbrev s_sides_with : Stmt := top 18
abbrev s_beyond_sides : Stmt := top 19
abbrev s_garden_drawing : Stmt := top 20
abbrev s_joined : Stmt := top 22
abbrev s_sides_that_join : Stmt := top 23
abbrev s_mended : Stmt := top 24
abbrev s_first_line_signs : Stmt := top 26
abbrev s_later_line_signs : Stmt := top 27
abbrev s_signs_at : Stmt := top 28
abbrev s_may_end : Stmt := top 29
abbrev s_fault_of : Stmt := top 30
abbrev s_is_way_sign : Stmt := top 31
abbrev s_is_garden : Stmt := top 32
abbrev s_plan_drawing : Stmt := top 33
abbrev s_beyond_passages : Stmt := top 35
abbrev s_shortest_ways : Stmt := top 36
abbrev s_longest_way : Stmt := top 37
abbrev s_garden_refusal : Stmt := top 44
abbrev s_make : Stmt := top 45
theorem sc_squares_along : FnScope ["signs"] ["signs"] (defScope s_squares_along) := ⟨rfl, rfl, rfl, by decide +kernel, rfl, by decide +kernel, by decide +kernel⟩
theorem sc_line_length : FnScope ["wide"] ["wide"] (defScope s_line_length) := ⟨rfl, rfl, rfl, by decide +kernel, rfl, by decide +kernel, by decide +kernel⟩
theorem sc_wide_of : FnScope ["drawing"] ["drawing"] (defScope s_wide_of) := ⟨rfl, rfl, rfl, by decide +kernel, rfl, by decide +kernel, by decide +kernel⟩
theorem sc_high_of : FnScope ["drawing", "wide"] ["drawing", "wide"] (defScope s_high_of) := ⟨rfl, rfl, rfl, by decide +kernel, rfl, by decide +kernel, by decide +kernel⟩
theorem sc_squares_of : FnScope ["drawing", "wide"] ["drawing"] (defScope s_squares_of) := ⟨rfl, rfl, rfl, by decide +kernel, rfl, by decide +kernel, by decide +kernel⟩
theorem sc_place_of : FnScope ["square", "wide", "row", "column"] ["square", "wide"] (defScope s_place_of) := ⟨rfl, rfl, rfl, by decide +kernel, rfl, by decide +kernel, by decide +kernel⟩
theorem sc_side_between : FnScope ["one", "other", "wide"] ["one", "other", "wide"] (defScope s_side_between) := ⟨rfl, rfl, rfl, by decide +kernel, rfl, by decide +kernel, by decide +kernel⟩
theorem sc_inner_sides : FnScope ["drawing", "wide", "squares", "upright", "square", "level"] ["drawing"] (defScope s_inner_sides) := ⟨rfl, rfl, rfl, by decide +kernel, rfl, by decide +kernel, by decide +kernel⟩
theorem sc_sides_with : FnScope ["drawing", "sign", "wide", "side"] ["drawing", "sign"] (defScope s_sides_with) := ⟨rfl, rfl, rfl, by decide +kernel, rfl, by decide +kernel, by decide +kernel⟩
theorem sc_beyond_sides : FnScope ["sides", "squares", "beyond", "square", "side"] ["sides", "squares"] (defScope s_beyond_sides) := ⟨rfl, rfl, rfl, by decide +kernel, rfl, by decide +kernel, by decide +kernel⟩
theorem sc_garden_drawing : FnScope ["drawing", "passages", "wide", "drawn", "side", "in_a_row", "hedge"] ["drawing", "passages"] (defScope s_garden_drawing) := ⟨rfl, rfl, rfl, by decide +kernel, rfl, by decide +kernel, by decide +kernel⟩
theorem sc_joined : FnScope ["rooms", "side", "one", "other", "room"] ["rooms", "side"] (defScope s_joined) := ⟨rfl, rfl, rfl, by decide +kernel, rfl, by decide +kernel, by decide +kernel⟩
theorem sc_sides_that_join : FnScope ["sides", "squares", "rooms", "joining", "side"] ["sides", "squares"] (defScope s_sides_that_join) := ⟨rfl, rfl, rfl, by decide +kernel, rfl, by decide +kernel, by decide +kernel⟩
theorem sc_mended : FnScope ["drawing", "passages", "hedges", "order"] ["drawing"] (defScope s_mended) := ⟨rfl, rfl, rfl, by decide +kernel, rfl, by decide +kernel, by decide +kernel⟩
theorem sc_first_line_signs : FnScope ["column"] ["column"] (defScope s_first_line_signs) := ⟨rfl, rfl, rfl, by decide +kernel, rfl, by decide +kernel, by decide +kernel⟩
theorem sc_later_line_signs : FnScope ["row", "column", "wide", "hedge"] ["row", "column", "wide"] (defScope s_later_line_signs) := ⟨rfl, rfl, rfl, by decide +kernel, rfl, by decide +kernel, by decide +kernel⟩
theorem sc_signs_at : FnScope ["place", "wide", "length"] ["place", "wide"] (defScope s_signs_at) := ⟨rfl, rfl, rfl, by decide +kernel, rfl, by decide +kernel, by decide +kernel⟩
theorem sc_may_end : FnScope ["drawing", "wide", "length"] ["drawing", "wide"] (defScope s_may_end) := ⟨rfl, rfl, rfl, by decide +kernel, rfl, by decide +kernel, by decide +kernel⟩
theorem sc_fault_of : FnScope ["drawing", "wide", "place", "sign"] ["drawing"] (defScope s_fault_of) := ⟨rfl, rfl, rfl, by decide +kernel, rfl, by decide +kernel, by decide +kernel⟩
theorem sc_is_way_sign : FnScope ["sign"] ["sign"] (defScope s_is_way_sign) := ⟨rfl, rfl, rfl, by decide +kernel, rfl, by decide +kernel, by decide +kernel⟩
theorem sc_is_garden : FnScope ["drawing", "sign"] ["drawing"] (defScope s_is_garden) := ⟨rfl, rfl, rfl, by decide +kernel, rfl, by decide +kernel, by decide +kernel⟩
theorem sc_plan_drawing : FnScope ["drawing", "squares", "wide", "drawn", "square", "k"] ["drawing", "squares"] (defScope s_plan_drawing) := ⟨rfl, rfl, rfl, by decide +kernel, rfl, by decide +kernel, by decide +kernel⟩
theorem sc_beyond_passages : FnScope ["drawing"] ["drawing"] (defScope s_beyond_passages) := ⟨rfl, rfl, rfl, by decide +kernel, rfl, by decide +kernel, by decide +kernel⟩
theorem sc_shortest_ways : FnScope ["beyond", "begin", "ways", "reached", "ahead", "square", "other"] ["beyond", "begin"] (defScope s_shortest_ways) := ⟨rfl, rfl, rfl, by decide +kernel, rfl, by decide +kernel, by decide +kernel⟩
theorem sc_longest_way : FnScope ["drawing", "beyond", "longest", "begin", "ways", "end"] ["drawing"] (defScope s_longest_way) := ⟨rfl, rfl, rfl, by decide +kernel, rfl, by decide +kernel, by decide +kernel⟩
theorem sc_garden_refusal : FnScope ["drawing"] ["drawing"] (defScope s_garden_refusal) := ⟨rfl, rfl, rfl, by decide +kernel, rfl, by decide +kernel, by decide +kernel⟩
theorem sc_make : FnScope ["garden", "refusal", "drawn"] ["garden"] (defScope s_make) := ⟨rfl, rfl, rfl, by decide +kernel, rfl, by decide +kernel, by decide +kernel⟩
structure Adr where
  a_squares_along : Addr
  d_squares_along : FuncData
  a_line_length : Addr
  d_line_length : FuncData
  a_wide_of : Addr
  d_wide_of : FuncData
  a_high_of : Addr
  d_high_of : FuncData
  a_squares_of : Addr
  d_squares_of : FuncData
  a_place_of : Addr
  d_place_of : FuncData
  a_side_between : Addr
  d_side_between : FuncData
  a_inner_sides : Addr
  d_inner_sides : FuncData
  a_sides_with : Addr
  d_sides_with : FuncData
  a_beyond_sides : Addr
  d_beyond_sides : FuncData
  a_garden_drawing : Addr
  d_garden_drawing : FuncData
  a_joined : Addr
  d_joined : FuncData
  a_sides_that_join : Addr
  d_sides_that_join : FuncData
  a_mended : Addr
  d_mended : FuncData
  a_first_line_signs : Addr
  d_first_line_signs : FuncData
  a_later_line_signs : Addr
  d_later_line_signs : FuncData
  a_signs_at : Addr
  d_signs_at : FuncData
  a_may_end : Addr
  d_may_end : FuncData
  a_fault_of : Addr
  d_fault_of : FuncData
  a_is_way_sign : Addr
  d_is_way_sign : FuncData
  a_is_garden : Addr
  d_is_garden : FuncData
  a_plan_drawing : Addr
  d_plan_drawing : FuncData
  a_beyond_passages : Addr
  d_beyond_passages : FuncData
  a_shortest_ways : Addr
  d_shortest_ways : FuncData
  a_longest_way : Addr
  d_longest_way : FuncData
  a_garden_refusal : Addr
  d_garden_refusal : FuncData
  a_make : Addr
  d_make : FuncData
structure Txt (K : PySem.W.Frag) (mg : Str → Option Value) (t : Adr) : Prop where
  o_squares_along : Own K mg "squares_along" s_squares_along ["signs"] t.a_squares_along t.d_squares_along
  o_line_length : Own K mg "line_length" s_line_length ["wide"] t.a_line_length t.d_line_length
  o_wide_of : Own K mg "wide_of" s_wide_of ["drawing"] t.a_wide_of t.d_wide_of
  o_high_of : Own K mg "high_of" s_high_of ["drawing", "wide"] t.a_high_of t.d_high_of
  o_squares_of : Own K mg "squares_of" s_squares_of ["drawing"] t.a_squares_of t.d_squares_of
  o_place_of : Own K mg "place_of" s_place_of ["square", "wide"] t.a_place_of t.d_place_of
  o_side_between : Own K mg "side_between" s_side_between ["one", "other", "wide"] t.a_side_between t.d_side_between
  o_inner_sides : Own K mg "inner_sides" s_inner_sides ["drawing"] t.a_inner_sides t.d_inner_sides
  o_sides_with : Own K mg "sides_with" s_sides_with ["drawing", "sign"] t.a_sides_with t.d_sides_with
  o_beyond_sides : Own K mg "beyond_sides" s_beyond_sides ["sides", "squares"] t.a_beyond_sides t.d_beyond_sides
  o_garden_drawing : Own K mg "garden_drawing" s_garden_drawing ["drawing", "passages"] t.a_garden_drawing t.d_garden_drawing
  o_joined : Own K mg "joined" s_joined ["rooms", "side"] t.a_joined t.d_joined
  o_sides_that_join : Own K mg "sides_that_join" s_sides_that_join ["sides", "squares"] t.a_sides_that_join t.d_sides_that_join
  o_mended : Own K mg "mended" s_mended ["drawing"] t.a_mended t.d_mended
  o_first_line_signs : Own K mg "first_line_signs" s_first_line_signs ["column"] t.a_first_line_signs t.d_first_line_signs
  o_later_line_signs : Own K mg "later_line_signs" s_later_line_signs ["row", "column", "wide"] t.a_later_line_signs t.d_later_line_signs
  o_signs_at : Own K mg "signs_at" s_signs_at ["place", "wide"] t.a_signs_at t.d_signs_at
  o_may_end : Own K mg "may_end" s_may_end ["drawing", "wide"] t.a_may_end t.d_may_end
  o_fault_of : Own K mg "fault_of" s_fault_of ["drawing"] t.a_fault_of t.d_fault_of
  o_is_way_sign : Own K mg "is_way_sign" s_is_way_sign ["sign"] t.a_is_way_sign t.d_is_way_sign
  o_is_garden : Own K mg "is_garden" s_is_garden ["drawing"] t.a_is_garden t.d_is_garden
  o_plan_drawing : Own K mg "plan_drawing" s_plan_drawing ["drawing", "squares"] t.a_plan_drawing t.d_plan_drawing
  o_beyond_passages : Own K mg "beyond_passages" s_beyond_passages ["drawing"] t.a_beyond_passages t.d_beyond_passages
  o_shortest_ways : Own K mg "shortest_ways" s_shortest_ways ["beyond", "begin"] t.a_shortest_ways t.d_shortest_ways
  o_longest_way : Own K mg "longest_way" s_longest_way ["drawing"] t.a_longest_way t.d_longest_way
  o_garden_refusal : Own K mg "garden_refusal" s_garden_refusal ["drawing"] t.a_garden_refusal t.d_garden_refusal
  o_make : Own K mg "make" s_make ["garden"] t.a_make t.d_make
  c_BEGINNING : ∃ tk, mg "BEGINNING" = some (.int (65) tk)
  c_BLANK : ∃ tk, mg "BLANK" = some (.int (32) tk)
  c_CORNER : ∃ tk, mg "CORNER" = some (.int (43) tk)
  c_END : ∃ tk, mg "END" = some (.int (66) tk)
  c_LEVEL_HEDGE : ∃ tk, mg "LEVEL_HEDGE" = some (.int (45) tk)
  c_LINE_FEED : ∃ tk, mg "LINE_FEED" = some (.int (10) tk)
  c_MOST_BYTES : ∃ tk, mg "MOST_BYTES" = some (.int (1024) tk)
  c_MOST_SQUARES_ALONG : ∃ tk, mg "MOST_SQUARES_ALONG" = some (.int (10) tk)
  c_NO_DRAWING : ∃ tk, mg "NO_DRAWING" = some (.int (-6) tk)
  c_ONE_SQUARE : ∃ tk, mg "ONE_SQUARE" = some (.int (-5) tk)
  c_POINT : ∃ tk, mg "POINT" = some (.int (46) tk)
  c_TOLD : ∃ tk, mg "TOLD" = some (.int (0) tk)
  c_TOO_LONG : ∃ tk, mg "TOO_LONG" = some (.int (-2) tk)
  c_UPRIGHT_HEDGE : ∃ tk, mg "UPRIGHT_HEDGE" = some (.int (124) tk)
  n_any : mg "any" = none
  n_enumerate : mg "enumerate" = none
  n_len : mg "len" = none
  n_list : mg "list" = none
  n_range : mg "range" = none
  n_reversed : mg "reversed" = none
theorem txt_mk {K : PySem.W.Frag} {h : Heap} {mg : Str → Option Value} (X : K.In h) (G : h.Ns mainGlobals mg)
    {f0 : Addr} {od0 an0 : Option Addr} {sl0 : Array (Option Value)} {oc0 kV0 dc0 pm0 cd0 ct0 : Value}
    {f1 : Addr} {od1 an1 : Option Addr} {sl1 : Array (Option Value)} {oc1 kV1 dc1 pm1 cd1 ct1 : Value}
    {f2 : Addr} {od2 an2 : Option Addr} {sl2 : Array (Option Value)} {oc2 kV2 dc2 pm2 cd2 ct2 : Value}
    {f3 : Addr} {od3 an3 : Option Addr} {sl3 : Array (Option Value)} {oc3 kV3 dc3 pm3 cd3 ct3 : Value}
    {f4 : Addr} {od4 an4 : Option Addr} {sl4 : Array (Option Value)} {oc4 kV4 dc4 pm4 cd4 ct4 : Value}
    {f5 : Addr} {od5 an5 : Option Addr} {sl5 : Array (Option Value)} {oc5 kV5 dc5 pm5 cd5 ct5 : Value}
    {f6 : Addr} {od6 an6 : Option Addr} {sl6 : Array (Option Value)} {oc6 kV6 dc6 pm6 cd6 ct6 : Value}
    {f7 : Addr} {od7 an7 : Option Addr} {sl7 : Array (Option Value)} {oc7 kV7 dc7 pm7 cd7 ct7 : Value}
    {f8 : Addr} {od8 an8 : Option Addr} {sl8 : Array (Option Value)} {oc8 kV8 dc8 pm8 cd8 ct8 : Value}
    {f9 : Addr} {od9 an9 : Option Addr} {sl9 : Array (Option Value)} {oc9 kV9 dc9 pm9 cd9 ct9 : Value}
    {f10 : Addr} {od10 an10 : Option Addr} {sl10 : Array (Option Value)} {oc10 kV10 dc10 pm10 cd10 ct10 : Value}
    {f11 : Addr} {od11 an11 : Option Addr} {sl11 : Array (Option Value)} {oc11 kV11 dc11 pm11 cd11 ct11 : Value}
    {f12 : Addr} {od12 an12 : Option Addr} {sl12 : Array (Option Value)} {oc12 kV12 dc12 pm12 cd12 ct12 : Value}
    {f13 : Addr} {od13 an13 : Option Addr} {sl13 : Array (Option Value)} {oc13 kV13 dc13 pm13 cd13 ct13 : Value}
    {f14 : Addr} {od14 an14 : Option Addr} {sl14 : Array (Option Value)} {oc14 kV14 dc14 pm14 cd14 ct14 : Value}
    {f15 : Addr} {od15 an15 : Option Addr} {sl15 : Array (Option Value)} {oc15 kV15 dc15 pm15 cd15 ct15 : Value}
    {f16 : Addr} {od16 an16 : Option Addr} {sl16 : Array (Option Value)} {oc16 kV16 dc16 pm16 cd16 ct16 : Value}
    {f17 : Addr} {od17 an17 : Option Addr} {sl17 : Array (Option Value)} {oc17 kV17 dc17 pm17 cd17 ct17 : Value}
    {f18 : Addr} {od18 an18 : Option Addr} {sl18 : Array (Option Value)} {oc18 kV18 dc18 pm18 cd18 ct18 : Value}
    {f19 : Addr} {od19 an19 : Option Addr} {sl19 : Array (Option Value)} {oc19 kV19 dc19 pm19 cd19 ct19 : Value}
    {f20 : Addr} {od20 an20 : Option Addr} {sl20 : Array (Option Value)} {oc20 kV20 dc20 pm20 cd20 ct20 : Value}
    {f21 : Addr} {od21 an21 : Option Addr} {sl21 : Array (Option Value)} {oc21 kV21 dc21 pm21 cd21 ct21 : Value}
    {f22 : Addr} {od22 an22 : Option Addr} {sl22 : Array (Option Value)} {oc22 kV22 dc22 pm22 cd22 ct22 : Value}
    {f23 : Addr} {od23 an23 : Option Addr} {sl23 : Array (Option Value)} {oc23 kV23 dc23 pm23 cd23 ct23 : Value}
    {f24 : Addr} {od24 an24 : Option Addr} {sl24 : Array (Option Value)} {oc24 kV24 dc24 pm24 cd24 ct24 : Value}
    {f25 : Addr} {od25 an25 : Option Addr} {sl25 : Array (Option Value)} {oc25 kV25 dc25 pm25 cd25 ct25 : Value}
    {f26 : Addr} {od26 an26 : Option Addr} {sl26 : Array (Option Value)} {oc26 kV26 dc26 pm26 cd26 ct26 : Value}
    {t0 : Tok}
    {t1 : Tok}
    {t2 : Tok}
    {t3 : Tok}
    {t4 : Tok}
    {t5 : Tok}
    {t6 : Tok}
    {t7 : Tok}
    {t8 : Tok}
    {t9 : Tok}
    {t10 : Tok}
    {t11 : Tok}
    {t12 : Tok}
    {t13 : Tok}
    (a0 : PySem.W.nsIn K mainGlobals "squares_along" = some (some (.ref f0)))
    (l0 : K.lookup f0 = some ⟨oc0, od0, .func (PySem.W.fnOf "squares_along" "squares_along" (defArgs s_squares_along) (defBody s_squares_along) (defScope s_squares_along) .none kV0 dc0 pm0 an0 cd0 ct0), sl0⟩)
    (e0 : PySem.W.codeIn K cd0 "squares_along" = true)
    (k0 : PySem.W.keepIn K (.ref f0) = true)
    (a1 : PySem.W.nsIn K mainGlobals "line_length" = some (some (.ref f1)))
    (l1 : K.lookup f1 = some ⟨oc1, od1, .func (PySem.W.fnOf "line_length" "line_length" (defArgs s_line_length) (defBody s_line_length) (defScope s_line_length) .none kV1 dc1 pm1 an1 cd1 ct1), sl1⟩)
    (e1 : PySem.W.codeIn K cd1 "line_length" = true)
    (k1 : PySem.W.keepIn K (.ref f1) = true)
    (a2 : PySem.W.nsIn K mainGlobals "wide_of" = some (some (.ref f2)))
    (l2 : K.lookup f2 = some ⟨oc2, od2, .func (PySem.W.fnOf "wide_of" "wide_of" (defArgs s_wide_of) (defBody s_wide_of) (defScope s_wide_of) .none kV2 dc2 pm2 an2 cd2 ct2), sl2⟩)
    (e2 : PySem.W.codeIn K cd2 "wide_of" = true)
    (k2 : PySem.W.keepIn K (.ref f2) = true)
    (a3 : PySem.W.nsIn K mainGlobals "high_of" = some (some (.ref f3)))
    (l3 : K.lookup f3 = some ⟨oc3, od3, .func (PySem.W.fnOf "high_of" "high_of" (defArgs s_high_of) (defBody s_high_of) (defScope s_high_of) .none kV3 dc3 pm3 an3 cd3 ct3), sl3⟩)
    (e3 : PySem.W.codeIn K cd3 "high_of" = true)
    (k3 : PySem.W.keepIn K (.ref f3) = true)
    (a4 : PySem.W.nsIn K mainGlobals "squares_of" = some (some (.ref f4)))
    (l4 : K.lookup f4 = some ⟨oc4, od4, .func (PySem.W.fnOf "squares_of" "squares_of" (defArgs s_squares_of) (defBody s_squares_of) (defScope s_squares_of) .none kV4 dc4 pm4 an4 cd4 ct4), sl4⟩)
    (e4 : PySem.W.codeIn K cd4 "squares_of" = true)
    (k4 : PySem.W.keepIn K (.ref f4) = true)
    (a5 : PySem.W.nsIn K mainGlobals "place_of" = some (some (.ref f5)))
    (l5 : K.lookup f5 = some ⟨oc5, od5, .func (PySem.W.fnOf "place_of" "place_of" (defArgs s_place_of) (defBody s_place_of) (defScope s_place_of) .none kV5 dc5 pm5 an5 cd5 ct5), sl5⟩)
    (e5 : PySem.W.codeIn K cd5 "place_of" = true)
    (k5 : PySem.W.keepIn K (.ref f5) = true)
    (a6 : PySem.W.nsIn K mainGlobals "side_between" = some (some (.ref f6)))
    (l6 : K.lookup f6 = some ⟨oc6, od6, .func (PySem.W.fnOf "side_between" "side_between" (defArgs s_side_between) (defBody s_side_between) (defScope s_side_between) .none kV6 dc6 pm6 an6 cd6 ct6), sl6⟩)
    (e6 : PySem.W.codeIn K cd6 "side_between" = true)
    (k6 : PySem.W.keepIn K (.ref f6) = true)
    (a7 : PySem.W.nsIn K mainGlobals "inner_sides" = some (some (.ref f7)))
    (l7 : K.lookup f7 = some ⟨oc7, od7, .func (PySem.W.fnOf "inner_sides" "inner_sides" (defArgs s_inner_sides) (defBody s_inner_sides) (defScope s_inner_sides) .none kV7 dc7 pm7 an7 cd7 ct7), sl7⟩)
    (e7 : PySem.W.codeIn K cd7 "inner_sides" = true)
    (k7 : PySem.W.keepIn K (.ref f7) = true)
    (a8 : PySem.W.nsIn K mainGlobals "sides_with" = some (some (.ref f8)))
    (l8 : K.lookup f8 = some ⟨oc8, od8, .func (PySem.W.fnOf "sides_with" "sides_with" (defArgs s_sides_with) (defBody s_sides_with) (defScope s_sides_with) .none kV8 dc8 pm8 an8 cd8 ct8), sl8⟩)
    (e8 : PySem.W.codeIn K cd8 "sides_with" = true)
    (k8 : PySem.W.keepIn K (.ref f8) = true)
    (a9 : PySem.W.nsIn K mainGlobals "beyond_sides" = some (some (.ref f9)))
    (l9 : K.lookup f9 = some ⟨oc9, od9, .func (PySem.W.fnOf "beyond_sides" "beyond_sides" (defArgs s_beyond_sides) (defBody s_beyond_sides) (defScope s_beyond_sides) .none kV9 dc9 pm9 an9 cd9 ct9), sl9⟩)
    (e9 : PySem.W.codeIn K cd9 "beyond_sides" = true)
    (k9 : PySem.W.keepIn K (.ref f9) = true)
    (a10 : PySem.W.nsIn K mainGlobals "garden_drawing" = some (some (.ref f10)))
    (l10 : K.lookup f10 = some ⟨oc10, od10, .func (PySem.W.fnOf "garden_drawing" "garden_drawing" (defArgs s_garden_drawing) (defBody s_garden_drawing) (defScope s_garden_drawing) .none kV10 dc10 pm10 an10 cd10 ct10), sl10⟩)
    (e10 : PySem.W.codeIn K cd10 "garden_drawing" = true)
    (k10 : PySem.W.keepIn K (.ref f10) = true)
    (a11 : PySem.W.nsIn K mainGlobals "joined" = some (some (.ref f11)))
    (l11 : K.lookup f11 = some ⟨oc11, od11, .func (PySem.W.fnOf "joined" "joined" (defArgs s_joined) (defBody s_joined) (defScope s_joined) .none kV11 dc11 pm11 an11 cd11 ct11), sl11⟩)
    (e11 : PySem.W.codeIn K cd11 "joined" = true)
    (k11 : PySem.W.keepIn K (.ref f11) = true)
    (a12 : PySem.W.nsIn K mainGlobals "sides_that_join" = some (some (.ref f12)))
    (l12 : K.lookup f12 = some ⟨oc12, od12, .func (PySem.W.fnOf "sides_that_join" "sides_that_join" (defArgs s_sides_that_join) (defBody s_sides_that_join) (defScope s_sides_that_join) .none kV12 dc12 pm12 an12 cd12 ct12), sl12⟩)
    (e12 : PySem.W.codeIn K cd12 "sides_that_join" = true)
    (k12 : PySem.W.keepIn K (.ref f12) = true)
    (a13 : PySem.W.nsIn K mainGlobals "mended" = some (some (.ref f13)))
    (l13 : K.lookup f13 = some ⟨oc13, od13, .func (PySem.W.fnOf "mended" "mended" (defArgs s_mended) (defBody s_mended) (defScope s_mended) .none kV13 dc13 pm13 an13 cd13 ct13), sl13⟩)
    (e13 : PySem.W.codeIn K cd13 "mended" = true)
    (k13 : PySem.W.keepIn K (.ref f13) = true)
    (a14 : PySem.W.nsIn K mainGlobals "first_line_signs" = some (some (.ref f14)))
    (l14 : K.lookup f14 = some ⟨oc14, od14, .func (PySem.W.fnOf "first_line_signs" "first_line_signs" (defArgs s_first_line_signs) (defBody s_first_line_signs) (defScope s_first_line_signs) .none kV14 dc14 pm14 an14 cd14 ct14), sl14⟩)
    (e14 : PySem.W.codeIn K cd14 "first_line_signs" = true)
    (k14 : PySem.W.keepIn K (.ref f14) = true)
    (a15 : PySem.W.nsIn K mainGlobals "later_line_signs" = some (some (.ref f15)))
    (l15 : K.lookup f15 = some ⟨oc15, od15, .func (PySem.W.fnOf "later_line_signs" "later_line_signs" (defArgs s_later_line_signs) (defBody s_later_line_signs) (defScope s_later_line_signs) .none kV15 dc15 pm15 an15 cd15 ct15), sl15⟩)
    (e15 : PySem.W.codeIn K cd15 "later_line_signs" = true)
    (k15 : PySem.W.keepIn K (.ref f15) = true)
    (a16 : PySem.W.nsIn K mainGlobals "signs_at" = some (some (.ref f16)))
    (l16 : K.lookup f16 = some ⟨oc16, od16, .func (PySem.W.fnOf "signs_at" "signs_at" (defArgs s_signs_at) (defBody s_signs_at) (defScope s_signs_at) .none kV16 dc16 pm16 an16 cd16 ct16), sl16⟩)
    (e16 : PySem.W.codeIn K cd16 "signs_at" = true)
    (k16 : PySem.W.keepIn K (.ref f16) = true)
    (a17 : PySem.W.nsIn K mainGlobals "may_end" = some (some (.ref f17)))
    (l17 : K.lookup f17 = some ⟨oc17, od17, .func (PySem.W.fnOf "may_end" "may_end" (defArgs s_may_end) (defBody s_may_end) (defScope s_may_end) .none kV17 dc17 pm17 an17 cd17 ct17), sl17⟩)
    (e17 : PySem.W.codeIn K cd17 "may_end" = true)
    (k17 : PySem.W.keepIn K (.ref f17) = true)
    (a18 : PySem.W.nsIn K mainGlobals "fault_of" = some (some (.ref f18)))
    (l18 : K.lookup f18 = some ⟨oc18, od18, .func (PySem.W.fnOf "fault_of" "fault_of" (defArgs s_fault_of) (defBody s_fault_of) (defScope s_fault_of) .none kV18 dc18 pm18 an18 cd18 ct18), sl18⟩)
    (e18 : PySem.W.codeIn K cd18 "fault_of" = true)
    (k18 : PySem.W.keepIn K (.ref f18) = true)
    (a19 : PySem.W.nsIn K mainGlobals "is_way_sign" = some (some (.ref f19)))
    (l19 : K.lookup f19 = some ⟨oc19, od19, .func (PySem.W.fnOf "is_way_sign" "is_way_sign" (defArgs s_is_way_sign) (defBody s_is_way_sign) (defScope s_is_way_sign) .none kV19 dc19 pm19 an19 cd19 ct19), sl19⟩)
    (e19 : PySem.W.codeIn K cd19 "is_way_sign" = true)
    (k19 : PySem.W.keepIn K (.ref f19) = true)
    (a20 : PySem.W.nsIn K mainGlobals "is_garden" = some (some (.ref f20)))
    (l20 : K.lookup f20 = some ⟨oc20, od20, .func (PySem.W.fnOf "is_garden" "is_garden" (defArgs s_is_garden) (defBody s_is_garden) (defScope s_is_garden) .none kV20 dc20 pm20 an20 cd20 ct20), sl20⟩)
    (e20 : PySem.W.codeIn K cd20 "is_garden" = true)
    (k20 : PySem.W.keepIn K (.ref f20) = true)
    (a21 : PySem.W.nsIn K mainGlobals "plan_drawing" = some (some (.ref f21)))
    (l21 : K.lookup f21 = some ⟨oc21, od21, .func (PySem.W.fnOf "plan_drawing" "plan_drawing" (defArgs s_plan_drawing) (defBody s_plan_drawing) (defScope s_plan_drawing) .none kV21 dc21 pm21 an21 cd21 ct21), sl21⟩)
    (e21 : PySem.W.codeIn K cd21 "plan_drawing" = true)
    (k21 : PySem.W.keepIn K (.ref f21) = true)
    (a22 : PySem.W.nsIn K mainGlobals "beyond_passages" = some (some (.ref f22)))
    (l22 : K.lookup f22 = some ⟨oc22, od22, .func (PySem.W.fnOf "beyond_passages" "beyond_passages" (defArgs s_beyond_passages) (defBody s_beyond_passages) (defScope s_beyond_passages) .none kV22 dc22 pm22 an22 cd22 ct22), sl22⟩)
    (e22 : PySem.W.codeIn K cd22 "beyond_passages" = true)
    (k22 : PySem.W.keepIn K (.ref f22) = true)
    (a23 : PySem.W.nsIn K mainGlobals "shortest_ways" = some (some (.ref f23)))
    (l23 : K.lookup f23 = some ⟨oc23, od23, .func (PySem.W.fnOf "shortest_ways" "shortest_ways" (defArgs s_shortest_ways) (defBody s_shortest_ways) (defScope s_shortest_ways) .none kV23 dc23 pm23 an23 cd23 ct23), sl23⟩)
    (e23 : PySem.W.codeIn K cd23 "shortest_ways" = true)
    (k23 : PySem.W.keepIn K (.ref f23) = true)
    (a24 : PySem.W.nsIn K mainGlobals "longest_way" = some (some (.ref f24)))
    (l24 : K.lookup f24 = some ⟨oc24, od24, .func (PySem.W.fnOf "longest_way" "longest_way" (defArgs s_longest_way) (defBody s_longest_way) (defScope s_longest_way) .none kV24 dc24 pm24 an24 cd24 ct24), sl24⟩)
    (e24 : PySem.W.codeIn K cd24 "longest_way" = true)
    (k24 : PySem.W.keepIn K (.ref f24) = true)
    (a25 : PySem.W.nsIn K mainGlobals "garden_refusal" = some (some (.ref f25)))
    (l25 : K.lookup f25 = some ⟨oc25, od25, .func (PySem.W.fnOf "garden_refusal" "garden_refusal" (defArgs s_garden_refusal) (defBody s_garden_refusal) (defScope s_garden_refusal) .none kV25 dc25 pm25 an25 cd25 ct25), sl25⟩)
    (e25 : PySem.W.codeIn K cd25 "garden_refusal" = true)
    (k25 : PySem.W.keepIn K (.ref f25) = true)
    (a26 : PySem.W.nsIn K mainGlobals "make" = some (some (.ref f26)))
    (l26 : K.lookup f26 = some ⟨oc26, od26, .func (PySem.W.fnOf "make" "make" (defArgs s_make) (defBody s_make) (defScope s_make) .none kV26 dc26 pm26 an26 cd26 ct26), sl26⟩)
    (e26 : PySem.W.codeIn K cd26 "make" = true)
    (k26 : PySem.W.keepIn K (.ref f26) = true)
    (v0 : PySem.W.nsIn K mainGlobals "BEGINNING" = some (some (.int (65) t0)))
    (v1 : PySem.W.nsIn K mainGlobals "BLANK" = some (some (.int (32) t1)))
    (v2 : PySem.W.nsIn K mainGlobals "CORNER" = some (some (.int (43) t2)))
    (v3 : PySem.W.nsIn K mainGlobals "END" = some (some (.int (66) t3)))
    (v4 : PySem.W.nsIn K mainGlobals "LEVEL_HEDGE" = some (some (.int (45) t4)))
    (v5 : PySem.W.nsIn K mainGlobals "LINE_FEED" = some (some (.int (10) t5)))
    (v6 : PySem.W.nsIn K mainGlobals "MOST_BYTES" = some (some (.int (1024) t6)))
    (v7 : PySem.W.nsIn K mainGlobals "MOST_SQUARES_ALONG" = some (some (.int (10) t7)))
    (v8 : PySem.W.nsIn K mainGlobals "NO_DRAWING" = some (some (.int (-6) t8)))
    (v9 : PySem.W.nsIn K mainGlobals "ONE_SQUARE" = some (some (.int (-5) t9)))
    (v10 : PySem.W.nsIn K mainGlobals "POINT" = some (some (.int (46) t10)))
    (v11 : PySem.W.nsIn K mainGlobals "TOLD" = some (some (.int (0) t11)))
    (v12 : PySem.W.nsIn K mainGlobals "TOO_LONG" = some (some (.int (-2) t12)))
    (v13 : PySem.W.nsIn K mainGlobals "UPRIGHT_HEDGE" = some (some (.int (124) t13)))
    (z0 : PySem.W.nsIn K mainGlobals "any" = some none)
    (z1 : PySem.W.nsIn K mainGlobals "enumerate" = some none)
    (z2 : PySem.W.nsIn K mainGlobals "len" = some none)
    (z3 : PySem.W.nsIn K mainGlobals "list" = some none)
    (z4 : PySem.W.nsIn K mainGlobals "range" = some none)
    (z5 : PySem.W.nsIn K mainGlobals "reversed" = some none) :
    ∃ t : Adr, Txt K mg t ∧ ∃ kV dc pm an cd ct, t.d_make = PySem.W.fnOf "make" "make" (defArgs s_make) (defBody s_make) (defScope s_make) .none kV dc pm an cd ct := by
  refine ⟨⟨f0, _, f1, _, f2, _, f3, _, f4, _, f5, _, f6, _, f7, _, f8, _, f9, _, f10, _, f11, _, f12, _, f13, _, f14, _, f15, _, f16, _, f17, _, f18, _, f19, _, f20, _, f21, _, f22, _, f23, _, f24, _, f25, _, f26, _⟩, ⟨own_mk X G a0 l0 e0 k0 (fun _ _ _ _ _ _ us hl => match us, hl with | [_], _ => rfl), own_mk X G a1 l1 e1 k1 (fun _ _ _ _ _ _ us hl => match us, hl with | [_], _ => rfl), own_mk X G a2 l2 e2 k2 (fun _ _ _ _ _ _ us hl => match us, hl with | [_], _ => rfl), own_mk X G a3 l3 e3 k3 (fun _ _ _ _ _ _ us hl => match us, hl with | [_, _], _ => rfl), own_mk X G a4 l4 e4 k4 (fun _ _ _ _ _ _ us hl => match us, hl with | [_], _ => rfl), own_mk X G a5 l5 e5 k5 (fun _ _ _ _ _ _ us hl => match us, hl with | [_, _], _ => rfl), own_mk X G a6 l6 e6 k6 (fun _ _ _ _ _ _ us hl => match us, hl with | [_, _, _], _ => rfl), own_mk X G a7 l7 e7 k7 (fun _ _ _ _ _ _ us hl => match us, hl with | [_], _ => rfl), own_mk X G a8 l8 e8 k8 (fun _ _ _ _ _ _ us hl => match us, hl with | [_, _], _ => rfl), own_mk X G a9 l9 e9 k9 (fun _ _ _ _ _ _ us hl => match us, hl with | [_, _], _ => rfl), own_mk X G a10 l10 e10 k10 (fun _ _ _ _ _ _ us hl => match us, hl with | [_, _], _ => rfl), own_mk X G a11 l11 e11 k11 (fun _ _ _ _ _ _ us hl => match us, hl with | [_, _], _ => rfl), own_mk X G a12 l12 e12 k12 (fun _ _ _ _ _ _ us hl => match us, hl with | [_, _], _ => rfl), own_mk X G a13 l13 e13 k13 (fun _ _ _ _ _ _ us hl => match us, hl with | [_], _ => rfl), own_mk X G a14 l14 e14 k14 (fun _ _ _ _ _ _ us hl => match us, hl with | [_], _ => rfl), own_mk X G a15 l15 e15 k15 (fun _ _ _ _ _ _ us hl => match us, hl with | [_, _, _], _ => rfl), own_mk X G a16 l16 e16 k16 (fun _ _ _ _ _ _ us hl => match us, hl with | [_, _], _ => rfl), own_mk X G a17 l17 e17 k17 (fun _ _ _ _ _ _ us hl => match us, hl with | [_, _], _ => rfl), own_mk X G a18 l18 e18 k18 (fun _ _ _ _ _ _ us hl => match us, hl with | [_], _ => rfl), own_mk X G a19 l19 e19 k19 (fun _ _ _ _ _ _ us hl => match us, hl with | [_], _ => rfl), own_mk X G a20 l20 e20 k20 (fun _ _ _ _ _ _ us hl => match us, hl with | [_], _ => rfl), own_mk X G a21 l21 e21 k21 (fun _ _ _ _ _ _ us hl => match us, hl with | [_, _], _ => rfl), own_mk X G a22 l22 e22 k22 (fun _ _ _ _ _ _ us hl => match us, hl with | [_], _ => rfl), own_mk X G a23 l23 e23 k23 (fun _ _ _ _ _ _ us hl => match us, hl with | [_, _], _ => rfl), own_mk X G a24 l24 e24 k24 (fun _ _ _ _ _ _ us hl => match us, hl with | [_], _ => rfl), own_mk X G a25 l25 e25 k25 (fun _ _ _ _ _ _ us hl => match us, hl with | [_], _ => rfl), own_mk X G a26 l26 e26 k26 (fun _ _ _ _ _ _ us hl => match us, hl with | [_], _ => rfl), ⟨_, PySem.W.mg_of X G v0⟩, ⟨_, PySem.W.mg_of X G v1⟩, ⟨_, PySem.W.mg_of X G v2⟩, ⟨_, PySem.W.mg_of X G v3⟩, ⟨_, PySem.W.mg_of X G v4⟩, ⟨_, PySem.W.mg_of X G v5⟩, ⟨_, PySem.W.mg_of X G v6⟩, ⟨_, PySem.W.mg_of X G v7⟩, ⟨_, PySem.W.mg_of X G v8⟩, ⟨_, PySem.W.mg_of X G v9⟩, ⟨_, PySem.W.mg_of X G v10⟩, ⟨_, PySem.W.mg_of X G v11⟩, ⟨_, PySem.W.mg_of X G v12⟩, ⟨_, PySem.W.mg_of X G v13⟩, PySem.W.mg_none_of X G z0, PySem.W.mg_none_of X G z1, PySem.W.mg_none_of X G z2, PySem.W.mg_none_of X G z3, PySem.W.mg_none_of X G z4, PySem.W.mg_none_of X G z5⟩, _, _, _, _, _, _, rfl⟩
end Gp

end
section
set_option linter.all false
set_option maxHeartbeats 2000000
namespace Gp
open PySem PySem.Spec PyProof.Rows L2
open Gm Gn
set_option maxRecDepth 100000
set_option maxHeartbeats 2000000
set_option linter.all false
set_option Elab.async false
section
variable {P : Program} {w : World} {K : PySem.W.Frag} {mg : Str → Option Value} {base : Heap} {t : Adr}
theorem ok_squares_along (T : Txt K mg t) : FnOk P w K mg base CX0 1 t.a_squares_along t.d_squares_along ["signs"] sp_squares_along := by
  refine T.o_squares_along.F.ok sc_squares_along (fun vs H Q E h => ?_) (fun cdv A outer s H vs Q E hr h => ?_)
  · obtain ⟨n, rfl, _⟩ := h
    rfl
  · obtain ⟨n, rfl, k⟩ := h
    refine ⟨_, (pss_cons (ps_if (PW.pt (pw_or (pt_cmpR op_eq (pe_op op_mod (pv 0) pe_int) pe_int (nomark _)) (pw_or1 (pt_cmpR op_gt (pv 0) (pe_op op_add (pe_op op_mul pe_int (pgI T.c_MOST_SQUARES_ALONG rfl)) pe_int) (nomark _))))) (pss_one (ps_ret pe_int)) pss_nil)
      (pss_one (ps_ret (pe_op op_fdiv (pv 0) pe_int)))), ?_⟩
    refine ⟨_, rfl, _, _, rfl, rfl, (by show (0 : Int) < 2; decide), rfl, _, rfl, ?_⟩
    refine ite2 (fun h1 => iteT ?_) (fun h1 => ?_)
    · have e : n % 2 = 0 := by simp at h1; omega
      have e2 : sqAlong n = 0 := by unfold sqAlong; rw [if_pos (Or.inl e)]
      rw [e2] at k
      exact k
    · have e : ¬ n % 2 = 0 := by simp at h1; omega
      refine ⟨_, rfl, _, _, rfl, rfl, .inl ⟨by decide, by decide⟩, _, _, rfl, rfl, _, _, rfl, rfl, _, rfl, ?_⟩
      refine ite2 (fun h2 => ?_) (fun h2 => ?_)
      · have e2 : 21 < n := by simp at h2; omega
        have e3 : sqAlong n = 0 := by unfold sqAlong; rw [if_pos (Or.inr e2)]
        rw [e3] at k
        exact k
      · have e2 : ¬ 21 < n := by simp at h2; omega
        refine ⟨_, rfl, _, _, rfl, rfl, ⟨by decide, by decide⟩, ?_⟩
        have e3 : sqAlong n = n / 2 := by unfold sqAlong; rw [if_neg (by omega)]
        rw [e3, Int.natCast_ediv] at k
        exact k
end
end Gp

end
section
set_option linter.all false
set_option maxHeartbeats 2000000
namespace Gp
open PySem PySem.Spec PyProof.Rows L2
open Gm Gn
set_option maxRecDepth 100000
set_option maxHeartbeats 2000000
set_option linter.all false
set_option Elab.async false
section
variable {P : Program} {w : World} {K : PySem.W.Frag} {mg : Str → Option Value} {base : Heap} {t : Adr}
theorem ok_line_length (T : Txt K mg t) : FnOk P w K mg base CX0 1 t.a_line_length t.d_line_length ["wide"] sp_line_length := by
  refine T.o_line_length.F.ok sc_line_length (fun vs H Q E h => ?_) (fun cdv A outer s H vs Q E hr h => ?_)
  · obtain ⟨n, rfl, _⟩ := h
    rfl
  · obtain ⟨n, rfl, k⟩ := h
    refine ⟨_, (pss_one (ps_ret (pe_op op_add (pe_op op_mul pe_int (pv 0)) pe_int))), ?_⟩
    refine ⟨_, rfl, _, _, rfl, rfl, .inl ⟨by decide, by decide⟩, _, _, rfl, rfl, ?_⟩
    have e : ((2 * n + 2 : Nat) : Int) = 2 * (n : Int) + 2 := by omega
    rw [e] at k
    exact k
end
end Gp

end
section
set_option linter.all false
set_option maxHeartbeats 2000000
namespace Gp
open PySem PySem.Spec PyProof.Rows L2
open Gm Gn
set_option maxRecDepth 100000
set_option maxHeartbeats 2000000
set_option linter.all false
set_option Elab.async false
section
variable {P : Program} {w : World} {K : PySem.W.Frag} {mg : Str → Option Value} {base : Heap} {t : Adr}
theorem ok_wide_of (T : Txt K mg t) : FnOk P w K mg base CX0 2 t.a_wide_of t.d_wide_of ["drawing"] (sp_wide_of K) := by
  refine T.o_wide_of.F.ok sc_wide_of (fun vs H Q E h => ?_) (fun cdv A outer s H vs Q E hr h => ?_)
  · obtain ⟨a, g, rfl, _⟩ := h
    rfl
  · obtain ⟨a, g, rfl, hS, k⟩ := h
    refine ⟨_, (pss_cons (ps_if (pt_cmpR op_notIn_seq (pgI T.c_LINE_FEED rfl) (pv 0) rfl) (pss_one (ps_ret pe_int)) pss_nil)
      (pss_one (ps_ret (pcall T.o_squares_along (ok_squares_along T) (hr.mono (by decide)) rfl (pa_cons (pe_bm PySem.F.plainAttrs_list PySem.F.slot_list_index PySem.F.type_list_index mt_index (pv 0) (pa_cons (pgI T.c_LINE_FEED rfl) pa_nil)) pa_nil))))), ?_⟩
    refine ⟨_, rfl, a, _, rfl, .inl hS, rfl, natL_flat g, _, rfl, ?_⟩
    have e0 : inV (V.int 10) (natL g) = decide (10 ∈ g) := inV_nat 10 g
    refine ite2 (fun h1 => ?_) (fun h1 => ?_)
    · have e : ¬ 10 ∈ g := by
        intro z
        have h1 : (!inV (V.int 10) (natL g)) = true := h1
        rw [e0, decide_eq_true z] at h1
        cases h1
      have e2 : widOf g = 0 := by unfold widOf; rw [if_neg e]
      rw [e2] at k
      exact k
    · have e : 10 ∈ g := by
        have h1 : ¬ (!inV (V.int 10) (natL g)) = true := h1
        rw [e0] at h1
        by_cases z : 10 ∈ g
        · exact z
        · rw [decide_eq_false z] at h1
          exact absurd rfl h1
      have hlt : g.idxOf 10 < g.length := List.idxOf_lt_length_iff.mpr e
      have hat : g[g.idxOf 10]? = some 10 := by
        rw [List.getElem?_eq_getElem hlt, List.getElem_idxOf hlt]
      refine ⟨_, rfl, .inl ⟨rfl, _, hS⟩, a, _, V.int 10, g.idxOf 10, V.int 10, rfl, rfl, hS, rfl, natL_flat g, natL_at hat, rfl, ?_, _, rfl, ?_⟩
      · intro m z hm hz
        obtain ⟨n, hn, rfl⟩ := of_natL_at hz
        have hne : ¬ n = 10 := fun q => by
          have hml : m < g.length := by omega
          rw [List.getElem?_eq_getElem hml] at hn
          have := List.not_of_lt_findIdx (p := fun x => x == 10) (xs := g) (i := m) hm
          rw [Option.some.inj hn, q] at this
          exact absurd this (by decide)
        show ((n : Int) == (10 : Int)) = false
        rw [beq_eq_false_iff_ne]
        omega
      · have e2 : widOf g = sqAlong (g.idxOf 10) := by unfold widOf; rw [if_pos e]
        rw [e2] at k
        exact k
end
end Gp

end
section
set_option linter.all false
set_option maxHeartbeats 2000000
namespace Gp
open PySem PySem.Spec PyProof.Rows L2
open Gm Gn
set_option maxRecDepth 100000
set_option maxHeartbeats 2000000
set_option linter.all false
set_option Elab.async false
section
variable {P : Program} {w : World} {K : PySem.W.Frag} {mg : Str → Option Value} {base : Heap} {t : Adr}
theorem ok_high_of (T : Txt K mg t) : FnOk P w K mg base CX0 2 t.a_high_of t.d_high_of ["drawing", "wide"] (sp_high_of K) := by
  refine T.o_high_of.F.ok sc_high_of (fun vs H Q E h => ?_) (fun cdv A outer s H vs Q E hr h => ?_)
  · obtain ⟨a, g, n, rfl, _⟩ := h
    rfl
  · obtain ⟨a, g, n, rfl, hn, hS, k⟩ := h
    refine ⟨_, (pss_cons (ps_if (pt_cmpR op_ne (pe_op op_mod (pe_callB call_len_seq rfl T.n_len PySem.boot_len (pa_cons (pv 0) pa_nil)) (pcall T.o_line_length (ok_line_length T) (hr.mono (by decide)) rfl (pa_cons (pv 1) pa_nil))) pe_int (nomark _)) (pss_one (ps_ret pe_int)) pss_nil)
      (pss_one (ps_ret (pcall T.o_squares_along (ok_squares_along T) (hr.mono (by decide)) rfl (pa_cons (pe_op op_fdiv (pe_callB call_len_seq rfl T.n_len PySem.boot_len (pa_cons (pv 0) pa_nil)) (pcall T.o_line_length (ok_line_length T) (hr.mono (by decide)) rfl (pa_cons (pv 1) pa_nil))) pa_nil))))), ?_⟩
    refine ⟨_, rfl, a, _, rfl, .inl hS, _, rfl, n, rfl, _, _, rfl, rfl, (by omega), rfl, _, rfl, ?_⟩
    rw [natL_len]
    refine ite2 (fun h1 => ?_) (fun h1 => ?_)
    · have e : g.length % (2 * n + 2) ≠ 0 := by
        intro z
        have z2 : ((g.length : Int) % ((2 * n + 2 : Nat) : Int)) = 0 := by rw [← Int.natCast_emod, z]; rfl
        exact ne_test.mp h1 z2
      have e2 : higOf g n = 0 := by unfold higOf; rw [if_pos e]
      rw [e2] at k
      exact k
    · have e : ¬ g.length % (2 * n + 2) ≠ 0 := by
        intro z
        refine h1 (ne_test.mpr fun z2 => z ?_)
        rw [← Int.natCast_emod] at z2
        exact Int.ofNat.inj z2
      refine ⟨_, rfl, a, _, rfl, .inl hS, _, rfl, n, rfl, _, _, rfl, rfl, ⟨by omega, by omega⟩, g.length / (2 * n + 2), ?_, ?_⟩
      · rw [natL_len, Int.natCast_ediv]
        rfl
      · have e2 : higOf g n = sqAlong (g.length / (2 * n + 2)) := by unfold higOf; rw [if_neg e]
        rw [e2] at k
        exact k

end
end Gp

end
section
set_option linter.all false
set_option maxHeartbeats 2000000
namespace Gp
open PySem PySem.Spec PyProof.Rows L2
open Gm Gn
set_option maxRecDepth 100000
set_option maxHeartbeats 2000000
set_option linter.all false
set_option Elab.async false
section
variable {P : Program} {w : World} {K : PySem.W.Frag} {mg : Str → Option Value} {base : Heap} {t : Adr}
theorem ok_squares_of (T : Txt K mg t) : FnOk P w K mg base CX0 3 t.a_squares_of t.d_squares_of ["drawing"] (sp_squares_of K) := by
  refine T.o_squares_of.F.ok sc_squares_of (fun vs H Q E h => ?_) (fun cdv A outer s H vs Q E hr h => ?_)
  · obtain ⟨a, g, rfl, _⟩ := h
    rfl
  · obtain ⟨a, g, rfl, hS, k⟩ := h
    refine ⟨_, (pss_cons (ps_set (i := 1) sc_squares_of.nd rfl (Or.inl rfl) (pcall T.o_wide_of (ok_wide_of T) (hr.mono (by decide)) rfl (pa_cons (pv 0) pa_nil)))
      (pss_one (ps_ret (pe_op op_mul (pv 1) (pcall T.o_high_of (ok_high_of T) (hr.mono (by decide)) rfl (pa_cons (pv 0) (pa_cons (pv 1) pa_nil))))))), ?_⟩
    have hle := wid_le g
    refine ⟨_, rfl, a, g, rfl, hS, ?_⟩
    refine ⟨_, rfl, _, rfl, _, rfl, a, g, widOf g, rfl, hle, hS, _, _, rfl, rfl, .inl ⟨by omega, by omega⟩, ?_⟩
    have e : ((nOf g : Nat) : Int) = (widOf g : Int) * (higOf g (widOf g) : Int) := by
      unfold nOf
      exact Int.natCast_mul ..
    rw [e] at k
    exact k
end
end Gp

end
section
set_option linter.all false
set_option maxHeartbeats 2000000
namespace Gp
open PySem PySem.Spec PyProof.Rows L2
open Gm Gn
set_option maxRecDepth 100000
set_option maxHeartbeats 2000000
set_option linter.all false
set_option Elab.async false
section
variable {P : Program} {w : World} {K : PySem.W.Frag} {mg : Str → Option Value} {base : Heap} {t : Adr}
theorem ok_place_of (T : Txt K mg t) : FnOk P w K mg base CX0 2 t.a_place_of t.d_place_of ["square", "wide"] sp_place_of := by
  refine T.o_place_of.F.ok sc_place_of (fun vs H Q E h => ?_) (fun cdv A outer s H vs Q E hr h => ?_)
  · obtain ⟨s, n, rfl, _⟩ := h
    rfl
  · obtain ⟨s, n, rfl, hn, k⟩ := h
    refine ⟨_, (pss_cons (ps_set (i := 2) sc_place_of.nd rfl (Or.inl rfl) (pe_op op_add (pe_op op_mul pe_int (pe_op op_fdiv (pv 0) (pv 1))) pe_int))
      (pss_cons (ps_set (i := 3) sc_place_of.nd rfl (Or.inl rfl) (pe_op op_add (pe_op op_mul pe_int (pe_op op_mod (pv 0) (pv 1))) pe_int))
      (pss_one (ps_ret (pe_op op_add (pe_op op_mul (pv 2) (pcall T.o_line_length (ok_line_length T) (hr.mono (by decide)) rfl (pa_cons (pv 1) pa_nil))) (pv 3)))))), ?_⟩
    refine ⟨_, rfl, _, rfl, _, _, rfl, rfl, ⟨by omega, by omega⟩, _, _, rfl, rfl, .inl ⟨by decide, by decide⟩, _, _, rfl, rfl, ?_⟩
    refine ⟨_, rfl, _, rfl, _, _, rfl, rfl, (by omega), _, _, rfl, rfl, .inl ⟨by decide, by decide⟩, _, _, rfl, rfl, ?_⟩
    refine ⟨_, rfl, _, rfl, n, rfl, _, _, rfl, rfl, .inr ⟨by omega, by omega⟩, _, rfl, _, _, rfl, rfl, ?_⟩
    have e : ((placeOf n s : Nat) : Int) = (2 * ((s : Int) / (n : Int)) + 1) * ((2 * n + 2 : Nat) : Int) + (2 * ((s : Int) % (n : Int)) + 1) := by
      unfold Gm.placeOf
      rw [Int.natCast_add, Int.natCast_mul, ← Int.natCast_ediv, ← Int.natCast_emod]
      congr 2
    rw [e] at k
    exact k
end
end Gp

end
section
set_option linter.all false
set_option maxHeartbeats 2000000
namespace Gp
open PySem PySem.Spec PyProof.Rows L2
open Gm Gn
set_option maxRecDepth 100000
set_option maxHeartbeats 2000000
set_option linter.all false
set_option Elab.async false
section
variable {P : Program} {w : World} {K : PySem.W.Frag} {mg : Str → Option Value} {base : Heap} {t : Adr}
theorem ok_side_between (T : Txt K mg t) : FnOk P w K mg base CX0 3 t.a_side_between t.d_side_between ["one", "other", "wide"] sp_side_between := by
  refine T.o_side_between.F.ok sc_side_between (fun vs H Q E h => ?_) (fun cdv A outer s H vs Q E hr h => ?_)
  · obtain ⟨s, u, n, rfl, _⟩ := h
    rfl
  · obtain ⟨s, u, n, rfl, hn, k⟩ := h
    refine ⟨_, (pss_one (ps_ret (pe_op op_fdiv (pe_op op_add (pcall T.o_place_of (ok_place_of T) (hr.mono (by decide)) rfl (pa_cons (pv 0) (pa_cons (pv 2) pa_nil))) (pcall T.o_place_of (ok_place_of T) (hr.mono (by decide)) rfl (pa_cons (pv 1) (pa_cons (pv 2) pa_nil)))) pe_int))), ?_⟩
    refine ⟨_, rfl, _, rfl, s, n, rfl, hn, _, rfl, _, rfl, u, n, rfl, hn, _, _, rfl, rfl, _, _, rfl, rfl, ⟨by decide, by decide⟩, ?_⟩
    have e : ((sideOf n s u : Nat) : Int) = ((placeOf n s : Nat) + (placeOf n u : Nat) : Int) / 2 := by
      unfold sideOf
      omega
    rw [e] at k
    exact k
end
end Gp

end
section
set_option linter.all false
set_option maxHeartbeats 2000000
namespace Gp
open PySem PySem.Spec PyProof.Rows L2
open Gm Gn
set_option maxRecDepth 100000
set_option maxHeartbeats 2000000
set_option linter.all false
set_option Elab.async false
section
variable {P : Program} {w : World} {K : PySem.W.Frag} {mg : Str → Option Value} {base : Heap} {t : Adr}
theorem ok_inner_sides (T : Txt K mg t) : FnOk P w K mg base CX0 4 t.a_inner_sides t.d_inner_sides ["drawing"] (sp_inner_sides K) := by
  refine T.o_inner_sides.F.ok sc_inner_sides (fun vs H Q E h => ?_) (fun cdv A outer s H vs Q E hr h => ?_)
  · obtain ⟨a, g, rfl, _⟩ := h
    rfl
  · obtain ⟨a, g, rfl, hS, hZ, k⟩ := h
    obtain ⟨⟨w1, w2⟩, ⟨h1, h2⟩, hl, hn, hwn⟩ := sz_of hZ
    have big := sizeLine_big
    refine ⟨_, (pss_cons (ps_set (i := 1) sc_inner_sides.nd rfl (Or.inr rfl) (pcall T.o_wide_of (ok_wide_of T) (hr.mono (by decide)) rfl (pa_cons (pv 0) pa_nil)))
      (pss_cons (ps_set (i := 2) sc_inner_sides.nd rfl (Or.inl rfl) (pcall T.o_squares_of (ok_squares_of T) (hr.mono (by decide)) rfl (pa_cons (pv 0) pa_nil)))
      (pss_cons (ps_setLc (i := 3) rfl sc_inner_sides.nd rfl rfl (sw_true rfl rfl rfl rfl) (pi_range1 rfl T.n_range (pa_cons (pv 2) pa_nil)) (blkOk_by (N := ["drawing", "wide", "squares", "upright", "square", "level"]) (sc := defScope s_inner_sides) (own := [("square", 4)]) (by decide +kernel)) (fun _ _ _ _ _ => (pg_name (i := 4) sc_inner_sides.nd rfl (Or.inl rfl))) (fun _ _ _ _ _ => (pts_one (pt_cmpR op_lt (pe_op op_mod (pv 4) (pv 1)) (pe_op op_sub (pv 1) pe_int) (nomark _)))) (fun _ _ _ _ _ => (pe_tup (pa_cons (pv 4) (pa_cons (pe_op op_add (pv 4) pe_int) pa_nil)))))
      (pss_cons (ps_setLc (i := 5) rfl sc_inner_sides.nd rfl rfl (sw_true rfl rfl rfl rfl) (pi_range1 rfl T.n_range (pa_cons (pe_op op_sub (pv 2) (pv 1)) pa_nil)) (blkOk_by (N := ["drawing", "wide", "squares", "upright", "square", "level"]) (sc := defScope s_inner_sides) (own := [("square", 4)]) (by decide +kernel)) (fun _ _ _ _ _ => (pg_name (i := 4) sc_inner_sides.nd rfl (Or.inl rfl))) (fun _ _ _ _ _ => pts_nil) (fun _ _ _ _ _ => (pe_tup (pa_cons (pv 4) (pa_cons (pe_op op_add (pv 4) (pv 1)) pa_nil)))))
      (pss_one (ps_ret (pe_op op_cat (pv 3) (pv 5)))))))), ?_⟩
    refine ⟨_, rfl, a, g, rfl, hS, ?_⟩
    refine ⟨_, rfl, a, g, rfl, hS, ?_⟩
    refine ⟨_, rfl, (nOf g : Int), rfl, by omega, by omega, fun D hD => ?_⟩
    have e0 : ((nOf g : Int)).toNat = nOf g := Int.toNat_natCast _
    rw [e0]
    refine lc_range (lo := 0) (n := nOf g) (fun i H' => Same H H' ∧ Sides K H' D (upsN (widOf g) i)) ⟨Same.new (Same.refl H) hD _, Sides.nil upd_same⟩ ?_ ?_
    · rintro i H' hi ⟨s1, hs⟩
      refine ⟨rfl, ?_⟩
      refine ⟨_, rfl, _, rfl, _, _, rfl, rfl, (by omega), _, rfl, _, _, rfl, rfl, _, _, rfl, rfl, _, rfl, ?_⟩
      have et : decide ((0 + (i : Int)) % (widOf g : Int) < (widOf g : Int) - 1) = decide (i % widOf g < widOf g - 1) := by
        rw [decide_eq_decide, Int.zero_add, ← Int.natCast_emod]
        omega
      refine ite2 (fun c => ?_) (fun c => ?_)
      · have c : decide ((0 + (i : Int)) % (widOf g : Int) < (widOf g : Int) - 1) = true := c
        rw [et] at c
        refine ⟨_, rfl, _, rfl, _, _, rfl, rfl, (by show 2 ≤ sizeLine; decide), fun p hp => ?_⟩
        have s2 := Same.new s1 hp (.tup [.int (0 + (i : Int)), .int (0 + (i : Int) + 1)])
        have hs2 := Sides.same (Same.new (Same.refl H') hp (.tup [.int (0 + (i : Int)), .int (0 + (i : Int) + 1)])) hs
        obtain ⟨acc, ha⟩ := hs2.at
        have hlen := sides_len hs2 ha
        have := upsN_len (widOf g) i
        refine ⟨acc, ha, by omega, Same.set s2 hD _, ?_⟩
        have ep : upd H' p (.tup [.int (0 + (i : Int)), .int (0 + (i : Int) + 1)]) p = some (.tup (prV (i, i + 1))) := by
          rw [upd_same]
          unfold prV
          rw [Int.zero_add, Int.natCast_add]
          rfl
        rw [upsN_succ, if_pos c]
        exact hs2.snoc ha ep
      · have c : ¬ decide ((0 + (i : Int)) % (widOf g : Int) < (widOf g : Int) - 1) = true := c
        rw [et] at c
        refine ⟨s1, ?_⟩
        rw [upsN_succ, if_neg c, List.append_nil]
        exact hs
    · rintro H1 ⟨s1, hs1⟩
      refine ⟨_, rfl, _, rfl, _, _, rfl, rfl, ((nOf g : Int) - (widOf g : Int)), rfl, by omega, by omega, fun D2 hD2 => ?_⟩
      have e1 : ((nOf g : Int) - (widOf g : Int)).toNat = nOf g - widOf g := by omega
      rw [e1]
      refine lc_range (lo := 0) (n := nOf g - widOf g) (fun i H' => Same H1 H' ∧ Sides K H' D2 (levsN (widOf g) i)) ⟨Same.new (Same.refl H1) hD2 _, Sides.nil upd_same⟩ ?_ ?_
      · rintro i H' hi ⟨s2, hs⟩
        refine ⟨rfl, yes_of ?_⟩
        refine ⟨_, rfl, _, rfl, _, rfl, _, _, rfl, rfl, (by show 2 ≤ sizeLine; decide), fun p hp => ?_⟩
        have s3 := Same.new s2 hp (.tup [.int (0 + (i : Int)), .int (0 + (i : Int) + (widOf g : Int))])
        have hs2 := Sides.same (Same.new (Same.refl H') hp (.tup [.int (0 + (i : Int)), .int (0 + (i : Int) + (widOf g : Int))])) hs
        obtain ⟨acc, ha⟩ := hs2.at
        have hlen := sides_len hs2 ha
        have hll : (levsN (widOf g) i).length = i := by unfold levsN; rw [List.length_map, List.length_range]
        refine ⟨acc, ha, by omega, Same.set s3 hD2 _, ?_⟩
        have ep : upd H' p (.tup [.int (0 + (i : Int)), .int (0 + (i : Int) + (widOf g : Int))]) p = some (.tup (prV (i, i + widOf g))) := by
          rw [upd_same]
          unfold prV
          rw [Int.zero_add, Int.natCast_add]
        rw [levsN_succ]
        exact hs2.snoc ha ep
      · rintro H2 ⟨s2, hs2⟩
        have hs1' := Sides.same s2 hs1
        obtain ⟨xs, hx⟩ := hs1'.at
        obtain ⟨ys, hy⟩ := hs2.at
        have l1 := sides_len hs1' hx
        have l2 := sides_len hs2 hy
        have := upsN_len (widOf g) (nOf g)
        have hll : (levsN (widOf g) (nOf g - widOf g)).length = nOf g - widOf g := by unfold levsN; rw [List.length_map, List.length_range]
        refine ⟨_, rfl, _, rfl, D, D2, xs, ys, rfl, rfl, hx, hy, by omega, fun p hp => k _ p (Same.new (s1.trans s2) hp _) (hs1'.cat hs2 hx hy hp)⟩
end
end Gp

end
section
set_option linter.all false
set_option maxHeartbeats 2000000
namespace Gp
open PySem PySem.Spec PyProof.Rows L2
open Gm Gn
set_option maxRecDepth 100000
set_option maxHeartbeats 2000000
set_option linter.all false
set_option Elab.async false
section
variable {P : Program} {w : World} {K : PySem.W.Frag} {mg : Str → Option Value} {base : Heap} {t : Adr}
theorem ok_sides_with (T : Txt K mg t) : FnOk P w K mg base CX0 5 t.a_sides_with t.d_sides_with ["drawing", "sign"] (sp_sides_with K) := by
  refine T.o_sides_with.F.ok sc_sides_with (fun vs H Q E h => ?_) (fun cdv A outer s H vs Q E hr h => ?_)
  · obtain ⟨a, g, n, rfl, _⟩ := h
    rfl
  · obtain ⟨a, g, n, rfl, hS, hZ, k⟩ := h
    obtain ⟨⟨w1, w2⟩, ⟨h1, h2⟩, hl, hn, hwn⟩ := sz_of hZ
    have big := sizeLine_big
    refine ⟨_, (pss_cons (ps_set (i := 2) sc_sides_with.nd rfl (Or.inr rfl) (pcall T.o_wide_of (ok_wide_of T) (hr.mono (by decide)) rfl (pa_cons (pv 0) pa_nil)))
      (pss_one (ps_ret (pe_lc rfl sc_sides_with.nd (pi_list (pcall T.o_inner_sides (ok_inner_sides T) (hr.mono (by decide)) rfl (pa_cons (pv 0) pa_nil))) (blkOk_by (N := ["drawing", "sign", "wide", "side"]) (sc := defScope s_sides_with) (own := [("side", 3)]) (by decide +kernel)) (fun _ _ _ _ _ => (pg_name (i := 3) sc_sides_with.nd rfl (Or.inl rfl))) (fun _ _ _ _ _ => (pts_one (pt_cmpR op_eq (pe_ix (ix_listK (K := K) rfl) (pv 0) (pcall T.o_side_between (ok_side_between T) (hr.mono (by decide)) rfl (pa_cons (pe_ix (ix_tupK (K := K) rfl) (pv 3) pe_int (fun _ _ => rfl)) (pa_cons (pe_ix (ix_tupK (K := K) rfl) (pv 3) pe_int (fun _ _ => rfl)) (pa_cons (pv 2) pa_nil)))) (fun _ _ => rfl)) (pv 1) (nomark _)))) (fun _ _ _ _ _ => (pv 3)))))), ?_⟩
    refine ⟨_, rfl, a, g, rfl, hS, ?_⟩
    refine ⟨_, rfl, a, g, rfl, hS, hZ, fun H1 p s1 hsd => ?_⟩
    obtain ⟨rs, r1, r2, r3⟩ := hsd.get
    refine ⟨p, rfl, ⟨_, SqL.of r1⟩, fun D hD => lc_list (K := K) (a := p) (xs := rs.map V.ref) (fun i H' => Same H1 H' ∧ Sides K H' D (((innerS (widOf g) (nOf g)).take i).filter fun e => g.getD (sideOf (widOf g) e.1 e.2) 0 == n)) ⟨Same.new (Same.refl H1) hD _, Sides.nil upd_same⟩ (fun i H' _ ⟨s2, _⟩ => s2.seq (SqL.of r1)) ?_ ?_⟩
    · rintro i x H' hi ⟨s2, hs⟩
      obtain ⟨r, e, rfl, hri, hei, hr1⟩ := r3 i x hi
      have hr2 := s2 _ _ hr1
      have hmem : e ∈ innerS (widOf g) (nOf g) := List.mem_of_getElem? hei
      obtain ⟨hlt, _⟩ := side_len hZ hmem
      refine ⟨rfl, ?_⟩
      refine ⟨_, rfl, _, rfl, r, _, _, _, rfl, rfl, SqT.of hr2, tup_0 hr2, _, rfl, r, _, _, _, rfl, rfl, SqT.of hr2, tup_1 hr2, _, rfl, e.1, e.2, widOf g, rfl, ⟨w1, w2⟩, a, _, _, _, rfl, rfl, (s1.trans s2).seq hS, atI_nat (natL_at (nat_getD hlt)), _, rfl, rfl, _, rfl, ?_⟩
      have et : decide (V.int ((g.getD (sideOf (widOf g) e.1 e.2) 0 : Nat) : Int) = V.int (n : Int)) = (g.getD (sideOf (widOf g) e.1 e.2) 0 == n) := by
        rw [Bool.eq_iff_iff, eq_test, beq_iff_eq]
        omega
      refine ite2 (fun c => ?_) (fun c => ?_)
      · have c : decide (V.int ((g.getD (sideOf (widOf g) e.1 e.2) 0 : Nat) : Int) = V.int (n : Int)) = true := c
        rw [et] at c
        refine ⟨_, rfl, ?_⟩
        obtain ⟨acc, ha⟩ := hs.at
        have hlen := sides_len hs ha
        have hle := List.length_filter_le (fun e => g.getD (sideOf (widOf g) e.1 e.2) 0 == n) ((innerS (widOf g) (nOf g)).take i)
        have hle2 := innerS_len (widOf g) (nOf g) hn
        rw [List.length_take] at hle
        refine ⟨acc, ha, by omega, Same.set s2 hD _, ?_⟩
        rw [sidesW_take hei, if_pos c]
        exact hs.snoc ha hr2
      · have c : ¬ decide (V.int ((g.getD (sideOf (widOf g) e.1 e.2) 0 : Nat) : Int) = V.int (n : Int)) = true := c
        rw [et] at c
        refine ⟨s2, ?_⟩
        rw [sidesW_take hei, if_neg c, List.append_nil]
        exact hs
    · rintro H2 ⟨s2, hs⟩
      rw [List.length_map, r2, List.take_length] at hs
      exact k _ D (s1.trans s2) hs
end
end Gp

end
section
set_option linter.all false
set_option maxHeartbeats 2000000
namespace Gp
open PySem PySem.Spec PyProof.Rows L2
open Gm Gn
set_option maxRecDepth 100000
set_option maxHeartbeats 2000000
set_option linter.all false
set_option Elab.async false
section
variable {P : Program} {w : World} {K : PySem.W.Frag} {mg : Str → Option Value} {base : Heap} {t : Adr}
theorem ok_beyond_sides (T : Txt K mg t) : FnOk P w K mg base CX0 1 t.a_beyond_sides t.d_beyond_sides ["sides", "squares"] (sp_beyond_sides K) := by
  refine T.o_beyond_sides.F.ok sc_beyond_sides (fun vs H Q E h => ?_) (fun cdv A outer s H vs Q E hr h => ?_)
  · obtain ⟨a, E', n, rfl, _⟩ := h
    rfl
  · obtain ⟨a, E', n, rfl, hS, hn, hE, hin, k⟩ := h
    have big := sizeLine_big
    obtain ⟨rs0, r1, r2, r3⟩ := hS.get
    refine ⟨_, (pss_cons (ps_setLc (i := 2) rfl sc_beyond_sides.nd rfl rfl (sw_true rfl rfl rfl rfl) (pi_range1 rfl T.n_range (pa_cons (pv 1) pa_nil)) (blkOk_by (N := ["sides", "squares", "beyond", "square", "side"]) (sc := defScope s_beyond_sides) (own := [("square", 3)]) (by decide +kernel)) (fun _ _ _ _ _ => (pg_name (i := 3) sc_beyond_sides.nd rfl (Or.inl rfl))) (fun _ _ _ _ _ => pts_nil) (fun _ _ _ _ _ => (pe_lst pa_nil)))
      (pss_cons (ps_for PassesOwn.never rfl (pi_list (pv 0)) (pg_name (i := 4) sc_beyond_sides.nd rfl (Or.inl rfl))
        (pss_cons (ps_expr (pe_bm PySem.F.plainAttrs_list PySem.F.slot_list_append PySem.F.type_list_append mt_append (pe_ix ix_list (pv 2) (pe_ix ix_tup (pv 4) pe_int (fun _ _ => rfl)) (fun _ _ => rfl)) (pa_cons (pe_ix ix_tup (pv 4) pe_int (fun _ _ => rfl)) pa_nil)))
      (pss_one (ps_expr (pe_bm PySem.F.plainAttrs_list PySem.F.slot_list_append PySem.F.type_list_append mt_append (pe_ix ix_list (pv 2) (pe_ix ix_tup (pv 4) pe_int (fun _ _ => rfl)) (fun _ _ => rfl)) (pa_cons (pe_ix ix_tup (pv 4) pe_int (fun _ _ => rfl)) pa_nil))))))
      (pss_one (ps_ret (pv 2))))), ?_⟩
    refine ⟨_, rfl, (n : Int), rfl, by omega, by omega, fun D hD => ?_⟩
    have e0 : ((n : Int)).toNat = n := Int.toNat_natCast _
    rw [e0]
    refine lc_range (lo := 0) (n := n) (fun i H' => Same H H' ∧ ∃ rs, NestA H H' D rs i fun _ => []) ⟨Same.new (Same.refl H) hD _, [], upd_same, rfl, List.nodup_nil, (fun r hr => by cases hr), fun s r hs => by rw [List.getElem?_nil] at hs; cases hs⟩ ?_ ?_
    · rintro i H' hi ⟨s1, rs, N⟩
      refine ⟨rfl, yes_of ?_⟩
      refine ⟨(by show 0 ≤ sizeLine; decide), fun p hp => ?_⟩
      have hDp : D ≠ p := ne_of_none N.at_ hp
      have hat : upd H' p (.lst []) D = some (.lst (rs.map V.ref)) := by
        rw [upd_ne hDp]
        exact N.at_
      refine ⟨_, hat, by rw [List.length_map, N.len]; omega, Same.set (Same.new s1 hp _) hD _, rs ++ [p], ?_, ?_, ?_, fun r hr => ?_, fun s r hs => ?_⟩
      · rw [upd_same, List.map_append]
        rfl
      · rw [List.length_append, N.len]
        rfl
      · refine List.nodup_append.mpr ⟨N.nd, List.nodup_cons.mpr ⟨List.not_mem_nil, List.nodup_nil⟩, fun x hx y hy e => ?_⟩
        rw [List.mem_singleton.mp hy] at e
        obtain ⟨j, hj, ej⟩ := List.getElem_of_mem hx
        have := N.val j x (by rw [List.getElem?_eq_getElem hj, ej])
        rw [e, hp] at this
        cases this
      · rcases List.mem_append.mp hr with z | z
        · exact N.new r z
        · rw [List.mem_singleton.mp z]
          exact ⟨s1.free hp, Ne.symm hDp⟩
      · have hrD : r ≠ D := by
          rcases List.mem_append.mp (List.mem_of_getElem? hs) with z | z
          · exact (N.new r z).2
          · rw [List.mem_singleton.mp z]
            exact Ne.symm hDp
        rw [upd_ne hrD]
        by_cases c : s < rs.length
        · rw [List.getElem?_append_left c] at hs
          have := N.val s r hs
          rw [upd_ne (ne_of_none this hp)]
          exact this
        · have hi2 : s < (rs ++ [p]).length := (List.getElem?_eq_some_iff.mp hs).1
          rw [List.length_append, List.length_singleton] at hi2
          have es : s = rs.length := by omega
          rw [es, List.getElem?_append_right (Nat.le_refl _), Nat.sub_self] at hs
          have e : p = r := Option.some.inj hs
          rw [← e, upd_same]
          rfl
    · rintro H1 ⟨s1, rs, N⟩
      refine ⟨_, rfl, a, rfl, ⟨_, s1.seq (SqL.of r1)⟩, for_list (K := K) (a := a) (xs := rs0.map V.ref) (fun i σ H' => (∃ v : Option V, σ = [some (.ref a), some (.int (n : Int)), some (.ref D), none, v]) ∧ Same H H' ∧ NestA H H' D rs n (adj (E'.take i)))
        ⟨⟨none, rfl⟩, s1, N⟩ (fun i σ H' _ ⟨_, s2, _⟩ => s2.seq (SqL.of r1)) ?_ ?_⟩
      · rintro i x σ H' hi ⟨⟨v, rfl⟩, s2, M⟩
        obtain ⟨r, e, rfl, hri, hei, hr1⟩ := r3 i x hi
        have hr2 := s2 _ _ hr1
        obtain ⟨l1, l2, l3⟩ := hin e (List.mem_of_getElem? hei)
        have hq1 : ∃ q, rs[e.1]? = some q := ⟨_, List.getElem?_eq_getElem (by rw [M.len]; exact l1)⟩
        have hq2 : ∃ q, rs[e.2]? = some q := ⟨_, List.getElem?_eq_getElem (by rw [M.len]; exact l2)⟩
        obtain ⟨q1, hq1⟩ := hq1
        obtain ⟨q2, hq2⟩ := hq2
        have at1 : (rs.map V.ref)[e.1]? = some (.ref q1) := by rw [List.getElem?_map, hq1]; rfl
        have at2 : (rs.map V.ref)[e.2]? = some (.ref q2) := by rw [List.getElem?_map, hq2]; rfl
        have hv1 := M.val _ _ hq1
        have len1 : (natL (adj (E'.take i) e.1)).length < sizeLine := by
          rw [natL_len]
          have := adj_len (E'.take i) e.1
          rw [List.length_take] at this
          omega
        refine ⟨_, rfl, _, rfl, r, _, _, _, rfl, rfl, SqT.of hr2, tup_0 hr2, D, _, _, _, rfl, rfl, SqL.of M.at_, atI_nat at1, .inl ⟨rfl, _, SqL.of hv1⟩, _, rfl, r, _, _, _, rfl, rfl, SqT.of hr2, tup_1 hr2, q1, _, _, rfl, rfl, hv1, len1, ?_⟩
        have M2 := M.app (v := e.2) hq1
        have s3 : Same H (upd H' q1 (.lst (natL (adj (E'.take i) e.1) ++ [.int (e.2 : Int)]))) := Same.set s2 (M.new q1 (List.mem_of_getElem? hq1)).1 _
        have hr3 : upd H' q1 (.lst (natL (adj (E'.take i) e.1) ++ [.int (e.2 : Int)])) r = some (.tup (prV e)) := by
          rw [upd_ne (ne_of hr2 hv1 (by intro z; cases z))]
          exact hr2
        have hv2 := M2.val _ _ hq2
        rw [if_neg (Ne.symm l3)] at hv2
        have len2 : (natL (adj (E'.take i) e.2)).length < sizeLine := by
          rw [natL_len]
          have := adj_len (E'.take i) e.2
          rw [List.length_take] at this
          omega
        refine ⟨_, rfl, _, rfl, r, _, _, _, rfl, rfl, SqT.of hr3, tup_1 hr3, D, _, _, _, rfl, rfl, SqL.of M2.at_, atI_nat at2, .inl ⟨rfl, _, SqL.of hv2⟩, _, rfl, r, _, _, _, rfl, rfl, SqT.of hr3, tup_0 hr3, q2, _, _, rfl, rfl, hv2, len2, ?_⟩
        have M3 := M2.app (v := e.1) hq2
        rw [if_neg (Ne.symm l3)] at M3
        have s4 := Same.set s3 (M.new q2 (List.mem_of_getElem? hq2)).1 (.lst (natL (adj (E'.take i) e.2) ++ [.int (e.1 : Int)]))
        refine ⟨⟨_, rfl⟩, s4, ?_⟩
        have ef : (fun s => if s = e.2 then (if s = e.1 then adj (E'.take i) s ++ [e.2] else adj (E'.take i) s) ++ [e.1] else if s = e.1 then adj (E'.take i) s ++ [e.2] else adj (E'.take i) s) = adj (E'.take (i + 1)) := by
          funext s
          rw [take_snoc hei, adj_snoc]
          by_cases c1 : s = e.1
          · have c2 : ¬ s = e.2 := by rw [c1]; exact l3
            rw [if_neg c2, if_pos c1, if_pos c1.symm, if_neg (Ne.symm c2), List.append_nil]
          · by_cases c2 : s = e.2
            · rw [if_pos c2, if_neg c1, if_neg (Ne.symm c1), if_pos c2.symm, List.nil_append]
            · rw [if_neg c2, if_neg c1, if_neg (Ne.symm c1), if_neg (Ne.symm c2), List.append_nil, List.append_nil]
        rw [← ef]
        exact M3
      · rintro σ H2 ⟨⟨v, rfl⟩, s2, M⟩
        rw [List.length_map, r2, List.take_length] at M
        refine ⟨_, rfl, k _ D s2 ⟨rs, M.at_, by rw [M.len, List.length_map, List.length_range], fun i r l hi hl => ?_⟩⟩
        rw [M.val i r hi]
        rw [List.getElem?_map] at hl
        have hin : i < n := by rw [← M.len]; exact (List.getElem?_eq_some_iff.mp hi).1
        rw [List.getElem?_range hin] at hl
        rw [← Option.some.inj hl]
end
end Gp

end
section
set_option linter.all false
set_option maxHeartbeats 2000000
namespace Gp
open PySem PySem.Spec PyProof.Rows L2
open Gm Gn
set_option maxRecDepth 100000
set_option maxHeartbeats 2000000
set_option linter.all false
set_option Elab.async false
section
variable {P : Program} {w : World} {K : PySem.W.Frag} {mg : Str → Option Value} {base : Heap} {t : Adr}
theorem ok_garden_drawing (T : Txt K mg t) : FnOk P w K mg base CX0 5 t.a_garden_drawing t.d_garden_drawing ["drawing", "passages"] (sp_garden_drawing K) := by
  refine T.o_garden_drawing.F.ok sc_garden_drawing (fun vs H Q E h => ?_) (fun cdv A outer s H vs Q E hr h => ?_)
  · obtain ⟨a, b, g, E', rfl, _⟩ := h
    rfl
  · obtain ⟨a, b, g, E', rfl, hS, hP, hZ, k⟩ := h
    obtain ⟨⟨w1, w2⟩, ⟨h1, h2⟩, hl, hn, hwn⟩ := sz_of hZ
    have big := sizeLine_big
    have hgne : g ≠ [] := by
      intro z
      rw [z] at hl
      have : 1 * (2 * widOf g + 2) ≤ (2 * higOf g (widOf g) + 1) * (2 * widOf g + 2) := Nat.mul_le_mul_right _ (by omega)
      rw [z] at this
      simp at hl this
    refine ⟨_, (pss_cons (ps_set (i := 2) sc_garden_drawing.nd rfl (Or.inl rfl) (pcall T.o_wide_of (ok_wide_of T) (hr.mono (by decide)) rfl (pa_cons (pv 0) pa_nil)))
      (pss_cons (ps_set (i := 3) sc_garden_drawing.nd rfl (Or.inl rfl) (pe_callTy call_list_of rfl T.n_list PyProof.Rows.boot_list (pa_cons (pv 0) pa_nil)))
      (pss_cons (ps_for PassesOwn.never rfl (pi_list (pcall T.o_inner_sides (ok_inner_sides T) (hr.mono (by decide)) rfl (pa_cons (pv 0) pa_nil))) (pg_name (i := 4) sc_garden_drawing.nd rfl (Or.inl rfl))
        (pss_cons (ps_set (i := 5) sc_garden_drawing.nd rfl (Or.inl rfl) (pe_cmpR op_eq (pe_op op_fdiv (pe_ix ix_tup (pv 4) pe_int (fun _ _ => rfl)) (pv 2)) (pe_op op_fdiv (pe_ix ix_tup (pv 4) pe_int (fun _ _ => rfl)) (pv 2)) (nomark _)))
      (pss_cons (ps_set (i := 6) sc_garden_drawing.nd rfl (Or.inl rfl) (pe_ifExp (pt_truth (pv 5) (fun _ => rfl)) (pgI T.c_UPRIGHT_HEDGE rfl) (pgI T.c_LEVEL_HEDGE rfl)))
      (pss_one (ps_asg (pe_ifExp (pt_cmpR (op_in_sides hr.units) (pv 4) (pv 1) rfl) (pgI T.c_BLANK rfl) (pv 6)) (pg_sub (pv 3) (pcall T.o_side_between (ok_side_between T) (hr.mono (by decide)) rfl (pa_cons (pe_ix ix_tup (pv 4) pe_int (fun _ _ => rfl)) (pa_cons (pe_ix ix_tup (pv 4) pe_int (fun _ _ => rfl)) (pa_cons (pv 2) pa_nil)))) set_list))))))
      (pss_one (ps_ret (pv 3)))))), ?_⟩
    refine ⟨_, rfl, a, g, rfl, hS, ?_⟩
    refine ⟨_, rfl, a, _, rfl, .inl hS, fun dl hdl => ?_⟩
    have s0 : Same H (upd H dl (.lst (natL g))) := Same.new (Same.refl H) hdl _
    have hd0 : upd H dl (.lst (natL g)) dl = some (.lst (natL g)) := upd_same
    generalize upd H dl (.lst (natL g)) = H0 at s0 hd0 ⊢
    refine ⟨_, rfl, a, g, rfl, s0.seq hS, hZ, fun H1 p s1 hsd => ?_⟩
    have hpd : dl ≠ p := ne_nat_sides (s1 _ _ hd0) hsd hgne
    obtain ⟨rs, r1, r2, r3⟩ := hsd.get
    refine ⟨p, rfl, ⟨_, SqL.of r1⟩, for_list (K := K) (a := p) (xs := rs.map V.ref) (fun i σ H' => (∃ v4 v5 v6 : Option V, σ = [some (.ref a), some (.ref b), some (.int (widOf g : Nat)), some (.ref dl), v4, v5, v6]) ∧ (∀ c o, c ≠ dl → H1 c = some o → H' c = some o) ∧ H' dl = some (.lst (natL (((innerS (widOf g) (nOf g)).take i).foldl (fun d e => d.set (sideOf (widOf g) e.1 e.2) (sgnOf (widOf g) E' e)) g))))
      ⟨⟨none, none, none, rfl⟩, (fun c o _ e => e), s1 _ _ hd0⟩ (fun i σ H' _ ⟨_, s2, _⟩ => SqL.of (s2 _ _ (Ne.symm hpd) r1)) ?_ ?_⟩
    · rintro i x σ H' hi ⟨⟨v4, v5, v6, rfl⟩, s2, hd⟩
      obtain ⟨r, e, rfl, hri, hei, hr1⟩ := r3 i x hi
      have hrd : r ≠ dl := ne_of hr1 (s1 _ _ hd0) (by intro z; cases z)
      have hr2 := s2 _ _ hrd hr1
      obtain ⟨hlt, _⟩ := side_len hZ (List.mem_of_getElem? hei)
      have sH : Same H H' := fun c o ec => s2 c o (ne_of_none ec hdl) (s1 _ _ (s0 _ _ ec))
      have hP' := hP.same sH
      refine ⟨_, rfl, r, _, _, _, rfl, rfl, SqT.of hr2, tup_0 hr2, _, rfl, _, _, rfl, rfl, ⟨by omega, by omega⟩, _, rfl, r, _, _, _, rfl, rfl, SqT.of hr2, tup_1 hr2, _, rfl, _, _, rfl, rfl, ⟨by omega, by omega⟩, rfl, ?_⟩
      have erow : decide (V.int ((e.1 : Int) / (widOf g : Int)) = V.int ((e.2 : Int) / (widOf g : Int))) = decide (e.1 / widOf g = e.2 / widOf g) := by
        rw [Bool.eq_iff_iff, eq_test, decide_eq_true_eq, ← Int.natCast_ediv, ← Int.natCast_ediv]
        omega
      refine ⟨_, rfl, _, rfl, ?_⟩
      have len2 : sideOf (widOf g) e.1 e.2 < (natL (((innerS (widOf g) (nOf g)).take i).foldl (fun d e => d.set (sideOf (widOf g) e.1 e.2) (sgnOf (widOf g) E' e)) g)).length := by
        rw [natL_len, setsV_len]
        exact hlt
      have fin : ∀ v : Nat, v = sgnOf (widOf g) E' e → (∀ c o, c ≠ dl → H1 c = some o → upd H' dl (.lst ((natL (((innerS (widOf g) (nOf g)).take i).foldl (fun d e => d.set (sideOf (widOf g) e.1 e.2) (sgnOf (widOf g) E' e)) g)).set (sideOf (widOf g) e.1 e.2) (V.int (v : Int)))) c = some o) ∧
          upd H' dl (.lst ((natL (((innerS (widOf g) (nOf g)).take i).foldl (fun d e => d.set (sideOf (widOf g) e.1 e.2) (sgnOf (widOf g) E' e)) g)).set (sideOf (widOf g) e.1 e.2) (V.int (v : Int)))) dl = some (.lst (natL (((innerS (widOf g) (nOf g)).take (i + 1)).foldl (fun d e => d.set (sideOf (widOf g) e.1 e.2) (sgnOf (widOf g) E' e)) g))) := by
        intro v hv
        refine ⟨fun c o hc ec => ?_, ?_⟩
        · rw [upd_ne hc]
          exact s2 c o hc ec
        · rw [upd_same, natL_set, drawG_snoc hei, hv]
      by_cases c1 : e.1 / widOf g = e.2 / widOf g
      · refine ifT (by rw [erow]; exact decide_eq_true c1) ?_
        refine ⟨_, rfl, _, rfl, r, b, e, E', rfl, rfl, hr2, hP', _, rfl, ?_⟩
        by_cases c2 : e ∈ E'
        · refine ifT (decide_eq_true c2) ?_
          refine ⟨_, rfl, _, rfl, r, _, _, _, rfl, rfl, SqT.of hr2, tup_0 hr2, _, rfl, r, _, _, _, rfl, rfl, SqT.of hr2, tup_1 hr2, _, rfl, e.1, e.2, widOf g, rfl, ⟨w1, w2⟩, dl, _, _, sideOf (widOf g) e.1 e.2, rfl, rfl, hd, ixN_nat len2, ?_⟩
          exact ⟨⟨_, _, _, rfl⟩, fin 32 (by unfold sgnOf; rw [if_pos c2])⟩
        · refine ifF (fun z => c2 (of_decide_eq_true z)) ?_
          refine ⟨_, rfl, _, rfl, _, rfl, r, _, _, _, rfl, rfl, SqT.of hr2, tup_0 hr2, _, rfl, r, _, _, _, rfl, rfl, SqT.of hr2, tup_1 hr2, _, rfl, e.1, e.2, widOf g, rfl, ⟨w1, w2⟩, dl, _, _, sideOf (widOf g) e.1 e.2, rfl, rfl, hd, ixN_nat len2, ?_⟩
          exact ⟨⟨_, _, _, rfl⟩, fin 124 (by unfold sgnOf; rw [if_neg c2, if_pos c1])⟩
      · refine ifF (by rw [erow]; exact fun z => c1 (of_decide_eq_true z)) ?_
        refine ⟨_, rfl, _, rfl, r, b, e, E', rfl, rfl, hr2, hP', _, rfl, ?_⟩
        by_cases c2 : e ∈ E'
        · refine ifT (decide_eq_true c2) ?_
          refine ⟨_, rfl, _, rfl, r, _, _, _, rfl, rfl, SqT.of hr2, tup_0 hr2, _, rfl, r, _, _, _, rfl, rfl, SqT.of hr2, tup_1 hr2, _, rfl, e.1, e.2, widOf g, rfl, ⟨w1, w2⟩, dl, _, _, sideOf (widOf g) e.1 e.2, rfl, rfl, hd, ixN_nat len2, ?_⟩
          exact ⟨⟨_, _, _, rfl⟩, fin 32 (by unfold sgnOf; rw [if_pos c2])⟩
        · refine ifF (fun z => c2 (of_decide_eq_true z)) ?_
          refine ⟨_, rfl, _, rfl, _, rfl, r, _, _, _, rfl, rfl, SqT.of hr2, tup_0 hr2, _, rfl, r, _, _, _, rfl, rfl, SqT.of hr2, tup_1 hr2, _, rfl, e.1, e.2, widOf g, rfl, ⟨w1, w2⟩, dl, _, _, sideOf (widOf g) e.1 e.2, rfl, rfl, hd, ixN_nat len2, ?_⟩
          exact ⟨⟨_, _, _, rfl⟩, fin 45 (by unfold sgnOf; rw [if_neg c2, if_neg c1])⟩
    · rintro σ H2 ⟨⟨v4, v5, v6, rfl⟩, s2, hd⟩
      rw [List.length_map, r2, List.take_length] at hd
      exact ⟨_, rfl, k H2 dl (fun c o ec => s2 c o (ne_of_none ec hdl) (s1 _ _ (s0 _ _ ec))) hd⟩
end
end Gp

end
section
set_option linter.all false
set_option maxHeartbeats 2000000
namespace Gp
open PySem PySem.Spec PyProof.Rows L2
open Gm Gn
set_option maxRecDepth 100000
set_option maxHeartbeats 2000000
set_option linter.all false
set_option Elab.async false
section
variable {P : Program} {w : World} {K : PySem.W.Frag} {mg : Str → Option Value} {base : Heap} {t : Adr}
theorem ok_joined (T : Txt K mg t) : FnOk P w K mg base CX0 1 t.a_joined t.d_joined ["rooms", "side"] (sp_joined K) := by
  refine T.o_joined.F.ok sc_joined (fun vs H Q E h => ?_) (fun cdv A outer s H vs Q E hr h => ?_)
  · obtain ⟨a, r, m, e, rfl, _⟩ := h
    rfl
  · obtain ⟨a, r, m, e, rfl, hS, hr1, l1, l2, hlen, k⟩ := h
    have big := sizeLine_big
    refine ⟨_, (pss_cons (ps_set (i := 2) sc_joined.nd rfl (Or.inr rfl) (pe_ix ix_list (pv 0) (pe_ix ix_tup (pv 1) pe_int (fun _ _ => rfl)) (fun _ _ => rfl)))
      (pss_cons (ps_set (i := 3) sc_joined.nd rfl (Or.inr rfl) (pe_ix ix_list (pv 0) (pe_ix ix_tup (pv 1) pe_int (fun _ _ => rfl)) (fun _ _ => rfl)))
      (pss_one (ps_ret (pe_lc rfl sc_joined.nd (pi_list (pv 0)) (blkOk_by (N := ["rooms", "side", "one", "other", "room"]) (sc := defScope s_joined) (own := [("room", 4)]) (by decide +kernel)) (fun _ _ _ _ _ => (pg_name (i := 4) sc_joined.nd rfl (Or.inl rfl))) (fun _ _ _ _ _ => pts_nil) (fun _ _ _ _ _ => (pe_ifExp (pt_cmpR op_eq (pv 4) (pv 3) (nomark _)) (pv 2) (pv 4)))))))), ?_⟩
    refine ⟨_, rfl, _, rfl, r, _, _, _, rfl, rfl, SqT.of hr1, tup_0 hr1, a, _, _, _, rfl, rfl, hS, atI_nat (natL_at (nat_getD l1)), ?_⟩
    refine ⟨_, rfl, _, rfl, r, _, _, _, rfl, rfl, SqT.of hr1, tup_1 hr1, a, _, _, _, rfl, rfl, hS, atI_nat (natL_at (nat_getD l2)), ?_⟩
    refine ⟨_, rfl, a, rfl, ⟨_, hS⟩, fun D hD => lc_list (K := K) (a := a) (xs := natL m) (fun i H' => Same H H' ∧ H' D = some (.lst (natL ((m.take i).map fun z => if z = m.getD e.2 0 then m.getD e.1 0 else z)))) ⟨Same.new (Same.refl H) hD _, upd_same⟩ (fun i H' _ ⟨s2, _⟩ => s2.seq hS) ?_ ?_⟩
    · rintro i x H' hi ⟨s2, hd⟩
      obtain ⟨n, hn, rfl⟩ := of_natL_at hi
      refine ⟨rfl, yes_of ?_⟩
      have fl : (natL ((m.take i).map fun z => if z = m.getD e.2 0 then m.getD e.1 0 else z)).length < sizeLine := by
        rw [natL_len, List.length_map, List.length_take]
        omega
      have es : natL ((m.take (i + 1)).map fun z => if z = m.getD e.2 0 then m.getD e.1 0 else z) = natL ((m.take i).map fun z => if z = m.getD e.2 0 then m.getD e.1 0 else z) ++ [V.int ((if n = m.getD e.2 0 then m.getD e.1 0 else n : Nat) : Int)] := by
        rw [take_snoc hn, List.map_append]
        exact (natL_snoc _ _).symm
      refine ⟨_, rfl, _, rfl, rfl, _, rfl, ?_⟩
      by_cases c : n = m.getD e.2 0
      · refine ifT (eq_test.mpr (by rw [c])) ?_
        refine ⟨_, rfl, _, hd, fl, Same.set s2 hD _, ?_⟩
        rw [upd_same, es, if_pos c]
      · refine ifF (fun z => c (by have := eq_test.mp z; omega)) ?_
        refine ⟨_, rfl, _, hd, fl, Same.set s2 hD _, ?_⟩
        rw [upd_same, es, if_neg c]
    · rintro H2 ⟨s2, hd⟩
      rw [natL_len, List.take_length] at hd
      exact k H2 D s2 hd
end
end Gp

end
section
set_option linter.all false
set_option maxHeartbeats 2000000
namespace Gp
open PySem PySem.Spec PyProof.Rows L2
open Gm Gn
set_option maxRecDepth 100000
set_option maxHeartbeats 2000000
set_option linter.all false
set_option Elab.async false
section
variable {P : Program} {w : World} {K : PySem.W.Frag} {mg : Str → Option Value} {base : Heap} {t : Adr}
theorem ok_sides_that_join (T : Txt K mg t) : FnOk P w K mg base CX0 2 t.a_sides_that_join t.d_sides_that_join ["sides", "squares"] (sp_sides_that_join K) := by
  refine T.o_sides_that_join.F.ok sc_sides_that_join (fun vs H Q E h => ?_) (fun cdv A outer s H vs Q E hr h => ?_)
  · obtain ⟨a, E', n, rfl, _⟩ := h
    rfl
  · obtain ⟨a, E', n, rfl, hS, hn1, hn, hEl, hin, k⟩ := h
    have big := sizeLine_big
    obtain ⟨rs0, r1, r2, r3⟩ := hS.get
    refine ⟨_, (pss_cons (ps_set (i := 2) sc_sides_that_join.nd rfl (Or.inl rfl) (pe_callTy (call_list_rng rfl) rfl T.n_list PyProof.Rows.boot_list (pa_cons (pe_callTy call_range_obj rfl T.n_range boot_range (pa_cons (pv 1) pa_nil)) pa_nil)))
      (pss_cons (ps_set (i := 3) sc_sides_that_join.nd rfl (Or.inl rfl) (pe_lst pa_nil))
      (pss_cons (ps_for PassesOwn.never rfl (pi_list (pv 0)) (pg_name (i := 4) sc_sides_that_join.nd rfl (Or.inl rfl))
        (pss_one (ps_if (pt_cmpR op_ne (pe_ix ix_list (pv 2) (pe_ix ix_tup (pv 4) pe_int (fun _ _ => rfl)) (fun _ _ => rfl)) (pe_ix ix_list (pv 2) (pe_ix ix_tup (pv 4) pe_int (fun _ _ => rfl)) (fun _ _ => rfl)) (nomark _)) (pss_cons (ps_expr (pe_bm PySem.F.plainAttrs_list PySem.F.slot_list_append PySem.F.type_list_append mt_append (pv 3) (pa_cons (pv 4) pa_nil)))
      (pss_one (ps_set (i := 2) sc_sides_that_join.nd rfl (Or.inl rfl) (pcall T.o_joined (ok_joined T) (hr.mono (by decide)) rfl (pa_cons (pv 2) (pa_cons (pv 4) pa_nil)))))) pss_nil)))
      (pss_one (ps_ret (pv 3)))))), ?_⟩
    refine ⟨_, rfl, n, rfl, fun p hp => ⟨p, n, rfl, upd_same, by omega, fun M hM => ?_⟩⟩
    have s1 := Same.new (Same.new (Same.refl H) hp (.rng 0 (n : Int))) hM (.lst (natL (List.range n)))
    have hm1 : upd (upd H p (.rng 0 (n : Int))) M (.lst (natL (List.range n))) M = some (.lst (natL (List.range n))) := upd_same
    generalize upd (upd H p (.rng 0 (n : Int))) M (.lst (natL (List.range n))) = H1 at s1 hm1 ⊢
    refine ⟨(by show 0 ≤ sizeLine; decide), fun Jn hJn => ?_⟩
    have hJ0 : H Jn = Option.none := s1.free hJn
    have s2 := Same.new s1 hJn (.lst [])
    have hm2 : upd H1 Jn (.lst []) M = some (.lst (natL (List.range n))) := by
      rw [upd_ne (ne_of_none hm1 hJn)]
      exact hm1
    refine ⟨_, rfl, a, rfl, ⟨_, s2.seq (SqL.of r1)⟩, for_list (K := K) (a := a) (xs := rs0.map V.ref) (fun i σ H' => ∃ (M' : Addr) (v : Option V), σ = [some (.ref a), some (.int (n : Int)), some (.ref M'), some (.ref Jn), v] ∧ Same H H' ∧ H' M' = some (.lst (natL ((E'.take i).foldl kstep (List.range n, [])).1)) ∧ Sides K H' Jn ((E'.take i).foldl kstep (List.range n, [])).2)
      ⟨M, none, rfl, s2, hm2, Sides.nil upd_same⟩ (fun i σ H' _ ⟨_, _, _, s3, _⟩ => s3.seq (SqL.of r1)) ?_ ?_⟩
    · rintro i x σ H' hi ⟨M', v, rfl, s3, hm, hJ⟩
      obtain ⟨r, e, rfl, hri, hei, hr1⟩ := r3 i x hi
      have hr2 := s3 _ _ hr1
      obtain ⟨l1, l2⟩ := hin e (List.mem_of_getElem? hei)
      obtain ⟨kl1, kl2⟩ := kst_len (E'.take i) (List.range n, [])
      have hl : ((E'.take i).foldl kstep (List.range n, [])).1.length = n := by rw [kl1]; exact List.length_range
      rw [kst_snoc hei]
      generalize ((E'.take i).foldl kstep (List.range n, [])) = y at hm hJ hl kl2 ⊢
      obtain ⟨m, J⟩ := y
      have hm : H' M' = some (.lst (natL m)) := hm
      have hJ : Sides K H' Jn J := hJ
      have hl : m.length = n := hl
      have kl2 : J.length ≤ 0 + (E'.take i).length := kl2
      rw [List.length_take] at kl2
      have hne : m ≠ [] := by intro z; rw [z] at hl; simp at hl; omega
      have hMJ : M' ≠ Jn := ne_nat_sides hm hJ hne
      refine ⟨_, rfl, _, rfl, r, _, _, _, rfl, rfl, SqT.of hr2, tup_0 hr2, M', _, _, _, rfl, rfl, SqL.of hm, atI_nat (natL_at (nat_getD (by rw [hl]; exact l1))), _, rfl, _, rfl, r, _, _, _, rfl, rfl, SqT.of hr2, tup_1 hr2, M', _, _, _, rfl, rfl, SqL.of hm, atI_nat (natL_at (nat_getD (by rw [hl]; exact l2))), rfl, _, rfl, ?_⟩
      unfold kstep
      by_cases c : m.getD e.1 0 ≠ m.getD e.2 0
      · refine ifT (ne_test.mpr (by omega)) ?_
        obtain ⟨acc, ha⟩ := hJ.at
        have hlen := sides_len hJ ha
        refine ⟨_, rfl, .inl ⟨rfl, _, SqL.of ha⟩, _, rfl, Jn, _, _, rfl, rfl, ha, by omega, ?_⟩
        have hJ2 := hJ.snoc ha hr2
        have hm4 : upd H' Jn (.lst (acc ++ [V.ref r])) M' = some (.lst (natL m)) := by rw [upd_ne hMJ]; exact hm
        have hr4 : upd H' Jn (.lst (acc ++ [V.ref r])) r = some (.tup (prV e)) := by
          rw [upd_ne (ne_of hr2 ha (by intro z; cases z))]
          exact hr2
        have s4 : Same H (upd H' Jn (.lst (acc ++ [V.ref r]))) := Same.set s3 hJ0 _
        generalize upd H' Jn (.lst (acc ++ [V.ref r])) = H4 at hJ2 hm4 hr4 s4 ⊢
        refine ⟨_, rfl, _, rfl, M', r, m, e, rfl, SqL.of hm4, hr4, by rw [hl]; exact l1, by rw [hl]; exact l2, by omega, fun H5 M2 s5 hm5 => ⟨M2, _, rfl, s4.trans s5, ?_, ?_⟩⟩
        · rw [if_pos c]
          exact hm5
        · rw [if_pos c]
          exact hJ2.same s5
      · refine ifF (fun z => c (by have := ne_test.mp z; omega)) ?_
        refine ⟨M', _, rfl, s3, ?_, ?_⟩
        · rw [if_neg c]
          exact hm
        · rw [if_neg c]
          exact hJ
    · rintro σ H2 ⟨M', v, rfl, s3, hm, hJ⟩
      rw [List.length_map, r2, List.take_length] at hJ
      exact ⟨_, rfl, k H2 Jn s3 hJ⟩
end
end Gp

end
section
set_option linter.all false
set_option maxHeartbeats 2000000
namespace Gp
open PySem PySem.Spec PyProof.Rows L2
open Gm Gn
set_option maxRecDepth 100000
set_option maxHeartbeats 2000000
set_option linter.all false
set_option Elab.async false
section
variable {P : Program} {w : World} {K : PySem.W.Frag} {mg : Str → Option Value} {base : Heap} {t : Adr}
theorem ok_mended (T : Txt K mg t) : FnOk P w K mg base CX0 6 t.a_mended t.d_mended ["drawing"] (sp_mended K) := by
  refine T.o_mended.F.ok sc_mended (fun vs H Q E h => ?_) (fun cdv A outer s H vs Q E hr h => ?_)
  · obtain ⟨a, g, rfl, _⟩ := h
    rfl
  · obtain ⟨a, g, rfl, hS, hZ, k⟩ := h
    obtain ⟨⟨w1, w2⟩, ⟨h1, h2⟩, hl, hn, hwn⟩ := sz_of hZ
    have big := sizeLine_big
    refine ⟨_, (pss_cons (ps_set (i := 1) sc_mended.nd rfl (Or.inl rfl) (pcall T.o_sides_with (ok_sides_with T) (hr.mono (by decide)) rfl (pa_cons (pv 0) (pa_cons (pgI T.c_BLANK rfl) pa_nil))))
      (pss_cons (ps_set (i := 2) sc_mended.nd rfl (Or.inl rfl) (pe_op op_cat (pcall T.o_sides_with (ok_sides_with T) (hr.mono (by decide)) rfl (pa_cons (pv 0) (pa_cons (pgI T.c_UPRIGHT_HEDGE rfl) pa_nil))) (pcall T.o_sides_with (ok_sides_with T) (hr.mono (by decide)) rfl (pa_cons (pv 0) (pa_cons (pgI T.c_LEVEL_HEDGE rfl) pa_nil)))))
      (pss_cons (ps_set (i := 3) sc_mended.nd rfl (Or.inl rfl) (pe_op op_cat (pe_list_rev rfl rfl T.n_list rfl T.n_reversed (pa_cons (pv 1) pa_nil)) (pv 2)))
      (pss_one (ps_ret (pcall T.o_garden_drawing (ok_garden_drawing T) (hr.mono (by decide)) rfl (pa_cons (pv 0) (pa_cons (pcall T.o_sides_that_join (ok_sides_that_join T) (hr.mono (by decide)) rfl (pa_cons (pv 3) (pa_cons (pcall T.o_squares_of (ok_squares_of T) (hr.mono (by decide)) rfl (pa_cons (pv 0) pa_nil)) pa_nil))) pa_nil)))))))), ?_⟩
    refine ⟨_, rfl, a, g, 32, rfl, hS, hZ, fun H1 p s1 hp => ?_⟩
    refine ⟨_, rfl, a, g, 124, rfl, s1.seq hS, hZ, fun H2 p2 s2 hp2 => ⟨_, rfl, a, g, 45, rfl, (s1.trans s2).seq hS, hZ, fun H3 p3 s3 hp3 => ?_⟩⟩
    have L : ∀ n, (sidesW g (widOf g) (nOf g) n).length ≤ 200 := fun n => by
      have := List.length_filter_le (fun e => g.getD (sideOf (widOf g) e.1 e.2) 0 == n) (innerS (widOf g) (nOf g))
      have := innerS_len (widOf g) (nOf g) hn
      unfold sidesW
      omega
    have bd : ∀ n, ∀ e ∈ sidesW g (widOf g) (nOf g) n, e.1 < nOf g ∧ e.2 < nOf g := fun n e he => by
      obtain ⟨_, y1, y2, _⟩ := side_len hZ (List.mem_filter.mp he).1
      exact ⟨y1, y2⟩
    have hp2' := hp2.same s3
    obtain ⟨xs, hx⟩ := hp2'.at
    obtain ⟨ys, hy⟩ := hp3.at
    have lx := sides_len hp2' hx
    have ly := sides_len hp3 hy
    have L1 := L 124
    have L2 := L 45
    have L3 := L 32
    refine ⟨p2, p3, xs, ys, rfl, rfl, hx, hy, by omega, fun Hd hHd => ?_⟩
    have hh := hp2'.cat hp3 hx hy hHd
    have s4 : Same H3 (upd H3 Hd (.lst (xs ++ ys))) := Same.new (Same.refl H3) hHd _
    have hh0 : upd H3 Hd (.lst (xs ++ ys)) Hd = some (.lst (xs ++ ys)) := upd_same
    generalize upd H3 Hd (.lst (xs ++ ys)) = H4 at hh s4 hh0 ⊢
    have s14 : Same H1 H4 := (s2.trans s3).trans s4
    have hp4 := hp.same s14
    obtain ⟨zs, hz⟩ := hp4.at
    have lz := sides_len hp4 hz
    refine ⟨_, rfl, p, zs, rfl, SqL.of hz, fun q hq => ?_⟩
    have hrev := hp4.rev hz hq
    have s5 : Same H4 (upd H4 q (.lst zs.reverse)) := Same.new (Same.refl H4) hq _
    have hq0 : upd H4 q (.lst zs.reverse) q = some (.lst zs.reverse) := upd_same
    generalize upd H4 q (.lst zs.reverse) = H5 at hrev s5 hq0 ⊢
    have hh5 := hh.same s5
    have hh05 := s5 _ _ hh0
    refine ⟨_, rfl, q, Hd, _, _, rfl, rfl, hq0, hh05, by rw [List.length_reverse, List.length_append]; omega, fun O hO => ?_⟩
    have ho := hrev.cat hh5 hq0 hh05 hO
    have s6 : Same H5 (upd H5 O (.lst (zs.reverse ++ (xs ++ ys)))) := Same.new (Same.refl H5) hO _
    generalize upd H5 O (.lst (zs.reverse ++ (xs ++ ys))) = H6 at ho s6 ⊢
    have s06 : Same H H6 := (((s1.trans s14).trans s5).trans s6)
    refine ⟨_, rfl, _, rfl, _, rfl, a, g, rfl, s06.seq hS, O, _, nOf g, rfl, ho, by omega, hn, ?_, ?_, fun H7 kp s7 hk => ?_⟩
    · rw [List.length_append, List.length_append, List.length_reverse]
      omega
    · intro e he
      rcases List.mem_append.mp he with z | z
      · exact bd 32 e (List.mem_reverse.mp z)
      · rcases List.mem_append.mp z with y | y
        · exact bd 124 e y
        · exact bd 45 e y
    · refine ⟨a, kp, g, _, rfl, (s06.trans s7).seq hS, hk, hZ, fun H8 d s8 hd => k H8 d ((s06.trans s7).trans s8) hd⟩
end
end Gp

end
section
set_option linter.all false
set_option maxHeartbeats 2000000
namespace Gp
open PySem PySem.Spec PyProof.Rows L2
open Gm Gn
set_option maxRecDepth 100000
set_option maxHeartbeats 2000000
set_option linter.all false
set_option Elab.async false
section
variable {P : Program} {w : World} {K : PySem.W.Frag} {mg : Str → Option Value} {base : Heap} {t : Adr}
theorem ok_first_line_signs (T : Txt K mg t) : FnOk P w K mg base CX0 1 t.a_first_line_signs t.d_first_line_signs ["column"] sp_first_line_signs := by
  refine T.o_first_line_signs.F.ok sc_first_line_signs (fun vs H Q E h => ?_) (fun cdv A outer s H vs Q E hr h => ?_)
  · obtain ⟨j, rfl, _⟩ := h
    rfl
  · obtain ⟨j, rfl, k⟩ := h
    refine ⟨_, (pss_cons (ps_if (pt_cmpR op_eq (pe_op op_mod (pv 0) pe_int) pe_int (nomark _)) (pss_one (ps_ret (pe_tup (pa_cons (pgI T.c_CORNER rfl) pa_nil)))) pss_nil)
      (pss_cons (ps_if (pt_cmpR op_eq (pv 0) pe_int (nomark _)) (pss_one (ps_ret (pe_tup (pa_cons (pgI T.c_LEVEL_HEDGE rfl) pa_nil)))) pss_nil)
      (pss_cons (ps_if (pt_cmpR op_eq (pv 0) (pe_op op_add (pe_op op_mul pe_int (pgI T.c_MOST_SQUARES_ALONG rfl)) pe_int) (nomark _)) (pss_one (ps_ret (pe_tup (pa_cons (pgI T.c_LINE_FEED rfl) pa_nil)))) pss_nil)
      (pss_one (ps_ret (pe_tup (pa_cons (pgI T.c_LEVEL_HEDGE rfl) (pa_cons (pgI T.c_LINE_FEED rfl) pa_nil)))))))), ?_⟩
    have hm2 : (0 : Int) < 2 := by decide
    refine ⟨_, rfl, _, _, rfl, rfl, hm2, rfl, _, rfl, ?_⟩
    by_cases e1 : j % 2 = 0
    · refine ifT (eq_test.mpr (by omega)) ?_
      refine ⟨(by show 1 ≤ sizeLine; decide), fun p hp => k _ p (Same.new (Same.refl H) hp _) ?_⟩
      rw [upd_same]
      unfold first0
      rw [if_pos e1]
      all_goals rfl
    refine ifF (fun z => e1 (by have := eq_test.mp z; omega)) ?_
    refine ⟨_, rfl, rfl, _, rfl, ?_⟩
    by_cases e2 : j = 1
    · refine ifT (eq_test.mpr (by omega)) ?_
      refine ⟨(by show 1 ≤ sizeLine; decide), fun p hp => k _ p (Same.new (Same.refl H) hp _) ?_⟩
      rw [upd_same]
      unfold first0
      rw [if_neg e1, if_pos e2]
      all_goals rfl
    refine ifF (fun z => e2 (by have := eq_test.mp z; omega)) ?_
    refine ⟨_, rfl, _, _, rfl, rfl, .inl ⟨by decide, by decide⟩, _, _, rfl, rfl, rfl, _, rfl, ?_⟩
    by_cases e3 : j = 21
    · refine ifT (eq_test.mpr (by omega)) ?_
      refine ⟨(by show 1 ≤ sizeLine; decide), fun p hp => k _ p (Same.new (Same.refl H) hp _) ?_⟩
      rw [upd_same]
      unfold first0
      rw [if_neg e1, if_neg e2, if_pos e3]
      all_goals rfl
    refine ifF (fun z => e3 (by have := eq_test.mp z; omega)) ?_
    refine ⟨(by show 2 ≤ sizeLine; decide), fun p hp => k _ p (Same.new (Same.refl H) hp _) ?_⟩
    rw [upd_same]
    unfold first0
    rw [if_neg e1, if_neg e2, if_neg e3]
    all_goals rfl
end
end Gp

end
section
set_option linter.all false
set_option maxHeartbeats 2000000
namespace Gp
open PySem PySem.Spec PyProof.Rows L2
open Gm Gn
set_option maxRecDepth 100000
set_option maxHeartbeats 2000000
set_option linter.all false
set_option Elab.async false
section
variable {P : Program} {w : World} {K : PySem.W.Frag} {mg : Str → Option Value} {base : Heap} {t : Adr}
theorem ok_later_line_signs (T : Txt K mg t) : FnOk P w K mg base CX0 1 t.a_later_line_signs t.d_later_line_signs ["row", "column", "wide"] sp_later_line_signs := by
  refine T.o_later_line_signs.F.ok sc_later_line_signs (fun vs H Q E h => ?_) (fun cdv A outer s H vs Q E hr h => ?_)
  · obtain ⟨i, j, n, rfl, _⟩ := h
    rfl
  · obtain ⟨i, j, n, rfl, k⟩ := h
    refine ⟨_, (pss_cons (ps_if (pt_cmpR op_gt (pv 0) (pe_op op_mul pe_int (pgI T.c_MOST_SQUARES_ALONG rfl)) (nomark _)) (pss_one (ps_ret (pe_tup pa_nil))) pss_nil)
      (pss_cons (ps_if (pt_cmpR op_eq (pv 1) (pe_op op_add (pe_op op_mul pe_int (pv 2)) pe_int) (nomark _)) (pss_one (ps_ret (pe_tup (pa_cons (pgI T.c_LINE_FEED rfl) pa_nil)))) pss_nil)
      (pss_cons (ps_if (PW.pt (pw_and (pt_cmpR op_eq (pe_op op_mod (pv 0) pe_int) pe_int (nomark _)) (pw_and1 (pt_cmpR op_eq (pe_op op_mod (pv 1) pe_int) pe_int (nomark _))))) (pss_one (ps_ret (pe_tup (pa_cons (pgI T.c_CORNER rfl) pa_nil)))) pss_nil)
      (pss_cons (ps_if (PW.pt (pw_and (pt_cmpR op_eq (pe_op op_mod (pv 0) pe_int) pe_int (nomark _)) (pw_and1 (pt_cmpR op_eq (pe_op op_mod (pv 1) pe_int) pe_int (nomark _))))) (pss_one (ps_ret (pe_tup (pa_cons (pgI T.c_BLANK rfl) (pa_cons (pgI T.c_POINT rfl) (pa_cons (pgI T.c_BEGINNING rfl) (pa_cons (pgI T.c_END rfl) pa_nil))))))) pss_nil)
      (pss_cons (ps_set (i := 3) sc_later_line_signs.nd rfl (Or.inl rfl) (pe_ifExp (pt_cmpR op_eq (pe_op op_mod (pv 0) pe_int) pe_int (nomark _)) (pgI T.c_LEVEL_HEDGE rfl) (pgI T.c_UPRIGHT_HEDGE rfl)))
      (pss_cons (ps_if (PW.pt (pw_or (pt_cmpR op_eq (pv 0) (pe_op op_mul pe_int (pgI T.c_MOST_SQUARES_ALONG rfl)) (nomark _)) (pw_or1 (pt_cmpR op_in_seq (pv 1) (pe_tup (pa_cons pe_int (pa_cons (pe_op op_mul pe_int (pv 2)) pa_nil))) rfl)))) (pss_one (ps_ret (pe_tup (pa_cons (pv 3) pa_nil)))) pss_nil)
      (pss_one (ps_ret (pe_tup (pa_cons (pv 3) (pa_cons (pgI T.c_BLANK rfl) (pa_cons (pgI T.c_POINT rfl) pa_nil)))))))))))), ?_⟩
    have hm2 : (0 : Int) < 2 := by decide
    refine ⟨_, rfl, _, _, rfl, rfl, .inl ⟨by decide, by decide⟩, _, _, rfl, rfl, _, rfl, ?_⟩
    by_cases e0 : 20 < i
    · refine ifT (by simp; omega) ?_
      refine ⟨(by show 0 ≤ sizeLine; decide), fun p hp => k _ p (Same.new (Same.refl H) hp _) ?_⟩
      rw [upd_same]
      unfold later
      rw [if_pos e0]
      all_goals rfl
    refine ifF (by simp; omega) ?_
    refine ⟨_, rfl, _, rfl, _, _, rfl, rfl, .inl ⟨by decide, by decide⟩, _, _, rfl, rfl, rfl, _, rfl, ?_⟩
    by_cases e1 : j = 2 * n + 1
    · refine ifT (eq_test.mpr (by omega)) ?_
      refine ⟨(by show 1 ≤ sizeLine; decide), fun p hp => k _ p (Same.new (Same.refl H) hp _) ?_⟩
      rw [upd_same]
      unfold later
      rw [if_neg e0, if_pos e1]
      all_goals rfl
    refine ifF (fun z => e1 (by have := eq_test.mp z; omega)) ?_
    -- the hedge's sign is known; what remains
    have fin : ∀ hd : Nat, hd = hedgeAt i → ¬ (i % 2 = 0 ∧ j % 2 = 0) → ¬ (i % 2 = 1 ∧ j % 2 = 1) → ∀ (H' : Hp) (p : Addr), Same H H' → H' p = some (.tup (natL (if i = 20 ∨ (j = 0 ∨ j = 2 * n) then [hd] else [hd, 32, 46]))) → Q (.ref p) H' := by
      intro hd e c1 c2 H' p s' hp
      refine k H' p s' ?_
      unfold later
      rw [if_neg e0, if_neg e1, if_neg c1, if_neg c2, ← e]
      exact hp
    by_cases hi : i % 2 = 0
    · refine ⟨_, rfl, _, _, rfl, rfl, hm2, rfl, _, rfl, ifT (eq_test.mpr (by omega)) ?_⟩
      refine ⟨_, rfl, _, _, rfl, rfl, hm2, rfl, _, rfl, ?_⟩
      by_cases hj : j % 2 = 0
      · refine ifT (eq_test.mpr (by omega)) ?_
        refine ⟨(by show 1 ≤ sizeLine; decide), fun p hp => k _ p (Same.new (Same.refl H) hp _) ?_⟩
        rw [upd_same]
        unfold later
        rw [if_neg e0, if_neg e1, if_pos ⟨hi, hj⟩]
        all_goals rfl
      refine ifF (fun z => hj (by have := eq_test.mp z; omega)) ?_
      refine ⟨_, rfl, _, _, rfl, rfl, hm2, rfl, _, rfl, ifF (fun z => (by have := eq_test.mp z; omega)) (iteF ?_)⟩
      refine ⟨_, rfl, _, _, rfl, rfl, hm2, rfl, _, rfl, ifT (eq_test.mpr (by omega)) ?_⟩
      have f := fin 45 (by unfold hedgeAt; rw [if_pos hi]) (by omega) (by omega)
      refine ⟨_, rfl, _, _, rfl, rfl, .inl ⟨by decide, by decide⟩, rfl, _, rfl, ?_⟩
      by_cases c1 : i = 20
      · refine ifT (eq_test.mpr (by omega)) (ifT rfl ?_)
        refine ⟨_, rfl, (by show 1 ≤ sizeLine; decide), fun p hp => f _ p (Same.new (Same.refl H) hp _) ?_⟩
        rw [upd_same, if_pos (Or.inl c1)]
        all_goals rfl
      refine ifF (fun z => c1 (by have := eq_test.mp z; omega)) ?_
      refine ⟨_, rfl, _, rfl, _, _, rfl, rfl, .inl ⟨by decide, by decide⟩, (by show 2 ≤ sizeLine; decide), fun p2 hp2 => ⟨p2, _, rfl, .inr (SqT.of upd_same), rfl, rfl, _, rfl, ?_⟩⟩
      have s2 := Same.new (Same.refl H) hp2 (.tup [.int 0, .int (2 * (n : Int))])
      by_cases c2 : j = 0 ∨ j = 2 * n
      · refine ifT ((in_two j n).mpr c2) ?_
        refine ⟨_, rfl, (by show 1 ≤ sizeLine; decide), fun p hp => f _ p (Same.new s2 hp _) ?_⟩
        rw [upd_same, if_pos (Or.inr c2)]
        all_goals rfl
      · refine ifF (fun z => c2 ((in_two j n).mp z)) ?_
        refine ⟨_, rfl, (by show 3 ≤ sizeLine; decide), fun p hp => f _ p (Same.new s2 hp _) ?_⟩
        rw [upd_same, if_neg (fun z => z.elim c1 c2)]
        all_goals rfl
    · refine ⟨_, rfl, _, _, rfl, rfl, hm2, rfl, _, rfl, ifF (fun z => hi (by have := eq_test.mp z; omega)) (iteF ?_)⟩
      refine ⟨_, rfl, _, _, rfl, rfl, hm2, rfl, _, rfl, ifT (eq_test.mpr (by omega)) ?_⟩
      refine ⟨_, rfl, _, _, rfl, rfl, hm2, rfl, _, rfl, ?_⟩
      by_cases hj : j % 2 = 1
      · refine ifT (eq_test.mpr (by omega)) ?_
        refine ⟨(by show 4 ≤ sizeLine; decide), fun p hp => k _ p (Same.new (Same.refl H) hp _) ?_⟩
        rw [upd_same]
        unfold later
        rw [if_neg e0, if_neg e1, if_neg (by omega), if_pos ⟨by omega, hj⟩]
        all_goals rfl
      refine ifF (fun z => hj (by have := eq_test.mp z; omega)) ?_
      refine ⟨_, rfl, _, _, rfl, rfl, hm2, rfl, _, rfl, ifF (fun z => hi (by have := eq_test.mp z; omega)) ?_⟩
      have f := fin 124 (by unfold hedgeAt; rw [if_neg hi]) (by omega) (by omega)
      refine ⟨_, rfl, _, _, rfl, rfl, .inl ⟨by decide, by decide⟩, rfl, _, rfl, ?_⟩
      have c1 : ¬ i = 20 := by omega
      refine ifF (fun z => c1 (by have := eq_test.mp z; omega)) ?_
      refine ⟨_, rfl, _, rfl, _, _, rfl, rfl, .inl ⟨by decide, by decide⟩, (by show 2 ≤ sizeLine; decide), fun p2 hp2 => ⟨p2, _, rfl, .inr (SqT.of upd_same), rfl, rfl, _, rfl, ?_⟩⟩
      have s2 := Same.new (Same.refl H) hp2 (.tup [.int 0, .int (2 * (n : Int))])
      by_cases c2 : j = 0 ∨ j = 2 * n
      · refine ifT ((in_two j n).mpr c2) ?_
        refine ⟨_, rfl, (by show 1 ≤ sizeLine; decide), fun p hp => f _ p (Same.new s2 hp _) ?_⟩
        rw [upd_same, if_pos (Or.inr c2)]
        all_goals rfl
      · refine ifF (fun z => c2 ((in_two j n).mp z)) ?_
        refine ⟨_, rfl, (by show 3 ≤ sizeLine; decide), fun p hp => f _ p (Same.new s2 hp _) ?_⟩
        rw [upd_same, if_neg (fun z => z.elim c1 c2)]
        all_goals rfl
end
end Gp

end
section
set_option linter.all false
set_option maxHeartbeats 2000000
namespace Gp
open PySem PySem.Spec PyProof.Rows L2
open Gm Gn
set_option maxRecDepth 100000
set_option maxHeartbeats 2000000
set_option linter.all false
set_option Elab.async false
section
variable {P : Program} {w : World} {K : PySem.W.Frag} {mg : Str → Option Value} {base : Heap} {t : Adr}
theorem ok_signs_at (T : Txt K mg t) : FnOk P w K mg base CX0 2 t.a_signs_at t.d_signs_at ["place", "wide"] sp_signs_at := by
  refine T.o_signs_at.F.ok sc_signs_at (fun vs H Q E h => ?_) (fun cdv A outer s H vs Q E hr h => ?_)
  · obtain ⟨i, n, rfl, _⟩ := h
    rfl
  · obtain ⟨i, n, rfl, hn, k⟩ := h
    refine ⟨_, (pss_cons (ps_set (i := 2) sc_signs_at.nd rfl (Or.inl rfl) (pcall T.o_line_length (ok_line_length T) (hr.mono (by decide)) rfl (pa_cons (pv 1) pa_nil)))
      (pss_cons (ps_if (PW.pt (pw_or (pt_cmpR op_eq (pv 1) pe_int (nomark _)) (pw_or1 (pt_cmpR op_lt (pv 0) (pv 2) (nomark _))))) (pss_one (ps_ret (pcall T.o_first_line_signs (ok_first_line_signs T) (hr.mono (by decide)) rfl (pa_cons (pv 0) pa_nil)))) pss_nil)
      (pss_one (ps_ret (pcall T.o_later_line_signs (ok_later_line_signs T) (hr.mono (by decide)) rfl (pa_cons (pe_op op_fdiv (pv 0) (pv 2)) (pa_cons (pe_op op_mod (pv 0) (pv 2)) (pa_cons (pv 1) pa_nil)))))))), ?_⟩
    refine ⟨_, rfl, n, rfl, ?_⟩
    have first : (n = 0 ∨ i < 2 * n + 2) → ∀ (H' : Hp) (q : Addr), Same H H' → H' q = some (.tup (natL (first0 i))) → Q (.ref q) H' := fun c H' q s' hq => k H' q s' (by unfold sgnsAt; rw [if_pos c]; exact hq)
    refine ⟨_, rfl, rfl, _, rfl, ?_⟩
    by_cases c1 : n = 0
    · refine ifT (eq_test.mpr (by omega)) (ifT rfl ?_)
      exact ⟨_, rfl, i, rfl, first (Or.inl c1)⟩
    refine ifF (fun z => c1 (by have := eq_test.mp z; omega)) ?_
    refine ⟨_, rfl, _, rfl, _, _, rfl, rfl, _, rfl, ?_⟩
    by_cases c2 : i < 2 * n + 2
    · refine ifT (by simp; omega) ?_
      exact ⟨_, rfl, i, rfl, first (Or.inr c2)⟩
    · refine ifF (by simp; omega) ?_
      refine ⟨_, rfl, _, rfl, _, _, rfl, rfl, ⟨by omega, by omega⟩, _, rfl, _, rfl, _, _, rfl, rfl, (by omega), _, rfl, i / (2 * n + 2), i % (2 * n + 2), n, ?_, fun H' q s' hq => k H' q s' ?_⟩
      · rw [Int.natCast_ediv, Int.natCast_emod]
        rfl
      · unfold sgnsAt
        rw [if_neg (by omega)]
        exact hq
end
end Gp

end
section
set_option linter.all false
set_option maxHeartbeats 2000000
namespace Gp
open PySem PySem.Spec PyProof.Rows L2
open Gm Gn
set_option maxRecDepth 100000
set_option maxHeartbeats 2000000
set_option linter.all false
set_option Elab.async false
section
variable {P : Program} {w : World} {K : PySem.W.Frag} {mg : Str → Option Value} {base : Heap} {t : Adr}
theorem ok_may_end (T : Txt K mg t) : FnOk P w K mg base CX0 3 t.a_may_end t.d_may_end ["drawing", "wide"] (sp_may_end K) := by
  refine T.o_may_end.F.ok sc_may_end (fun vs H Q E h => ?_) (fun cdv A outer s H vs Q E hr h => ?_)
  · obtain ⟨a, g, n, rfl, _⟩ := h
    rfl
  · obtain ⟨a, g, n, rfl, hn, hS, k⟩ := h
    refine ⟨_, (pss_cons (ps_if (PW.pt (pw_or (pt_cmpR op_eq (pv 1) pe_int (nomark _)) (pw_or1 (pt_cmpR op_eq (pcall T.o_high_of (ok_high_of T) (hr.mono (by decide)) rfl (pa_cons (pv 0) (pa_cons (pv 1) pa_nil))) pe_int (nomark _))))) (pss_one (ps_ret pe_bl)) pss_nil)
      (pss_cons (ps_set (i := 2) sc_may_end.nd rfl (Or.inl rfl) (pcall T.o_line_length (ok_line_length T) (hr.mono (by decide)) rfl (pa_cons (pv 1) pa_nil)))
      (pss_one (ps_ret (pe_cmpR (op_eqD hr.units) (pe_slice sl_list (pv 0) (po_some (pe_un un_neg (pv 2))) po_none) (pe_slice sl_list (pv 0) po_none (po_some (pv 2))) (nomark _)))))), ?_⟩
    refine ⟨_, rfl, rfl, _, rfl, ?_⟩
    have no : (n = 0 ∨ higOf g n = 0) → Q (.bl false) H := fun c => by
      have kk := k H (Same.refl H)
      unfold mayEnd at kk
      rw [if_pos c] at kk
      exact kk
    by_cases c1 : n = 0
    · exact ifT (eq_test.mpr (by omega)) (ifT rfl (no (Or.inl c1)))
    refine ifF (fun z => c1 (by have := eq_test.mp z; omega)) ?_
    refine ⟨_, rfl, _, rfl, a, g, n, rfl, hn, hS, rfl, _, rfl, ?_⟩
    by_cases c2 : higOf g n = 0
    · exact ifT (eq_test.mpr (by omega)) (no (Or.inr c2))
    refine ifF (fun z => c2 (by have := eq_test.mp z; omega)) ?_
    refine ⟨_, rfl, n, rfl, ?_⟩
    refine ⟨_, rfl, _, rfl, _, rfl, _, rfl, a, _, rfl, hS, fun p1 hp1 => ?_⟩
    have s1 := Same.new (Same.refl H) hp1 (.lst (cutV (natL g) (some (-((2 * n + 2 : Nat) : Int))) Option.none))
    refine ⟨_, rfl, _, rfl, _, rfl, a, _, rfl, s1.seq hS, fun p2 hp2 => ?_⟩
    have s2 := Same.new s1 hp2 (.lst (cutV (natL g) Option.none (some ((2 * n + 2 : Nat) : Int))))
    obtain ⟨h1, h2, h3⟩ := hig_pos c2
    have hge : 2 * n + 2 ≤ g.length := by
      rw [h3]
      have : 1 * (2 * n + 2) ≤ (2 * higOf g n + 1) * (2 * n + 2) := Nat.mul_le_mul_right _ (by omega)
      omega
    have e1 : cutV (natL g) (some (-((2 * n + 2 : Nat) : Int))) Option.none = natL (g.drop (g.length - (2 * n + 2))) := by
      rw [cut_nat]
      have e : HT.sIx g.length 0 (some (-((2 * n + 2 : Nat) : Int))) = g.length - (2 * n + 2) := by
        unfold HT.sIx
        simp only
        rw [if_pos (by omega)]
        omega
      rw [e, HT.sIx_none, List.take_of_length_le (by rw [List.length_drop]; omega)]
    have e2 : cutV (natL g) Option.none (some ((2 * n + 2 : Nat) : Int)) = natL (g.take (2 * n + 2)) := by
      rw [cut_nat, HT.sIx_none, HT.sIx_nat, List.drop_zero, Nat.sub_zero, Nat.min_eq_left hge]
    have a1 : upd (upd H p1 (.lst (cutV (natL g) (some (-((2 * n + 2 : Nat) : Int))) Option.none))) p2 (.lst (cutV (natL g) Option.none (some ((2 * n + 2 : Nat) : Int)))) p1 = some (.lst (natL (g.drop (g.length - (2 * n + 2))))) := by
      rw [upd_ne (ne_of_none upd_same hp2), upd_same, e1]
    have a2 : upd (upd H p1 (.lst (cutV (natL g) (some (-((2 * n + 2 : Nat) : Int))) Option.none))) p2 (.lst (cutV (natL g) Option.none (some ((2 * n + 2 : Nat) : Int)))) p2 = some (.lst (natL (g.take (2 * n + 2)))) := by
      rw [upd_same, e2]
    refine ⟨natD _, natD _, natD_dp (SqL.of a1), natD_dp (SqL.of a2), natD_shaped _, natD_shaped _, ?_⟩
    rw [natD_eqv]
    have kk := k _ s2
    unfold mayEnd at kk
    rw [if_neg (by omega)] at kk
    exact kk
end
end Gp

end
section
set_option linter.all false
set_option maxHeartbeats 2000000
namespace Gp
open PySem PySem.Spec PyProof.Rows L2
open Gm Gn
set_option maxRecDepth 100000
set_option maxHeartbeats 2000000
set_option linter.all false
set_option Elab.async false
section
variable {P : Program} {w : World} {K : PySem.W.Frag} {mg : Str → Option Value} {base : Heap} {t : Adr}
theorem ok_fault_of (T : Txt K mg t) : FnOk P w K mg base CX0 4 t.a_fault_of t.d_fault_of ["drawing"] (sp_fault_of K) := by
  refine T.o_fault_of.F.ok sc_fault_of (fun vs H Q E h => ?_) (fun cdv A outer s H vs Q E hr h => ?_)
  · obtain ⟨a, g, rfl, _⟩ := h
    rfl
  · obtain ⟨a, g, rfl, hS, k⟩ := h
    refine ⟨_, (pss_cons (ps_set (i := 1) sc_fault_of.nd rfl (Or.inl rfl) (pcall T.o_wide_of (ok_wide_of T) (hr.mono (by decide)) rfl (pa_cons (pv 0) pa_nil)))
      (pss_cons (ps_for PassesOwn.never rfl (pi_enum rfl T.n_enumerate (pa_cons (pv 0) pa_nil)) (pg_tup rfl (pgs_cons (pg_name (i := 2) sc_fault_of.nd rfl (Or.inl rfl)) (pgs_cons (pg_name (i := 3) sc_fault_of.nd rfl (Or.inl rfl)) pgs_nil)))
        (pss_one (ps_if (pt_cmpR op_notIn_seq (pv 3) (pcall T.o_signs_at (ok_signs_at T) (hr.mono (by decide)) rfl (pa_cons (pv 2) (pa_cons (pv 1) pa_nil))) rfl) (pss_one (ps_ret (pv 2))) pss_nil)))
      (pss_cons (ps_if (pt_not (pt_val (pcall T.o_may_end (ok_may_end T) (hr.mono (by decide)) rfl (pa_cons (pv 0) (pa_cons (pv 1) pa_nil))))) (pss_one (ps_ret (pe_callB call_len_seq rfl T.n_len PySem.boot_len (pa_cons (pv 0) pa_nil)))) pss_nil)
      (pss_one (ps_ret pe_non))))), ?_⟩
    have hle := wid_le g
    refine ⟨_, rfl, a, g, rfl, hS, ?_⟩
    refine ⟨_, rfl, a, _, rfl, hS, for_enum (K := K) (a := a) (xs := natL g) (fun i σ H' => (∃ v2 v3 : Option V, σ = [some (.ref a), some (.int (widOf g : Nat)), v2, v3]) ∧ Same H H' ∧ ∀ p, p < i → okN g p)
      ⟨⟨none, none, rfl⟩, Same.refl H, (fun p hp => absurd hp (Nat.not_lt_zero p))⟩ (fun i σ H' _ ⟨_, s2, _⟩ => s2.seq hS) ?_ ?_⟩
    · rintro i x T' σ H' hi ⟨⟨v2, v3, rfl⟩, s2, hf⟩ hT
      obtain ⟨n, hn, rfl⟩ := of_natL_at hi
      have hgd : g.getD i 0 = n := by rw [List.getD_eq_getElem?_getD, hn]; rfl
      have hil : i < g.length := (List.getElem?_eq_some_iff.mp hn).1
      refine ⟨T', _, rfl, SqT.of upd_same, rfl, _, _, rfl, _, _, rfl, rfl, ?_⟩
      refine ⟨_, rfl, _, rfl, _, rfl, i, widOf g, rfl, hle, fun H2 p s3 hp => ⟨p, _, rfl, .inr (SqT.of hp), rfl, natL_flat _, _, rfl, ?_⟩⟩
      have s4 : Same H H2 := (Same.new s2 hT _).trans s3
      have ein := inV_nat n (sgnsAt i (widOf g))
      refine ite2 (fun h3 => ?_) (fun h3 => ?_)
      · have h3 : (!inV (V.int (n : Int)) (natL (sgnsAt i (widOf g)))) = true := h3
        have nf : ¬ okN g i := by
          unfold okN
          rw [hgd]
          intro z
          rw [ein, decide_eq_true z] at h3
          cases h3
        exact ⟨_, rfl, k H2 (some i) s4 (.inn hil hf nf)⟩
      · have h3 : ¬ (!inV (V.int (n : Int)) (natL (sgnsAt i (widOf g)))) = true := h3
        have yf : okN g i := by
          unfold okN
          rw [hgd]
          by_cases z : n ∈ sgnsAt i (widOf g)
          · exact z
          · rw [ein, decide_eq_false z] at h3
            exact absurd rfl h3
        refine ⟨⟨_, _, rfl⟩, s4, fun q hq => ?_⟩
        by_cases hqi : q = i
        · rw [hqi]
          exact yf
        · exact hf q (by omega)
    · rintro σ H1 ⟨⟨v2, v3, rfl⟩, s1, hf⟩
      rw [natL_len] at hf
      refine ⟨_, rfl, _, rfl, a, g, widOf g, rfl, hle, s1.seq hS, fun H2 s2 => ⟨_, rfl, ?_⟩⟩
      cases hm : mayEnd g (widOf g) with
      | false =>
        refine iteT ?_
        refine ⟨_, rfl, a, _, rfl, .inl ((s1.trans s2).seq hS), ?_⟩
        have kk := k H2 (some g.length) (s1.trans s2) (.fin hf hm)
        rw [natL_len]
        exact kk
      | true =>
        refine iteF ?_
        exact k H2 none (s1.trans s2) (.no hf hm)
end
end Gp

end
section
set_option linter.all false
set_option maxHeartbeats 2000000
namespace Gp
open PySem PySem.Spec PyProof.Rows L2
open Gm Gn
set_option maxRecDepth 100000
set_option maxHeartbeats 2000000
set_option linter.all false
set_option Elab.async false
section
variable {P : Program} {w : World} {K : PySem.W.Frag} {mg : Str → Option Value} {base : Heap} {t : Adr}
theorem ok_is_way_sign (T : Txt K mg t) : FnOk P w K mg base CX0 1 t.a_is_way_sign t.d_is_way_sign ["sign"] sp_is_way_sign := by
  refine T.o_is_way_sign.F.ok sc_is_way_sign (fun vs H Q E h => ?_) (fun cdv A outer s H vs Q E hr h => ?_)
  · obtain ⟨n, rfl, _⟩ := h
    rfl
  · obtain ⟨n, rfl, k⟩ := h
    refine ⟨_, (pss_one (ps_ret (pe_cmpR op_in_seq (pv 0) (pe_tup (pa_cons (pgI T.c_POINT rfl) (pa_cons (pgI T.c_BEGINNING rfl) (pa_cons (pgI T.c_END rfl) pa_nil)))) rfl))), ?_⟩
    refine ⟨_, rfl, (by show 3 ≤ sizeLine; decide), fun p hp => ⟨p, _, rfl, .inr (SqT.of upd_same), rfl, rfl, ?_⟩⟩
    have e : inV (V.int (n : Int)) (natL [46, 65, 66]) = isWS n := inV_nat n [46, 65, 66]
    have kk := k _ (Same.new (Same.refl H) hp (.tup [.int 46, .int 65, .int 66]))
    rw [← e] at kk
    exact kk
end
end Gp

end
section
set_option linter.all false
set_option maxHeartbeats 2000000
namespace Gp
open PySem PySem.Spec PyProof.Rows L2
open Gm Gn
set_option maxRecDepth 100000
set_option maxHeartbeats 2000000
set_option linter.all false
set_option Elab.async false
section
variable {P : Program} {w : World} {K : PySem.W.Frag} {mg : Str → Option Value} {base : Heap} {t : Adr}
theorem ok_is_garden (T : Txt K mg t) : FnOk P w K mg base CX0 5 t.a_is_garden t.d_is_garden ["drawing"] (sp_is_garden K) := by
  refine T.o_is_garden.F.ok sc_is_garden (fun vs H Q E h => ?_) (fun cdv A outer s H vs Q E hr h => ?_)
  · obtain ⟨a, g, rfl, _⟩ := h
    rfl
  · obtain ⟨a, g, rfl, hS, hb, hlen, k⟩ := h
    have big := sizeLine_big
    refine ⟨_, (pss_one (ps_ret (pe_and (pe_cmp (pc_isN (pcall T.o_fault_of (ok_fault_of T) (hr.mono (by decide)) rfl (pa_cons (pv 0) pa_nil)))) (pe_one (pe_not (pe_callB (cr_any rfl) rfl T.n_any boot_any (pa_cons (pe_lc rfl sc_is_garden.nd (pi_list (pv 0)) (blkOk_by (N := ["drawing", "sign"]) (sc := defScope s_is_garden) (own := [("sign", 1)]) (by decide +kernel)) (fun _ _ _ _ _ => (pg_name (i := 1) sc_is_garden.nd rfl (Or.inl rfl))) (fun _ _ _ _ _ => pts_nil) (fun _ _ _ _ _ => (pcall T.o_is_way_sign (ok_is_way_sign T) (hr.mono (by decide)) rfl (pa_cons (pv 1) pa_nil)))) pa_nil))))))), ?_⟩
    refine ⟨_, rfl, a, g, rfl, hS, fun H1 r s1 hF => ⟨_, rfl, ?_⟩⟩
    cases r with
    | some p =>
      refine ifF (by simp [optV]) ?_
      have e : isG g = false := by
        cases q : isG g with
        | false => rfl
        | true => exact (fault_not hb hF ((isG_iff hb).mp q).1).elim
      have kk := k H1 s1
      rw [e] at kk
      exact kk
    | none =>
      refine ifT (by simp [optV]) ?_
      refine ⟨_, rfl, a, rfl, ⟨_, s1.seq hS⟩, fun D hD => lc_list (K := K) (a := a) (xs := natL g) (fun i H' => Same H1 H' ∧ H' D = some (.lst (((g.take i).map isWS).map V.bl))) ⟨Same.new (Same.refl H1) hD _, upd_same⟩ (fun i H' _ ⟨s2, _⟩ => (s1.trans s2).seq hS) ?_ ?_⟩
      · rintro i x H' hi ⟨s2, hd⟩
        obtain ⟨n, hn, rfl⟩ := of_natL_at hi
        have hil : i < g.length := (List.getElem?_eq_some_iff.mp hn).1
        refine ⟨rfl, yes_of ?_⟩
        refine ⟨_, rfl, n, rfl, fun H2 s3 => ⟨_, s3 _ _ hd, by rw [List.length_map, List.length_map, List.length_take]; omega, Same.set (s2.trans s3) hD _, ?_⟩⟩
        rw [upd_same, take_snoc hn, List.map_append, List.map_append]
        rfl
      · rintro H2 ⟨s2, hd⟩
        rw [natL_len, List.take_length] at hd
        refine ⟨D, g.map isWS, rfl, SqL.of hd, _, rfl, ?_⟩
        have e : isG g = !((g.map isWS).any id) := by
          rw [Bool.eq_iff_iff, isG_iff hb, Bool.not_eq_true', List.any_map, List.any_eq_false]
          constructor
          · rintro ⟨_, z⟩ n hn
            rw [Bool.not_eq_true]
            exact z n hn
          · intro z
            refine ⟨hF, fun n hn => ?_⟩
            have := z n hn
            rw [Bool.not_eq_true] at this
            exact this
        have kk := k H2 (s1.trans s2)
        rw [e] at kk
        exact kk
end
end Gp

end
section
set_option linter.all false
set_option maxHeartbeats 2000000
namespace Gp
open PySem PySem.Spec PyProof.Rows L2
open Gm Gn
set_option maxRecDepth 100000
set_option maxHeartbeats 2000000
set_option linter.all false
set_option Elab.async false
section
variable {P : Program} {w : World} {K : PySem.W.Frag} {mg : Str → Option Value} {base : Heap} {t : Adr}
theorem ok_plan_drawing (T : Txt K mg t) : FnOk P w K mg base CX0 4 t.a_plan_drawing t.d_plan_drawing ["drawing", "squares"] (sp_plan_drawing K) := by
  refine T.o_plan_drawing.F.ok sc_plan_drawing (fun vs H Q E h => ?_) (fun cdv A outer s H vs Q E hr h => ?_)
  · obtain ⟨a, b, g, l, rfl, _⟩ := h
    rfl
  · obtain ⟨a, b, g, l, rfl, hS, hL, hb, hlen, hG, hP, k⟩ := h
    obtain ⟨w1, w2, w3, w4⟩ := isG_len hb hG
    obtain ⟨p1, ⟨p2, p3⟩, p4⟩ := (isPW_iff hb).mp hP
    have pl : ∀ s ∈ l, placeOf (widOf g) s < g.length := fun s hs => by rw [w4]; exact placeOf_lt w1 (p2 s hs)
    refine ⟨_, (pss_cons (ps_set (i := 2) sc_plan_drawing.nd rfl (Or.inl rfl) (pcall T.o_wide_of (ok_wide_of T) (hr.mono (by decide)) rfl (pa_cons (pv 0) pa_nil)))
      (pss_cons (ps_set (i := 3) sc_plan_drawing.nd rfl (Or.inl rfl) (pe_callTy call_list_of rfl T.n_list PyProof.Rows.boot_list (pa_cons (pv 0) pa_nil)))
      (pss_cons (ps_for PassesOwn.never rfl (pi_list (pv 1)) (pg_name (i := 4) sc_plan_drawing.nd rfl (Or.inl rfl))
        (pss_one (ps_asg (pgI T.c_POINT rfl) (pg_sub (pv 3) (pcall T.o_place_of (ok_place_of T) (hr.mono (by decide)) rfl (pa_cons (pv 4) (pa_cons (pv 2) pa_nil))) set_list))))
      (pss_cons (ps_for PassesOwn.never rfl (pi_range2 rfl T.n_range (pa_cons pe_int (pa_cons (pe_callB call_len_seq rfl T.n_len PySem.boot_len (pa_cons (pv 1) pa_nil)) pa_nil))) (pg_name (i := 5) sc_plan_drawing.nd rfl (Or.inl rfl))
        (pss_one (ps_asg (pgI T.c_POINT rfl) (pg_sub (pv 3) (pcall T.o_side_between (ok_side_between T) (hr.mono (by decide)) rfl (pa_cons (pe_ix ix_list (pv 1) (pe_op op_sub (pv 5) pe_int) (fun _ _ => rfl)) (pa_cons (pe_ix ix_list (pv 1) (pv 5) (fun _ _ => rfl)) (pa_cons (pv 2) pa_nil)))) set_list))))
      (pss_cons (ps_asg (pgI T.c_BEGINNING rfl) (pg_sub (pv 3) (pcall T.o_place_of (ok_place_of T) (hr.mono (by decide)) rfl (pa_cons (pe_ix ix_list (pv 1) pe_int (fun _ _ => rfl)) (pa_cons (pv 2) pa_nil))) set_list))
      (pss_cons (ps_asg (pgI T.c_END rfl) (pg_sub (pv 3) (pcall T.o_place_of (ok_place_of T) (hr.mono (by decide)) rfl (pa_cons (pe_ix ix_list (pv 1) (pe_un un_neg pe_int) (fun _ _ => rfl)) (pa_cons (pv 2) pa_nil))) set_list))
      (pss_one (ps_ret (pv 3))))))))), ?_⟩
    refine ⟨_, rfl, a, g, rfl, hS, ?_⟩
    refine ⟨_, rfl, a, _, rfl, .inl hS, fun dl hdl => ?_⟩
    have s1 : Same H (upd H dl (.lst (natL g))) := Same.new (Same.refl H) hdl _
    -- for square in squares
    refine ⟨_, rfl, b, rfl, ⟨_, s1.seq hL⟩, for_list (K := K) (a := b) (xs := natL l) (fun i σ H' => (∃ v : Option V, σ = [some (.ref a), some (.ref b), some (.int (widOf g : Nat)), some (.ref dl), v, none]) ∧ Same H H' ∧ H' dl = some (.lst (natL (dots (widOf g) g (l.take i)))))
      ⟨⟨none, rfl⟩, s1, upd_same⟩ (fun i σ H' _ ⟨_, s2, _⟩ => s2.seq hL) ?_ ?_⟩
    · rintro i x σ H' hi ⟨⟨v, rfl⟩, s2, hd⟩
      obtain ⟨q, hq, rfl⟩ := of_natL_at hi
      have hm := pl q (List.mem_of_getElem? hq)
      refine ⟨_, rfl, _, rfl, _, rfl, q, widOf g, rfl, ⟨w1, w2⟩, dl, _, _, placeOf (widOf g) q, rfl, rfl, hd, ixN_nat (by rw [natL_len, dots_len]; exact hm), ?_⟩
      refine ⟨⟨_, rfl⟩, Same.set s2 hdl _, ?_⟩
      rw [upd_same]
      have e : (natL (dots (widOf g) g (l.take i))).set (placeOf (widOf g) q) (V.int 46) = natL (dots (widOf g) g (l.take (i + 1))) := by
        refine (natL_set _ _ 46).trans ?_
        rw [take_snoc hq]
        unfold dots
        rw [List.foldl_append]
        rfl
      rw [e]
    · rintro σ H2 ⟨⟨v, rfl⟩, s2, hd⟩
      rw [natL_len, List.take_length] at hd
      -- for k in range(1, len(squares))
      refine ⟨_, rfl, b, _, rfl, .inl (s2.seq hL), 1, (l.length : Int), ?_, ⟨by omega, by omega, by omega, by omega⟩, for_range (lo := 1) (n := ((l.length : Int) - 1).toNat) (fun i σ H' => (∃ v' : Option V, σ = [some (.ref a), some (.ref b), some (.int (widOf g : Nat)), some (.ref dl), v, v']) ∧ Same H H' ∧ H' dl = some (.lst (natL (lines (widOf g) (dots (widOf g) g l) ((stepsOf l).take i)))))
        ⟨⟨none, rfl⟩, s2, hd⟩ ?_ ?_⟩
      · rw [natL_len]
        all_goals rfl
      · rintro i σ H' hi ⟨⟨v', rfl⟩, s3, hd⟩
        have hi' : i + 1 < l.length := by omega
        have a1 : l[i]? = some l[i] := List.getElem?_eq_getElem (by omega)
        have a2 : l[i + 1]? = some l[i + 1] := List.getElem?_eq_getElem hi'
        generalize l[i] = q1 at a1
        generalize l[i + 1] = u1 at a2
        have hst1 := steps_at a1 a2
        have m1 := p2 q1 (List.mem_of_getElem? a1)
        have m2 := p2 u1 (List.mem_of_getElem? a2)
        have hap : apart (widOf g) q1 u1 = 1 := by
          have := p4 (q1, u1) (List.mem_of_getElem? hst1)
          unfold stepN at this
          rw [Bool.and_eq_true, decide_eq_true_eq] at this
          exact this.1
        have hm : sideOf (widOf g) q1 u1 < g.length := by rw [w4]; exact side_lt w1 m1 m2 hap
        refine ⟨_, rfl, _, rfl, _, rfl, _, _, rfl, rfl, b, _, _, _, rfl, rfl, s3.seq hL, at_of (j := i) (by omega) (natL_at a1), _, rfl, _, rfl, b, _, _, _, rfl, rfl, s3.seq hL, at_of (j := i + 1) (by omega) (natL_at a2), _, rfl, q1, u1, widOf g, rfl, ⟨w1, w2⟩,
          dl, _, _, sideOf (widOf g) q1 u1, rfl, rfl, hd, ixN_nat (by rw [natL_len, lines_len, dots_len]; exact hm), ?_⟩
        refine ⟨⟨_, rfl⟩, Same.set s3 hdl _, ?_⟩
        rw [upd_same]
        have e : (natL (lines (widOf g) (dots (widOf g) g l) ((stepsOf l).take i))).set (sideOf (widOf g) q1 u1) (V.int 46) = natL (lines (widOf g) (dots (widOf g) g l) ((stepsOf l).take (i + 1))) := by
          refine (natL_set _ _ 46).trans ?_
          rw [take_snoc hst1]
          unfold lines
          rw [List.foldl_append]
          rfl
        rw [e]
      · rintro σ H3 ⟨⟨v', rfl⟩, s3, hd⟩
        rw [List.take_of_length_le (by rw [steps_len]; omega)] at hd
        have a0 : l[0]? = some (l.headD 0) := by
          match l, p1 with
          | z :: _, _ => rfl
        have aL : l[l.length - 1]? = some (l.getLastD 0) := by
          have hne : l ≠ [] := by
            intro z
            rw [z] at p1
            simp at p1
          rw [← List.getLast?_eq_getElem?, List.getLastD_eq_getLast?, List.getLast?_eq_some_getLast hne]
          rfl
        have m0 := pl _ (List.mem_of_getElem? a0)
        have mL := pl _ (List.mem_of_getElem? aL)
        refine ⟨_, rfl, _, rfl, b, _, _, _, rfl, rfl, s3.seq hL, at_of (j := 0) rfl (natL_at a0), _, rfl, l.headD 0, widOf g, rfl, ⟨w1, w2⟩, dl, _, _, placeOf (widOf g) (l.headD 0), rfl, rfl, hd, ixN_nat (by rw [natL_len, lines_len, dots_len]; exact m0), ?_⟩
        have s4 := Same.set s3 hdl (.lst ((natL (lines (widOf g) (dots (widOf g) g l) (stepsOf l))).set (placeOf (widOf g) (l.headD 0)) (V.int 65)))
        have elast : atI (natL l) (-1) = some (V.int ((l.getLastD 0 : Nat) : Int)) := by
          unfold atI ixN
          rw [if_neg (by decide), if_pos (by rw [natL_len]; omega)]
          have e : ((-1 : Int) + ((natL l).length : Int)).toNat = l.length - 1 := by rw [natL_len]; omega
          rw [e]
          exact natL_at aL
        refine ⟨_, rfl, _, rfl, _, rfl, b, _, _, _, rfl, rfl, s4.seq hL, elast, _, rfl, l.getLastD 0, widOf g, rfl, ⟨w1, w2⟩, dl, _, _, placeOf (widOf g) (l.getLastD 0), rfl, rfl, upd_same, ixN_nat (by rw [List.length_set, natL_len, lines_len, dots_len]; exact mL), ?_⟩
        refine ⟨_, rfl, k _ dl (Same.set s4 hdl _) ?_⟩
        rw [upd_same]
        have e : ((natL (lines (widOf g) (dots (widOf g) g l) (stepsOf l))).set (placeOf (widOf g) (l.headD 0)) (V.int 65)).set (placeOf (widOf g) (l.getLastD 0)) (V.int 66) = natL (drawOn 46 65 66 (widOf g) g l) := by
          refine (congrArg (fun z => List.set z (placeOf (widOf g) (l.getLastD 0)) (V.int 66)) (natL_set _ _ 65)).trans ?_
          exact natL_set _ _ 66
        rw [e]
end
end Gp

end
section
set_option linter.all false
set_option maxHeartbeats 2000000
namespace Gp
open PySem PySem.Spec PyProof.Rows L2
open Gm Gn
set_option maxRecDepth 100000
set_option maxHeartbeats 2000000
set_option linter.all false
set_option Elab.async false
section
variable {P : Program} {w : World} {K : PySem.W.Frag} {mg : Str → Option Value} {base : Heap} {t : Adr}
theorem ok_beyond_passages (T : Txt K mg t) : FnOk P w K mg base CX0 6 t.a_beyond_passages t.d_beyond_passages ["drawing"] (sp_beyond_passages K) := by
  refine T.o_beyond_passages.F.ok sc_beyond_passages (fun vs H Q E h => ?_) (fun cdv A outer s H vs Q E hr h => ?_)
  · obtain ⟨a, g, rfl, _⟩ := h
    rfl
  · obtain ⟨a, g, rfl, hS, hZ, k⟩ := h
    obtain ⟨_, _, _, hn, _⟩ := sz_of hZ
    refine ⟨_, (pss_one (ps_ret (pcall T.o_beyond_sides (ok_beyond_sides T) (hr.mono (by decide)) rfl (pa_cons (pcall T.o_sides_with (ok_sides_with T) (hr.mono (by decide)) rfl (pa_cons (pv 0) (pa_cons (pgI T.c_BLANK rfl) pa_nil))) (pa_cons (pcall T.o_squares_of (ok_squares_of T) (hr.mono (by decide)) rfl (pa_cons (pv 0) pa_nil)) pa_nil))))), ?_⟩
    refine ⟨_, rfl, a, g, 32, rfl, hS, hZ, fun H1 p s1 hp => ⟨_, rfl, a, g, rfl, s1.seq hS, p, _, nOf g, rfl, hp, hn, ?_, fun e he => ?_, fun H2 q s2 hq => k H2 q (s1.trans s2) hq⟩⟩
    · have := List.length_filter_le (fun e => g.getD (sideOf (widOf g) e.1 e.2) 0 == 32) (innerS (widOf g) (nOf g))
      have := innerS_len (widOf g) (nOf g) hn
      unfold sidesW
      omega
    · obtain ⟨_, z⟩ := side_len hZ (List.mem_filter.mp he).1
      exact z
end
end Gp

end
section
set_option linter.all false
set_option maxHeartbeats 2000000
namespace Gp
open PySem PySem.Spec PyProof.Rows L2
open Gm Gn
set_option maxRecDepth 100000
set_option maxHeartbeats 2000000
set_option linter.all false
set_option Elab.async false
section
variable {P : Program} {w : World} {K : PySem.W.Frag} {mg : Str → Option Value} {base : Heap} {t : Adr}
theorem ok_shortest_ways (T : Txt K mg t) : FnOk P w K mg base CX0 1 t.a_shortest_ways t.d_shortest_ways ["beyond", "begin"] (sp_shortest_ways K) := by
  refine T.o_shortest_ways.F.ok sc_shortest_ways (fun vs H Q E h => ?_) (fun cdv A outer s H vs Q E hr h => ?_)
  · obtain ⟨B, n, b, A', D, rfl, _⟩ := h
    rfl
  · obtain ⟨B, n, b, A', D, rfl, hB, hsq, hn, hw, hA, hb, k⟩ := h
    have big := sizeLine_big
    obtain ⟨rs, b1, b2, b3⟩ := hB.get
    subst hsq
    refine ⟨_, (pss_cons (ps_set (i := 2) sc_shortest_ways.nd rfl (Or.inl rfl) (pe_disp (pps_cons (pv 1) (pe_lst (pa_cons (pv 1) pa_nil)) pps_nil) rfl rfl (by decide) (by decide)))
      (pss_cons (ps_set (i := 3) sc_shortest_ways.nd rfl (Or.inl rfl) (pe_lst (pa_cons (pv 1) pa_nil)))
      (pss_cons (ps_while PassesOwn.never (pt_cmpR op_gt (pe_callB call_len_seq rfl T.n_len PySem.boot_len (pa_cons (pv 3) pa_nil)) pe_int (nomark _))
        (pss_cons (ps_set (i := 4) sc_shortest_ways.nd rfl (Or.inl rfl) (pe_lst pa_nil))
      (pss_cons (ps_for PassesOwn.never rfl (pi_list (pv 3)) (pg_name (i := 5) sc_shortest_ways.nd rfl (Or.inl rfl))
        (pss_one (ps_for PassesOwn.never rfl (pi_list (pe_ix ix_list (pv 0) (pv 5) (fun _ _ => rfl))) (pg_name (i := 6) sc_shortest_ways.nd rfl (Or.inl rfl))
        (pss_one (ps_if (pt_cmp (pc_dnotin (hu_of hr) (pv 6) (pv 2))) (pss_cons (ps_dput (hu_of hr) (pv 2) (pv 6) (pe_op op_cat (pe_dget (hu_of hr) (pv 2) (pv 5) (fun _ _ => rfl)) (pe_lst (pa_cons (pv 6) pa_nil))) rfl)
      (pss_one (ps_expr (pe_bm PySem.F.plainAttrs_list PySem.F.slot_list_append PySem.F.type_list_append mt_append (pv 4) (pa_cons (pv 6) pa_nil))))) pss_nil)))))
      (pss_one (ps_set (i := 3) sc_shortest_ways.nd rfl (Or.inl rfl) (pv 4))))))
      (pss_one (ps_ret (pv 2)))))), ?_⟩
    -- ways = {begin: [begin]}
    intro W hW
    refine ⟨_, rfl, _, rfl, (by show 1 ≤ sizeLine; decide), fun L hL => ⟨?_, [(Sum.inl (b : Int), V.ref L)], rfl, (by show 1 ≤ 15; decide), ?_⟩⟩
    · rw [upd_ne (ne_of_none upd_same hL)]
      exact upd_same
    have s1 : Same H (upd (upd (upd H W (.dK [])) L (.lst [V.int (b : Int)])) W (.dK (mergeK [] [(Sum.inl (b : Int), V.ref L)]))) := Same.set (Same.new (Same.new (Same.refl H) hW _) hL _) hW _
    have D1 : DictP (upd (upd (upd H W (.dK [])) L (.lst [V.int (b : Int)])) W (.dK (mergeK [] [(Sum.inl (b : Int), V.ref L)]))) W [(b, L)] (fun t => if t = b then some [b] else none) := by
      refine ⟨upd_same, List.nodup_cons.mpr ⟨List.not_mem_nil, List.nodup_nil⟩, fun t e z => ?_, fun t l e => ?_⟩
      · have z : t = b := List.mem_singleton.mp z
        rw [if_pos z] at e
        cases e
      · by_cases c : t = b
        · rw [if_pos c] at e
          refine ⟨L, by rw [c]; exact List.mem_singleton.mpr rfl, ?_⟩
          have hLW : L ≠ W := (ne_of_none upd_same hL).symm
          rw [upd_ne hLW, upd_same, ← Option.some.inj e]
          rfl
        · rw [if_neg c] at e
          cases e
    generalize upd (upd (upd H W (.dK [])) L (.lst [V.int (b : Int)])) W (.dK (mergeK [] [(Sum.inl (b : Int), V.ref L)])) = H1 at s1 D1 ⊢
    -- reached = [begin]
    refine ⟨_, rfl, (by show 1 ≤ sizeLine; decide), fun R hR => ?_⟩
    have s2 := Same.new s1 hR (.lst [V.int (b : Int)])
    have D2 := DictP.same (Same.new (Same.refl H1) hR (.lst [V.int (b : Int)])) D1
    refine ⟨fun m σ H' => ∃ (d : Nat) (R' : Addr) (v4 v5 v6 : Option V) (ks : List (Nat × Addr)) (f : Nat → Option (List Nat)) (reached : List Nat), m = D.squares + 1 - d ∧ σ = [some (.ref B), some (.int (b : Int)), some (.ref W), some (.ref R'), v4, v5, v6] ∧ Same H H' ∧ DictP H' W ks f ∧ H' R' = some (.lst (natL reached)) ∧ Wave D b d f reached,
      ⟨_, 0, R, none, none, none, _, _, [b], rfl, rfl, s2, D2, upd_same, Wave.start hb⟩, ?_⟩
    rintro m σ H' ⟨d, R', v4, v5, v6, ks, f, reached, rfl, rfl, s3, DP, hR', WV⟩
    refine ⟨_, rfl, R', _, rfl, .inl (SqL.of hR'), _, _, rfl, rfl, _, rfl, ?_⟩
    rw [natL_len]
    by_cases ce : reached = []
    · refine ifF (by rw [ce]; decide) ?_
      rw [ce] at WV
      exact ⟨_, rfl, k H' W ks f s3 DP (fun t m hm => WV.fin t m hm)⟩
    · have hpos : 0 < reached.length := List.length_pos_iff.mpr ce
      have hd := WV.lt hw hb ce
      refine ifT (by simp; omega) ⟨_, fun _ _ h => h, ?_⟩
      -- ahead = []
      refine ⟨(by show 0 ≤ sizeLine; decide), fun Ah hAh => ?_⟩
      have hAh0 : H Ah = Option.none := s3.free hAh
      have hRA : R' ≠ Ah := ne_of_none hR' hAh
      have hRW : R' ≠ W := ne_of hR' DP.at_ (by intro z; cases z)
      have kA : ∀ x ∈ ks, x.2 ≠ Ah := fun x hx e => by
        cases ef : f x.1 with
        | none => exact DP.no _ ef (List.mem_map.mpr ⟨x, hx, rfl⟩)
        | some l =>
          obtain ⟨a, h1, h2⟩ := DP.yes _ _ ef
          have e2 : x = (x.1, a) := by
            have := dkv_in DP.nd h1
            have h3 := dkv_in DP.nd (t := x.1) (a := x.2) hx
            rw [this] at h3
            injection h3 with h3
            injection h3 with h3
            rw [h3]
          have e3 : a = x.2 := by rw [e2]
          rw [e3, e, hAh] at h2
          cases h2
      have Dn := DictP.same (Same.new (Same.refl H') hAh (.lst [])) DP
      have hRn : upd H' Ah (.lst []) R' = some (.lst (natL reached)) := by rw [upd_ne hRA]; exact hR'
      refine ⟨_, rfl, R', rfl, ⟨_, SqL.of hRn⟩, for_list (K := K) (a := R') (xs := natL reached) (fun i σ H' => ∃ (w5 w6 : Option V) (ks : List (Nat × Addr)) (f : Nat → Option (List Nat)) (ahead : List Nat), σ = [some (.ref B), some (.int (b : Int)), some (.ref W), some (.ref R'), some (.ref Ah), w5, w6] ∧ Same H H' ∧ DictP H' W ks f ∧ (∀ x ∈ ks, x.2 ≠ Ah) ∧ H' R' = some (.lst (natL reached)) ∧ H' Ah = some (.lst (natL ahead)) ∧ Mid D b d f (reached.take i) ahead)
        ⟨v5, v6, ks, f, [], rfl, Same.new s3 hAh _, Dn, kA, hRn, upd_same, WV.mid⟩ (fun i σ H' _ ⟨_, _, _, _, _, _, _, _, _, hr, _⟩ => SqL.of hr) ?_ ?_⟩
      · clear Dn kA DP hRn hR' s3 hAh
        rintro i x σ H1 hi ⟨w5, w6, ks, f, ahead, rfl, s3, DP, kA, hR', hA', MD⟩
        obtain ⟨sq, hsqi, rfl⟩ := of_natL_at hi
        have hsqd : Gt.Dist D b d sq := (WV.front sq).mp (List.mem_of_getElem? hsqi)
        have hsql : sq < D.squares := Gt.walk_lt hw hb hsqd.1
        obtain ⟨q, q1, q2⟩ := b3 sq hsql
        refine ⟨_, rfl, _, rfl, B, _, _, _, rfl, rfl, SqL.of (s3 _ _ b1), atI_nat q1, q, rfl, ⟨_, SqL.of (s3 _ _ q2)⟩, for_list (K := K) (a := q) (xs := natL (A' sq)) (fun j σ H' => ∃ (w6 : Option V) (ks : List (Nat × Addr)) (f : Nat → Option (List Nat)) (ahead : List Nat), σ = [some (.ref B), some (.int (b : Int)), some (.ref W), some (.ref R'), some (.ref Ah), some (.int (sq : Int)), w6] ∧ Same H H' ∧ DictP H' W ks f ∧ (∀ x ∈ ks, x.2 ≠ Ah) ∧ H' R' = some (.lst (natL reached)) ∧ H' Ah = some (.lst (natL ahead)) ∧ Mid D b d f (reached.take i) ahead ∧ ∀ u ∈ (A' sq).take j, ∃ p, f u = some p)
          ⟨w6, ks, f, ahead, rfl, s3, DP, kA, hR', hA', MD, (fun u hu => by cases hu)⟩ (fun i σ H' _ ⟨_, _, _, _, _, s4, _⟩ => SqL.of (s4 _ _ q2)) ?_ ?_⟩
        · clear DP kA hR' hA' MD s3
          rintro j y σ H1 hj ⟨w6, ks, f, ahead, rfl, s3, DP, kA, hR', hA', MD, hdone⟩
          obtain ⟨u, huj, rfl⟩ := of_natL_at hj
          have huo : u ∈ D.outs sq := (hA sq hsql u).mp (List.mem_of_getElem? huj)
          have fN : ∀ t l, f t = some l → t < D.squares := fun t l e => by
            obtain ⟨n, _, _, hd⟩ := MD.val t l e
            exact Gt.walk_lt hw hb hd.1
          have kslen := DP.len fN
          refine ⟨_, rfl, _, rfl, W, _, rfl, DGet.k (k := Sum.inl (u : Int)) DP.at_, _, rfl, ?_⟩
          cases hu : f u with
          | some l =>
            obtain ⟨a, _, hv, _⟩ := DP.get hu
            rw [hv]
            refine ifF (fun z => Bool.false_ne_true z) ?_
            refine ⟨_, ks, f, ahead, rfl, s3, DP, kA, hR', hA', MD, fun v hv => ?_⟩
            rw [take_snoc huj] at hv
            rcases List.mem_append.mp hv with z | z
            · exact hdone v z
            · rw [List.mem_singleton.mp z]
              exact ⟨l, hu⟩
          | none =>
            have hnot := DP.no u hu
            rw [dkv_not hnot]
            refine ifT rfl ?_
            -- ways[other] = ways[square] + [other]
            obtain ⟨l, hl⟩ := MD.has sq d (Nat.le_refl _) hsqd
            obtain ⟨a, ha, hv, hal⟩ := DP.get hl
            have hll : l.length ≤ D.squares := by
              obtain ⟨n, h1, h2, h3⟩ := MD.val sq l hl
              have h4 := Gt.dist_lt hw hb h3
              have := h2.len
              omega
            refine ⟨_, rfl, _, rfl, W, _, rfl, (by rw [← hv]; exact DGet.k (k := Sum.inl (sq : Int)) DP.at_), _, rfl, (by show 1 ≤ sizeLine; decide), fun p1 hp1 => ⟨a, p1, natL l, [V.int (u : Int)], rfl, rfl, ?_, upd_same, by rw [natL_len]; show l.length + 1 ≤ sizeLine; omega, fun p2 hp2 => ?_⟩⟩
            · rw [upd_ne (ne_of_none hal hp1)]
              exact hal
            rw [natL_snoc]
            have s4 : Same H1 (upd (upd H1 p1 (.lst [V.int (u : Int)])) p2 (.lst (natL (l ++ [u])))) := Same.new (Same.new (Same.refl H1) hp1 _) hp2 _
            have hp2v : upd (upd H1 p1 (.lst [V.int (u : Int)])) p2 (.lst (natL (l ++ [u]))) p2 = some (.lst (natL (l ++ [u]))) := upd_same
            have hpA : p2 ≠ Ah := by
              intro e
              rw [e] at hp2
              rw [upd_ne (ne_of_none hA' hp1), hA'] at hp2
              cases hp2
            generalize upd (upd H1 p1 (.lst [V.int (u : Int)])) p2 (.lst (natL (l ++ [u]))) = H2 at s4 hp2v ⊢
            have DP2 := DP.same s4
            have hW0 : H W = Option.none := hW
            refine ⟨_, rfl, _, rfl, W, _, rfl, DPut.k (k := Sum.inl (u : Int)) DP2.at_ ?_, ?_⟩
            · unfold dkv
              rw [List.length_map]
              omega
            rw [dkv_snoc hnot]
            have DP3 := DP2.put hu hp2v
            have s5 : Same H (upd H2 W (.dK (dkv (ks ++ [(u, p2)])))) := Same.set (s3.trans s4) hW0 _
            have hA2 : upd H2 W (.dK (dkv (ks ++ [(u, p2)]))) Ah = some (.lst (natL ahead)) := by
              have := s4 _ _ hA'
              rw [upd_ne (ne_of this DP2.at_ (by intro z; cases z))]
              exact this
            have hR2 : upd H2 W (.dK (dkv (ks ++ [(u, p2)]))) R' = some (.lst (natL reached)) := by
              rw [upd_ne hRW]
              exact s4 _ _ hR'
            have kA2 : ∀ x ∈ ks ++ [(u, p2)], x.2 ≠ Ah := fun x hx => by
              rcases List.mem_append.mp hx with z | z
              · exact kA x z
              · rw [List.mem_singleton.mp z]
                exact hpA
            generalize upd H2 W (.dK (dkv (ks ++ [(u, p2)]))) = H3 at DP3 s5 hA2 hR2 ⊢
            -- ahead.append(other)
            have M2 := MD.add hw hb hsqd huo hl hu
            have alen := MD.len hw hb
            refine ⟨_, rfl, .inl ⟨rfl, _, SqL.of hA2⟩, _, rfl, Ah, _, _, rfl, rfl, hA2, ?_, ?_⟩
            · rw [natL_len]
              omega
            rw [natL_snoc]
            refine ⟨_, ks ++ [(u, p2)], _, ahead ++ [u], rfl, Same.set s5 hAh0 _, DP3.other hA2 kA2, kA2, ?_, upd_same, M2, fun v hv => ?_⟩
            · rw [upd_ne hRA]
              exact hR2
            · rw [take_snoc huj] at hv
              by_cases c : v = u
              · exact ⟨l ++ [u], by simp only [c, if_true]⟩
              · rcases List.mem_append.mp hv with z | z
                · obtain ⟨p, hp⟩ := hdone v z
                  exact ⟨p, by simp only [c, if_false]; exact hp⟩
                · exact absurd (List.mem_singleton.mp z) c
        · rintro σ H2 ⟨w6, ks, f, ahead, rfl, s4, DP, kA, hR', hA', MD, hdone⟩
          rw [natL_len, List.take_length] at hdone
          refine ⟨_, _, ks, f, ahead, rfl, s4, DP, kA, hR', hA', ?_⟩
          rw [take_snoc hsqi]
          exact MD.done' fun u hu => hdone u ((hA sq hsql u).mpr hu)
      · rintro σ H2 ⟨w5, w6, ks, f, ahead, rfl, s4, DP, kA, hR', hA', MD⟩
        rw [natL_len, List.take_length] at MD
        refine ⟨_, rfl, D.squares + 1 - (d + 1), by omega, d + 1, Ah, _, _, _, ks, f, ahead, rfl, rfl, s4, DP, hA', MD.wave WV.front (fun t ht => ht)⟩
end
end Gp

end
section
set_option linter.all false
set_option maxHeartbeats 2000000
namespace Gp
open PySem PySem.Spec PyProof.Rows L2
open Gm Gn
set_option maxRecDepth 100000
set_option maxHeartbeats 2000000
set_option linter.all false
set_option Elab.async false
section
variable {P : Program} {w : World} {K : PySem.W.Frag} {mg : Str → Option Value} {base : Heap} {t : Adr}
theorem ok_longest_way (T : Txt K mg t) : FnOk P w K mg base CX0 7 t.a_longest_way t.d_longest_way ["drawing"] (sp_longest_way K) := by
  refine T.o_longest_way.F.ok sc_longest_way (fun vs H Q E h => ?_) (fun cdv A outer s H vs Q E hr h => ?_)
  · obtain ⟨a, g, rfl, _⟩ := h
    rfl
  · obtain ⟨a, g, rfl, hS, hb, hG, hC, k⟩ := h
    have hZ := sz_garden hb hG
    obtain ⟨⟨w1, w2⟩, ⟨h1, h2⟩, hl, hn, hwn⟩ := sz_of hZ
    have big := sizeLine_big
    have X := signs_isG hb hG
    have ep : sidesW g (widOf g) (nOf g) 32 = Gt.prs (gardenAt (bytes g) (widOf g) (higOf g (widOf g))) := passages_eq X hb
    have hA : ∀ s, s < nOf g → ∀ u, u ∈ adj (sidesW g (widOf g) (nOf g) 32) s ↔ u ∈ (gardenAt (bytes g) (widOf g) (higOf g (widOf g))).outs s := fun s hs u => by
      rw [ep]
      exact adj_outs X hs
    have hsq : (gardenAt (bytes g) (widOf g) (higOf g (widOf g))).squares = nOf g := rfl
    have hwD : 1 ≤ (gardenAt (bytes g) (widOf g) (higOf g (widOf g))).wide := w1
    unfold goodL at k
    rw [longest_eq, hsq] at k
    generalize gardenAt (bytes g) (widOf g) (higOf g (widOf g)) = D at hA hsq hwD hC k
    have hDist : ∀ s t, s < nOf g → t < nOf g → ∃ d, Gt.Dist D s d t := fun s t hs ht => by
      obtain ⟨m, hm⟩ := (Gt.conn_walk hwD (by rw [hsq]; exact hs)).mp (hC s t hs ht)
      obtain ⟨d, _, hd⟩ := Gt.dist_of_walk hm
      exact ⟨d, hd⟩
    refine ⟨_, (pss_cons (ps_set (i := 1) sc_longest_way.nd rfl (Or.inl rfl) (pcall T.o_beyond_passages (ok_beyond_passages T) (hr.mono (by decide)) rfl (pa_cons (pv 0) pa_nil)))
      (pss_cons (ps_set (i := 2) sc_longest_way.nd rfl (Or.inl rfl) (pe_lst pa_nil))
      (pss_cons (ps_for PassesOwn.never rfl (pi_range1 rfl T.n_range (pa_cons (pe_callB call_len_seq rfl T.n_len PySem.boot_len (pa_cons (pv 1) pa_nil)) pa_nil)) (pg_name (i := 3) sc_longest_way.nd rfl (Or.inl rfl))
        (pss_cons (ps_set (i := 4) sc_longest_way.nd rfl (Or.inl rfl) (pcall T.o_shortest_ways (ok_shortest_ways T) (hr.mono (by decide)) rfl (pa_cons (pv 1) (pa_cons (pv 3) pa_nil))))
      (pss_one (ps_for PassesOwn.never rfl (pi_range2 rfl T.n_range (pa_cons (pe_op op_add (pv 3) pe_int) (pa_cons (pe_callB call_len_seq rfl T.n_len PySem.boot_len (pa_cons (pv 1) pa_nil)) pa_nil))) (pg_name (i := 5) sc_longest_way.nd rfl (Or.inl rfl))
        (pss_one (ps_if (pt_cmpR op_gt (pe_callB call_len_seq rfl T.n_len PySem.boot_len (pa_cons (pe_dget (hu_of hr) (pv 4) (pv 5) (fun _ _ => rfl)) pa_nil)) (pe_callB call_len_seq rfl T.n_len PySem.boot_len (pa_cons (pv 2) pa_nil)) (nomark _)) (pss_one (ps_set (i := 2) sc_longest_way.nd rfl (Or.inl rfl) (pe_dget (hu_of hr) (pv 4) (pv 5) (fun _ _ => rfl)))) pss_nil))))))
      (pss_one (ps_ret (pv 2)))))), ?_⟩
    refine ⟨_, rfl, a, g, rfl, hS, hZ, fun H1 B s1 hB => ?_⟩
    obtain ⟨rs, b1, b2, b3⟩ := hB.get
    refine ⟨(by show 0 ≤ sizeLine; decide), fun L hL => ?_⟩
    have s2 := Same.new (Same.refl H1) hL (.lst [])
    have hlen : (rs.map V.ref).length = nOf g := by rw [List.length_map]; exact b2
    refine ⟨_, rfl, B, _, rfl, .inl (SqL.of (s2 _ _ b1)), ((nOf g : Nat) : Int), by rw [hlen], by omega, by omega, for_range (lo := 0) (n := ((nOf g : Nat) : Int).toNat) (fun i σ H' => ∃ (L' : Addr) (v3 v4 v5 : Option V) (l : List Nat), σ = [some (.ref a), some (.ref B), some (.ref L'), v3, v4, v5] ∧ Same H1 H' ∧ H' L' = some (.lst (natL l)) ∧ LInv D (outT D i) l)
      ⟨L, none, none, none, [], rfl, s2, upd_same, Or.inl ⟨rfl, rfl⟩⟩ ?_ ?_⟩
    · rintro i σ H' hi ⟨L', v3, v4, v5, l, rfl, s3, hl', LI⟩
      have hi : i < nOf g := by omega
      refine ⟨_, rfl, _, rfl, B, nOf g, i, adj (sidesW g (widOf g) (nOf g) 32), D, (by rw [Int.zero_add]; rfl), hB.same s3, hsq, hn, hwD, hA, hi, fun H2 W ks f s4 DP hf => ?_⟩
      have s14 := s3.trans s4
      refine ⟨_, rfl, _, _, rfl, rfl, _, rfl, B, _, rfl, .inl (SqL.of (s14 _ _ b1)), 0 + (i : Int) + 1, ((nOf g : Nat) : Int), (by rw [hlen]), ⟨by omega, by omega, by omega, by omega⟩, for_range (lo := 0 + (i : Int) + 1) (n := (((nOf g : Nat) : Int) - (0 + (i : Int) + 1)).toNat) (fun j σ H' => ∃ (L' : Addr) (v5 : Option V) (l : List Nat), σ = [some (.ref a), some (.ref B), some (.ref L'), some (.int (0 + (i : Int))), some (.ref W), v5] ∧ Same H2 H' ∧ H' L' = some (.lst (natL l)) ∧ LInv D (inT D i (i + 1 + j) (outT D i)) l)
        ⟨L', _, l, rfl, Same.refl H2, s4 _ _ hl', by rw [Nat.add_zero, inT_self hwD (by rw [hsq]; exact hi)]; exact LI⟩ ?_ ?_⟩
      · clear LI hl'
        rintro j σ H' hj ⟨L', v5, l, rfl, s5, hl', LI⟩
        have hj : i + 1 + j < nOf g := by omega
        obtain ⟨d, hd⟩ := hDist i (i + 1 + j) hi hj
        obtain ⟨q, hq, bp⟩ := hf _ _ hd
        have DP5 := DP.same s5
        obtain ⟨c, _, hv, hc⟩ := DP5.get hq
        have ez : (0 + (i : Int) + 1 + (j : Int)) = ((i + 1 + j : Nat) : Int) := by omega
        have hv2 : valV (dkv ks) (Sum.inl (0 + (i : Int) + 1 + (j : Int)) : Key) = some (V.ref c) := by rw [ez]; exact hv
        have LS := LI.step (dist_pos hd (by omega)) bp hd
        rw [← inT_step hwD (by rw [hsq]; exact hi) (by omega) hd] at LS
        refine ⟨_, rfl, _, rfl, W, _, rfl, (by rw [← hv2]; exact DGet.k (k := Sum.inl (0 + (i : Int) + 1 + (j : Int))) DP5.at_), c, _, rfl, .inl (SqL.of hc), _, rfl, L', _, rfl, .inl (SqL.of hl'), _, _, rfl, rfl, _, rfl, ?_⟩
        rw [natL_len, natL_len]
        by_cases cl : l.length < q.length
        · refine ifT (by simp; omega) ?_
          refine ⟨_, rfl, _, rfl, W, _, rfl, (by rw [← hv2]; exact DGet.k (k := Sum.inl (0 + (i : Int) + 1 + (j : Int))) DP5.at_), ?_⟩
          rw [if_pos cl] at LS
          exact ⟨c, _, q, rfl, s5, hc, LS⟩
        · refine ifF (by simp; omega) ?_
          rw [if_neg cl] at LS
          exact ⟨L', _, l, rfl, s5, hl', LS⟩
      · rintro σ H3 ⟨L2, v5, l2, rfl, s5, hl2, LI2⟩
        have ee : i + 1 + (((nOf g : Nat) : Int) - (0 + (i : Int) + 1)).toNat = nOf g := by omega
        rw [ee] at LI2
        refine ⟨L2, _, _, _, l2, rfl, s14.trans s5, hl2, ?_⟩
        rw [outT_succ, hsq]
        exact LI2
    · rintro σ H2 ⟨L', v3, v4, v5, l, rfl, s3, hl', LI⟩
      rw [Int.toNat_natCast] at LI
      exact ⟨_, rfl, k H2 L' l (s1.trans s3) hl' LI⟩
end
end Gp

end
section
set_option linter.all false
set_option maxHeartbeats 2000000
namespace Gp
open PySem PySem.Spec PyProof.Rows L2
open Gm Gn
set_option maxRecDepth 100000
set_option maxHeartbeats 2000000
set_option linter.all false
set_option Elab.async false
section
variable {P : Program} {w : World} {K : PySem.W.Frag} {mg : Str → Option Value} {base : Heap} {t : Adr}
theorem ok_garden_refusal (T : Txt K mg t) : FnOk P w K mg base CX0 6 t.a_garden_refusal t.d_garden_refusal ["drawing"] (sp_garden_refusal K) := by
  refine T.o_garden_refusal.F.ok sc_garden_refusal (fun vs H Q E h => ?_) (fun cdv A outer s H vs Q E hr h => ?_)
  · obtain ⟨a, g, rfl, _⟩ := h
    rfl
  · obtain ⟨a, g, rfl, hS, hb, k⟩ := h
    refine ⟨_, (pss_cons (ps_if (pt_cmpR op_gt (pe_callB call_len_seq rfl T.n_len PySem.boot_len (pa_cons (pv 0) pa_nil)) (pgI T.c_MOST_BYTES rfl) (nomark _)) (pss_one (ps_ret (pe_lst (pa_cons (pgI T.c_TOO_LONG rfl) pa_nil)))) pss_nil)
      (pss_cons (ps_if (pt_not (pt_val (pcall T.o_is_garden (ok_is_garden T) (hr.mono (by decide)) rfl (pa_cons (pv 0) pa_nil)))) (pss_one (ps_ret (pe_lst (pa_cons (pgI T.c_NO_DRAWING rfl) pa_nil)))) pss_nil)
      (pss_one (ps_ret (pe_lst pa_nil))))), ?_⟩
    refine ⟨_, rfl, a, _, rfl, .inl hS, _, _, rfl, rfl, _, rfl, ?_⟩
    rw [natL_len]
    refine ite2 (fun h1 => ?_) (fun h1 => ?_)
    · have e1 : 1024 < g.length := by simp at h1; omega
      refine ⟨(by show 1 ≤ sizeLine; decide), fun p hp => k _ p _ (Same.new (Same.refl H) hp _) ?_ (.long e1)⟩
      rw [upd_same]
      rfl
    · have e1 : ¬ 1024 < g.length := by simp at h1; omega
      refine ⟨_, rfl, a, g, rfl, hS, hb, by omega, fun H1 s1 => ⟨_, rfl, ?_⟩⟩
      cases hG : isG g with
      | false =>
        refine iteT ?_
        refine ⟨(by show 1 ≤ sizeLine; decide), fun p hp => k _ p _ (Same.new s1 hp _) ?_ (.bad e1 hG)⟩
        rw [upd_same]
        rfl
      | true =>
        refine iteF ?_
        refine ⟨(by show 0 ≤ sizeLine; decide), fun p hp => k _ p _ (Same.new s1 hp _) ?_ (.ok e1 hG)⟩
        rw [upd_same]
        rfl
end
end Gp

end
section
set_option linter.all false
set_option maxHeartbeats 2000000
namespace Gp
open PySem PySem.Spec PyProof.Rows L2
open Gm Gn
set_option maxRecDepth 100000
set_option maxHeartbeats 2000000
set_option linter.all false
set_option Elab.async false
section
variable {P : Program} {w : World} {K : PySem.W.Frag} {mg : Str → Option Value} {base : Heap} {t : Adr}
theorem ok_make (T : Txt K mg t) : FnOk P w K mg base CX0 8 t.a_make t.d_make ["garden"] (sp_make K) := by
  refine T.o_make.F.ok sc_make (fun vs H Q E h => ?_) (fun cdv A outer s H vs Q E hr h => ?_)
  · obtain ⟨a, g, rfl, _⟩ := h
    rfl
  · obtain ⟨a, g, rfl, hS, hb, k⟩ := h
    have big := sizeLine_big
    refine ⟨_, (pss_cons (ps_set (i := 1) sc_make.nd rfl (Or.inl rfl) (pcall T.o_garden_refusal (ok_garden_refusal T) (hr.mono (by decide)) rfl (pa_cons (pv 0) pa_nil)))
      (pss_cons (ps_if (pt_cmpR op_gt (pe_callB call_len_seq rfl T.n_len PySem.boot_len (pa_cons (pv 1) pa_nil)) pe_int (nomark _)) (pss_one (ps_ret (pv 1))) pss_nil)
      (pss_cons (ps_if (pt_cmpR op_eq (pcall T.o_squares_of (ok_squares_of T) (hr.mono (by decide)) rfl (pa_cons (pv 0) pa_nil)) pe_int (nomark _)) (pss_one (ps_ret (pe_lst (pa_cons (pgI T.c_ONE_SQUARE rfl) pa_nil)))) pss_nil)
      (pss_cons (ps_set (i := 2) sc_make.nd rfl (Or.inl rfl) (pcall T.o_mended (ok_mended T) (hr.mono (by decide)) rfl (pa_cons (pv 0) pa_nil)))
      (pss_one (ps_ret (pe_op op_cat (pe_lst (pa_cons (pgI T.c_TOLD rfl) pa_nil)) (pcall T.o_plan_drawing (ok_plan_drawing T) (hr.mono (by decide)) rfl (pa_cons (pv 2) (pa_cons (pcall T.o_longest_way (ok_longest_way T) (hr.mono (by decide)) rfl (pa_cons (pv 2) pa_nil)) pa_nil)))))))))), ?_⟩
    refine ⟨_, rfl, a, g, rfl, hS, hb, fun H1 p r s1 hp hR => ?_⟩
    refine ⟨_, rfl, p, _, rfl, .inl (SqL.of hp), _, _, rfl, rfl, _, rfl, ?_⟩
    rw [List.length_map]
    cases hR with
    | long e1 =>
      refine ifT (by decide) ?_
      refine ⟨_, rfl, k H1 p ?_⟩
      rw [make_long e1]
      exact hp
    | bad e1 hG =>
      refine ifT (by decide) ?_
      refine ⟨_, rfl, k H1 p ?_⟩
      rw [make_bad hb e1 hG]
      exact hp
    | ok e1 hG =>
      refine ifF (by decide) ?_
      have hZ := sz_garden hb hG
      obtain ⟨⟨w1, w2⟩, ⟨h1, h2⟩, hl, hn, hwn⟩ := sz_of hZ
      refine ⟨_, rfl, a, g, rfl, s1.seq hS, rfl, _, rfl, ?_⟩
      by_cases c : nOf g = 1
      · refine ifT (eq_test.mpr (by omega)) ?_
        refine ⟨(by show 1 ≤ sizeLine; decide), fun q hq => k _ q ?_⟩
        rw [upd_same, make_one hb e1 hG c]
        rfl
      · refine ifF (fun z => c (by have := eq_test.mp z; omega)) ?_
        obtain ⟨m1, m2, m3, m4, m5⟩ := mend_ok hb hG
        obtain ⟨n1, n2, n3, n4⟩ := mend_parts hb hG
        refine ⟨_, rfl, a, g, rfl, s1.seq hS, hZ, fun H2 d s2 hd => ?_⟩
        refine ⟨(by show 1 ≤ sizeLine; decide), fun q hq => ?_⟩
        have s3 : Same H2 (upd H2 q (.lst [.int 0])) := Same.new (Same.refl H2) hq _
        have hq0 : upd H2 q (.lst [.int 0]) q = some (.lst [.int 0]) := upd_same
        generalize upd H2 q (.lst [.int 0]) = H3 at s3 hq0 ⊢
        have hd3 := s3 _ _ hd
        refine ⟨_, rfl, _, rfl, d, mendN g, rfl, SqL.of hd3, m2, m1, (fun s t hs ht => n3 s t (by rw [n1] at hs; exact hs) (by rw [n1] at ht; exact ht)), fun H4 lp l s4 hlp hgl => ?_⟩
        obtain ⟨hP, told⟩ := make_told hb e1 hG (by omega) hgl
        have hll : l.length ≤ 30000 := by
          have hP2 := hP
          unfold isPW at hP2
          simp only [Bool.and_eq_true, decide_eq_true_eq] at hP2
          have := Gt.count_le hP2.2.2.1 hP2.2.1
          have e : widOf (mendN g) * higOf (mendN g) (widOf (mendN g)) = nOf g := n1
          omega
        refine ⟨d, lp, mendN g, l, rfl, SqL.of (s4 _ _ hd3), SqL.of hlp, m2, hll, m1, hP, fun H5 u s5 hu => ⟨q, u, _, _, rfl, rfl, s5 _ _ (s4 _ _ hq0), hu, ?_, fun v hv => k _ v ?_⟩⟩
        · rw [natL_len, drawOn_len]
          have : (mendN g).length = g.length := drawG_len _ _ _ _
          show 1 + (mendN g).length ≤ sizeLine
          omega
        · rw [upd_same, told]
          show some (HO.lst (V.int 0 :: natL _)) = some (HO.lst (V.int 0 :: List.map V.int (List.map _ _)))
          rw [List.map_map]
          rfl
end
end Gp

end
open PySem PySem.W PyProof.Rows
set_option maxRecDepth 100000 in
set_option maxHeartbeats 0 in
theorem PySem.Challenge.cw_gardenplans_s05_make_holds : PySem.Challenge.rw_gardenplans_s05_make.Holds := by
  w_on; k_headS; (case hw => exact ⟨[.list []], by decide +kernel, by decide +kernel⟩)
  k_fillS
  refine L2.walk_specK (r := PySem.Challenge.rw_gardenplans_s05_make) (k := 8) (CX := L2.CX0) (ps := ["garden"]) (sp := Gp.sp_make) (by decide +kernel) rfl rfl ⟨rfl, by decide, by decide⟩ (fun w h Y => PySem.W.kIn_of Y) ?F ?S (fun _ _ _ _ z => z)
  case F =>
    intro w mg fa h Y KX G hmg
    have TT : ∃ t : Gp.Adr, Gp.Txt (L2.KOf KX) mg t ∧ ∃ kV dc pm an cd ct, t.d_make = PySem.W.fnOf "make" "make" (L2.defArgs Gp.s_make) (L2.defBody Gp.s_make) (L2.defScope Gp.s_make) .none kV dc pm an cd ct := by
      dsimp only [L2.KOf]
      refine' Gp.txt_mk KX G ?a0 ?l0 ?e0 ?k0 ?a1 ?l1 ?e1 ?k1 ?a2 ?l2 ?e2 ?k2 ?a3 ?l3 ?e3 ?k3 ?a4 ?l4 ?e4 ?k4 ?a5 ?l5 ?e5 ?k5 ?a6 ?l6 ?e6 ?k6 ?a7 ?l7 ?e7 ?k7 ?a8 ?l8 ?e8 ?k8 ?a9 ?l9 ?e9 ?k9 ?a10 ?l10 ?e10 ?k10 ?a11 ?l11 ?e11 ?k11 ?a12 ?l12 ?e12 ?k12 ?a13 ?l13 ?e13 ?k13 ?a14 ?l14 ?e14 ?k14 ?a15 ?l15 ?e15 ?k15 ?a16 ?l16 ?e16 ?k16 ?a17 ?l17 ?e17 ?k17 ?a18 ?l18 ?e18 ?k18 ?a19 ?l19 ?e19 ?k19 ?a20 ?l20 ?e20 ?k20 ?a21 ?l21 ?e21 ?k21 ?a22 ?l22 ?e22 ?k22 ?a23 ?l23 ?e23 ?k23 ?a24 ?l24 ?e24 ?k24 ?a25 ?l25 ?e25 ?k25 ?a26 ?l26 ?e26 ?k26 ?v0 ?v1 ?v2 ?v3 ?v4 ?v5 ?v6 ?v7 ?v8 ?v9 ?v10 ?v11 ?v12 ?v13 ?z0 ?z1 ?z2 ?z3 ?z4 ?z5
      (case a0 => k_is)
      (case l0 => k_is)
      (case e0 => k_is)
      (case k0 => k_is)
      (case a1 => k_is)
      (case l1 => k_is)
      (case e1 => k_is)
      (case k1 => k_is)
      (case a2 => k_is)
      (case l2 => k_is)
      (case e2 => k_is)
      (case k2 => k_is)
      (case a3 => k_is)
      (case l3 => k_is)
      (case e3 => k_is)
      (case k3 => k_is)
      (case a4 => k_is)
      (case l4 => k_is)
      (case e4 => k_is)
      (case k4 => k_is)
      (case a5 => k_is)
      (case l5 => k_is)
      (case e5 => k_is)
      (case k5 => k_is)
      (case a6 => k_is)
      (case l6 => k_is)
      (case e6 => k_is)
      (case k6 => k_is)
      (case a7 => k_is)
      (case l7 => k_is)
      (case e7 => k_is)
      (case k7 => k_is)
      (case a8 => k_is)
      (case l8 => k_is)
      (case e8 => k_is)
      (case k8 => k_is)
      (case a9 => k_is)
      (case l9 => k_is)
      (case e9 => k_is)
      (case k9 => k_is)
      (case a10 => k_is)
      (case l10 => k_is)
      (case e10 => k_is)
      (case k10 => k_is)
      (case a11 => k_is)
      (case l11 => k_is)
      (case e11 => k_is)
      (case k11 => k_is)
      (case a12 => k_is)
      (case l12 => k_is)
      (case e12 => k_is)
      (case k12 => k_is)
      (case a13 => k_is)
      (case l13 => k_is)
      (case e13 => k_is)
      (case k13 => k_is)
      (case a14 => k_is)
      (case l14 => k_is)
      (case e14 => k_is)
      (case k14 => k_is)
      (case a15 => k_is)
      (case l15 => k_is)
      (case e15 => k_is)
      (case k15 => k_is)
      (case a16 => k_is)
      (case l16 => k_is)
      (case e16 => k_is)
      (case k16 => k_is)
      (case a17 => k_is)
      (case l17 => k_is)
      (case e17 => k_is)
      (case k17 => k_is)
      (case a18 => k_is)
      (case l18 => k_is)
      (case e18 => k_is)
      (case k18 => k_is)
      (case a19 => k_is)
      (case l19 => k_is)
      (case e19 => k_is)
      (case k19 => k_is)
      (case a20 => k_is)
      (case l20 => k_is)
      (case e20 => k_is)
      (case k20 => k_is)
      (case a21 => k_is)
      (case l21 => k_is)
      (case e21 => k_is)
      (case k21 => k_is)
      (case a22 => k_is)
      (case l22 => k_is)
      (case e22 => k_is)
      (case k22 => k_is)
      (case a23 => k_is)
      (case l23 => k_is)
      (case e23 => k_is)
      (case k23 => k_is)
      (case a24 => k_is)
      (case l24 => k_is)
      (case e24 => k_is)
      (case k24 => k_is)
      (case a25 => k_is)
      (case l25 => k_is)
      (case e25 => k_is)
      (case k25 => k_is)
      (case a26 => k_is)
      (case l26 => k_is)
      (case e26 => k_is)
      (case k26 => k_is)
      (case v0 => k_is)
      (case v1 => k_is)
      (case v2 => k_is)
      (case v3 => k_is)
      (case v4 => k_is)
      (case v5 => k_is)
      (case v6 => k_is)
      (case v7 => k_is)
      (case v8 => k_is)
      (case v9 => k_is)
      (case v10 => k_is)
      (case v11 => k_is)
      (case v12 => k_is)
      (case v13 => k_is)
      (case z0 => k_is)
      (case z1 => k_is)
      (case z2 => k_is)
      (case z3 => k_is)
      (case z4 => k_is)
      (case z5 => k_is)
    obtain ⟨t, T, kV, dc, pm, an, cd, ct, ed⟩ := TT
    have e0 : some (Value.ref fa) = some (Value.ref t.a_make) := hmg.symm.trans T.o_make.m
    injection e0 with e0
    injection e0 with e0
    subst e0
    refine ⟨t.d_make, ?_, fun base _ _ => Gp.ok_make T⟩
    intro s us hu
    rw [ed]
    exact match us, hu with | [_], _ => .of_eq rfl
  case S =>
    intro K H xs a hO hwi hask hx
    cases hx with
    | cons h1 h2 =>
      cases h2
      cases h1 with
      | lst hs ha =>
        have e := L2.ints_dw a.1 _ ha
        subst e
        have q : ((Codec.inLen 0 2000 a.1 && a.1.all (Codec.inInt 0 255)) && true) = true := hwi
        rw [Bool.and_eq_true, Bool.and_eq_true] at q
        obtain ⟨⟨_, q2⟩, _⟩ := q
        have r1 : ∀ z ∈ a.1, 0 ≤ z ∧ z ≤ 255 := fun z hz => by
          have := List.all_eq_true.mp q2 z hz
          unfold Codec.inInt at this
          simp only [Bool.and_eq_true, decide_eq_true_eq] at this
          exact this
        have c1 := Gp.nat_of (l := a.1) fun z hz => (r1 z hz).1
        have b1 : ∀ n ∈ a.1.map Int.toNat, n < 256 := fun n hn => by
          obtain ⟨z, hz, rfl⟩ := List.mem_map.mp hn
          exact Gp.byte_lt (r1 z hz)
        refine ⟨_, a.1.map Int.toNat, rfl, (by rw [Gp.natL_cast, c1]; exact hs), b1, fun H' p hp => ?_⟩
        rw [c1] at hp
        exact .lst (L2.SqL.of hp) (L2.dw_ints _)
