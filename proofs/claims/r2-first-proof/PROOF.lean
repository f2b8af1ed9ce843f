import PyProof.Rows.All
import Wide.All
import OpenK.AllK
import Wide.FinOn
import PyProof.EqAt
import PyProof.EqKinds
import PyProof.TupleCall
import KE.BitLaws
import KE.KDictLaws
import Open.SpecLaws
import KE.OsHead
import KE.OsGo
import PySem.Challenge.RW_linkgrounds_s03_first
section
set_option Elab.async false
set_option linter.all false
set_option maxRecDepth 100000
/-! THE HAND LAYER, for ints, bools, texts, own classes, lists, tuples, dicts, comprehensions, walks over dicts, enumerate, zip, reversed, texts, calls, loops. Paste it whole ahead of your own text; what your proof does not reach may be deleted. -/
namespace L2
open PySem PySem.Spec PyProof.Rows
/-- a key: an int or a str -/
abbrev Key := Sum Int Str
def keyIs : Key → Value → Bool
  | .inl k, v => Value.isInt k v
  | .inr x, v => Value.isStrOf x v
def keyH (w : World) : Key → Int
  | .inl k => hashInt k
  | .inr x => hashStr w x
theorem keyIs_shape : ∀ {k : Key} {v : Value}, keyIs k v = true → (∃ i t, k = Sum.inl i ∧ v = Value.int i t) ∨ (∃ x t, k = Sum.inr x ∧ v = Value.str x t)
  | .inl i, v, h => by
    obtain ⟨t, e⟩ := Value.isInt_shape (k := i) (v := v) h
    exact .inl ⟨i, t, rfl, e⟩
  | .inr x, v, h => by
    obtain ⟨t, e⟩ := Value.isStrOf_shape (x := x) (v := v) h
    exact .inr ⟨x, t, rfl, e⟩
theorem keyIs_int (i : Int) (t : Tok) : keyIs (.inl i) (.int i t) = true := by simp [keyIs, Value.isInt]
theorem keyIs_str (x : Str) (t : Tok) : keyIs (.inr x) (.str x t) = true := by simp [keyIs, Value.isStrOf]
theorem key_ll (a b : Int) : decide ((Sum.inl a : Key) = Sum.inl b) = (a == b) := by
  by_cases e : a = b
  · subst e; simp
  · have h : ¬ (Sum.inl a : Key) = Sum.inl b := fun q => e (Sum.inl.inj q)
    rw [decide_eq_false h]
    exact (beq_eq_false_iff_ne.mpr e).symm
theorem key_rr (a b : Str) : decide ((Sum.inr a : Key) = Sum.inr b) = decide (a = b) := by
  by_cases e : a = b
  · subst e; simp
  · have h : ¬ (Sum.inr a : Key) = Sum.inr b := fun q => e (Sum.inr.inj q)
    rw [decide_eq_false h, decide_eq_false e]
theorem key_lr (a : Int) (b : Str) : decide ((Sum.inl a : Key) = Sum.inr b) = false := decide_eq_false (fun q => nomatch q)
theorem key_rl (a : Str) (b : Int) : decide ((Sum.inr a : Key) = Sum.inl b) = false := decide_eq_false (fun q => nomatch q)
def mixKind (prog : Program) (w : World) : PySem.KeyKind prog w Key where
  is := keyIs
  hash := keyH w
  inj := fun v a b ha hb => by
    rcases keyIs_shape ha with ⟨i, t, rfl, rfl⟩ | ⟨x, t, rfl, rfl⟩
    · rcases keyIs_shape hb with ⟨j, u, rfl, e⟩ | ⟨y, u, rfl, e⟩
      · injection e with e1 _; rw [e1]
      · exact nomatch e
    · rcases keyIs_shape hb with ⟨j, u, rfl, e⟩ | ⟨y, u, rfl, e⟩
      · exact nomatch e
      · injection e with e1 _; rw [e1]
  byValue := fun k v h => by
    rcases keyIs_shape h with ⟨i, t, rfl, rfl⟩ | ⟨x, t, rfl, rfl⟩ <;> rfl
  pyHash := fun hv h => by
    rcases keyIs_shape hv with ⟨i, t, rfl, rfl⟩ | ⟨x, t, rfl, rfl⟩
    · exact wpAny_pyHash_int h
    · exact wpAny_pyHash_str h
  eqBool := fun hu hv h => by
    rcases keyIs_shape hu with ⟨i, t, rfl, rfl⟩ | ⟨x, t, rfl, rfl⟩
    · rcases keyIs_shape hv with ⟨j, u, rfl, rfl⟩ | ⟨y, u, rfl, rfl⟩
      · rw [key_ll] at h; exact wpAny_eqBool_int h
      · rw [key_lr] at h; exact SeqAt.EqAt.int_str i t y u _ _ _ _ h
    · rcases keyIs_shape hv with ⟨j, u, rfl, rfl⟩ | ⟨y, u, rfl, rfl⟩
      · rw [key_rl] at h; exact SeqAt.EqAt.str_int x t j u _ _ _ _ h
      · rw [key_rr] at h; exact wpAny_eqBool_str h
  «strs» := fun k x t v h => by
    rcases keyIs_shape h with ⟨i, u, rfl, e⟩ | ⟨y, u, rfl, e⟩
    · exact nomatch e
    · injection e with e1 _
      subst e1
      cases v <;> rfl
theorem mixKind_int (prog : Program) (w : World) (i : Int) (t : Tok) : (mixKind prog w).is (.inl i) (.int i t) = true := keyIs_int i t
theorem mixKind_str (prog : Program) (w : World) (x : Str) (t : Tok) : (mixKind prog w).is (.inr x) (.str x t) = true := keyIs_str x t
end L2
namespace L2
open PySem PySem.Spec PyProof.Rows
/-- a value, without the heap -/
inductive V where
  | non | bl (b : Bool) | int (i : Int) | str (x : Str) | byt (b : Array UInt8) | flt (b : UInt64) | ref (a : Addr) | ty (n : String)
  deriving DecidableEq
def RelV : V → Value → Prop
  | .non, u => u = Value.none
  | .bl b, u => u = Value.bool b
  | .int i, u => ∃ t, u = Value.int i t
  | .str x, u => ∃ t, u = Value.str x t
  | .byt b, u => ∃ t, u = Value.bytes b t
  | .flt b, u => ∃ t, u = Value.float b t
  | .ref a, u => u = Value.ref a
  | .ty n, u => u = Value.type n
abbrev Vals : List V → List Value → Prop := Paired RelV
theorem Vals.length {xs : List V} {us : List Value} (r : Vals xs us) : xs.length = us.length := Paired.length r
theorem Vals.get : ∀ {xs : List V} {us : List Value} {i : Nat} {x : V}, Vals xs us → xs[i]? = some x → ∃ u, us[i]? = some u ∧ RelV x u
  | _, _, _, _, .nil, e => by simp at e
  | _, _, 0, _, .cons r _, e => by simp at e; subst e; exact ⟨_, rfl, r⟩
  | _, _, i + 1, x, .cons _ t, e => by
    obtain ⟨u, h1, h2⟩ := Vals.get (i := i) (x := x) t (by simpa using e)
    exact ⟨u, by simpa using h1, h2⟩
theorem Vals.set {x : V} {u : Value} (r : RelV x u) : ∀ {xs : List V} {us : List Value} (i : Nat), Vals xs us → Vals (xs.set i x) (us.set i u)
  | _, _, _, .nil => .nil
  | _, _, 0, .cons _ t => .cons r t
  | _, _, i + 1, .cons q t => .cons q (Vals.set r i t)
theorem Vals.append : ∀ {xs ys : List V} {us ws : List Value}, Vals xs us → Vals ys ws → Vals (xs ++ ys) (us ++ ws)
  | _, _, _, _, .nil, s => s
  | _, _, _, _, .cons r t, s => .cons r (Vals.append t s)
theorem Vals.take : ∀ {xs : List V} {us : List Value} (n : Nat), Vals xs us → Vals (xs.take n) (us.take n)
  | _, _, 0, _ => .nil
  | _, _, _ + 1, .nil => .nil
  | _, _, n + 1, .cons r t => .cons r (Vals.take n t)
theorem Vals.drop : ∀ {xs : List V} {us : List Value} (n : Nat), Vals xs us → Vals (xs.drop n) (us.drop n)
  | _, _, 0, r => r
  | _, _, _ + 1, .nil => .nil
  | _, _, n + 1, .cons _ t => Vals.drop n t
def RelO : Option V → Option Value → Prop
  | some v, some u => RelV v u
  | none, none => True
  | _, _ => False
def KV {κ : Type} : List (κ × V) → List (κ × Value) → Prop := Paired fun (p : κ × V) (q : κ × Value) => p.1 = q.1 ∧ RelV p.2 q.2
/-- a key of a dict (00_mix): an int or a text -/
def kV : Key → V
  | .inl i => .int i
  | .inr x => .str x
/-- what stands at a tracked address -/
inductive HO where
  /-- a list -/
  | lst (xs : List V)
  /-- a tuple (never changes) -/
  | tup (xs : List V)
  /-- a dict whose keys are ints and texts; one whose keys are tuples of ints and texts (the empty one is both) -/
  | dK (kvs : List (Key × V)) | dT (kvs : List (List Key × V))
  /-- a set of ints: its members, its size -/
  | set (S : Int → Bool) (n : Nat)
  /-- an instance of the class at C, its dict at dx, its attributes -/
  | ins (C dx : Addr) (fs : List (Str × V))
  /-- the dict of the instance at x -/
  | own (x : Addr)
  /-- the dict of an exception -/
  | xd (fs : List (Str × V))
  /-- a bound method, f of x -/
  | met (f x : Addr)
  /-- a range object lo, lo + 1, .. below hi -/
  | rng (lo hi : Int)
  /-- a thing that is known to the object (the script; a dict while a loop walks it): read, never written while it is so -/
  | frz (o : Obj) (u : HO)
  /-- a code object's table -/
  | tbl (ps : Array Value)
  /-- any other thing, by what is true of its one object (a def of one's own: SetO a S n := HO.ext fun h => ..) -/
  | ext (φ : Heap → Prop)
abbrev Hp := Addr → Option HO
def upd (H : Hp) (a : Addr) (o : HO) : Hp := fun b => if b = a then some o else H b
theorem upd_same {H : Hp} {a : Addr} {o : HO} : upd H a o a = some o := by unfold upd; rw [if_pos rfl]
theorem upd_ne {H : Hp} {a b : Addr} {o : HO} (h : b ≠ a) : upd H a o b = H b := by unfold upd; rw [if_neg h]
/-- two objects of different content stand apart -/
theorem ne_of {H : Hp} {a b : Addr} {o u : HO} (h : H a = some o) (h' : H b = some u) (d : o ≠ u) : a ≠ b := by
  intro e; subst e; rw [h] at h'; exact d (Option.some.inj h')
theorem ne_of_none {H : Hp} {a b : Addr} {o : HO} (h : H a = some o) (h' : H b = none) : a ≠ b := by
  intro e; subst e; rw [h] at h'; cases h'
section
variable (P : Program) (w : World)
def ObjOk (H : Hp) (h : Heap) (a : Addr) : HO → Prop
  | .lst xs => xs.length ≤ sizeLine ∧ ∃ (its : List Value) (n : Nat), Vals xs its ∧ h.get? a = some { cls := .type "list", data := .seq its.toArray n }
  | .tup xs => xs.length ≤ sizeLine ∧ ∃ its : List Value, Vals xs its ∧ IsTup h a its.toArray
  | .dK kvs => kvs.length ≤ sizeLine ∧ (a == sysModules) = false ∧ ∃ vs, KV kvs vs ∧ h.DictOf (mixKind P w) a vs
  | .dT kvs => kvs.length ≤ sizeLine ∧ (a == sysModules) = false ∧ ∃ xs : List (List Key × Addr × Value),
      Paired (fun (p : List Key × V) (q : List Key × Addr × Value) => p.1 = q.1 ∧ H q.2.1 = some (.tup (p.1.map kV)) ∧ RelV p.2 q.2.2) kvs xs ∧
      ∃ o es ep, h.get? a = some o ∧ o.ExactDict ∧ o.data = .dict es ep ∧ es.toList = xs.map (entryOfKey (tupleKind (mixKind P w))) ∧ (xs.map (·.1)).Nodup
  | .set S n => h.SetOf (intKind P w) a S n
  | .ins C dx fs => H dx = some (.own a) ∧ fs.length ≤ 1000 ∧ dx ≠ a ∧ h.get? a = some (PySem.W.instObj C dx) ∧
      ∃ mA, h.Ns1 dx mA ∧ (∀ f, RelO (fs.lookup f) (mA f)) ∧ PySem.Within mA (fs.map (·.1))
  | .own _ => ∃ o, h.get? a = some o
  | .xd fs => ∃ mA, h.Ns1 a mA ∧ ∀ f, RelO (fs.lookup f) (mA f)
  | .rng lo hi => ∃ t u v, h.get? a = some { cls := .type "range", data := .fields #[.int lo t, .int hi u, .int 1 v] }
  | .frz o u => h.get? a = some o ∧ ObjOk H h a u
  | .tbl ps => h.get? a = some { cls := .none, data := .fields ps }
  | .met f x => h.get? a = some (PySem.W.methodObj (.ref f) (.ref x))
  | .ext φ => φ h ∧ (∃ o, h.get? a = some o) ∧ ∀ h1 h2 : Heap, φ h1 → (∀ o, h1.get? a = some o → h2.get? a = some o) → φ h2
/-- the abstract heap is held -/
def HOk (H : Hp) (h : Heap) : Prop := ∀ a o, H a = some o → ObjOk P w H h a o
end
section
variable {P : Program} {w : World} {H H' : Hp} {h h' : Heap} {a : Addr} {o : HO}
theorem ObjOk.lt (x : ObjOk P w H h a o) : a < h.objs.size := by
  cases o with
  | lst xs => obtain ⟨_, _, _, _, e⟩ := x; exact Heap.lt_size e
  | tup xs => obtain ⟨_, _, _, p⟩ := x; exact p.lt
  | dK kvs => obtain ⟨_, _, _, _, o, _, _, e, _⟩ := x; exact Heap.lt_size e
  | dT kvs => obtain ⟨_, _, _, _, o, _, _, e, _⟩ := x; exact Heap.lt_size e
  | set S n => obtain ⟨o, _, _, _, e, _⟩ := x; exact Heap.lt_size e
  | ins C dx fs => obtain ⟨_, _, _, e, _⟩ := x; exact Heap.lt_size e
  | own y => obtain ⟨_, e⟩ := x; exact Heap.lt_size e
  | xd fs => obtain ⟨_, ⟨_, _, _, e, _⟩, _⟩ := x; exact Heap.lt_size e
  | rng lo hi => obtain ⟨_, _, _, e⟩ := x; exact Heap.lt_size e
  | frz ob u => obtain ⟨e, _⟩ := x; exact Heap.lt_size e
  | tbl ps => exact Heap.lt_size (show h.get? a = some _ from x)
  | met f y => exact Heap.lt_size (show h.get? a = some _ from x)
  | ext φ => obtain ⟨_, ⟨_, e⟩, _⟩ := x; exact Heap.lt_size e
theorem Paired.mapP {α β : Type} {F G : α → β → Prop} : ∀ {l₁ : List α} {l₂ : List β}, Paired F l₁ l₂ → (∀ a b, F a b → G a b) → Paired G l₁ l₂
  | _, _, .nil, _ => .nil
  | _, _, .cons r t, f => .cons (f _ _ r) (Paired.mapP t f)
/-- what an object's description leans on: its own object, its own dict, the tuples -/
theorem ObjOk.stay (x : ObjOk P w H h a o) (k : ∀ b u, (b = a ∨ H b = some (.own a)) → h.get? b = some u → h'.get? b = some u)
    (ho : ∀ b, H b = some (.own a) → H' b = some (.own a)) (ht : ∀ b xs, H b = some (.tup xs) → H' b = some (.tup xs)) : ObjOk P w H' h' a o := by
  induction o with
  | lst xs => obtain ⟨z, its, n, r, e⟩ := x; exact ⟨z, its, n, r, k _ _ (.inl rfl) e⟩
  | tup xs => obtain ⟨z, its, r, ob, e, c⟩ := x; exact ⟨z, its, r, ob, k _ _ (.inl rfl) e, c⟩
  | dK kvs => obtain ⟨z, y, vs, r, ob, es, ep, e, c⟩ := x; exact ⟨z, y, vs, r, ob, es, ep, k _ _ (.inl rfl) e, c⟩
  | dT kvs =>
    obtain ⟨z, y, xs, r, ob, es, ep, e, c⟩ := x
    exact ⟨z, y, xs, Paired.mapP r fun p q z => ⟨z.1, ht _ _ z.2.1, z.2.2⟩, ob, es, ep, k _ _ (.inl rfl) e, c⟩
  | set S n => obtain ⟨ob, es, ep, t, e, c⟩ := x; exact ⟨ob, es, ep, t, k _ _ (.inl rfl) e, c⟩
  | ins C dx fs =>
    obtain ⟨d, z, ne, e, mA, ⟨od, es, ep, e2, c⟩, r⟩ := x
    exact ⟨ho _ d, z, ne, k _ _ (.inl rfl) e, mA, ⟨od, es, ep, k _ _ (.inr d) e2, c⟩, r⟩
  | own y => obtain ⟨ob, e⟩ := x; exact ⟨ob, k _ _ (.inl rfl) e⟩
  | xd fs => obtain ⟨mA, ⟨od, es, ep, e, c⟩, r⟩ := x; exact ⟨mA, ⟨od, es, ep, k _ _ (.inl rfl) e, c⟩, r⟩
  | rng lo hi => obtain ⟨t, u, v, e⟩ := x; exact ⟨t, u, v, k _ _ (.inl rfl) e⟩
  | frz ob u ih => obtain ⟨e, q⟩ := x; exact ⟨k _ _ (.inl rfl) e, ih q⟩
  | tbl ps =>
    have e : h.get? a = some { cls := .none, data := .fields ps } := x
    show h'.get? a = some { cls := .none, data := .fields ps }
    exact k a _ (.inl rfl) e
  | met f y =>
    have e : h.get? a = some (PySem.W.methodObj (.ref f) (.ref y)) := x
    show h'.get? a = some (PySem.W.methodObj (.ref f) (.ref y))
    exact k a _ (.inl rfl) e
  | ext φ => obtain ⟨p, ⟨o, e⟩, st⟩ := x; exact ⟨st _ _ p fun o q => k _ _ (.inl rfl) q, ⟨o, k _ _ (.inl rfl) e⟩, st⟩
theorem HOk.lt (x : HOk P w H h) (e : H a = some o) : a < h.objs.size := (x a o e).lt
theorem HOk.fresh (x : HOk P w H h) (e : h.objs.size ≤ a) : H a = none := by
  cases q : H a with
  | none => rfl
  | some u => exact absurd (Nat.lt_of_lt_of_le (x.lt q) e) (Nat.lt_irrefl _)
/-- every object of the heap is kept -/
theorem HOk.kept (x : HOk P w H h) (k : ∀ b u, h.get? b = some u → h'.get? b = some u) : HOk P w H h' := fun a o e =>
  (x a o e).stay (fun b u _ q => k b u q) (fun _ q => q) fun _ _ q => q
/-- a new object is laid and tracked -/
theorem HOk.laid (x : HOk P w H h) (k : ∀ b u, h.get? b = some u → h'.get? b = some u) (hp : h.objs.size ≤ a) (new : ObjOk P w (upd H a o) h' a o) : HOk P w (upd H a o) h' := fun b u e => by
  have hn := x.fresh hp
  by_cases hb : b = a
  · subst hb; rw [upd_same] at e; cases e; exact new
  · rw [upd_ne hb] at e
    exact (x b u e).stay (fun c v _ q => k c v q) (fun c q => by rw [upd_ne (ne_of_none q hn)]; exact q) fun c xs q => by rw [upd_ne (ne_of_none q hn)]; exact q
end
/-- what may be read as u: it is u, or a known u -/
def Rd (H : Hp) (a : Addr) (u : HO) : Prop := H a = some u ∨ ∃ o, H a = some (.frz o u)
theorem Rd.ok {P : Program} {w : World} {H : Hp} {h : Heap} {a : Addr} {u : HO} (r : Rd H a u) (x : HOk P w H h) : ObjOk P w H h a u := by
  rcases r with r | ⟨o, r⟩
  · exact x a u r
  · obtain ⟨_, q⟩ := x a _ r
    exact q
/-- what may be written -/
def Mut : Option HO → Prop
  | some (.lst _) => True
  | some (.dK _) => True
  | some (.dT _) => True
  | some (.set _ _) => True
  | some (.ins _ _ _) => True
  | some (.ext _) => True
  | _ => False
section
variable {P : Program} {w : World} {H : Hp} {h h' : Heap} {x e : Addr} {o' : HO}
/-- the object at e is changed: x itself, or the dict of the instance x -/
theorem HOk.write (ok : HOk P w H h) (mu : Mut (H x)) (he : e = x ∨ H e = some (.own x)) (k : ∀ b u, b ≠ e → h.get? b = some u → h'.get? b = some u) (heo : ∃ u, h'.get? e = some u)
    (new : ObjOk P w (upd H x o') h' x o') : HOk P w (upd H x o') h' := fun b u q => by
  have nown : ∀ c y, H c = some (.own y) → c ≠ x := fun c y r z => by subst z; rw [r] at mu; exact mu
  have ntup : ∀ c xs, H c = some (.tup xs) → c ≠ x := fun c xs r z => by subst z; rw [r] at mu; exact mu
  by_cases hb : b = x
  · subst hb; rw [upd_same] at q; cases q; exact new
  · rw [upd_ne hb] at q
    by_cases hbe : b = e
    · have q' : H b = some (.own x) := by
        rcases he with z | z
        · exact absurd (hbe.trans z) hb
        · rw [hbe]; exact z
      rw [q] at q'; cases q'
      obtain ⟨v, hv⟩ := heo
      exact ⟨v, by rw [hbe]; exact hv⟩
    · refine (ok b u q).stay (fun c v hc r => k c v ?_ r) (fun c r => by rw [upd_ne (nown c b r)]; exact r) fun c xs r => by rw [upd_ne (ntup c xs r)]; exact r
      rcases hc with rfl | hc
      · exact hbe
      · rintro rfl
        rcases he with z | z
        · exact nown c b hc z
        · rw [hc] at z; cases z; exact hb rfl
end
/-! ### kept unless tracked; of the frames at fs (the callers') the slots may change (an exception that passes writes there); of the records at ex (iterators) nothing is said -/
structure Un (fs ex : List Addr) (H H' : Hp) (h h' : Heap) : Prop where
  keep : ∀ b o, h.get? b = some o → H b = none → b ∉ fs → b ∉ ex → h'.get? b = some o
  slot : ∀ b o, h.get? b = some o → H b = none → b ∈ fs → b ∉ ex → ∃ sl, h'.get? b = some { o with slots := sl }
  free : ∀ b o, h.get? b = some o → H b = none → b ∉ ex → H' b = none
  there : ∀ b o, h.get? b = some o → b ∉ ex → ∃ o', h'.get? b = some o'
  tups : ∀ b xs, H b = some (.tup xs) → H' b = some (.tup xs)
  frzs : ∀ b o u, H b = some (.frz o u) → H' b = some (.frz o u)
  tbls : ∀ b ps, H b = some (.tbl ps) → ∃ more, H' b = some (.tbl (ps ++ more))
section
variable {fs fs' ex ex' : List Addr} {H H1 H2 : Hp} {h h1 h2 h' : Heap} {a x e : Addr} {o : HO}
theorem Un.any (u : Un fs ex H H1 h h1) {b : Addr} {ob : Obj} (q : h.get? b = some ob) (n : H b = none) (hx : b ∉ ex) : ∃ sl, h1.get? b = some { ob with slots := sl } := by
  by_cases hb : b ∈ fs
  · exact u.slot b ob q n hb hx
  · exact ⟨ob.slots, u.keep b ob q n hb hx⟩
theorem Un.kept (k : ∀ b u, h.get? b = some u → h'.get? b = some u) : Un fs ex H H h h' :=
  ⟨fun b ob q _ _ _ => k b ob q, fun b ob q _ _ _ => ⟨ob.slots, k b ob q⟩, fun _ _ _ n _ => n, fun b ob q _ => ⟨ob, k b ob q⟩, fun _ _ q => q, fun _ _ _ q => q, fun _ ps q => ⟨#[], by rw [q]; simp⟩⟩
theorem Un.refl : Un fs ex H H h h := Un.kept fun _ _ q => q
theorem Un.laid (k : ∀ b u, h.get? b = some u → h'.get? b = some u) (hp : h.objs.size ≤ a) (hn : H a = none) : Un fs ex H (upd H a o) h h' where
  keep := fun b u q _ _ _ => k b u q
  slot := fun b u q _ _ _ => ⟨u.slots, k b u q⟩
  free := fun b u q n _ => by rw [upd_ne (Nat.ne_of_lt (Nat.lt_of_lt_of_le (Heap.lt_size q) hp))]; exact n
  there := fun b u q _ => ⟨u, k b u q⟩
  tups := fun b xs q => by rw [upd_ne (ne_of_none q hn)]; exact q
  frzs := fun b u xs q => by rw [upd_ne (ne_of_none q hn)]; exact q
  tbls := fun b ps q => ⟨#[], by rw [upd_ne (ne_of_none q hn), q]; simp⟩
theorem Un.write (mu : Mut (H x)) (he : e = x ∨ H e = some (.own x)) (k : ∀ b u, b ≠ e → h.get? b = some u → h'.get? b = some u) (heo : ∃ u, h'.get? e = some u) : Un fs ex H (upd H x o) h h' := by
  have hx : ∀ b, H b = none → b ≠ x := fun b n z => by subst z; rw [n] at mu; exact mu
  have hb : ∀ b, H b = none → b ≠ e := fun b n z => by
    subst z
    rcases he with r | r
    · exact hx b n r
    · rw [n] at r; cases r
  have hm : ∀ b u, H b = some u → ¬ Mut (some u) → b ≠ x := fun b u q nm z => by subst z; rw [q] at mu; exact nm mu
  refine ⟨fun b u q n _ _ => k b u (hb b n) q, fun b u q n _ _ => ⟨u.slots, k b u (hb b n) q⟩, fun b u q n _ => by rw [upd_ne (hx b n)]; exact n, fun b u q _ => ?_,
    fun b xs q => by rw [upd_ne (hm b _ q fun z => z)]; exact q, fun b u xs q => by rw [upd_ne (hm b _ q fun z => z)]; exact q, fun b ps q => ⟨#[], by rw [upd_ne (hm b _ q fun z => z), q]; simp⟩⟩
  by_cases hbe : b = e
  · subst hbe; exact heo
  · exact ⟨u, k b u hbe q⟩
end
/-! ### the heap without what is tracked -/
def trk (h : Heap) (H : Hp) : List Addr := (List.range h.objs.size).filter fun a => (H a).isSome
def hidT (h : Heap) (H : Hp) : Heap := PySem.W.hideAll h (trk h H)
theorem hidT_size (h : Heap) (H : Hp) : (hidT h H).objs.size = h.objs.size := PySem.W.hideAll_size _ _
theorem hidT_get {h : Heap} {H : Hp} {b : Addr} {o : Obj} (e : h.get? b = some o) (n : H b = none) : (hidT h H).get? b = some o :=
  PySem.W.hideAll_get _ e fun hm => by
    have q : (H b).isSome = true := (List.mem_filter.mp hm).2
    rw [n] at q; simp at q
theorem of_hidT {h : Heap} {H : Hp} {b : Addr} {o : Obj} (e : (hidT h H).get? b = some o) : h.get? b = some o ∧ H b = none := by
  have e' : h.get? b = some o := PySem.W.of_hideAll (trk h H) e
  refine ⟨e', ?_⟩
  cases q : H b with
  | none => rfl
  | some x =>
    have hm : b ∈ trk h H := List.mem_filter.mpr ⟨List.mem_range.mpr (Heap.lt_size e'), by simp [q]⟩
    have z : (hidT h H).get? b = none := PySem.W.hideAll_none (trk h H) hm
    rw [z] at e; cases e
/-! ### OpenK's ledger, filled with every new object but one -/
end L2
namespace L2
open PySem PySem.Spec PyProof.Rows
/-- the module's facts, over the base: the heap at the law's entry without what is tracked there -/
structure Mod (K : PySem.W.Frag) (mg : Str → Option Value) (base : Heap) : Prop where
  kin : K.In base
  glob : base.Ns mainGlobals mg
  blt : ∃ mb, base.Ns builtinsNs mb ∧ ∀ x : Str, x ≠ "__name__" → mb x = bootBuiltins x
  nolimit : base.NoLimit
/-- the context: a def's body (or a comprehension's block) running. base: fixed through the whole law; s₀, H₀: the entry; outer: the frames whose slots others may change (a def's callers); stack: all frames that run;
   ex: iterators that were made ahead of the entry and are walked here (a comprehension's); fn: the names whose cells were made at the entry (a def: all; a comprehension's block: its own); calm: not within an except suite; pn: pins that every state bears; xe: what is wanted of an exception that leaves the code -/
structure Cx where
  prog : Program
  w : World
  K : PySem.W.Frag
  mg : Str → Option Value
  base : Heap
  A : Around
  N : List Str
  s_0 : Shared
  H_0 : Hp
  env : Env
  outer : List Env
  stack : List Env
  ex : List Addr
  fn : Str → Bool
  calm : Bool
  pn : List (Addr × Obj)
  xe : Value → Shared → Prop
/-- the callers' frames -/
def frs (l : List Env) : List Addr := l.filterMap (·.frame)
abbrev Cx.fs (X : Cx) : List Addr := frs X.outer
def Vis (sc : Scope) (x : Str) : Prop := sc.names.lookup x = some .local ∨ sc.names.lookup x = some .cell ∨ sc.names.lookup x = some .free
def Loc (sc : Scope) (x : Str) : Prop := sc.names.lookup x = some .local ∨ sc.names.lookup x = some .cell
def Look (env : Env) (h : Heap) (m : Str → Option Value) (x : Str) (u : Value) : Prop :=
  (env.kindOf x = some .local ∧ m x = some u) ∨ ((env.kindOf x = some .cell ∨ env.kindOf x = some .free) ∧ ∃ c, env.cells.lookup x = some c ∧ h.IsCell c (some u))
structure Cx.Ok (X : Cx) : Prop where
  mod : Mod X.K X.mg X.base
  kind : X.env.scope.kind = .function
  glob : X.env.globals = mainGlobals
  blt : X.env.builtins = builtinsNs
  above : X.s_0.heap.objs.size ≤ X.env.locals
  inj : ∀ x y c, X.env.cells.lookup x = some c → X.env.cells.lookup y = some c → x = y
  has : ∀ x, (X.env.kindOf x = some .cell ∨ X.env.kindOf x = some .free) → ∃ c, X.env.cells.lookup x = some c
  cab : ∀ x c, X.fn x = true → X.env.cells.lookup x = some c → X.s_0.heap.objs.size ≤ c
  hd : X.calm = true → X.A.handled = none
  frames : X.A.frames = some X.stack
  stk : X.stack = X.outer ∨ (X.stack = X.env :: X.outer ∧ X.env.frame = some X.env.locals)
  exf : ∀ b ∈ X.ex, b ≠ X.env.locals ∧ ∀ x c, X.env.cells.lookup x = some c → c ≠ b
  bs : ∀ b o, X.base.get? b = some o → X.s_0.heap.get? b = some o ∧ X.H_0 b = none
  bsz : X.base.objs.size ≤ X.s_0.heap.objs.size
  noex : ∀ b o, X.base.get? b = some o → b ∉ X.ex
  exfs : ∀ b ∈ X.ex, b ∉ X.fs
  funs : X.s_0.heap.FunFrames X.base X.outer
  frf : ∀ b ∈ X.fs, X.H_0 b = none
structure Inv (X : Cx) (pins : List (Addr × Obj)) (σ : List (Option V)) (H : Hp) (s : Shared) : Prop where
  ok : X.Ok
  os : s.os = X.s_0.os
  bare : AllBare s.gens
  base : Un X.fs X.ex X.H_0 H X.s_0.heap s.heap
  loc : ∃ m, s.heap.Ns X.env.locals m ∧ ∀ (i : Nat) (x : Str) (v : V), X.N[i]? = some x → σ[i]? = some (some v) → Vis X.env.scope x → ∃ u, RelV v u ∧ Look X.env s.heap m x u
  cell : ∀ x c, X.env.cells.lookup x = some c → ∃ v, s.heap.IsCell c v
  free : H X.env.locals = none
  freeC : ∀ x c, X.env.cells.lookup x = some c → H c = none
  pin : ∀ p ∈ X.pn ++ pins, s.heap.get? p.1 = some p.2 ∧ H p.1 = none ∧ p.1 ≠ X.env.locals ∧ p.1 ∉ X.fs ∧ ∀ v, p.2.data ≠ .cell v
  hok : HOk X.prog X.w H s.heap
  len : σ.length = X.N.length
section
variable {X : Cx} {pins : List (Addr × Obj)} {σ : List (Option V)} {H H' : Hp} {s : Shared} {h' : Heap}
theorem Cx.Ok.nofr (ok : X.Ok) {b : Addr} {o : Obj} (e : X.base.get? b = some o) : b ∉ X.fs := fun hb => by
  have := (ok.funs.mem hb).1
  rw [e] at this; cases this
theorem Inv.bs (I : Inv X pins σ H s) : ∀ b o, X.base.get? b = some o → s.heap.get? b = some o ∧ H b = none := fun b o e =>
  ⟨I.base.keep b o (I.ok.bs b o e).1 (I.ok.bs b o e).2 (I.ok.nofr e) (I.ok.noex b o e), I.base.free b o (I.ok.bs b o e).1 (I.ok.bs b o e).2 (I.ok.noex b o e)⟩
theorem Inv.bk (I : Inv X pins σ H s) : ∀ b o, X.base.get? b = some o → s.heap.get? b = some o := fun b o e => (I.bs b o e).1
theorem Inv.mod (I : Inv X pins σ H s) : Mod X.K X.mg X.base := I.ok.mod
theorem Inv.kIn (I : Inv X pins σ H s) : X.K.In s.heap := I.ok.mod.kin.keeps I.bk
/-- the frame over the base: for OpenK's rules (K.In X.base is I.mod.kin) -/
theorem Inv.fr (I : Inv X pins σ H s) : ∃ m, Fr X.base X.env.locals s.heap m :=
  let ⟨m, hn, _⟩ := I.loc
  ⟨m, hn, I.bk, Nat.le_trans I.ok.bsz I.ok.above⟩
theorem Inv.lt (I : Inv X pins σ H s) : X.env.locals < s.heap.objs.size := let ⟨_, hn, _⟩ := I.loc; hn.lt
theorem Inv.sz (I : Inv X pins σ H s) : X.s_0.heap.objs.size ≤ s.heap.objs.size := Nat.le_trans I.ok.above (Nat.le_of_lt I.lt)
theorem Inv.nofs (I : Inv X pins σ H s) {a : Addr} (h : s.heap.objs.size ≤ a) : a ∉ X.fs := fun hb => by
  obtain ⟨_, o, ho, _⟩ := I.ok.funs.mem hb
  exact absurd (Nat.lt_of_lt_of_le (Heap.lt_size ho) (Nat.le_trans I.sz h)) (Nat.lt_irrefl _)
theorem Inv.cne (I : Inv X pins σ H s) : ∀ x c, X.env.cells.lookup x = some c → c ≠ X.env.locals := fun x c e z => by
  obtain ⟨v, o, ho, hd⟩ := I.cell x c e
  obtain ⟨m, ⟨o', es, ep, ho', hd', _⟩, _⟩ := I.loc
  rw [z, ho'] at ho; cases ho; rw [hd'] at hd; cases hd
theorem Inv.funs (I : Inv X pins σ H s) : s.heap.FunFrames X.base X.outer := by
  have all : ∀ (l : List Env), (∀ b ∈ frs l, b ∈ X.fs) → X.s_0.heap.FunFrames X.base l → s.heap.FunFrames X.base l := by
    intro l
    induction l with
    | nil => intro _ _; trivial
    | cons env r ih =>
      intro hs hl
      obtain ⟨hk, ⟨L, o, hf, hn, ho, hd⟩, hr⟩ := hl
      have hL : L ∈ X.fs := hs L (by unfold frs; rw [List.filterMap_cons, hf]; exact List.mem_cons_self)
      obtain ⟨sl, e⟩ := I.base.slot L o ho (I.ok.frf L hL) hL fun z => I.ok.exfs L z hL
      exact ⟨hk, ⟨L, _, hf, hn, e, hd⟩, ih (fun b hb => hs b (by unfold frs; rw [List.filterMap_cons, hf]; exact List.mem_cons_of_mem _ hb)) hr⟩
  exact all X.outer (fun _ hb => hb) I.ok.funs
/-- the frames that run, for a call -/
theorem Inv.stack (I : Inv X pins σ H s) : s.heap.FunFrames X.base X.stack := by
  rcases I.ok.stk with e | ⟨e, hf⟩
  · rw [e]; exact I.funs
  · rw [e]
    obtain ⟨m, hn, _⟩ := I.loc
    refine .cons (by rw [I.ok.kind]; decide) hf hn ?_ I.funs
    exact Heap.get?_none_of_le (Nat.le_trans I.ok.bsz I.ok.above)
theorem Inv.stkSub (I : Inv X pins σ H s) : ∀ b ∈ frs X.stack, b ∈ X.env.locals :: X.fs := fun b hb => by
  rcases I.ok.stk with e | ⟨e, hf⟩
  · rw [e] at hb; exact List.mem_cons_of_mem _ hb
  · rw [e] at hb
    unfold frs at hb
    rw [List.filterMap_cons, hf] at hb
    exact hb
theorem Inv.stkFree (I : Inv X pins σ H s) : ∀ b ∈ frs X.stack, H b = none := fun b hb => by
  rcases List.mem_cons.mp (I.stkSub b hb) with e | hb
  · rw [e]; exact I.free
  · obtain ⟨_, o, ho, _⟩ := I.ok.funs.mem hb
    exact I.base.free b o ho (I.ok.frf b hb) fun z => I.ok.exfs b z hb
/-- THE STEP: the untracked objects but the frame and the records at ch are kept (the callers' frames up to slots), the frame's map is kept, the new abstract heap is held -/
theorem Inv.step {g' : Array GenState} {t' : Nat} {d' : Drawn} {ch : List Addr} (I : Inv X pins σ H s)
    (hch : ∀ b ∈ ch, (b ∈ X.ex ∨ X.s_0.heap.objs.size ≤ b) ∧ b ≠ X.env.locals ∧ (∀ x c, X.env.cells.lookup x = some c → c ≠ b) ∧ ∀ p ∈ X.pn ++ pins, p.1 ≠ b)
    (keep : ∀ b o, b ≠ X.env.locals → b ∉ X.fs → b ∉ ch → s.heap.get? b = some o → H b = none → h'.get? b = some o)
    (slot : ∀ b o, b ≠ X.env.locals → b ∈ X.fs → b ∉ ch → s.heap.get? b = some o → H b = none → ∃ sl, h'.get? b = some { o with slots := sl }) (free : ∀ b o, b ∉ ch → s.heap.get? b = some o → H b = none → H' b = none)
    (there : ∀ b o, b ∉ ch → s.heap.get? b = some o → ∃ o', h'.get? b = some o')
    (tups : ∀ b xs, H b = some (.tup xs) → H' b = some (.tup xs)) (frzs : ∀ b o u, H b = some (.frz o u) → H' b = some (.frz o u)) (tbls : ∀ b ps, H b = some (.tbl ps) → ∃ more, H' b = some (.tbl (ps ++ more)))
    (ns : ∀ m, s.heap.Ns X.env.locals m → h'.Ns X.env.locals m) (hok : HOk X.prog X.w H' h') (hg : AllBare g') :
    Inv X pins σ H' { s with heap := h', gens := g', drawn := d', toks := t' } := by
  have neL : ∀ b o, X.s_0.heap.get? b = some o → b ≠ X.env.locals := fun b o e => Nat.ne_of_lt (Nat.lt_of_lt_of_le (Heap.lt_size e) I.ok.above)
  have neC : ∀ b o, X.s_0.heap.get? b = some o → b ∉ X.ex → b ∉ ch := fun b o e hx hb => by
    rcases (hch b hb).1 with z | z
    · exact hx z
    · exact absurd (Nat.lt_of_lt_of_le (Heap.lt_size e) z) (Nat.lt_irrefl _)
  have cellK : ∀ x c, X.env.cells.lookup x = some c → ∀ v, s.heap.IsCell c v → h'.IsCell c v := fun x c e v ⟨o, ho, hd⟩ => by
    have nch : c ∉ ch := fun z => (hch c z).2.2.1 x c e rfl
    by_cases hc : c ∈ X.fs
    · obtain ⟨sl, q⟩ := slot c o (I.cne x c e) hc nch ho (I.freeC x c e)
      exact ⟨_, q, hd⟩
    · exact ⟨o, keep c o (I.cne x c e) hc nch ho (I.freeC x c e), hd⟩
  refine ⟨I.ok, I.os, hg, ⟨fun b o e n hb hx => ?_, fun b o e n hb hx => ?_, fun b o e n hx => ?_, fun b o e hx => ?_, fun b xs e => tups b xs (I.base.tups b xs e), fun b o xs e => frzs b o xs (I.base.frzs b o xs e), fun b ps e => ?_⟩, ?_, fun x c e => ?_, ?_, fun x c e => ?_, fun p hp => ?_, hok, I.len⟩
  · exact keep b o (neL b o e) hb (neC b o e hx) (I.base.keep b o e n hb hx) (I.base.free b o e n hx)
  · obtain ⟨sl, e1⟩ := I.base.slot b o e n hb hx
    obtain ⟨sl', e2⟩ := slot b _ (neL b o e) hb (neC b o e hx) e1 (I.base.free b o e n hx)
    exact ⟨sl', e2⟩
  · obtain ⟨o', e1⟩ := I.base.there b o e hx
    exact free b o' (neC b o e hx) e1 (I.base.free b o e n hx)
  · obtain ⟨o', e1⟩ := I.base.there b o e hx
    exact there b o' (neC b o e hx) e1
  · obtain ⟨m1, e1⟩ := I.base.tbls b ps e
    obtain ⟨m2, e2⟩ := tbls b _ e1
    exact ⟨m1 ++ m2, by rw [e2, Array.append_assoc]⟩
  · obtain ⟨m, hn, hl⟩ := I.loc
    refine ⟨m, ns m hn, fun i x v e1 e2 e3 => ?_⟩
    obtain ⟨u, r, l⟩ := hl i x v e1 e2 e3
    refine ⟨u, r, ?_⟩
    rcases l with l | ⟨k, c, e, z⟩
    · exact .inl l
    · exact .inr ⟨k, c, e, cellK x c e _ z⟩
  · obtain ⟨v, z⟩ := I.cell x c e
    exact ⟨v, cellK x c e v z⟩
  · obtain ⟨m, ⟨o, _, _, ho, _⟩, _⟩ := I.loc
    exact free _ o (fun z => (hch _ z).2.1 rfl) ho I.free
  · obtain ⟨v, o, ho, hd⟩ := I.cell x c e
    exact free c o (fun z => (hch c z).2.2.1 x c e rfl) ho (I.freeC x c e)
  · obtain ⟨e, n, ne, nf, d⟩ := I.pin p hp
    have nch : p.1 ∉ ch := fun z => (hch p.1 z).2.2.2 p hp rfl
    exact ⟨keep p.1 p.2 ne nf nch e n, free p.1 p.2 nch e n, ne, nf, d⟩
/-- .. where the frame's own object is kept too -/
theorem Inv.un {t' : Nat} (I : Inv X pins σ H s) (u : Un X.fs [] H H' s.heap h') (hok : HOk X.prog X.w H' h') : Inv X pins σ H' { s with heap := h', toks := t' } := by
  obtain ⟨m, ⟨o, es, ep, ho, r⟩, _⟩ := id I.loc
  obtain ⟨sl, hL⟩ := u.any ho I.free (by simp)
  exact I.step (g' := s.gens) (d' := s.drawn) (ch := []) (fun _ z => nomatch z) (fun b o _ hb _ e n => u.keep b o e n hb (by simp)) (fun b o _ hb _ e n => u.slot b o e n hb (by simp)) (fun b o _ e n => u.free b o e n (by simp)) (fun b o _ e => u.there b o e (by simp)) u.tups u.frzs u.tbls (fun m' hm => by
    obtain ⟨o', es', ep', ho', r'⟩ := hm
    rw [ho] at ho'; cases ho'
    exact ⟨_, es', ep', hL, r'⟩) hok I.bare
/-- behind a call (or a comprehension's block): the slots of this frame may have changed too, the records at ch may have turned -/
theorem Inv.call {g' : Array GenState} {t' : Nat} {d' : Drawn} {ch : List Addr} (I : Inv X pins σ H s) (u : Un (frs X.stack) ch H H' s.heap h') (hok : HOk X.prog X.w H' h') (hg : AllBare g')
    (hch : ∀ b ∈ ch, (b ∈ X.ex ∨ X.s_0.heap.objs.size ≤ b) ∧ b ≠ X.env.locals ∧ (∀ x c, X.env.cells.lookup x = some c → c ≠ b) ∧ ∀ p ∈ X.pn ++ pins, p.1 ≠ b) :
    Inv X pins σ H' { s with heap := h', gens := g', drawn := d', toks := t' } := by
  obtain ⟨m, ⟨o, es, ep, ho, r⟩, _⟩ := id I.loc
  obtain ⟨sl, hL⟩ := u.any ho I.free fun z => (hch _ z).2.1 rfl
  exact I.step (ch := ch) hch (fun b o hL hb hc e n => u.keep b o e n (fun z => (List.mem_cons.mp (I.stkSub b z)).elim hL hb) hc) (fun b o _ _ hc e n => u.any e n hc) (fun b o hc e n => u.free b o e n hc) (fun b o hc e => u.there b o e hc) u.tups u.frzs u.tbls (fun m' hm => by
    obtain ⟨o', es', ep', ho', r'⟩ := hm
    rw [ho] at ho'; cases ho'
    exact ⟨_, es', ep', hL, r'⟩) hok hg
/-- an untracked record of ours (an iterator) has turned -/
theorem Inv.turned {t' : Nat} {it : Addr} (I : Inv X pins σ H s) (k : ∀ b o, b ≠ it → s.heap.get? b = some o → h'.get? b = some o) (hn : H it = none) (hL : it ≠ X.env.locals)
    (h1 : it ∈ X.ex ∨ X.s_0.heap.objs.size ≤ it) (h2 : ∀ x c, X.env.cells.lookup x = some c → c ≠ it) (h3 : ∀ p ∈ X.pn ++ pins, p.1 ≠ it) : Inv X pins σ H { s with heap := h', toks := t' } := by
  have nit : ∀ b u, H b = some u → b ≠ it := fun b u e z => by rw [z, hn] at e; cases e
  refine I.step (g' := s.gens) (d' := s.drawn) (ch := [it]) (fun b hb => ?_) (fun b o _ _ hc e _ => k b o (fun z => hc (by simp [z])) e) (fun b o _ _ hc e _ => ⟨o.slots, k b o (fun z => hc (by simp [z])) e⟩) (fun _ _ _ _ n => n)
    (fun b o hc e => ⟨o, k b o (fun z => hc (by simp [z])) e⟩) (fun _ _ e => e) (fun _ _ _ e => e) (fun b ps e => ⟨#[], by rw [e]; simp⟩) (fun m hm => ?_) (fun b u e => ?_) I.bare
  · have e : b = it := by simpa using hb
    subst e
    exact ⟨h1, hL, h2, h3⟩
  · obtain ⟨o, es, ep, ho, r⟩ := hm
    exact ⟨o, es, ep, k _ o (Ne.symm hL) ho, r⟩
  · refine (I.hok b u e).stay (fun c v hc q => k c v ?_ q) (fun _ q => q) fun _ _ q => q
    rcases hc with z | z
    · rw [z]; exact nit b u e
    · exact nit c _ z
theorem Inv.tok (I : Inv X pins σ H s) (t : Nat) : Inv X pins σ H { s with toks := t } := I.un (h' := s.heap) (t' := t) Un.refl I.hok
/-- all objects kept -/
theorem Inv.kept {t' : Nat} (I : Inv X pins σ H s) (k : ∀ b u, s.heap.get? b = some u → h'.get? b = some u) : Inv X pins σ H { s with heap := h', toks := t' } := I.un (Un.kept k) (I.hok.kept k)
/-- a new object laid and tracked -/
theorem Inv.laid {a : Addr} {o : HO} {t' : Nat} (I : Inv X pins σ H s) (k : ∀ b u, s.heap.get? b = some u → h'.get? b = some u) (hp : s.heap.objs.size ≤ a) (new : ObjOk X.prog X.w (upd H a o) h' a o) :
    Inv X pins σ (upd H a o) { s with heap := h', toks := t' } := I.un (Un.laid k hp (I.hok.fresh hp)) (I.hok.laid k hp new)
/-- an object written -/
theorem Inv.write {x e : Addr} {o : HO} {t' : Nat} (I : Inv X pins σ H s) (mu : Mut (H x)) (he : e = x ∨ H e = some (.own x)) (k : ∀ b u, b ≠ e → s.heap.get? b = some u → h'.get? b = some u) (heo : ∃ u, h'.get? e = some u)
    (new : ObjOk X.prog X.w (upd H x o) h' x o) : Inv X pins σ (upd H x o) { s with heap := h', toks := t' } := I.un (Un.write mu he k heo) (I.hok.write mu he k heo new)
/-- forgetting slots, pins -/
theorem Inv.weak {σ' : List (Option V)} (I : Inv X pins σ H s) (hl : σ'.length = σ.length) (w : ∀ (i : Nat) v, σ'[i]? = some (some v) → σ[i]? = some (some v)) : Inv X pins σ' H s :=
  ⟨I.ok, I.os, I.bare, I.base, let ⟨m, hn, hl'⟩ := I.loc; ⟨m, hn, fun i x v e1 e2 e3 => hl' i x v e1 (w i v e2) e3⟩, I.cell, I.free, I.freeC, I.pin, I.hok, hl.trans I.len⟩
theorem Inv.pins_of {pins' : List (Addr × Obj)} (I : Inv X pins σ H s) (h : ∀ p ∈ pins', s.heap.get? p.1 = some p.2 ∧ H p.1 = none ∧ p.1 ≠ X.env.locals ∧ p.1 ∉ X.fs ∧ ∀ v, p.2.data ≠ .cell v) : Inv X pins' σ H s :=
  ⟨I.ok, I.os, I.bare, I.base, I.loc, I.cell, I.free, I.freeC, fun p hp => (List.mem_append.mp hp).elim (fun z => I.pin p (List.mem_append_left _ z)) (h p), I.hok, I.len⟩
theorem nodup_ix {N : List Str} (hN : N.Nodup) {i j : Nat} {x : Str} (a : N[i]? = some x) (b : N[j]? = some x) : i = j := by
  obtain ⟨h1, e1⟩ := List.getElem?_eq_some_iff.mp a
  obtain ⟨h2, e2⟩ := List.getElem?_eq_some_iff.mp b
  exact (List.getElem_inj hN).mp (e1.trans e2.symm)
/-- a name is stored; what changed -/
theorem store_ok2 {M : Model} {A : Around} {E : Value → Shared → Prop} {i : Nat} {x : Str} {v : V} {u : Value} {Q : Unit → Shared → Prop} (I : Inv X pins σ H s) (hN : X.N.Nodup) (hi : X.N[i]? = some x) (hx : Loc X.env.scope x) (r : RelV v u)
    (h : ∀ s', Inv X pins (σ.set i (some v)) H s' → (∃ a, Heap.SameBut a s.heap s'.heap ∧ (a = X.env.locals ∨ X.env.cells.lookup x = some a)) → Q () s') (hf : X.fn x = true ∨ X.env.scope.names.lookup x = some .local := by first | exact .inl rfl | exact .inr rfl | assumption) : wpAny M A (storeName X.env x u) Q E s := by
  obtain ⟨m, hn, hl⟩ := id I.loc
  have hcls : (X.env.scope.kind == .class || (X.env.scope.kind == .module && X.env.locals != X.env.globals)) = false := by rw [I.ok.kind]; rfl
  have hiσ : i < σ.length := by rw [I.len]; exact (List.getElem?_eq_some_iff.mp hi).1
  have cne := I.cne
  have tracked : ∀ {a : Addr} {h' : Heap}, (∃ o, s.heap.get? a = some o ∧ H a = none) → Heap.SameBut a s.heap h' → HOk X.prog X.w H h' := fun {a h'} ha hs b ob e => by
    obtain ⟨_, _, hfree⟩ := ha
    refine (I.hok b ob e).stay (fun c w' hc q => (hs.2 c ?_).trans q) (fun _ q => q) fun _ _ q => q
    rintro rfl
    rcases hc with rfl | hc
    · rw [hfree] at e; cases e
    · rw [hfree] at hc; cases hc
  rcases hx with hk | hk
  · refine wpAny_storeName_local hk hn (fun h' hn' hs => ?_) hcls
    obtain ⟨oL, _, _, hoL, _⟩ := id hn
    refine h _ ⟨I.ok, I.os, I.bare, ⟨fun b o e n hb hx => ?_, fun b o e n hb hx => ?_, I.base.free, fun b o e hx => ?_, I.base.tups, I.base.frzs, I.base.tbls⟩, ⟨_, hn', fun j y v' e1 e2 e3 => ?_⟩, fun y c e => ?_, I.free, I.freeC, fun p hp => ?_, tracked ⟨oL, hoL, I.free⟩ hs, by simpa using I.len⟩ ⟨_, hs, .inl rfl⟩
    · exact (hs.2 b (Nat.ne_of_lt (Nat.lt_of_lt_of_le (Heap.lt_size e) I.ok.above))).trans (I.base.keep b o e n hb hx)
    · obtain ⟨sl, e1⟩ := I.base.slot b o e n hb hx
      exact ⟨sl, (hs.2 b (Nat.ne_of_lt (Nat.lt_of_lt_of_le (Heap.lt_size e) I.ok.above))).trans e1⟩
    · obtain ⟨o', e1⟩ := I.base.there b o e hx
      exact ⟨o', (hs.2 b (Nat.ne_of_lt (Nat.lt_of_lt_of_le (Heap.lt_size e) I.ok.above))).trans e1⟩
    · by_cases hj : j = i
      · subst hj
        rw [hi] at e1; cases e1
        rw [List.getElem?_set_self hiσ] at e2
        cases e2
        exact ⟨u, r, .inl ⟨hk, by simp⟩⟩
      · rw [List.getElem?_set_ne (Ne.symm hj)] at e2
        obtain ⟨u', r', q⟩ := hl j y v' e1 e2 e3
        refine ⟨u', r', ?_⟩
        rcases q with ⟨k, e⟩ | ⟨k, c, e, z⟩
        · refine .inl ⟨k, ?_⟩
          have : y ≠ x := fun e => hj (nodup_ix hN e1 (e ▸ hi))
          simp [this, e]
        · exact .inr ⟨k, c, e, z.sameBut hs (cne y c e)⟩
    · obtain ⟨w', z⟩ := I.cell y c e
      exact ⟨w', z.sameBut hs (cne y c e)⟩
    · obtain ⟨e, n, ne, nf, d⟩ := I.pin p hp
      exact ⟨(hs.2 p.1 ne).trans e, n, ne, nf, d⟩
  · have hfn : X.fn x = true := by
      rcases hf with z | z
      · exact z
      · rw [z] at hk; cases hk
    obtain ⟨c, hc⟩ := I.ok.has x (.inl hk)
    obtain ⟨w', z⟩ := I.cell x c hc
    refine wpAny_storeName_cell I.ok.kind hk hc z (fun h' hc' hs => ?_)
    obtain ⟨oc, hoc, hocd⟩ := id z
    refine h { s with heap := h' } ⟨I.ok, I.os, I.bare, ⟨fun b o e n hb hx => ?_, fun b o e n hb hx => ?_, I.base.free, fun b o e hx => ?_, I.base.tups, I.base.frzs, I.base.tbls⟩, ⟨m, hn.sameBut hs (Ne.symm (cne x c hc)), fun j y v' e1 e2 e3 => ?_⟩, fun y c' e => ?_, I.free, I.freeC, fun p hp => ?_, tracked ⟨oc, hoc, I.freeC x c hc⟩ hs, by simpa using I.len⟩ ⟨c, hs, .inr hc⟩
    · exact (hs.2 b (Nat.ne_of_lt (Nat.lt_of_lt_of_le (Heap.lt_size e) (I.ok.cab x c hfn hc)))).trans (I.base.keep b o e n hb hx)
    · obtain ⟨sl, e1⟩ := I.base.slot b o e n hb hx
      exact ⟨sl, (hs.2 b (Nat.ne_of_lt (Nat.lt_of_lt_of_le (Heap.lt_size e) (I.ok.cab x c hfn hc)))).trans e1⟩
    · obtain ⟨o', e1⟩ := I.base.there b o e hx
      exact ⟨o', (hs.2 b (Nat.ne_of_lt (Nat.lt_of_lt_of_le (Heap.lt_size e) (I.ok.cab x c hfn hc)))).trans e1⟩
    · by_cases hj : j = i
      · subst hj
        rw [hi] at e1; cases e1
        rw [List.getElem?_set_self hiσ] at e2
        cases e2
        exact ⟨u, r, .inr ⟨.inl hk, c, hc, hc'⟩⟩
      · rw [List.getElem?_set_ne (Ne.symm hj)] at e2
        obtain ⟨u', r', q⟩ := hl j y v' e1 e2 e3
        refine ⟨u', r', ?_⟩
        rcases q with q | ⟨k, c', e, z'⟩
        · exact .inl q
        · refine .inr ⟨k, c', e, z'.sameBut hs ?_⟩
          rintro rfl
          exact hj (nodup_ix hN e1 (I.ok.inj _ _ _ e hc ▸ hi))
    · by_cases hcc : c' = c
      · subst hcc; exact ⟨_, hc'⟩
      · obtain ⟨w2, z2⟩ := I.cell y c' e
        exact ⟨w2, z2.sameBut hs hcc⟩
    · obtain ⟨e, n, ne, nf, d⟩ := I.pin p hp
      refine ⟨(hs.2 p.1 ?_).trans e, n, ne, nf, d⟩
      intro q
      rw [q, hoc] at e
      have q' : oc = p.2 := Option.some.inj e
      exact d w' (by rw [← q']; exact hocd)
theorem store_ok {M : Model} {A : Around} {E : Value → Shared → Prop} {i : Nat} {x : Str} {v : V} {u : Value} {Q : Unit → Shared → Prop} (I : Inv X pins σ H s) (hN : X.N.Nodup) (hi : X.N[i]? = some x) (hx : Loc X.env.scope x) (r : RelV v u)
    (h : ∀ s', Inv X pins (σ.set i (some v)) H s' → Q () s') (hf : X.fn x = true ∨ X.env.scope.names.lookup x = some .local := by first | exact .inl rfl | exact .inr rfl | assumption) : wpAny M A (storeName X.env x u) Q E s :=
  store_ok2 I hN hi hx r (fun s' I' _ => h s' I') hf
/-- behind a call or a block, the state as it is -/
theorem Inv.call' {s' : Shared} {ch : List Addr} (I : Inv X pins σ H s) (ho : s'.os = s.os) (u : Un (frs X.stack) ch H H' s.heap s'.heap) (hok : HOk X.prog X.w H' s'.heap) (hg : AllBare s'.gens)
    (hch : ∀ b ∈ ch, (b ∈ X.ex ∨ X.s_0.heap.objs.size ≤ b) ∧ b ≠ X.env.locals ∧ (∀ x c, X.env.cells.lookup x = some c → c ≠ b) ∧ ∀ p ∈ X.pn ++ pins, p.1 ≠ b) : Inv X pins σ H' s' := by
  obtain ⟨h', g', d', t', o'⟩ := s'
  have e : o' = s.os := ho
  subst e
  exact I.call (g' := g') (t' := t') (d' := d') u hok hg hch
end
/-! ### the judgements -/
/-- an exception: its class, its own dict's address (where it has one), the abstract heap behind it -/
abbrev XK := Value → Option Addr → Hp → Prop
abbrev St := List (Option V)
abbrev VK := V → Hp → Prop
/-- an expression's reading; a test's; an argument list's -/
abbrev TE := St → Hp → VK → Prop
abbrev TT := St → Hp → (Bool → Hp → Prop) → Prop
abbrev TA := St → Hp → (List V → Hp → Prop) → Prop
/-- what is wanted behind a statement -/
structure Ends where
  nx : St → Hp → Prop
  rt : VK
  bk : St → Hp → Prop := fun _ _ => False
  ct : St → Hp → Prop := fun _ _ => False
abbrev TS := Ends → St → Hp → Prop
def EP (X : Cx) (pins : List (Addr × Obj)) (σ : St) (Q : VK) (u : Value) (s' : Shared) : Prop := ∃ v H', Inv X pins σ H' s' ∧ RelV v u ∧ Q v H'
def TP (X : Cx) (pins : List (Addr × Obj)) (σ : St) (Q : Bool → Hp → Prop) (b : Bool) (s' : Shared) : Prop := ∃ H', Inv X pins σ H' s' ∧ Q b H'
def AP (X : Cx) (pins : List (Addr × Obj)) (σ : St) (Q : List V → Hp → Prop) (us : List Value) (s' : Shared) : Prop := ∃ vs H', Inv X pins σ H' s' ∧ Vals vs us ∧ Q vs H'
def SP (X : Cx) (pins : List (Addr × Obj)) (D : Ends) (f : Flow) (s' : Shared) : Prop :=
  match f with
  | .next => ∃ σ' H', Inv X pins σ' H' s' ∧ D.nx σ' H'
  | .brk => ∃ σ' H', Inv X pins σ' H' s' ∧ D.bk σ' H'
  | .cont => ∃ σ' H', Inv X pins σ' H' s' ∧ D.ct σ' H'
  | .ret u => ∃ v σ' H', Inv X pins σ' H' s' ∧ RelV v u ∧ D.rt v H'
def PE (X : Cx) (e : Expr) (t : TE) : Prop :=
  ∀ (pins : List (Addr × Obj)) (s : Shared) (σ : St) (H : Hp) (Q : VK), Inv X pins σ H s → t σ H Q → wpAny (model X.prog X.w) X.A (eval e X.env) (EP X pins σ Q) X.xe s
def PT (X : Cx) (e : Expr) (t : TT) : Prop :=
  ∀ (pins : List (Addr × Obj)) (s : Shared) (σ : St) (H : Hp) (Q : Bool → Hp → Prop), Inv X pins σ H s → t σ H Q → wpAny (model X.prog X.w) X.A (isTrue e X.env (eval e X.env)) (TP X pins σ Q) X.xe s
/-- a test whatever its 'whole' is (and, or) -/
def PW (X : Cx) (e : Expr) (t : TT) : Prop :=
  ∀ (whole : Sem Value) (pins : List (Addr × Obj)) (s : Shared) (σ : St) (H : Hp) (Q : Bool → Hp → Prop), Inv X pins σ H s → t σ H Q → wpAny (model X.prog X.w) X.A (isTrue e X.env whole) (TP X pins σ Q) X.xe s
theorem PW.pt {X : Cx} {e : Expr} {t : TT} (h : PW X e t) : PT X e t := h _
/-- an argument list (no star), from the left -/
def PA (X : Cx) (es : List Expr) (t : TA) : Prop :=
  ∀ (pos : Pos) (pins : List (Addr × Obj)) (s : Shared) (σ : St) (H : Hp) (Q : List V → Hp → Prop), Inv X pins σ H s → t σ H Q → wpAny (model X.prog X.w) X.A (spliced (backTo pos (starEach es X.env))) (AP X pins σ Q) X.xe s
def PS (X : Cx) (st : Stmt) (t : TS) : Prop :=
  ∀ (pins : List (Addr × Obj)) (s : Shared) (σ : St) (H : Hp) (D : Ends), Inv X pins σ H s → t D σ H → wpAny (model X.prog X.w) X.A (exec st X.env) (SP X pins D) X.xe s
def PSs (X : Cx) (st : List Stmt) (t : TS) : Prop :=
  ∀ (pins : List (Addr × Obj)) (s : Shared) (σ : St) (H : Hp) (D : Ends), Inv X pins σ H s → t D σ H → wpAny (model X.prog X.w) X.A (execs st X.env) (SP X pins D) X.xe s
/-- weaken the end -/
theorem thn {α : Type} {t : Sem α} {Q Q' : α → Shared → Prop} {M : Model} {A : Around} {E : Value → Shared → Prop} {s : Shared} (h : wpAny M A t Q E s) (hQ : ∀ a s, Q a s → Q' a s) : wpAny M A t Q' E s := wpAny_mono h hQ fun _ _ x => x
end L2
namespace L2
open PySem PySem.Spec PyProof.Rows
section
variable {X : Cx}
/-- two expressions in a row -/
theorem bin {a b : Expr} {ta tb : TE} (ha : PE X a ta) (hb : PE X b tb) {pins : List (Addr × Obj)} {s : Shared} {σ : St} {H : Hp} {R : V → V → Hp → Prop} (I : Inv X pins σ H s) (h : ta σ H fun x H1 => tb σ H1 fun y H2 => R x y H2)
    {α : Type} {Q : α → Shared → Prop} {f : Value → Value → Sem α}
    (hf : ∀ v u s2 x y H2, Inv X pins σ H2 s2 → RelV x v → RelV y u → R x y H2 → wpAny (model X.prog X.w) X.A (f v u) Q X.xe s2) :
    wpAny (model X.prog X.w) X.A (eval a X.env) (fun v s₁ => wpAny (model X.prog X.w) X.A (eval b X.env) (fun u s₂ => wpAny (model X.prog X.w) X.A (f v u) Q X.xe s₂) X.xe s₁) X.xe s := by
  refine thn (ha pins s σ H _ I h) fun v s1 ⟨x, H1, I1, r1, q1⟩ => ?_
  refine thn (hb pins s1 σ H1 _ I1 q1) fun u s2 ⟨y, H2, I2, r2, q2⟩ => ?_
  exact hf v u s2 x y H2 I2 r1 r2 q2
/-! ### names and constants -/
def tVar (i : Nat) : TE := fun σ H Q => ∃ v, σ[i]? = some (some v) ∧ Q v H
def tC (v : V) : TE := fun _ H Q => Q v H
theorem pe_var {i : Nat} {x : Str} {pos : Pos} (hN : X.N[i]? = some x) (hv : Vis X.env.scope x) (hd : (x == ("__debug__" : Str)) = false := by decide) (hcd : (x == ("__classdict__" : Str)) = false := by decide) : PE X (.Name x pos) (tVar i) := by
  intro pins s σ H Q I h
  obtain ⟨v, e, h⟩ := h
  obtain ⟨m, hn, hl⟩ := I.loc
  obtain ⟨u, r, l⟩ := hl i x v hN e hv
  have fin : EP X pins σ Q u s := ⟨v, H, I, r, h⟩
  rcases l with ⟨hk, hm⟩ | ⟨hk, c, hc, hcell⟩
  · exact wpAny_Name (wpAny_loadName_local I.ok.kind hk hn hm fin) hd
  · rcases hk with hk | hk
    · exact wpAny_Name (wpAny_loadName_cell I.ok.kind hk hc hcell fin) hd
    · exact wpAny_Name (wpAny_loadName_free I.ok.kind hk hc hcell fin hcd) hd
theorem pe_int {i j pos} : PE X (.Constant (.int i) j pos) (tC (.int i)) := fun _ _ _ H _ I h => wpAny_Constant_int ⟨.int i, H, I.tok _, ⟨_, rfl⟩, h⟩
theorem pe_bl {b j pos} : PE X (.Constant (.bool b) j pos) (tC (.bl b)) := fun _ _ _ H _ I h => Constant_bool ⟨.bl b, H, I, rfl, h⟩
theorem pe_non {j pos} : PE X (.Constant .none j pos) (tC .non) := fun _ _ _ H _ I h => Constant_none ⟨.non, H, I, rfl, h⟩
theorem pe_str {x j pos} : PE X (.Constant (.str x) j pos) (tC (.str x)) := fun _ _ _ H _ I h => Calls.Constant_str ⟨.str x, H, I.tok _, ⟨_, rfl⟩, h⟩
/-- a global name of the def -/
def Gl (X : Cx) (x : Str) : Prop := X.env.kindOf x = some .globalImplicit
theorem ld_glob {E : Value → Shared → Prop} {pins : List (Addr × Obj)} {s : Shared} {σ : St} {H : Hp} {x : Str} {u : Value} {pos : Pos} {Q : Value → Shared → Prop} (I : Inv X pins σ H s) (hg : Gl X x) (hm : X.mg x = some u) (h : Q u s)
    (hd : (x == ("__debug__" : Str)) = false := by decide) : wpAny (model X.prog X.w) X.A (eval (.Name x pos) X.env) Q E s :=
  Calls.Name_function_global I.ok.kind hg (Calls.loadGlobal_global (by rw [I.ok.glob]; exact I.mod.glob.keeps I.bk) hm h) hd
theorem ld_blt {E : Value → Shared → Prop} {pins : List (Addr × Obj)} {s : Shared} {σ : St} {H : Hp} {x : Str} {u : Value} {pos : Pos} {Q : Value → Shared → Prop} (I : Inv X pins σ H s) (hg : Gl X x) (hm : X.mg x = none) (hv : bootBuiltins x = some u) (h : Q u s)
    (hn : x ≠ "__name__" := by decide) (hd : (x == ("__debug__" : Str)) = false := by decide) : wpAny (model X.prog X.w) X.A (eval (.Name x pos) X.env) Q E s := by
  obtain ⟨mb, h1, h2⟩ := I.mod.blt
  exact Calls.Name_function_global I.ok.kind hg (Calls.loadGlobal_builtin (by rw [I.ok.glob]; exact I.mod.glob.keeps I.bk) hm (by rw [I.ok.blt]; exact h1.keeps I.bk) ((h2 x hn).trans hv) h) hd
/-- a module's constant, a class, a function, as a value -/
theorem pe_glob {x : Str} {v : V} {u : Value} {pos : Pos} (hg : Gl X x) (hm : X.mg x = some u) (r : RelV v u) (hd : (x == ("__debug__" : Str)) = false := by decide) : PE X (.Name x pos) (tC v) :=
  fun _ _ _ H _ I h => ld_glob I hg hm ⟨v, H, I, r, h⟩ hd
/-! ### arithmetic -/
variable {a b : Expr} {ta tb : TE} {pos : Pos}
/-! ### comparisons -/
def PC (X : Cx) (op : CmpOp) (a b : Expr) (t : TE) : Prop :=
  ∀ (pins : List (Addr × Obj)) (s : Shared) (σ : St) (H : Hp) (Q : VK), Inv X pins σ H s → t σ H Q →
    wpAny (model X.prog X.w) X.A (eval a X.env) (fun v s₁ => wpAny (model X.prog X.w) X.A (eval b X.env) (fun u s₂ => wpAny (model X.prog X.w) X.A (compareOp op v u) (EP X pins σ Q) X.xe s₂) X.xe s₁) X.xe s
/-- a comparison as a value, as a test -/
def tB (t : TE) : TT := fun σ H Q => t σ H fun x H1 => ∃ c, x = .bl c ∧ Q c H1
theorem pt_cmp {op : CmpOp} {t : TE} (h : PC X op a b t) (h1 : behindInMarks op b = false := by first | exact nobehind _ (by decide) (by decide) | rfl) : PT X (.Compare a [op] [b] pos) (tB t) := by
  intro pins s σ H Q I hw
  refine wpAny_isTrue_Compare1 (thn (h pins s σ H _ I hw) fun v s1 h1 => thn h1 fun u s2 h2 => thn h2 fun c s3 ⟨x, H1, I1, r1, q1⟩ => ?_) h1
  obtain ⟨d, rfl, q⟩ := q1
  cases r1
  exact wpAny_truthy_bool ⟨H1, I1, q⟩
/-- an expression whose value is a bool, as a test -/
theorem pt_val {e : Expr} {t : TE} (h : PE X e t) (he : ∀ whole, isTrue e X.env whole = (do let v ← whole; standAt e.pos; holding [v] (truthy v)) := by intro _; rfl) : PT X e (tB t) := by
  intro pins s σ H Q I hw
  refine isTrue_plain (thn (h pins s σ H _ I hw) fun v s1 ⟨x, H1, I1, r1, q1⟩ => ?_) (he _)
  obtain ⟨d, rfl, q⟩ := q1
  cases r1
  exact wpAny_truthy_bool ⟨H1, I1, q⟩
/-! ### and, or, not -/
variable {tA tB' : TT} {rest : List Expr}
def tAnd (t u : TT) : TT := fun σ H Q => t σ H fun c H1 => if c = true then u σ H1 Q else Q false H1
def tOr (t u : TT) : TT := fun σ H Q => t σ H fun c H1 => if c = true then Q true H1 else u σ H1 Q
def tNot (t : TT) : TT := fun σ H Q => t σ H fun c H1 => Q (!c) H1
theorem pw_and1 (ha : PT X a tA) : PW X (.BoolOp .And [a] pos) tA := by
  intro wh pins s σ H Q I h
  refine isTrue_and (thn (ha pins s σ H Q I h) fun c s1 e => ?_)
  cases c with
  | true => exact isTrue_and_nil e
  | false => exact e
theorem pw_or1 (ha : PT X a tA) : PW X (.BoolOp .Or [a] pos) tA := by
  intro wh pins s σ H Q I h
  refine isTrue_or (thn (ha pins s σ H Q I h) fun c s1 e => ?_)
  cases c with
  | false => exact isTrue_or_nil e
  | true => exact e
theorem pw_and (ha : PT X a tA) (hb : PW X (.BoolOp .And (b :: rest) pos) tB') : PW X (.BoolOp .And (a :: b :: rest) pos) (tAnd tA tB') := by
  intro wh pins s σ H Q I h
  refine isTrue_and (thn (ha pins s σ H _ I h) fun c s1 ⟨H1, I1, q1⟩ => ?_)
  cases c with
  | true => exact hb wh pins s1 σ H1 Q I1 q1
  | false => exact ⟨H1, I1, q1⟩
theorem pw_or (ha : PT X a tA) (hb : PW X (.BoolOp .Or (b :: rest) pos) tB') : PW X (.BoolOp .Or (a :: b :: rest) pos) (tOr tA tB') := by
  intro wh pins s σ H Q I h
  refine isTrue_or (thn (ha pins s σ H _ I h) fun c s1 ⟨H1, I1, q1⟩ => ?_)
  cases c with
  | true => exact ⟨H1, I1, q1⟩
  | false => exact hb wh pins s1 σ H1 Q I1 q1
theorem pt_not (ha : PT X a tA) : PT X (.UnaryOp .Not a pos) (tNot tA) := by
  intro pins s σ H Q I h
  exact isTrue_not (ha pins s σ H (fun c H1 => Q (!c) H1) I h)
def tOrV (ta tb : TE) : TE := fun σ H Q => ta σ H fun x H1 => ∃ c, x = .bl c ∧ if c = true then Q (.bl true) H1 else tb σ H1 Q
theorem pe_one {op} {t : TE} (h : PE X a t) : PE X (.BoolOp op [a] pos) t := fun pins s σ H Q I hw => BoolOp_one (h pins s σ H Q I hw)
theorem pe_or (ha : PE X a ta) (hb : PE X (.BoolOp .Or (b :: rest) pos) tb) : PE X (.BoolOp .Or (a :: b :: rest) pos) (tOrV ta tb) := by
  intro pins s σ H Q I h
  refine BoolOp_or (thn (ha pins s σ H _ I h) fun v s1 ⟨x, H1, I1, r1, q1⟩ => ?_)
  obtain ⟨c, rfl, q1⟩ := q1
  cases r1
  refine wpAny_truthy_bool ?_
  cases c with
  | false => exact hb pins s1 σ H1 Q I1 q1
  | true => exact ⟨.bl true, H1, I1, rfl, q1⟩
/-- a if t else b -/
def tIf (t : TT) (ta tb : TE) : TE := fun σ H Q => t σ H fun c H1 => if c = true then ta σ H1 Q else tb σ H1 Q
theorem pe_ifExp {c : Expr} (hc : PT X c tA) (ha : PE X a ta) (hb : PE X b tb) : PE X (.IfExp c a b pos) (tIf tA ta tb) := by
  intro pins s σ H Q I h
  refine wpAny_IfExp (thn (hc pins s σ H _ I h) fun d s1 ⟨H1, I1, q1⟩ => ?_)
  cases d with
  | true => exact ha pins s1 σ H1 Q I1 q1
  | false => exact hb pins s1 σ H1 Q I1 q1
end
end L2
namespace L2
open PySem PySem.Spec PyProof.Rows
/-! ### a list, a tuple that is read: tracked, frozen, or an object of the module -/
def SqL (K : PySem.W.Frag) (H : Hp) (a : Addr) (xs : List V) : Prop :=
  Rd H a (.lst xs) ∨
    ∃ (o : Obj) (its : Array Value) (n : Nat), K.lookup a = some o ∧ o.cls = .type "list" ∧ o.dict = none ∧ o.data = .seq its n ∧ its.size ≤ sizeLine ∧ Vals xs its.toList
def SqT (K : PySem.W.Frag) (H : Hp) (a : Addr) (xs : List V) : Prop :=
  Rd H a (.tup xs) ∨
    ∃ (o : Obj) (its : Array Value) (n : Nat), K.lookup a = some o ∧ o.cls = .type "tuple" ∧ o.data = .seq its n ∧ its.size ≤ sizeLine ∧ Vals xs its.toList
def absV : Value → Option V
  | .none => some .non
  | .bool b => some (.bl b)
  | .int i _ => some (.int i)
  | .str x _ => some (.str x)
  | .bytes b _ => some (.byt b)
  | .float b _ => some (.flt b)
  | .ref a => some (.ref a)
  | .type n => some (.ty n)
  | _ => none
theorem RelV.abs {x : V} {u : Value} (r : RelV x u) : absV u = some x := by
  cases x with
  | non => cases r; rfl
  | bl _ => cases r; rfl
  | int _ => obtain ⟨t, rfl⟩ := r; rfl
  | str _ => obtain ⟨t, rfl⟩ := r; rfl
  | byt _ => obtain ⟨t, rfl⟩ := r; rfl
  | flt _ => obtain ⟨t, rfl⟩ := r; rfl
  | ref _ => cases r; rfl
  | ty _ => cases r; rfl
theorem RelV.inj {x y : V} {u : Value} (r : RelV x u) (q : RelV y u) : x = y := Option.some.inj (r.abs.symm.trans q.abs)
theorem Vals.inj : ∀ {xs ys : List V} {us : List Value}, Vals xs us → Vals ys us → xs = ys
  | _, _, _, .nil, .nil => rfl
  | _, _, _, .cons r t, .cons r' t' => by rw [r.inj r', Vals.inj t t']
section
variable {X : Cx} {pins : List (Addr × Obj)} {σ : St} {H : Hp} {s : Shared} {a : Addr} {xs ys : List V}
theorem SqL.of {K : PySem.W.Frag} (h : H a = some (.lst xs)) : SqL K H a xs := .inl (.inl h)
theorem SqT.of {K : PySem.W.Frag} (h : H a = some (.tup xs)) : SqT K H a xs := .inl (.inl h)
theorem Inv.list (I : Inv X pins σ H s) (h : SqL X.K H a xs) : ∃ its : List Value, Vals xs its ∧ PlainL s.heap a its.toArray ∧ xs.length ≤ sizeLine := by
  rcases h with h | ⟨o, its, n, hk, hc, hd, hs, hz, r⟩
  · obtain ⟨z, its, n, r, e⟩ := h.ok I.hok
    exact ⟨its, r, ⟨_, n, e, rfl, rfl, rfl⟩, z⟩
  · refine ⟨its.toList, r, ⟨o, n, I.kIn a o hk, hc, hd, by simpa using hs⟩, ?_⟩
    have e := r.length
    simp only [Array.length_toList] at e
    omega
theorem Inv.tuple (I : Inv X pins σ H s) (h : SqT X.K H a xs) : ∃ its : List Value, Vals xs its ∧ IsTup s.heap a its.toArray ∧ xs.length ≤ sizeLine := by
  rcases h with h | ⟨o, its, n, hk, hc, hs, hz, r⟩
  · obtain ⟨z, its, r, p⟩ := h.ok I.hok
    exact ⟨its, r, p, z⟩
  · refine ⟨its.toList, r, ⟨o, I.kIn a o hk, hc, n, by simpa using hs⟩, ?_⟩
    have e := r.length
    simp only [Array.length_toList] at e
    omega
theorem Inv.list_inj (I : Inv X pins σ H s) (h : SqL X.K H a xs) (h' : SqL X.K H a ys) : xs = ys := by
  obtain ⟨its, r, ⟨o, n, e, _, _, d⟩, _⟩ := I.list h
  obtain ⟨its', r', ⟨o', n', e', _, _, d'⟩, _⟩ := I.list h'
  rw [e] at e'; cases e'
  rw [d] at d'
  injection d' with d1 _
  have : its = its' := by simpa using congrArg Array.toList d1
  subst this
  exact r.inj r'
end
/-! ### another wish about exceptions -/
abbrev Cx.wish (X : Cx) (E : Value → Shared → Prop) : Cx := { X with xe := E }
/-- no exception leaves -/
abbrev Cx.nox (X : Cx) : Cx := X.wish fun _ _ => False
theorem Cx.Ok.wish {X : Cx} (ok : X.Ok) (E : Value → Shared → Prop) : (X.wish E).Ok :=
  ⟨ok.mod, ok.kind, ok.glob, ok.blt, ok.above, ok.inj, ok.has, ok.cab, ok.hd, ok.frames, ok.stk, ok.exf, ok.bs, ok.bsz, ok.noex, ok.exfs, ok.funs, ok.frf⟩
theorem Cx.Ok.unwish {X : Cx} {E : Value → Shared → Prop} (ok : (X.wish E).Ok) : X.Ok :=
  ⟨ok.mod, ok.kind, ok.glob, ok.blt, ok.above, ok.inj, ok.has, ok.cab, ok.hd, ok.frames, ok.stk, ok.exf, ok.bs, ok.bsz, ok.noex, ok.exfs, ok.funs, ok.frf⟩
section
variable {X : Cx} {pins : List (Addr × Obj)} {σ : St} {H : Hp} {s : Shared} {E : Value → Shared → Prop}
theorem Inv.wish (I : Inv X pins σ H s) (E : Value → Shared → Prop) : Inv (X.wish E) pins σ H s := ⟨I.ok.wish E, I.os, I.bare, I.base, I.loc, I.cell, I.free, I.freeC, I.pin, I.hok, I.len⟩
theorem Inv.unwish (I : Inv (X.wish E) pins σ H s) : Inv X pins σ H s := ⟨I.ok.unwish, I.os, I.bare, I.base, I.loc, I.cell, I.free, I.freeC, I.pin, I.hok, I.len⟩
theorem SP.unwish {D : Ends} {f : Flow} {s' : Shared} (h : SP (X.wish E) pins D f s') : SP X pins D f s' := by
  cases f with
  | next => obtain ⟨σ', H', I, q⟩ := h; exact ⟨σ', H', I.unwish, q⟩
  | brk => obtain ⟨σ', H', I, q⟩ := h; exact ⟨σ', H', I.unwish, q⟩
  | cont => obtain ⟨σ', H', I, q⟩ := h; exact ⟨σ', H', I.unwish, q⟩
  | ret u => obtain ⟨v, σ', H', I, r, q⟩ := h; exact ⟨v, σ', H', I.unwish, r, q⟩
theorem PSs.nox {st : List Stmt} {t : TS} (h : PSs X.nox st t) : PSs X st t := fun pins s σ H D I hw =>
  wpAny_mono (h pins s σ H D (I.wish _) hw) (fun _ _ q => q.unwish) fun _ _ z => False.elim z
end
/-! ### blocks and small statements -/
section
variable {X : Cx} {st : Stmt} {rest : List Stmt} {t u : TS} {e : Expr} {te : TE} {pos : Pos}
def tNext : TS := fun D σ H => D.nx σ H
def tSeq (t u : TS) : TS := fun D σ H => t { D with nx := u D } σ H
theorem pss_nil : PSs X [] tNext := fun _ _ σ H _ I h => wpAny_execs_nil ⟨σ, H, I, h⟩
theorem pss_cons (h1 : PS X st t) (h2 : PSs X rest u) : PSs X (st :: rest) (tSeq t u) := by
  intro pins s σ H D I h
  refine wpAny_execs_cons (thn (h1 pins s σ H { D with nx := u D } I h) fun f s1 q => ?_)
  cases f with
  | next =>
    obtain ⟨σ', H', I', q⟩ := q
    exact h2 pins s1 σ' H' D I' q
  | ret v => exact q
  | brk => exact q
  | cont => exact q
theorem pss_one (h1 : PS X st t) : PSs X [st] t := by
  intro pins s σ H D I h
  refine wpAny_execs_cons (thn (h1 pins s σ H D I h) fun f s1 q => ?_)
  cases f with
  | next => exact wpAny_execs_nil q
  | ret v => exact q
  | brk => exact q
  | cont => exact q
/-- in a def's body nothing is shown -/
theorem Inv.quiet {pins : List (Addr × Obj)} {σ : St} {H : Hp} {s : Shared} (I : Inv X pins σ H s) : interactive X.env = false := by simp [interactive, I.ok.kind]
/-- an expression whose value is dropped -/
def tDrop (te : TE) : TS := fun D σ H => te σ H fun _ H1 => D.nx σ H1
theorem ps_expr (he : PE X e te) (hs : swapsWith e none pos.line X.env = pure false := by rfl) : PS X (.Expr e pos) (tDrop te) := by
  intro pins s σ H D I h
  exact wpAny_Expr_any (thn (he pins s σ H _ I h) fun v s1 ⟨x, H1, I1, r1, q1⟩ => ⟨σ, H1, I1, q1⟩) I.quiet hs
def tRet (te : TE) : TS := fun D σ H => te σ H D.rt
theorem ps_ret (he : PE X e te) : PS X (.Return (some e) pos) (tRet te) := by
  intro pins s σ H D I h
  exact wpAny_Return_some (thn (he pins s σ H _ I h) fun v s1 ⟨x, H1, I1, r1, q1⟩ => ⟨x, σ, H1, I1, r1, q1⟩)
def tIfS (c : TT) (t u : TS) : TS := fun D σ H => c σ H fun b H1 => if b = true then t D σ H1 else u D σ H1
theorem ps_if {c : Expr} {a b : List Stmt} {tc : TT} (hc : PT X c tc) (ha : PSs X a t) (hb : PSs X b u) : PS X (.If c a b pos) (tIfS tc t u) := by
  intro pins s σ H D I h
  refine wpAny_If (thn (hc pins s σ H _ I h) fun d s1 ⟨H1, I1, q1⟩ => ?_)
  cases d with
  | true => exact ha pins s1 σ H1 D I1 q1
  | false => exact hb pins s1 σ H1 D I1 q1
end
/-! ### targets -/
abbrev TG := V → St → Hp → (St → Hp → Prop) → Prop
abbrev TGs := List V → St → Hp → (St → Hp → Prop) → Prop
def PG (X : Cx) (target : Expr) (t : TG) : Prop :=
  ∀ (pins : List (Addr × Obj)) (s : Shared) (σ : St) (H : Hp) (v : V) (u : Value) (Q : St → Hp → Prop), Inv X pins σ H s → RelV v u → t v σ H Q →
    wpAny (model X.prog X.w) X.A (assign target X.env u) (fun _ s' => ∃ σ' H', Inv X pins σ' H' s' ∧ Q σ' H') X.xe s
/-- several targets, one after another -/
def PGs (X : Cx) (ts : List Expr) (t : TGs) : Prop :=
  ∀ (pins : List (Addr × Obj)) (s : Shared) (σ : St) (H : Hp) (vs : List V) (us : List Value) (Q : St → Hp → Prop), Inv X pins σ H s → Vals vs us → t vs σ H Q →
    wpAny (model X.prog X.w) X.A (assignInOrder ((assignEach ts X.env).map (·.2)) us) (fun _ s' => ∃ σ' H', Inv X pins σ' H' s' ∧ Q σ' H') X.xe s
/-- o[i] = v, by values -/
abbrev TSet := V → V → V → Hp → (Hp → Prop) → Prop
def PSet (X : Cx) (t : TSet) : Prop :=
  ∀ (pins : List (Addr × Obj)) (s : Shared) (σ : St) (H : Hp) (o i v : V) (ov iv u : Value) (Q : Hp → Prop), Inv X pins σ H s → RelV o ov → RelV i iv → RelV v u → t o i v H Q →
    wpAny (model X.prog X.w) X.A (setItem ov iv u) (fun _ s' => ∃ H', Inv X pins σ H' s' ∧ Q H') X.xe s
section
variable {X : Cx} {pos : Pos}
def gName (i : Nat) : TG := fun v σ H Q => Q (σ.set i (some v)) H
theorem pg_name {i : Nat} {x : Str} (hN : X.N.Nodup) (hi : X.N[i]? = some x) (hx : Loc X.env.scope x) (hf : X.fn x = true ∨ X.env.scope.names.lookup x = some .local := by first | exact .inl rfl | exact .inr rfl | assumption) : PG X (.Name x pos) (gName i) := by
  intro pins s σ H v u Q I r h
  exact wpAny_assign_Name (store_ok I hN hi hx r (fun s' I' => ⟨_, H, I', h⟩) hf)
def gNil : TGs := fun vs σ H Q => vs = [] ∧ Q σ H
def gCons (t : TG) (u : TGs) : TGs := fun vs σ H Q => ∃ v r, vs = v :: r ∧ t v σ H fun σ' H' => u r σ' H' Q
theorem pgs_nil : PGs X [] gNil := by
  intro pins s σ H vs us Q I r h
  obtain ⟨e, h⟩ := h
  subst e
  cases r
  exact assignInOrder_nil ⟨σ, H, I, h⟩
theorem pgs_cons {e : Expr} {es : List Expr} {t : TG} {u : TGs} (h1 : PG X e t) (h2 : PGs X es u)
    (hs : (assignEach (e :: es) X.env).map (·.2) = assign e X.env :: (assignEach es X.env).map (·.2) := by rfl) : PGs X (e :: es) (gCons t u) := by
  intro pins s σ H vs us Q I r h
  obtain ⟨v, vr, e1, h⟩ := h
  subst e1
  cases r with
  | cons r rr =>
    rw [hs]
    refine assignInOrder_cons (thn (h1 pins s σ H _ _ _ I r h) fun _ s1 ⟨σ1, H1, I1, q1⟩ => ?_)
    exact h2 pins s1 σ1 H1 _ _ Q I1 rr q1
/-- (a, b, ..) = a tuple of that length -/
def gTup (K : PySem.W.Frag) (n : Nat) (t : TGs) : TG := fun v σ H Q => ∃ a xs, v = .ref a ∧ SqT K H a xs ∧ xs.length = n ∧ t xs σ H Q
theorem pg_tup {es : List Expr} {k : Nat} {t : TGs} {n : Nat} (hc : X.calm = true) (h : PGs X es t)
    (hn : (assignEach es X.env).length = n := by rfl) (hst : (assignEach es X.env).findIdx? (·.1) = none := by rfl) : PG X (.Tuple es k pos) (gTup X.K n t) := by
  intro pins s σ H v u Q I r hw
  obtain ⟨a, xs, e1, hq, hl, hw⟩ := hw
  subst e1
  cases r
  obtain ⟨its, rv, ht, hz⟩ := I.tuple hq
  refine assign_Tuple_tuple (I.ok.hd hc) ht (by simp [hn, ← hl, rv.length]) hst fun h' hx => ?_
  have I1 : Inv X pins σ H { s with heap := h' } := I.kept (t' := s.toks) fun b o e => hx b o (Nat.ne_of_lt (Heap.lt_size e)) e
  exact h pins _ σ H xs _ Q I1 (by simpa using rv) hw
/-- o[i] = .. -/
def gSub (to ti : TE) (t : TSet) : TG := fun v σ H Q => to σ H fun o H1 => ti σ H1 fun i H2 => t o i v H2 fun H3 => Q σ H3
theorem pg_sub {o i : Expr} {to ti : TE} {t : TSet} (ho : PE X o to) (hi : PE X i ti) (hs : PSet X t)
    (ha : ∀ v, assign (.Subscript o i pos) X.env v = (do
      let ov ← holding [v] (eval o X.env)
      let iv ← holding [v, ov] (eval i X.env)
      standAt pos
      holding [v, ov, iv] (setItem ov iv v)
      release [v, ov, iv] []) := by intro _; rfl) : PG X (.Subscript o i pos) (gSub to ti t) := by
  intro pins s σ H v u Q I r h
  rw [ha]
  refine wpAny_bind (wpAny_holding (thn (ho pins s σ H _ I h) fun ov s1 ⟨x, H1, I1, r1, q1⟩ => ?_))
  refine wpAny_bind (wpAny_holding (thn (hi pins s1 σ H1 _ I1 q1) fun iv s2 ⟨y, H2, I2, r2, q2⟩ => ?_))
  refine wpAny_bind (wpAny_standAt (wpAny_bind (wpAny_holding (thn (hs pins s2 σ H2 x y v ov iv u _ I2 r1 r2 r q2) fun _ s3 ⟨H3, I3, q3⟩ => ?_))))
  exact wpAny_release ⟨σ, H3, I3, q3⟩
/-- target = value -/
def tAsg (te : TE) (g : TG) : TS := fun D σ H => te σ H fun x H1 => g x σ H1 D.nx
theorem ps_asg {tg e : Expr} {te : TE} {g : TG} (he : PE X e te) (hg : PG X tg g) (hs : swapsWithSole [tg] e pos.line X.env = pure false := by rfl) (hw : swappedStores [tg] e X.env = pure none := by rfl)
    (h1 : (assignEach [tg] X.env).map (·.2) = [assign tg X.env] := by rfl) : PS X (.Assign [tg] e pos) (tAsg te g) := by
  intro pins s σ H D I h
  refine wpAny_Assign_stores (thn (he pins s σ H _ I h) fun v s1 ⟨x, H1, I1, r1, q1⟩ => ?_) hs hw
  rw [h1]
  exact thn (hg pins s1 σ H1 x v _ I1 r1 q1) fun _ s2 q => q
/-- name = value -/
theorem ps_set {i : Nat} {x : Str} {e : Expr} {te : TE} {pos' : Pos} (hN : X.N.Nodup) (hi : X.N[i]? = some x) (hx : Loc X.env.scope x) (he : PE X e te) (hs : swapsWith e (some (.Name x pos')) pos.line X.env = pure false := by rfl) (hf : X.fn x = true ∨ X.env.scope.names.lookup x = some .local := by first | exact .inl rfl | exact .inr rfl | assumption) :
    PS X (.Assign [.Name x pos'] e pos) (tAsg te (gName i)) := by
  intro pins s σ H D I h
  refine wpAny_Assign_Name (thn (he pins s σ H _ I h) fun v s1 ⟨y, H1, I1, r1, q1⟩ => ?_) hs
  exact store_ok I1 hN hi hx r1 (fun s2 I2 => ⟨_, H1, I2, q1⟩) hf
end
/-! ### while -/
section
variable {X : Cx} {pos : Pos}
/-- the invariant W with its measure -/
def tWhile (c : TT) (tb : TS) : TS := fun D σ H => ∃ W : Nat → St → Hp → Prop, (∃ m, W m σ H) ∧ ∀ m σ H, W m σ H →
  c σ H fun b H1 => if b = true then ∃ N : St → Hp → Prop, (∀ σ' H', N σ' H' → ∃ m', m' < m ∧ W m' σ' H') ∧ tb { D with nx := N, ct := N, bk := D.nx } σ H1 else D.nx σ H1
theorem ps_while {c : Expr} {body : List Stmt} {tc : TT} {tb : TS} (hp : PassesOwn (model X.prog X.w) X.A X.env X.xe) (hc : PT X c tc) (hb : PSs X body tb) : PS X (.While c body [] pos) (tWhile tc tb) := by
  intro pins s σ H D I h
  obtain ⟨W, ⟨m0, w0⟩, turn⟩ := h
  refine wpAny_While (codeAny_whileLoop (fun n s' => ∃ σ' H', Inv X pins σ' H' s' ∧ W n σ' H') ?_ m0 ⟨σ, H, I, w0⟩)
  rintro n s1 ⟨σ1, H1, I1, w1⟩
  refine wpAny_passesOwn hp (thn (hc pins s1 σ1 H1 _ I1 (turn n σ1 H1 w1)) fun b s2 ⟨H2, I2, q2⟩ => ?_)
  cases b with
  | true =>
    obtain ⟨N, hN, q2⟩ := q2
    rw [if_pos rfl]
    refine wpAny_passesOwn hp (thn (hb pins s2 σ1 H2 _ I2 q2) fun f s3 q3 => ?_)
    cases f with
    | next =>
      obtain ⟨σ3, H3, I3, n3⟩ := q3
      obtain ⟨m', hm, w3⟩ := hN σ3 H3 n3
      exact ⟨m', hm, σ3, H3, I3, w3⟩
    | cont =>
      obtain ⟨σ3, H3, I3, n3⟩ := q3
      obtain ⟨m', hm, w3⟩ := hN σ3 H3 n3
      exact ⟨m', hm, σ3, H3, I3, w3⟩
    | brk => exact q3
    | ret v => exact q3
  | false =>
    rw [if_neg Bool.false_ne_true]
    exact wpAny_execs_nil ⟨σ1, H2, I2, q2⟩
end
/-! ### what a loop or a comprehension walks -/
/-- at turn i: it yields x (the heap may grow), or it stops -/
structure It where
  go : Nat → Hp → Prop
  yld : Nat → Hp → V → Hp → Prop
  stop : Nat → Hp → Prop
/-- the iterator's own objects may turn: they are not the frame's, not pinned, younger than the entry (or a comprehension's own) -/
def FpOk (X : Cx) (pins : List (Addr × Obj)) (H : Hp) (b : Addr) : Prop :=
  H b = none ∧ b ≠ X.env.locals ∧ b ∉ X.fs ∧ (b ∈ X.ex ∨ X.s_0.heap.objs.size ≤ b) ∧ (∀ x c, X.env.cells.lookup x = some c → c ≠ b) ∧ ∀ p ∈ X.pn ++ pins, p.1 ≠ b
theorem Inv.fpOk {X : Cx} {pins : List (Addr × Obj)} {σ : St} {H H' : Hp} {s : Shared} {b : Addr} (I : Inv X pins σ H s) (hb : s.heap.objs.size ≤ b) (hn : H' b = none) : FpOk X pins H' b := by
  refine ⟨hn, Nat.ne_of_gt (Nat.lt_of_lt_of_le I.lt hb), I.nofs hb, .inr (Nat.le_trans I.sz hb), fun x c e z => ?_, fun p hp z => ?_⟩
  · obtain ⟨v, q⟩ := I.cell x c e
    exact absurd (Nat.lt_of_lt_of_le q.lt (by rw [z]; exact hb)) (Nat.lt_irrefl _)
  · exact absurd (Nat.lt_of_lt_of_le (Heap.lt_size (I.pin p hp).1) (by rw [z]; exact hb)) (Nat.lt_irrefl _)
structure Turn (P : Program) (w : World) (K : PySem.W.Frag) (tg : Expr) (J : It) (fp : List Addr) (it : Addr) (tn : Nat → Heap → Prop) : Prop where
  mem : it ∈ fp
  obj : ∀ i h, tn i h → ∀ b ∈ fp, ∃ o, h.get? b = some o ∧ ∀ v, o.data ≠ .cell v
  keep : ∀ i h h', tn i h → (∀ b ∈ fp, ∀ o, h.get? b = some o → h'.get? b = some o) → tn i h'
  item : ∀ (X : Cx), X.prog = P → X.w = w → X.K = K → X.calm = true → ∀ (i : Nat) (pins : List (Addr × Obj)) (s : Shared) (σ : St) (H : Hp) (E : Value → Shared → Prop), Inv X pins σ H s → (∀ b ∈ fp, FpOk X pins H b) → tn i s.heap → J.go i H →
    wpAny (model P w) X.A (pyNext (.ref it)) (fun r s1 => ∃ u, r = some u ∧
      wpAny (model P w) X.A (letOwnedTupleGo tg (.ref it) u) (fun _ s2 => ∃ x H', Inv X pins σ H' s2 ∧ RelV x u ∧ J.yld i H x H' ∧ tn (i + 1) s2.heap ∧ ∀ b ∈ fp, H' b = none) E s1) E s
  done : ∀ (X : Cx), X.prog = P → X.w = w → X.K = K → X.calm = true → ∀ (i : Nat) (pins : List (Addr × Obj)) (s : Shared) (σ : St) (H : Hp) (E : Value → Shared → Prop), Inv X pins σ H s → (∀ b ∈ fp, FpOk X pins H b) → tn i s.heap → J.stop i H →
    wpAny (model P w) X.A (pyNext (.ref it)) (fun r s1 => r = none ∧ Inv X pins σ H s1) E s
  self : ∀ (A : Around) (i : Nat) (s : Shared) (Q : Value → Shared → Prop) (E : Value → Shared → Prop), tn i s.heap → Q (.ref it) s → wpAny (model P w) A (pyIter (.ref it)) Q E s
abbrev TI := St → Hp → (It → Hp → Prop) → Prop
/-- an iterator has come -/
def PIE (X : Cx) (pins : List (Addr × Obj)) (σ : St) (tg : Expr) (R : It → Hp → Prop) (itv : Value) (s2 : Shared) : Prop :=
  ∃ (it : Addr) (fp : List Addr) (tn : Nat → Heap → Prop) (J : It) (H' : Hp), itv = .ref it ∧ Inv X pins σ H' s2 ∧ Turn X.prog X.w X.K tg J fp it tn ∧ tn 0 s2.heap ∧ (∀ b ∈ fp, FpOk X pins H' b) ∧ R J H'
def PI (X : Cx) (tg iter : Expr) (wi : TI) : Prop :=
  ∀ (pins : List (Addr × Obj)) (s : Shared) (σ : St) (H : Hp) (R : It → Hp → Prop), Inv X pins σ H s → wi σ H R →
    wpAny (model X.prog X.w) X.A (eval iter X.env) (fun v s1 => wpAny (model X.prog X.w) X.A (pyIter v) (PIE X pins σ tg R) X.xe s1) X.xe s
/-- the step ahead of the store is nothing for an iterator that keeps no tuple -/
theorem go_of {M : Model} {A : Around} {E : Value → Shared → Prop} {s : Shared} {tg : Expr} {it : Addr} {u : Value} {o : Obj} {n : String} {vs : Array Value} {Q : Unit → Shared → Prop} (ho : s.heap.get? it = some o) (hc : o.cls = .type n) (hd : o.data = .fields vs)
    (hn : ["enumerate", "zip", "dict_itemiterator", "dict_reverseitemiterator", "odict_iterator", "itertools.zip_longest", "itertools.pairwise"].contains n = false) (hQ : Q () s) : wpAny M A (letOwnedTupleGo tg (.ref it) u) Q E s := by
  unfold letOwnedTupleGo
  cases tg <;> first
    | exact wpAny_pure hQ
    | (cases u <;> first
        | exact wpAny_pure hQ
        | (refine wpAny_bind (wpAny_load ho ?_)
           rw [hc, hd]
           show wpAny M A (if (["enumerate", "zip", "dict_itemiterator", "dict_reverseitemiterator", "odict_iterator", "itertools.zip_longest", "itertools.pairwise"].contains n && vs[0]? == some (rawInt _)) = true then _ else _) Q E s
           rw [if_neg (by intro h; rw [hn, Bool.false_and] at h; cases h)]
           exact wpAny_pure hQ))
/-- the list at a, as it stands at each turn (a loop may append to it) -/
def Itl (K : PySem.W.Frag) (a : Addr) : It :=
  ⟨fun i H => ∃ xs x, SqL K H a xs ∧ xs[i]? = some x, fun i H x H' => H' = H ∧ ∀ xs, SqL K H a xs → xs[i]? = some x, fun i H => ∃ xs, SqL K H a xs ∧ xs.length ≤ i⟩
theorem turn_list {P : Program} {w : World} {K : PySem.W.Frag} {tg : Expr} (a it : Addr) : Turn P w K tg (Itl K a) [it] it (fun i h => h.IsListIter it a i) where
  mem := by simp
  obj := fun i h st b hb => by
    have e : b = it := by simpa using hb
    subst e
    obtain ⟨o, e, c, d⟩ := st
    exact ⟨o, e, fun v z => by rw [d] at z; cases z⟩
  keep := fun i h h' st k => st.at fun o e => k it (by simp) o e
  item := by
    intro X hP hw hK hc i pins s σ H E I hf st hg
    subst hP hw hK
    obtain ⟨xs, x, hq, hx⟩ := hg
    obtain ⟨its, rv, p, hz⟩ := I.list hq
    obtain ⟨u, hu, ru⟩ := rv.get hx
    obtain ⟨f0, f1, f2, f3, f4, f5⟩ := hf it (by simp)
    refine wpAny_pyNext_list_item st p.isList (x := u) (by simpa using hu) fun h' st' sb => ?_
    have I1 : Inv X pins σ H { s with heap := h' } := I.turned (t' := s.toks) (fun b o hb e => (sb.2 b hb).trans e) f0 f1 f3 f4 f5
    obtain ⟨o, e, c, d⟩ := id st'
    exact ⟨u, rfl, go_of (s := { s with heap := h' }) e c d (by decide) ⟨x, H, I1, ru, ⟨rfl, fun ys hy => by rw [I.list_inj hy hq]; exact hx⟩, st', fun b hb => (hf b hb).1⟩⟩
  done := by
    intro X hP hw hK hc i pins s σ H E I hf st hg
    subst hP hw hK
    obtain ⟨xs, hq, hx⟩ := hg
    obtain ⟨its, rv, p, hz⟩ := I.list hq
    obtain ⟨f0, f1, f2, f3, f4, f5⟩ := hf it (by simp)
    have hl := rv.length
    exact wpAny_pyNext_list_end (I.ok.hd hc) st p.isList (by simp; omega) fun h' eb => ⟨rfl, I.turned (t' := s.toks) (fun b o hb e => eb b o hb e) f0 f1 f3 f4 f5⟩
  self := fun _ _ _ _ _ st h => wpAny_pyIter_listiter st h
end L2
namespace L2
open PySem PySem.Spec PyProof.Rows
section
variable {X : Cx} {tg : Expr}
def iList (K : PySem.W.Frag) (tl : TE) : TI := fun σ H R => tl σ H fun x H1 => ∃ a, x = .ref a ∧ (∃ xs, SqL K H1 a xs) ∧ R (Itl K a) H1
theorem pi_list {l : Expr} {tl : TE} (hl : PE X l tl) : PI X tg l (iList X.K tl) := by
  intro pins s σ H R I h
  refine thn (hl pins s σ H _ I h) fun v s1 ⟨x, H1, I1, r1, q1⟩ => ?_
  obtain ⟨a, e, ⟨xs, hq⟩, q⟩ := q1
  subst e
  cases r1
  obtain ⟨its, rv, p, hz⟩ := I1.list hq
  refine wpAny_pyIter_list p.isList ?_
  refine ⟨s1.heap.objs.size, [s1.heap.objs.size], _, _, H1, rfl, I1.kept (t' := s1.toks) fun b o e => Heap.get?_push_of_some _ e, turn_list a _, ⟨_, Heap.get?_push_size _ rfl, rfl, rfl⟩, fun b hb => ?_, q⟩
  have e : b = s1.heap.objs.size := by simpa using hb
  subst e
  exact I1.fpOk (Nat.le_refl _) (I1.hok.fresh (Nat.le_refl _))
/-! ### for -/
/-- W: the invariant by the turn and a measure; N: what the body is to reach -/
def tFor (wi : TI) (g : TG) (tb : TS) : TS := fun D σ H => wi σ H fun J H1 => ∃ W : Nat → Nat → St → Hp → Prop, (∃ m, W 0 m σ H1) ∧ ∀ i m σ H, W i m σ H →
  (J.stop i H ∧ D.nx σ H) ∨ (J.go i H ∧ ∃ N : St → Hp → Prop, (∀ σ' H', N σ' H' → ∃ m', m' < m ∧ W (i + 1) m' σ' H') ∧ ∀ x H', J.yld i H x H' → g x σ H' fun σ2 H2 => tb { D with nx := N, ct := N, bk := D.nx } σ2 H2)
/-- the records at fp as they stand -/
def pinsAt (fp : List Addr) (h : Heap) : List (Addr × Obj) := fp.filterMap fun b => (h.get? b).map fun o => (b, o)
theorem mem_pinsAt {fp : List Addr} {h : Heap} {b : Addr} {o : Obj} (hb : b ∈ fp) (e : h.get? b = some o) : (b, o) ∈ pinsAt fp h := List.mem_filterMap.mpr ⟨b, hb, by rw [e]; rfl⟩
theorem of_pinsAt {fp : List Addr} {h : Heap} {p : Addr × Obj} (hp : p ∈ pinsAt fp h) : p.1 ∈ fp ∧ h.get? p.1 = some p.2 := by
  obtain ⟨b, hb, e⟩ := List.mem_filterMap.mp hp
  cases q : h.get? b with
  | none => rw [q] at e; cases e
  | some o =>
    rw [q] at e
    have e' : (b, o) = p := Option.some.inj e
    subst e'
    exact ⟨hb, q⟩
theorem Inv.pinned {pins : List (Addr × Obj)} {σ : St} {H : Hp} {s : Shared} {fp : List Addr} (I : Inv X pins σ H s) (hf : ∀ b ∈ fp, FpOk X pins H b) (ho : ∀ b ∈ fp, ∃ o, s.heap.get? b = some o ∧ ∀ v, o.data ≠ .cell v) : Inv X (pins ++ pinsAt fp s.heap) σ H s :=
  I.pins_of fun p hp => (List.mem_append.mp hp).elim (fun z => I.pin p (List.mem_append_right _ z)) fun z => by
    obtain ⟨hb, e⟩ := of_pinsAt z
    obtain ⟨f0, f1, f2, _⟩ := hf p.1 hb
    obtain ⟨o, e', d⟩ := ho p.1 hb
    rw [e] at e'; cases e'
    exact ⟨e, f0, f1, f2, d⟩
theorem Inv.unpinned {pins pl : List (Addr × Obj)} {σ : St} {H : Hp} {s : Shared} (I : Inv X (pins ++ pl) σ H s) : Inv X pins σ H s := I.pins_of fun p hp => I.pin p (List.mem_append_right _ (List.mem_append_left _ hp))
theorem ps_for {iter : Expr} {body : List Stmt} {wi : TI} {g : TG} {tb : TS} {pos : Pos} (hp : PassesOwn (model X.prog X.w) X.A X.env X.xe) (hc : X.calm = true) (hi : PI X tg iter wi) (hg : PG X tg g) (hb : PSs X body tb)
    (hs : ∀ x, foldedSetIterable iter X.env x = pure x := by intro _; rfl) : PS X (.For tg iter body [] pos) (tFor wi g tb) := by
  intro pins s σ H D I h
  refine wpAny_For (thn (hi pins s σ H _ I h) fun v s1 h1 => thn h1 fun itv s2 h2 => ?_) hs
  obtain ⟨it, fp, tn, J, H2, e, I2, T, st2, f2, W, ⟨m0, w0⟩, turn⟩ := h2
  subst e
  -- what stays true of the iterator's objects through the loop
  have stat : ∀ {H' : Hp}, (∀ b ∈ fp, H' b = none) → ∀ b ∈ fp, FpOk X pins H' b := fun hn b hb => ⟨hn b hb, (f2 b hb).2⟩
  refine codeAny_forLoop_any (fun n s' => ∃ i σ' H', Inv X pins σ' H' s' ∧ tn i s'.heap ∧ (∀ b ∈ fp, H' b = none) ∧ W i n σ' H') ?_ m0 ⟨0, σ, H2, I2, st2, fun b hb => (f2 b hb).1, w0⟩
  rintro n s3 ⟨i, σ3, H3, I3, st3, fr3, w3⟩
  rcases turn i n σ3 H3 w3 with ⟨stop, qn⟩ | ⟨go, N, hN, step⟩
  · refine wpAny_passesOwn hp (thn (T.done X rfl rfl rfl hc i pins s3 σ3 H3 X.xe I3 (stat fr3) st3 stop) fun r s4 ⟨hr, I4⟩ => ?_)
    subst hr
    exact wpAny_execs_nil ⟨σ3, H3, I4, qn⟩
  · refine wpAny_passesOwn hp (thn (T.item X rfl rfl rfl hc i pins s3 σ3 H3 X.xe I3 (stat fr3) st3 go) fun r s4 ⟨u, hr, h4⟩ => ?_)
    subst hr
    refine wpAny_passesOwn hp (thn h4 fun _ s5 ⟨x, H5, I5, r5, y5, st5, fr5⟩ => ?_)
    have I5' := I5.pinned (stat fr5) (T.obj _ _ st5)
    refine wpAny_passesOwn hp (thn (hg _ s5 σ3 H5 x u _ I5' r5 (step x H5 y5)) fun _ s6 ⟨σ6, H6, I6, q6⟩ => ?_)
    refine wpAny_passesOwn hp (thn (hb _ s6 σ6 H6 _ I6 q6) fun f s7 q7 => ?_)
    have again : ∀ {σ7 : St} {H7 : Hp}, Inv X (pins ++ pinsAt fp s5.heap) σ7 H7 s7 → N σ7 H7 → ∃ m, m < n ∧ ∃ i σ' H', Inv X pins σ' H' s7 ∧ tn i s7.heap ∧ (∀ b ∈ fp, H' b = none) ∧ W i m σ' H' := fun {σ7 H7} I7 n7 => by
      obtain ⟨m', hm, w7⟩ := hN σ7 H7 n7
      refine ⟨m', hm, i + 1, σ7, H7, I7.unpinned, T.keep _ _ _ st5 fun b hb o e => (I7.pin (b, o) (List.mem_append_right _ (List.mem_append_right _ (mem_pinsAt hb e)))).1, fun b hb => ?_, w7⟩
      obtain ⟨o, e, d⟩ := T.obj _ _ st5 b hb
      exact (I7.pin (b, o) (List.mem_append_right _ (List.mem_append_right _ (mem_pinsAt hb e)))).2.1
    cases f with
    | next => obtain ⟨σ7, H7, I7, n7⟩ := q7; exact again I7 n7
    | cont => obtain ⟨σ7, H7, I7, n7⟩ := q7; exact again I7 n7
    | brk => obtain ⟨σ7, H7, I7, q7⟩ := q7; exact ⟨σ7, H7, I7.unpinned, q7⟩
    | ret v => obtain ⟨x7, σ7, H7, I7, r7, q7⟩ := q7; exact ⟨x7, σ7, H7, I7.unpinned, r7, q7⟩
end
/-! ### the forms one uses -/
/-- over a list that the body leaves as it is -/
theorem for_list {K : PySem.W.Frag} {a : Addr} {xs : List V} {g : TG} {tb : TS} {D : Ends} {σ : St} {H : Hp} (Pv : Nat → St → Hp → Prop) (h0 : Pv 0 σ H) (hl : ∀ i σ H, i ≤ xs.length → Pv i σ H → SqL K H a xs)
    (hs : ∀ i x σ H, xs[i]? = some x → Pv i σ H → g x σ H fun σ2 H2 => tb { D with nx := Pv (i + 1), ct := Pv (i + 1), bk := D.nx } σ2 H2) (hd : ∀ σ H, Pv xs.length σ H → D.nx σ H) :
    ∃ W : Nat → Nat → St → Hp → Prop, (∃ m, W 0 m σ H) ∧ ∀ i m σ H, W i m σ H →
      ((Itl K a).stop i H ∧ D.nx σ H) ∨ ((Itl K a).go i H ∧ ∃ N : St → Hp → Prop, (∀ σ' H', N σ' H' → ∃ m', m' < m ∧ W (i + 1) m' σ' H') ∧ ∀ x H', (Itl K a).yld i H x H' → g x σ H' fun σ2 H2 => tb { D with nx := N, ct := N, bk := D.nx } σ2 H2) := by
  refine ⟨fun i m σ H => m = xs.length - i ∧ i ≤ xs.length ∧ Pv i σ H, ⟨xs.length, by simp, Nat.zero_le _, h0⟩, ?_⟩
  rintro i m σ H ⟨rfl, hi, p⟩
  have q := hl i σ H hi p
  by_cases hlt : i < xs.length
  · refine .inr ⟨⟨xs, xs[i], q, by simp [hlt]⟩, Pv (i + 1), fun σ' H' p' => ⟨xs.length - (i + 1), by omega, rfl, hlt, p'⟩, fun x H' y => ?_⟩
    obtain ⟨e, y⟩ := y
    subst e
    exact hs i x σ _ (y xs q) p
  · have e : i = xs.length := by omega
    subst e
    exact .inl ⟨⟨xs, q, Nat.le_refl _⟩, hd σ H p⟩
end L2
namespace L2
open PySem PySem.Spec PyProof.Rows
abbrev R2 := V → V → Hp → VK → Prop
/-- a two-place operation on values: f is binaryOp op, inplaceOp op or compareOp op -/
def OpR (X : Cx) (f : Value → Value → Sem Value) (r : R2) : Prop :=
  ∀ (pins : List (Addr × Obj)) (s : Shared) (σ : St) (H : Hp) (x y : V) (v u : Value) (Q : VK), Inv X pins σ H s → RelV x v → RelV y u → r x y H Q →
    wpAny (model X.prog X.w) X.A (f v u) (EP X pins σ Q) X.xe s
/-- a one-place operation -/
def UnR (X : Cx) (f : Value → Sem Value) (r : V → Hp → VK → Prop) : Prop :=
  ∀ (pins : List (Addr × Obj)) (s : Shared) (σ : St) (H : Hp) (x : V) (v : Value) (Q : VK), Inv X pins σ H s → RelV x v → r x H Q →
    wpAny (model X.prog X.w) X.A (f v) (EP X pins σ Q) X.xe s
/-- a call of a value that is known (a builtin, a type) with values -/
def CallR (X : Cx) (f : Value) (r : List V → Hp → VK → Prop) : Prop :=
  ∀ (pins : List (Addr × Obj)) (s : Shared) (σ : St) (H : Hp) (xs : List V) (us : List Value) (Q : VK), Inv X pins σ H s → Vals xs us → r xs H Q →
    wpAny (model X.prog X.w) X.A (call f us) (EP X pins σ Q) X.xe s
/-- a value's truth -/
def TruR (X : Cx) (r : V → Hp → (Bool → Hp → Prop) → Prop) : Prop :=
  ∀ (pins : List (Addr × Obj)) (s : Shared) (σ : St) (H : Hp) (x : V) (v : Value) (Q : Bool → Hp → Prop), Inv X pins σ H s → RelV x v → r x H Q →
    wpAny (model X.prog X.w) X.A (truthy v) (TP X pins σ Q) X.xe s
def tOp (r : R2) (ta tb : TE) : TE := fun σ H Q => ta σ H fun x H1 => tb σ H1 fun y H2 => r x y H2 Q
def tUn (r : V → Hp → VK → Prop) (ta : TE) : TE := fun σ H Q => ta σ H fun x H1 => r x H1 Q
/-- ints in, under C, and a value out -/
def rI (C : Int → Int → Prop) (g : Int → Int → V) : R2 := fun x y H Q => ∃ i j, x = .int i ∧ y = .int j ∧ C i j ∧ Q (g i j) H
def rI0 (g : Int → Int → V) : R2 := fun x y H Q => ∃ i j, x = .int i ∧ y = .int j ∧ Q (g i j) H
def rU (g : Int → V) : V → Hp → VK → Prop := fun x H Q => ∃ i, x = .int i ∧ Q (g i) H
section
variable {X : Cx} {a b c : Expr} {ta tb tc : TE} {pos : Pos}
theorem binT (ha : PE X a ta) (hb : PE X b tb) {pins : List (Addr × Obj)} {s : Shared} {σ : St} {H : Hp} {R : V → V → Hp → Prop} (I : Inv X pins σ H s)
    (h : ta σ H fun x H1 => tb σ H1 fun y H2 => R x y H2) {Q : Value → Shared → Prop} {f : Value → Value → Sem Value}
    (hf : ∀ v u s2 x y H2, Inv X pins σ H2 s2 → RelV x v → RelV y u → R x y H2 → wpAny (model X.prog X.w) X.A (f v u) Q X.xe s2) :
    wpAny (model X.prog X.w) X.A (eval a X.env) (fun v s₁ => wpAny (model X.prog X.w) X.A (eval b X.env) (fun u s₂ => wpAny (model X.prog X.w) X.A (f v u) Q X.xe s₂) X.xe s₁) X.xe s := by
  refine thn (ha pins s σ H _ I h) fun v s1 ⟨x, H1, I1, r1, q1⟩ => ?_
  refine thn (hb pins s1 σ H1 _ I1 q1) fun u s2 ⟨y, H2, I2, r2, q2⟩ => ?_
  exact hf v u s2 x y H2 I2 r1 r2 q2
theorem pe_op {op : Operator} {r : R2} (ho : OpR X (binaryOp op) r) (ha : PE X a ta) (hb : PE X b tb) : PE X (.BinOp a op b pos) (tOp r ta tb) := by
  intro pins s σ H Q I h
  exact wpAny_BinOp (binT ha hb I h fun v u s2 x y H2 I2 rx ry q => ho pins s2 σ H2 x y v u Q I2 rx ry q)
theorem pe_un {op : UnaryOp} {r : V → Hp → VK → Prop} (ho : UnR X (unaryOp op) r) (ha : PE X a ta) : PE X (.UnaryOp op a pos) (tUn r ta) := by
  intro pins s σ H Q I h
  exact UnaryOp_ (thn (ha pins s σ H _ I h) fun v s1 ⟨x, H1, I1, r1, q1⟩ => ho pins s1 σ H1 x v Q I1 r1 q1)
/-! ### ints -/
theorem opI {f : Value → Value → Sem Value} {C : Int → Int → Prop} {g : Int → Int → Int}
    (rule : ∀ (i j : Int) (t u : Tok) (s : Shared) (Q : Value → Shared → Prop) (E : Value → Shared → Prop), C i j → Q (.int (g i j) s.toks) { s with toks := s.toks + 1 } → wpAny (model X.prog X.w) X.A (f (.int i t) (.int j u)) Q E s) :
    OpR X f (rI C fun i j => .int (g i j)) := by
  intro pins s σ H x y v u Q I rx ry h
  obtain ⟨i, j, rfl, rfl, hc, q⟩ := h
  obtain ⟨t, rfl⟩ := rx
  obtain ⟨t', rfl⟩ := ry
  exact rule i j t t' s _ _ hc ⟨.int (g i j), H, I.tok _, ⟨_, rfl⟩, q⟩
theorem opI0 {f : Value → Value → Sem Value} {g : Int → Int → Int}
    (rule : ∀ (i j : Int) (t u : Tok) (s : Shared) (Q : Value → Shared → Prop) (E : Value → Shared → Prop), Q (.int (g i j) s.toks) { s with toks := s.toks + 1 } → wpAny (model X.prog X.w) X.A (f (.int i t) (.int j u)) Q E s) :
    OpR X f (rI0 fun i j => .int (g i j)) := by
  intro pins s σ H x y v u Q I rx ry h
  obtain ⟨i, j, rfl, rfl, q⟩ := h
  obtain ⟨t, rfl⟩ := rx
  obtain ⟨t', rfl⟩ := ry
  exact rule i j t t' s _ _ ⟨.int (g i j), H, I.tok _, ⟨_, rfl⟩, q⟩
theorem opB0 {f : Value → Value → Sem Value} {g : Int → Int → Bool}
    (rule : ∀ (i j : Int) (t u : Tok) (s : Shared) (Q : Value → Shared → Prop) (E : Value → Shared → Prop), Q (.bool (g i j)) s → wpAny (model X.prog X.w) X.A (f (.int i t) (.int j u)) Q E s) :
    OpR X f (rI0 fun i j => .bl (g i j)) := by
  intro pins s σ H x y v u Q I rx ry h
  obtain ⟨i, j, rfl, rfl, q⟩ := h
  obtain ⟨t, rfl⟩ := rx
  obtain ⟨t', rfl⟩ := ry
  exact rule i j t t' s _ _ ⟨.bl (g i j), H, I, rfl, q⟩
def CMul (i j : Int) : Prop := (-(2 ^ 64) < i ∧ i < 2 ^ 64) ∨ (-(2 ^ 64) < j ∧ j < 2 ^ 64)
theorem CMul.ok {i j : Int} (h : CMul i j) : IntMulOk i j := by
  rcases h with ⟨h1, h2⟩ | ⟨h1, h2⟩
  · exact .of_left (intBits_le_64 h1 h2)
  · exact .of_right (intBits_le_64 h1 h2)
theorem op_add : OpR X (binaryOp .Add) (rI0 fun i j => .int (i + j)) := opI0 fun _ _ _ _ _ _ _ q => add_int q
theorem op_sub : OpR X (binaryOp .Sub) (rI0 fun i j => .int (i - j)) := opI0 fun _ _ _ _ _ _ _ q => sub_int q
theorem op_mul : OpR X (binaryOp .Mult) (rI CMul fun i j => .int (i * j)) := opI fun _ _ _ _ _ _ _ hc q => mul_int q hc.ok
theorem unI {f : Value → Sem Value} {g : Int → Int}
    (rule : ∀ (i : Int) (t : Tok) (s : Shared) (Q : Value → Shared → Prop) (E : Value → Shared → Prop), Q (.int (g i) s.toks) { s with toks := s.toks + 1 } → wpAny (model X.prog X.w) X.A (f (.int i t)) Q E s) :
    UnR X f (rU fun i => .int (g i)) := by
  intro pins s σ H x v Q I rx h
  obtain ⟨i, rfl, q⟩ := h
  obtain ⟨t, rfl⟩ := rx
  exact rule i t s _ _ ⟨.int (g i), H, I.tok _, ⟨_, rfl⟩, q⟩
theorem un_neg : UnR X (unaryOp .USub) (rU fun i => .int (-i)) := unI fun _ _ _ _ _ q => neg_int q
/-! ### bools among ints: n += (a < b) -/
end
/-! ### comparisons -/
/-- the scalars that == tells apart as data does -/
def scal : V → V → Bool
  | .non, .non => true | .non, .int _ => true | .int _, .non => true | .non, .bl _ => true | .bl _, .non => true | .non, .str _ => true | .str _, .non => true
  | .int _, .int _ => true | .bl _, .bl _ => true | .str _, .str _ => true | .byt _, .byt _ => true
  | .int _, .str _ => true | .str _, .int _ => true | .bl _, .str _ => true | .str _, .bl _ => true
  | _, _ => false
def rEq : R2 := fun x y H Q => scal x y = true ∧ Q (.bl (decide (x = y))) H
def rNe : R2 := fun x y H Q => scal x y = true ∧ Q (.bl (!decide (x = y))) H
theorem dec_int {i j : Int} : decide (V.int i = V.int j) = (i == j) := by
  rw [Bool.eq_iff_iff]
  simp
theorem dec_bl {i j : Bool} : decide (V.bl i = V.bl j) = (i == j) := by
  rw [Bool.eq_iff_iff]
  simp
theorem dec_str {i j : Str} : decide (V.str i = V.str j) = (i == j) := by
  rw [Bool.eq_iff_iff]
  simp
theorem dec_byt {i j : Array UInt8} : decide (V.byt i = V.byt j) = (i.toList == j.toList) := by
  rw [Bool.eq_iff_iff]
  cases i
  cases j
  simp
section
variable {X : Cx} {a b c : Expr} {ta tb tc : TE} {pos : Pos}
theorem fin_bl {pins : List (Addr × Obj)} {σ : St} {H : Hp} {s : Shared} {Q : VK} {k k' : Bool} (I : Inv X pins σ H s) (q : Q (.bl k) H) (e : k = k') : EP X pins σ Q (.bool k') s := by
  subst e
  exact ⟨.bl k, H, I, rfl, q⟩
theorem op_eq : OpR X (compareOp .Eq) rEq := by
  intro pins s σ H x y v u Q I rx ry h
  obtain ⟨hs, q⟩ := h
  cases x with
  | non =>
    cases rx
    cases y with
    | non => cases ry; exact PySem.EqNone.eq_none_none (fin_bl I q (by simp))
    | bl j => cases ry; exact PySem.EqNone.eq_none_bool (fin_bl I q (by simp))
    | int j => obtain ⟨t', rfl⟩ := ry; exact PySem.EqNone.eq_none_int (fin_bl I q (by simp))
    | str j => obtain ⟨t', rfl⟩ := ry; exact PySem.EqNone.eq_none_str (fin_bl I q (by simp))
    | _ => exact absurd (show false = true from hs) Bool.false_ne_true
  | bl i =>
    cases rx
    cases y with
    | non => cases ry; exact PySem.EqNone.eq_bool_none (fin_bl I q (by simp))
    | bl j => cases ry; exact eq_bool (fin_bl I q dec_bl)
    | str j => obtain ⟨t', rfl⟩ := ry; exact PySem.EqMixed.eq_bool_str (fin_bl I q (by simp))
    | _ => exact absurd (show false = true from hs) Bool.false_ne_true
  | int i =>
    obtain ⟨t, rfl⟩ := rx
    cases y with
    | non => cases ry; exact PySem.EqNone.eq_int_none (fin_bl I q (by simp))
    | int j => obtain ⟨t', rfl⟩ := ry; exact eq_int (fin_bl I q dec_int)
    | str j => obtain ⟨t', rfl⟩ := ry; exact PySem.EqMixed.eq_int_str (fin_bl I q (by simp))
    | _ => exact absurd (show false = true from hs) Bool.false_ne_true
  | str i =>
    obtain ⟨t, rfl⟩ := rx
    cases y with
    | non => cases ry; exact PySem.EqNone.eq_str_none (fin_bl I q (by simp))
    | bl j => cases ry; exact PySem.EqMixed.eq_str_bool (fin_bl I q (by simp))
    | int j => obtain ⟨t', rfl⟩ := ry; exact PySem.EqMixed.eq_str_int (fin_bl I q (by simp))
    | str j => obtain ⟨t', rfl⟩ := ry; exact eq_str (fin_bl I q dec_str)
    | _ => exact absurd (show false = true from hs) Bool.false_ne_true
  | byt i =>
    obtain ⟨t, rfl⟩ := rx
    cases y with
    | byt j => obtain ⟨t', rfl⟩ := ry; exact PySem.W.eq_bytes (fin_bl I q dec_byt)
    | _ => exact absurd (show false = true from hs) Bool.false_ne_true
  | _ => cases y <;> exact absurd (show false = true from hs) Bool.false_ne_true
theorem op_ne : OpR X (compareOp .NotEq) rNe := by
  intro pins s σ H x y v u Q I rx ry h
  obtain ⟨hs, q⟩ := h
  cases x with
  | non =>
    cases rx
    cases y with
    | non => cases ry; exact PySem.EqNone.ne_none_none (fin_bl I q (by simp))
    | bl j => cases ry; exact PySem.EqNone.ne_none_bool (fin_bl I q (by simp))
    | int j => obtain ⟨t', rfl⟩ := ry; exact PySem.EqNone.ne_none_int (fin_bl I q (by simp))
    | str j => obtain ⟨t', rfl⟩ := ry; exact PySem.EqNone.ne_none_str (fin_bl I q (by simp))
    | _ => exact absurd (show false = true from hs) Bool.false_ne_true
  | bl i =>
    cases rx
    cases y with
    | non => cases ry; exact PySem.EqNone.ne_bool_none (fin_bl I q (by simp))
    | bl j => cases ry; exact ne_bool (fin_bl I q (congrArg not dec_bl))
    | str j => obtain ⟨t', rfl⟩ := ry; exact PySem.EqMixed.ne_bool_str (fin_bl I q (by simp))
    | _ => exact absurd (show false = true from hs) Bool.false_ne_true
  | int i =>
    obtain ⟨t, rfl⟩ := rx
    cases y with
    | non => cases ry; exact PySem.EqNone.ne_int_none (fin_bl I q (by simp))
    | int j => obtain ⟨t', rfl⟩ := ry; exact ne_int (fin_bl I q (congrArg not dec_int))
    | str j => obtain ⟨t', rfl⟩ := ry; exact PySem.EqMixed.ne_int_str (fin_bl I q (by simp))
    | _ => exact absurd (show false = true from hs) Bool.false_ne_true
  | str i =>
    obtain ⟨t, rfl⟩ := rx
    cases y with
    | non => cases ry; exact PySem.EqNone.ne_str_none (fin_bl I q (by simp))
    | bl j => cases ry; exact PySem.EqMixed.ne_str_bool (fin_bl I q (by simp))
    | int j => obtain ⟨t', rfl⟩ := ry; exact PySem.EqMixed.ne_str_int (fin_bl I q (by simp))
    | str j => obtain ⟨t', rfl⟩ := ry; exact ne_str (fin_bl I q (congrArg not dec_str))
    | _ => exact absurd (show false = true from hs) Bool.false_ne_true
  | byt i =>
    obtain ⟨t, rfl⟩ := rx
    cases y with
    | byt j => obtain ⟨t', rfl⟩ := ry; exact PySem.W.ne_bytes (fin_bl I q (congrArg not dec_byt))
    | _ => exact absurd (show false = true from hs) Bool.false_ne_true
  | _ => cases y <;> exact absurd (show false = true from hs) Bool.false_ne_true
theorem op_lt : OpR X (compareOp .Lt) (rI0 fun i j => .bl (decide (i < j))) := opB0 fun _ _ _ _ _ _ _ q => lt_int q
theorem op_le : OpR X (compareOp .LtE) (rI0 fun i j => .bl (decide (i ≤ j))) := opB0 fun _ _ _ _ _ _ _ q => le_int q
theorem op_gt : OpR X (compareOp .Gt) (rI0 fun i j => .bl (decide (j < i))) := opB0 fun _ _ _ _ _ _ _ q => gt_int q
/-- is None, is not None: the right side a value none -/
theorem op_isN : OpR X (compareOp .Is) (fun x y H Q => y = .non ∧ Q (.bl (decide (x = .non))) H) := by
  intro pins s σ H x y v u Q I rx ry h
  obtain ⟨rfl, q⟩ := h
  cases ry
  refine is_none_gen (fin_bl I q ?_)
  cases x <;> first
    | (cases rx; rfl)
    | (obtain ⟨t, rfl⟩ := rx; rfl)
theorem op_notN : OpR X (compareOp .IsNot) (fun x y H Q => y = .non ∧ Q (.bl (!decide (x = .non))) H) := by
  intro pins s σ H x y v u Q I rx ry h
  obtain ⟨rfl, q⟩ := h
  cases ry
  refine isnot_none_gen (fin_bl I q ?_)
  cases x <;> first
    | (cases rx; rfl)
    | (obtain ⟨t, rfl⟩ := rx; rfl)
theorem nomark (b : Expr) {op : CmpOp} (h : op ≠ .In := by decide) (h2 : op ≠ .NotIn := by decide) : behindInMarks op b = false := by
  have e1 : (op == CmpOp.In) = false := by cases op <;> first | rfl | exact absurd rfl h
  have e2 : (op == CmpOp.NotIn) = false := by cases op <;> first | rfl | exact absurd rfl h2
  cases b <;> simp [behindInMarks, e1, e2]
/-- a comparison as a value; hm: nomark b, or (for in, not in) by with_unfolding_all rfl -/
theorem pe_cmpR {op : CmpOp} {r : R2} (ho : OpR X (compareOp op) r) (ha : PE X a ta) (hb : PE X b tb) (hm : behindInMarks op b = false) : PE X (.Compare a [op] [b] pos) (tOp r ta tb) := by
  intro pins s σ H Q I h
  exact wpAny_Compare1 (binT ha hb I h fun v u s2 x y H2 I2 rx ry q => ho pins s2 σ H2 x y v u Q I2 rx ry q) hm
/-- a reading of a value as a test -/
def tTest (t : TE) : TT := fun σ H Q => t σ H fun x H' => ∃ k, x = .bl k ∧ Q k H'
theorem pt_cmpR {op : CmpOp} {r : R2} (ho : OpR X (compareOp op) r) (ha : PE X a ta) (hb : PE X b tb) (hm : behindInMarks op b = false) : PT X (.Compare a [op] [b] pos) (tTest (tOp r ta tb)) := by
  intro pins s σ H Q I h
  refine wpAny_isTrue_Compare1 (thn (ha pins s σ H _ I h) fun v s1 ⟨x, H1, I1, r1, q1⟩ => thn (hb pins s1 σ H1 _ I1 q1) fun u s2 ⟨y, H2, I2, r2, q2⟩ =>
    thn (ho pins s2 σ H2 x y v u _ I2 r1 r2 q2) fun c s3 ⟨z, H3, I3, r3, k, e, q3⟩ => ?_) hm
  subst e
  cases r3
  exact wpAny_truthy_bool ⟨H3, I3, q3⟩
/-- a op1 b op2 c -/
def tChain (r r' : R2) (ta tb tc : TE) : TE := fun σ H Q => ta σ H fun x H1 => tb σ H1 fun y H2 => r x y H2 fun z H3 => ∃ k, z = .bl k ∧
  (if k = true then tc σ H3 fun w' H4 => r' y w' H4 Q else Q (.bl false) H3)
theorem pe_chain {op op' : CmpOp} {r r' : R2} (ho : OpR X (compareOp op) r) (ho' : OpR X (compareOp op') r') (ha : PE X a ta) (hb : PE X b tb) (hc : PE X c tc)
    (hm : lastMarks [op, op'] [b, c] = false := by with_unfolding_all rfl) : PE X (.Compare a [op, op'] [b, c] pos) (tChain r r' ta tb tc) := by
  intro pins s σ H Q I h
  refine Compare_chain (thn (ha pins s σ H _ I h) fun v s1 ⟨x, H1, I1, r1, q1⟩ => chain_link (thn (hb pins s1 σ H1 _ I1 q1) fun u s2 ⟨y, H2, I2, r2, q2⟩ =>
    thn (ho pins s2 σ H2 x y v u _ I2 r1 r2 q2) fun d s3 ⟨z, H3, I3, r3, k, e, q3⟩ => ?_)) hm
  subst e
  cases r3
  refine wpAny_truthy_bool ?_
  cases k with
  | false => exact ite_ff ⟨.bl false, H3, I3, rfl, q3⟩
  | true => exact ite_tt (chain_last (thn (hc pins s3 σ H3 _ I3 q3) fun w' s4 ⟨z', H4, I4, r4, q4⟩ => ho' pins s4 σ H4 y z' u w' Q I4 r2 r4 q4))
/-! ### truth -/
/-- a value's truth by the abstract heap -/
def TruV (K : PySem.W.Frag) (x : V) (H : Hp) (k : Bool) : Prop :=
  match x with
  | .non => k = false
  | .bl b => k = b
  | .int i => k = (i != 0)
  | .str y => y.length ≤ sizeLine ∧ k = ((y.length : Int) != 0)
  | .byt y => y.size ≤ sizeLine ∧ k = ((y.size : Int) != 0)
  | .ref p => (∃ xs, SqL K H p xs ∧ k = !xs.isEmpty) ∨ (∃ xs, SqT K H p xs ∧ k = !xs.isEmpty) ∨ ∃ kvs, H p = some (.dK kvs) ∧ k = !kvs.isEmpty
  | _ => False
theorem isEmpty_kv {κ : Type} {kvs : List (κ × V)} {vs : List (κ × Value)} (r : KV kvs vs) : (!vs.isEmpty) = !kvs.isEmpty := by
  cases r <;> rfl
theorem isEmpty_of {xs : List V} {its : List Value} (r : Vals xs its) : (!its.toArray.isEmpty) = !xs.isEmpty := by
  cases r <;> simp
theorem line63 : (sizeLine : Nat) < 2 ^ 63 := by rw [sizeLine_eq]; decide
theorem tru_ok : TruR X (fun x H Q => ∃ k, TruV X.K x H k ∧ Q k H) := by
  intro pins s σ H x v Q I rx h
  obtain ⟨k, e, q⟩ := h
  have hl := line63
  have hs : sizeLine = 16777216 := sizeLine_eq
  cases x with
  | non =>
    cases rx
    have e' : k = false := e
    subst e'
    exact truthy_none ⟨H, I, q⟩
  | bl b =>
    cases rx
    have e' : k = b := e
    subst e'
    exact wpAny_truthy_bool ⟨H, I, q⟩
  | int i =>
    obtain ⟨t, rfl⟩ := rx
    have e' : k = (i != 0) := e
    subst e'
    exact PySem.P.truthy_int ⟨H, I, q⟩
  | str y =>
    obtain ⟨t, rfl⟩ := rx
    obtain ⟨hy, e'⟩ : y.length ≤ sizeLine ∧ k = ((y.length : Int) != 0) := e
    subst e'
    exact PySem.P.truthy_str (by omega) ⟨H, I.tok _, q⟩
  | byt y =>
    obtain ⟨t, rfl⟩ := rx
    obtain ⟨hy, e'⟩ : y.size ≤ sizeLine ∧ k = ((y.size : Int) != 0) := e
    subst e'
    exact PySem.W.truthy_bytes (by omega) ⟨H, I.tok _, q⟩
  | ref p =>
    cases rx
    have e' : (∃ xs, SqL X.K H p xs ∧ k = !xs.isEmpty) ∨ (∃ xs, SqT X.K H p xs ∧ k = !xs.isEmpty) ∨ ∃ kvs, H p = some (.dK kvs) ∧ k = !kvs.isEmpty := e
    rcases e' with ⟨xs, hx, e'⟩ | ⟨xs, hx, e'⟩ | ⟨kvs, hx, e'⟩
    · subst e'
      obtain ⟨its, r, pl, hz⟩ := I.list hx
      have hlen := r.length
      exact wpAny_truthy_list pl.isList (by simp only [List.size_toArray]; omega) ⟨H, I.tok _, by rw [isEmpty_of r]; exact q⟩
    · subst e'
      obtain ⟨its, r, pl, hz⟩ := I.tuple hx
      have hlen := r.length
      exact truthy_tuple pl (by simp only [List.size_toArray]; omega) ⟨H, I.tok _, by rw [isEmpty_of r]; exact q⟩
    · subst e'
      obtain ⟨hz, hS, vs, r, m⟩ : kvs.length ≤ sizeLine ∧ (p == sysModules) = false ∧ ∃ vs, KV kvs vs ∧ s.heap.DictOf (mixKind X.prog X.w) p vs := I.hok p _ hx
      have hlen : kvs.length = vs.length := Paired.length r
      exact wpAny_truthy_dict hS m (by omega) ⟨H, I.tok _, by rw [isEmpty_kv r]; exact q⟩
  | _ => exact (show False from e).elim
/-- any expression whose test is its value's truth (a name, a call, a subscript, a field ..: he by fun _ => rfl) -/
theorem pt_truth (ha : PE X a ta) (he : ∀ whole, isTrue a X.env whole = (do let v ← whole; standAt a.pos; holding [v] (truthy v))) :
    PT X a (fun σ H Q => ta σ H fun x H' => ∃ k, TruV X.K x H' k ∧ Q k H') := by
  intro pins s σ H Q I h
  exact isTrue_plain (thn (ha pins s σ H _ I h) fun v s1 ⟨x, H1, I1, r1, q1⟩ => tru_ok pins s1 σ H1 x v Q I1 r1 q1) (he _)
/-! ### strs and bytes -/
/-! ### scalar builtins, by CallR -/
theorem vals1 {x : V} {us : List Value} (r : Vals [x] us) : ∃ u, us = [u] ∧ RelV x u := by
  cases r with
  | cons r1 r2 => cases r2; exact ⟨_, rfl, r1⟩
theorem vals2 {x y : V} {us : List Value} (r : Vals [x, y] us) : ∃ u w', us = [u, w'] ∧ RelV x u ∧ RelV y w' := by
  cases r with
  | cons r1 r2 =>
    cases r2 with
    | cons r3 r4 => cases r4; exact ⟨_, _, rfl, r1, r3⟩
theorem call_abs : CallR X (.builtin "abs") (fun xs H Q => ∃ i, xs = [.int i] ∧ Q (.int (if i < 0 then -i else i)) H) := by
  intro pins s σ H xs us Q I r h
  obtain ⟨i, rfl, q⟩ := h
  obtain ⟨u, rfl, t, rfl⟩ := vals1 r
  exact call_abs_int fun u tk => ⟨.int (if i < 0 then -i else i), H, I.tok _, ⟨_, rfl⟩, q⟩
theorem call_ord : CallR X (.builtin "ord") (fun xs H Q => ∃ x, xs = [.str x] ∧ x.length = 1 ∧ Q (.int (x.cps.getD 0 0 : Nat)) H) := by
  intro pins s σ H xs us Q I r h
  obtain ⟨x, rfl, hz, q⟩ := h
  obtain ⟨u, rfl, t, rfl⟩ := vals1 r
  exact ord_of_one hz ⟨.int _, H, I.tok _, ⟨_, rfl⟩, q⟩
end
end L2
namespace L2
open PySem PySem.Spec PyProof.Rows
/-! ### an instance, its attributes a map -/
structure ObjM (h : Heap) (x dx C : Addr) (mA : Str → Option Value) : Prop where
  obj : h.get? x = some (PySem.W.instObj C dx)
  ns : h.Ns1 dx mA
  ne : dx ≠ x
theorem lookIn_ns {h : Heap} {dx : Addr} {mA : Str → Option Value} (n : h.Ns1 dx mA) : ∃ od, h.get? dx = some od ∧ ∀ name, PySem.W.lookIn name od = some (mA name) := by
  obtain ⟨o, es, ep, ho, hd, hk, _, hm⟩ := n
  refine ⟨o, ho, fun name => ?_⟩
  have e := hm name
  unfold nsFind findBy at e
  rw [← Array.find?_toList] at e
  unfold PySem.W.lookIn
  rw [hd]
  dsimp only
  split
  · rename_i y q
    rw [q] at e
    exact congrArg some e
  · rename_i q
    rw [q] at e
    have a : es.toList.any (·.refKey) = false := by
      rw [List.any_eq_false]
      intro y hy
      obtain ⟨z, t, hkey⟩ := hk y (Array.mem_toList_iff.mp hy)
      simp [DictEntry.refKey, hkey]
    have a' : ¬ es.toList.any (·.refKey) = true := by rw [a]; exact Bool.false_ne_true
    rw [if_neg a']
    exact congrArg some e
theorem ObjM.look {h : Heap} {x dx C : Addr} {mA : Str → Option Value} (I : ObjM h x dx C mA) : ∃ od, PySem.W.InstAt h x (PySem.W.instObj C dx) C (some od) ∧ ∀ name, PySem.W.lookIn name od = some (mA name) :=
  let ⟨od, ho, hl⟩ := lookIn_ns I.ns
  ⟨od, ⟨I.obj, rfl, rfl, ho⟩, hl⟩
section
variable {prog : Program} {w : World} {A : Around} {E : Value → Shared → Prop} {s : Shared} {K : PySem.W.Frag} {x dx C f : Addr} {mA : Str → Option Value} {name : Str} {v : Value}
theorem get_map {expr : Bool} {Q : Value → Shared → Prop} (X : K.In s.heap) (I : ObjM s.heap x dx C mA) (hg : PySem.W.plainGet K C name = true) (hh : PySem.W.hasDictIn K C = true)
    (ha : PySem.W.findIn K (.ref C) name = some none) (hv : mA name = some v) (hv' : PySem.W.handedIn v = true) (h : Q v { s with toks := s.toks + 1 }) :
    wpAny (model prog w) A (getAttr (.ref x) name expr) Q E s := by
  obtain ⟨od, J, hl⟩ := I.look
  exact PySem.W.get_value X J (PySem.W.plainGet_of hg).1 (PySem.W.findObj_own hh ha rfl (by rw [hl, hv])) hv' h
theorem set_map {ns : List Str} {Q : Unit → Shared → Prop} (X : K.In s.heap) (I : ObjM s.heap x dx C mA)
    (hs : PySem.W.findIn K (.ref C) "__setattr__" = some (some (.builtin "object.__setattr__"))) (hp : PySem.W.plainOver K C = true) (ht : PySem.W.takerIn K C name = some none) (hh : PySem.W.hasDictIn K C = true)
    (hw : PySem.Within mA ns) (hsz : ns.length ≤ sizeLine)
    (h : ∀ h', ObjM h' x dx C (fun y => if y = name then some v else mA y) → Heap.SameBut dx s.heap h' → Q () { s with heap := h', toks := s.toks + 2 }) :
    wpAny (model prog w) A (setAttr (.ref x) name v) Q E s := by
  obtain ⟨od, J, hl⟩ := I.look
  refine PySem.W.set_plain X J hs (PySem.W.osa_open (s := { s with toks := s.toks + 1 }) (r := none) X J hp ht fun b => ?_)
  obtain ⟨cd, hc, hd'⟩ := PySem.W.any_some hh
  have hx : s.heap.get? x = some ⟨.ref C, some dx, .plain, #[]⟩ := I.obj
  refine wpAny_bind (wpAny_pure (wpAny_bind (wpAny_bind (wpAny_loadPart hx (wpAny_bind (PySem.W.Looks.here (s := { s with toks := s.toks + 1 }) (PySem.W.looks_clsIn X hc) ?_))))))
  rw [hd']
  refine wpAny_pure (a := some dx) (wpAny_bind (wpAny_pure (wpAny_bind ?_)))
  refine wpAny_nsSet1 (s := { s with toks := s.toks + 1 }) I.ns fun h' hn2 hs2 => ?_
  obtain ⟨oD, esD, epD, hoD, hdD, hcD⟩ := hn2.count (PySem.Within.cons name v hw)
  refine wpAny_bind (wpAny_lookBehind hoD (by rw [hdD]; exact pastItsLine_dict (Nat.le_trans hcD (by rw [List.length_cons]; omega))) ?_)
  exact wpAny_pure (h _ ⟨(hs2.2 _ (Ne.symm I.ne)).trans I.obj, hn2, I.ne⟩ hs2)
/-- C(..): the dict at the heap's end, the instance behind it; then its __init__ -/
theorem make_map {R : Result → Shared → Prop} {vs : List Value} {kw : List (Str × Value)} (X : K.In s.heap) (hm : PySem.W.makesIn K C = true)
    (hi : PySem.W.findIn K (.ref C) "__init__" = some (some (.ref f))) (hf : PySem.W.typeIn K (.ref f) = some (.type "function"))
    (h : codeAny (model prog w) (A.under (.builtin "type.__call__" ⟨.ref C :: vs, kw⟩)) (.call (.ref f) ⟨.ref (s.heap.objs.size + 1) :: vs, kw⟩) (PySem.W.InitBack (s.heap.objs.size + 1) R)
      { s with heap := (s.heap.push PySem.W.emptyDict).push (PySem.W.instObj C s.heap.objs.size) }) :
    codeAny (model prog w) A (.call (.ref C) ⟨vs, kw⟩) R s := by
  obtain ⟨hh, g, d, t, os⟩ := s
  exact PySem.W.make_core (PySem.W.makes_of X hm) (PySem.W.looks_findIn X hi) (fun self => PySem.W.bind_fn X self hf) (.inl rfl) h
end
/-! ### the attributes as a list of pairs -/
def putF (f : Str) (v : V) : List (Str × V) → List (Str × V)
  | [] => [(f, v)]
  | (g, x) :: r => if g = f then (g, v) :: r else (g, x) :: putF f v r
theorem lookup_putF (f g : Str) (v : V) : ∀ fs : List (Str × V), (putF f v fs).lookup g = if g = f then some v else fs.lookup g
  | [] => by
    show List.lookup g [(f, v)] = _
    by_cases h : g = f
    · have hb : (g == f) = true := beq_iff_eq.mpr h
      simp only [List.lookup, hb, if_pos h]
    · have hb : (g == f) = false := beq_eq_false_iff_ne.mpr h
      simp only [List.lookup, hb, if_neg h]
  | (k, x) :: r => by
    have ih := lookup_putF f g v r
    rw [show putF f v ((k, x) :: r) = (if k = f then (k, v) :: r else (k, x) :: putF f v r) from rfl]
    by_cases hk : k = f
    · rw [if_pos hk]
      by_cases h : g = k
      · have hb : (g == k) = true := beq_iff_eq.mpr h
        simp only [List.lookup, hb, if_pos (h.trans hk)]
      · have hb : (g == k) = false := beq_eq_false_iff_ne.mpr h
        simp only [List.lookup, hb, if_neg (fun e : g = f => h (e.trans hk.symm))]
    · rw [if_neg hk]
      by_cases h : g = k
      · have hb : (g == k) = true := beq_iff_eq.mpr h
        simp only [List.lookup, hb, if_neg (fun e : g = f => hk (h.symm.trans e))]
      · have hb : (g == k) = false := beq_eq_false_iff_ne.mpr h
        simp only [List.lookup, hb]
        exact ih
theorem keys_putF (f : Str) (v : V) : ∀ fs : List (Str × V), f ∈ (putF f v fs).map (·.1) ∧ ∀ g, g ∈ fs.map (·.1) → g ∈ (putF f v fs).map (·.1)
  | [] => ⟨by simp [putF], fun g h => by simp at h⟩
  | (k, x) :: r => by
    obtain ⟨i1, i2⟩ := keys_putF f v r
    rw [show putF f v ((k, x) :: r) = (if k = f then (k, v) :: r else (k, x) :: putF f v r) from rfl]
    by_cases hk : k = f
    · rw [if_pos hk]
      subst hk
      exact ⟨by simp, fun g h => by simpa using h⟩
    · rw [if_neg hk]
      refine ⟨?_, fun g h => ?_⟩
      · rw [List.map_cons]
        exact List.mem_cons_of_mem _ i1
      · rw [List.map_cons] at h ⊢
        rcases List.mem_cons.mp h with e | e
        · exact List.mem_cons.mpr (.inl e)
        · exact List.mem_cons_of_mem _ (i2 g e)
theorem length_putF (f : Str) (v : V) : ∀ fs : List (Str × V), (putF f v fs).length ≤ fs.length + 1
  | [] => by simp [putF]
  | (k, x) :: r => by
    have ih := length_putF f v r
    rw [show putF f v ((k, x) :: r) = (if k = f then (k, v) :: r else (k, x) :: putF f v r) from rfl]
    by_cases hk : k = f
    · rw [if_pos hk, List.length_cons, List.length_cons]; omega
    · rw [if_neg hk, List.length_cons, List.length_cons]; omega
theorem RelO.some_of {v : V} {o : Option Value} (r : RelO (some v) o) : ∃ u, o = some u ∧ RelV v u := by
  cases o with
  | none => exact (show False from r).elim
  | some u => exact ⟨u, rfl, r⟩
theorem handed_of {v : V} {u : Value} (r : RelV v u) : PySem.W.handedIn u = true := by
  cases v with
  | non => cases (show u = Value.none from r); rfl
  | bl b => cases (show u = Value.bool b from r); rfl
  | int i => obtain ⟨t, e⟩ := (show ∃ t, u = Value.int i t from r); cases e; rfl
  | str x => obtain ⟨t, e⟩ := (show ∃ t, u = Value.str x t from r); cases e; rfl
  | byt b => obtain ⟨t, e⟩ := (show ∃ t, u = Value.bytes b t from r); cases e; rfl
  | flt b => obtain ⟨t, e⟩ := (show ∃ t, u = Value.float b t from r); cases e; rfl
  | ref a => cases (show u = Value.ref a from r); rfl
  | ty n => cases (show u = Value.type n from r); rfl
section
variable {P : Program} {w : World} {H H' : Hp} {h h' : Heap} {a C dx : Addr} {fs fs' : List (Str × V)}
theorem ins_get (hok : HOk P w H h) (e : H a = some (.ins C dx fs)) : ∃ mA, ObjM h a dx C mA ∧ (∀ f, RelO (fs.lookup f) (mA f)) ∧ PySem.Within mA (fs.map (·.1)) ∧ fs.length ≤ 1000 ∧ H dx = some (.own a) := by
  obtain ⟨d, z, ne, ob, mA, n, r, q⟩ := (show ObjOk P w H h a (.ins C dx fs) from hok a _ e)
  exact ⟨mA, ⟨ob, n, ne⟩, r, q, z, d⟩
end
/-! ### what of the text a class must have -/
structure Cls (K : PySem.W.Frag) (C : Addr) : Prop where
  pg : PySem.W.plainGet K C Str.empty = true
  hd : PySem.W.hasDictIn K C = true
  po : PySem.W.plainOver K C = true
  sa : PySem.W.findIn K (.ref C) "__setattr__" = some (some (.builtin "object.__setattr__"))
theorem Cls.get {K : PySem.W.Frag} {C : Addr} (c : Cls K C) (f : Str) : PySem.W.plainGet K C f = true := c.pg
/-- no class of it has the name -/
def NoAttr (K : PySem.W.Frag) (C : Addr) (f : Str) : Prop := PySem.W.findIn K (.ref C) f = some none
theorem NoAttr.taker {K : PySem.W.Frag} {C : Addr} {f : Str} (n : NoAttr K C f) : PySem.W.takerIn K C f = some none := by
  unfold PySem.W.takerIn
  rw [show PySem.W.findIn K (.ref C) f = some none from n]
  rfl
section
variable {X : Cx} {pins : List (Addr × Obj)} {σ : St} {H : Hp} {s : Shared} {a C dx : Addr} {fs : List (Str × V)} {f : Str} {v : V} {A : Around} {E : Value → Shared → Prop}
theorem getattr_ok {b : Bool} {Q : Value → Shared → Prop} (I : Inv X pins σ H s) (e : H a = some (.ins C dx fs)) (c : Cls X.K C) (n : NoAttr X.K C f) (l : fs.lookup f = some v)
    (h : ∀ u s', Inv X pins σ H s' → RelV v u → Q u s') : wpAny (model X.prog X.w) A (getAttr (.ref a) f b) Q E s := by
  obtain ⟨mA, O, r, _, _, _⟩ := ins_get I.hok e
  obtain ⟨u, hu, ru⟩ := RelO.some_of (v := v) (o := mA f) (by rw [← l]; exact r f)
  exact get_map I.kIn O (c.get f) c.hd n hu (handed_of ru) (h u _ (I.tok _) ru)
theorem setattr_ok {y : V} {u : Value} {Q : Unit → Shared → Prop} (I : Inv X pins σ H s) (e : H a = some (.ins C dx fs)) (c : Cls X.K C) (n : NoAttr X.K C f) (hl : fs.length < 1000) (ry : RelV y u)
    (h : ∀ s', Inv X pins σ (upd H a (.ins C dx (putF f y fs))) s' → Q () s') : wpAny (model X.prog X.w) A (setAttr (.ref a) f u) Q E s := by
  obtain ⟨mA, O, r, wi, _, ho⟩ := ins_get I.hok e
  have hz : (fs.map (·.1)).length ≤ sizeLine := by rw [List.length_map, sizeLine_eq]; omega
  refine set_map I.kIn O c.sa c.po n.taker c.hd wi hz fun h' O' sb => h _ ?_
  have hd : ∃ o, h'.get? dx = some o := let ⟨o, _, _, e', _⟩ := O'.ns; ⟨o, e'⟩
  refine I.write (x := a) (e := dx) (by rw [e]; exact True.intro) (.inr ho) (fun b q hb z => (sb.2 b hb).trans z) hd ?_
  refine ⟨by rw [upd_ne O.ne]; exact ho, ?_, O.ne, O'.obj, _, O'.ns, fun g => ?_, fun g hg => ?_⟩
  · have := length_putF f y fs; omega
  · show RelO ((putF f y fs).lookup g) (if g = f then some u else mA g)
    rw [lookup_putF]
    by_cases q : g = f
    · rw [if_pos q, if_pos q]; exact ry
    · rw [if_neg q, if_neg q]; exact r g
  · by_cases q : g = f
    · rw [q]; exact (keys_putF f y fs).1
    · refine (keys_putF f y fs).2 g (wi g fun z => hg ?_)
      show (if g = f then some u else mA g) = none
      rw [if_neg q]; exact z
/-- a new instance, tracked, without attributes -/
theorem Inv.made (I : Inv X pins σ H s) : Inv X pins σ (upd (upd H s.heap.objs.size (.own (s.heap.objs.size + 1))) (s.heap.objs.size + 1) (.ins C s.heap.objs.size []))
    { s with heap := (s.heap.push PySem.W.emptyDict).push (PySem.W.instObj C s.heap.objs.size) } := by
  have e1 : (s.heap.push PySem.W.emptyDict).get? s.heap.objs.size = some PySem.W.emptyDict := Heap.get?_push_size s.heap rfl
  have e2 : ((s.heap.push PySem.W.emptyDict).push (PySem.W.instObj C s.heap.objs.size)).get? (s.heap.objs.size + 1) = some (PySem.W.instObj C s.heap.objs.size) := by
    have := Heap.get?_push_size (s.heap.push PySem.W.emptyDict) (o := PySem.W.instObj C s.heap.objs.size) rfl
    rwa [Heap.size_push] at this
  have e3 : (s.heap.push PySem.W.emptyDict).Ns s.heap.objs.size (fun _ => none) := ⟨PySem.W.emptyDict, #[], _, e1, rfl, (fun e he => absurd he (by simp)), fun _ => rfl⟩
  have I1 := I.laid (a := s.heap.objs.size) (o := .own (s.heap.objs.size + 1)) (h' := s.heap.push PySem.W.emptyDict) (t' := s.toks) (fun b u q => Heap.get?_push_of_some _ q) (Nat.le_refl _) ⟨_, e1⟩
  refine I1.laid (a := s.heap.objs.size + 1) (o := .ins C s.heap.objs.size []) (t' := s.toks) (fun b u q => Heap.get?_push_of_some _ q) (Nat.le_of_eq (Heap.size_push _ _)) ?_
  have ne : s.heap.objs.size ≠ s.heap.objs.size + 1 := Nat.ne_of_lt (Nat.lt_succ_self _)
  refine ⟨by rw [upd_ne ne, upd_same], Nat.zero_le _, ne, e2, fun _ => none, (Heap.Ns1.of_empty e3).at fun o q => Heap.get?_push_of_some _ q, fun _ => True.intro, fun y hy => absurd rfl hy⟩
/-- e.f where nothing but the object is asked: through attributeBase (super) and the last hold -/
theorem attr_of {prog : Program} {w : World} {env : Env} {e : Expr} {f : Str} {pos : Pos} {s : Shared} {Q : Value → Shared → Prop} (hb : attributeBase e f env (eval e env) = eval e env)
    (h : wpAny (model prog w) A (eval e env) (fun o s₁ => wpAny (model prog w) A (getAttr o f true) Q E s₁) E s) : wpAny (model prog w) A (eval (.Attribute e f pos) env) Q E s :=
  Attribute_any_ h (by rw [arm_eval_Attribute, hb])
end
/-! ### readings and rules -/
/-- e.f, an attribute of the instance -/
def tFld (K : PySem.W.Frag) (ta : TE) (f : Str) : TE := fun σ H Q => ta σ H fun x H1 => ∃ a C dx fs v, x = .ref a ∧ H1 a = some (.ins C dx fs) ∧ Cls K C ∧ NoAttr K C f ∧ fs.lookup f = some v ∧ Q v H1
/-- e.f = value -/
def sFld (K : PySem.W.Frag) (ta tv : TE) (f : Str) : TS := fun D σ H => tv σ H fun y H1 => ta σ H1 fun x H2 => ∃ a C dx fs, x = .ref a ∧ H2 a = some (.ins C dx fs) ∧ Cls K C ∧ NoAttr K C f ∧ fs.length < 1000 ∧
  D.nx σ (upd H2 a (.ins C dx (putF f y fs)))
section
variable {X : Cx} {o e value : Expr} {f : Str} {pos pos' tpos : Pos} {ta tv : TE}
theorem pe_fld (he : PE X e ta) (hb : attributeBase e f X.env (eval e X.env) = eval e X.env) : PE X (.Attribute e f pos) (tFld X.K ta f) := by
  intro pins s σ H Q I h
  refine attr_of hb (thn (he pins s σ H _ I h) fun u s1 ⟨x, H1, I1, rx, a, C, dx, fs, v, ex, ea, c, n, l, q⟩ => ?_)
  subst ex
  obtain rfl : u = Value.ref a := rx
  exact getattr_ok I1 ea c n l fun u' s2 I2 ru => ⟨v, H1, I2, ru, q⟩
theorem ps_fld (ha : PE X o ta) (hv : PE X value tv) (hs : swapsWith value (some (.Attribute o f pos')) pos.line X.env = pure false) : PS X (.Assign [.Attribute o f pos'] value pos) (sFld X.K ta tv f) := by
  intro pins s σ H D I h
  refine plainObj_wpAny_Assign_Attribute (thn (hv pins s σ H _ I h) fun u s1 ⟨y, H1, I1, ry, q⟩ => thn (ha pins s1 σ H1 _ I1 q) fun ov s2 ⟨x, H2, I2, rx, a, C, dx, fs, ex, ea, c, n, l, q2⟩ => ?_) hs
  subst ex
  obtain rfl : ov = Value.ref a := rx
  exact setattr_ok I2 ea c n l ry fun s3 I3 => ⟨σ, _, I3, q2⟩
end
/-! ### isinstance -/
section
variable {X : Cx} {pins : List (Addr × Obj)} {σ : St} {H : Hp} {s : Shared} {A : Around} {E : Value → Shared → Prop} {Q : Value → Shared → Prop} {c : Value} {b : Bool}
end
end L2
namespace L2
open PySem PySem.Spec PyProof.Rows
/-! ### room -/
structure Room (k : Nat) (A : Around) : Prop where
  hd : A.handled = none
  dp : A.depth + 3 * k + 5 < recursionLimit
  un : A.units + 16 * k + 200 < cLine
theorem Room.mono {j k : Nat} {A : Around} (r : Room k A) (h : j ≤ k) : Room j A := ⟨r.hd, by have := r.dp; omega, by have := r.un; omega⟩
theorem Room.deeper {k : Nat} {A : Around} (r : Room (k + 1) A) (env : Env) : Room k (A.deeper env) :=
  ⟨r.hd, by have := r.dp; show A.depth + 1 + 3 * k + 5 < _; omega, by have := r.un; show A.units + 3 + 16 * k + 200 < _; omega⟩
theorem make_depth {A : Around} {C : Addr} {us : List Value} {kw : List (Str × Value)} : (A.under (.builtin "type.__call__" ⟨.ref C :: us, kw⟩)).depth = A.depth + 1 := by
  first | rfl | simp [Around.under, Code.weight, Code.isCreation, Code.isGuard, Code.isCaller, Code.frames, Code.isFrame, guardIds]
theorem make_units {A : Around} {C : Addr} {us : List Value} {kw : List (Str × Value)} : (A.under (.builtin "type.__call__" ⟨.ref C :: us, kw⟩)).units = A.units + 1 := by
  first | rfl | simp [Around.under, Code.cUnits, Code.frames, Code.isFrame]
theorem Room.make {k : Nat} {A : Around} (r : Room (k + 1) A) (C : Addr) (us : List Value) (kw : List (Str × Value)) : Room k (A.under (.builtin "type.__call__" ⟨.ref C :: us, kw⟩)) :=
  ⟨r.hd, by have := r.dp; rw [make_depth]; omega, by have := r.un; rw [make_units]; omega⟩
theorem Room.depth {k : Nat} {A : Around} (r : Room k A) : A.depth < recursionLimit := by have := r.dp; omega
theorem Room.units {k : Nat} {A : Around} (r : Room k A) : A.units + 64 < cLine := by have := r.un; omega
/-! ### argument lists and displays -/
def tNil : TA := fun _ H Q => Q [] H
def tCons (ta : TE) (tr : TA) : TA := fun σ H Q => ta σ H fun x H1 => tr σ H1 fun xs H2 => Q (x :: xs) H2
section
variable {X : Cx} {e : Expr} {es : List Expr} {te : TE} {t : TA} {pos : Pos}
theorem pa_nil : PA X [] tNil := fun _ _ _ _ H Q I h => Calls.spliced_nil ⟨[], H, I, .nil, h⟩
theorem pa_cons (ha : PE X e te) (hr : PA X es t) (hs : starEach (e :: es) X.env = (false, eval e X.env) :: starEach es X.env := by rfl) : PA X (e :: es) (tCons te t) := by
  intro pos pins s σ H Q I h
  rw [hs]
  show wpAny _ _ (spliced ((false, eval e X.env) :: backTo pos (starEach es X.env))) _ _ s
  refine Calls.spliced_cons (thn (ha pins s σ H _ I h) fun u s1 ⟨x, H1, I1, r1, q1⟩ => ?_)
  exact thn (hr pos pins s1 σ H1 _ I1 q1) fun us s2 ⟨xs, H2, I2, r2, q2⟩ => ⟨x :: xs, H2, I2, .cons r1 r2, q2⟩
/-- a tuple, a list of written items -/
def tTup (t : TA) : TE := fun σ H Q => t σ H fun xs H1 => xs.length ≤ sizeLine ∧ ∀ p, H1 p = none → Q (.ref p) (upd H1 p (.tup xs))
def tLst (t : TA) : TE := fun σ H Q => t σ H fun xs H1 => xs.length ≤ sizeLine ∧ ∀ p, H1 p = none → Q (.ref p) (upd H1 p (.lst xs))
theorem pe_tup {x1} (h : PA X es t) : PE X (.Tuple es x1 pos) (tTup t) := by
  intro pins s σ H Q I hq
  refine wpAny_Tuple_spliced (thn (h pos pins s σ H _ I hq) fun us s1 ⟨xs, H1, I1, r, z, q⟩ => ⟨by rw [← r.length]; exact z, ?_⟩)
  have hf : H1 s1.heap.objs.size = none := I1.hok.fresh (Nat.le_refl _)
  refine ⟨.ref s1.heap.objs.size, upd H1 s1.heap.objs.size (.tup xs), I1.laid (t' := s1.toks) (fun b u e => Heap.get?_push_of_some _ e) (Nat.le_refl _) ?_, rfl, q _ hf⟩
  exact ⟨z, us, r, ⟨_, Heap.get?_push_size _ rfl, rfl, _, rfl⟩⟩
theorem pe_lst (h : PA X es t) : PE X (.List es pos) (tLst t) := by
  intro pins s σ H Q I hq
  refine wpAny_List_spliced (thn (h pos pins s σ H _ I hq) fun us s1 ⟨xs, H1, I1, r, z, q⟩ => ⟨by rw [← r.length]; exact z, ?_⟩)
  have hf : H1 s1.heap.objs.size = none := I1.hok.fresh (Nat.le_refl _)
  refine ⟨.ref s1.heap.objs.size, upd H1 s1.heap.objs.size (.lst xs), I1.laid (t' := s1.toks) (fun b u e => Heap.get?_push_of_some _ e) (Nat.le_refl _) ?_, rfl, q _ hf⟩
  exact ⟨z, us, 0, r, Heap.get?_push_size _ rfl⟩
end
/-! ### what a def promises -/
/-- a def's promise: the bound arguments in the parameters' order, the heap, the wanted end, the wanted exception -/
abbrev Sp := List V → Hp → VK → XK → Prop
/-- how an exception lies behind a call (file 08 gives it): the callers' frames, abstract heap and state ahead of the call, the wish, the exception, the state -/
abbrev CXT := List Env → Hp → Shared → XK → Value → Shared → Prop
/-- the state at a call -/
structure Env0 (P : Program) (w : World) (K : PySem.W.Frag) (mg : Str → Option Value) (base : Heap) (A : Around) (outer : List Env) (s : Shared) (H : Hp) : Prop where
  frames : A.frames = some outer
  mod : Mod K mg base
  bs : ∀ b o, base.get? b = some o → s.heap.get? b = some o ∧ H b = none
  bsz : base.objs.size ≤ s.heap.objs.size
  funs : s.heap.FunFrames base outer
  frf : ∀ b ∈ frs outer, H b = none
  hok : HOk P w H s.heap
  bare : AllBare s.gens
/-- a call's end -/
def CE (outer : List Env) (P : Program) (w : World) (H : Hp) (s : Shared) (Q : VK) (u : Value) (s' : Shared) : Prop :=
  ∃ v H', s'.os = s.os ∧ AllBare s'.gens ∧ Un (frs outer) [] H H' s.heap s'.heap ∧ HOk P w H' s'.heap ∧ RelV v u ∧ Q v H'
def CR (CX : CXT) (outer : List Env) (P : Program) (w : World) (H : Hp) (s : Shared) (Q : VK) (E : XK) (r : Result) (s' : Shared) : Prop :=
  match r with
  | .ok (.ret u) => CE outer P w H s Q u s'
  | .ok _ => False
  | .error e => CX outer H s E e s'
structure FnOk (P : Program) (w : World) (K : PySem.W.Frag) (mg : Str → Option Value) (base : Heap) (CX : CXT) (k : Nat) (f : Addr) (fd : FuncData) (ps : List Str) (sp : Sp) : Prop where
  len : ∀ vs H Q E, sp vs H Q E → vs.length = ps.length
  run : ∀ (A : Around) (outer : List Env) (s : Shared) (H : Hp) (args : Args) (us : List Value) (vs : List V) (Q : VK) (E : XK), Room k A → Env0 P w K mg base A outer s H → BindsTo s fd args (ps.zip us) → Vals vs us → sp vs H Q E →
    codeAny (model P w) A (.call (.ref f) args) (CR CX outer P w H s Q E) s
theorem Env0.make {P : Program} {w : World} {K : PySem.W.Frag} {mg : Str → Option Value} {base : Heap} {A : Around} {outer : List Env} {s : Shared} {H : Hp} (e : Env0 P w K mg base A outer s H) (C : Addr) (us : List Value) (kw : List (Str × Value)) :
    Env0 P w K mg base (A.under (.builtin "type.__call__" ⟨.ref C :: us, kw⟩)) outer s H := ⟨by first | exact e.frames | (simpa [Around.under, Code.envs, Code.isFrame, pushEnvs] using e.frames), e.mod, e.bs, e.bsz, e.funs, e.frf, e.hok, e.bare⟩
section
variable {X : Cx} {pins : List (Addr × Obj)} {σ : St} {H : Hp} {s s' : Shared}
/-- from a body: what a callee wants -/
theorem Inv.env0 (I : Inv X pins σ H s) : Env0 X.prog X.w X.K X.mg X.base X.A X.stack s H :=
  ⟨I.ok.frames, I.ok.mod, I.bs, Nat.le_trans I.ok.bsz I.sz, I.stack, I.stkFree, I.hok, I.bare⟩
/-- behind a call -/
theorem Inv.after {Q : VK} {u : Value} (I : Inv X pins σ H s) (h : CE X.stack X.prog X.w H s Q u s') : EP X pins σ Q u s' := by
  obtain ⟨v, H', os, bare, un, hok, r, q⟩ := h
  obtain ⟨hh, g, d, t, os'⟩ := s'
  obtain rfl : os' = s.os := os
  exact ⟨v, H', I.call (h' := hh) (g' := g) (d' := d) (t' := t) (ch := []) un hok bare (fun b z => absurd z (by simp)), r, q⟩
end
/-! ### calls -/
/-- f(..): the written arguments, then the defaults dvs; E: what is wanted of an exception -/
def tCall (sp : Sp) (dvs : List V) (E : XK) (t : TA) : TE := fun σ H Q => t σ H fun vs H1 => sp (vs ++ dvs) H1 Q E
/-- C(..): a new instance and its dict, then __init__ -/
def tMake (C : Addr) (sp : Sp) (dvs : List V) (E : XK) (t : TA) : TE := fun σ H Q => t σ H fun vs H1 => ∀ x dx, H1 x = none → H1 dx = none → dx ≠ x →
  sp (.ref x :: (vs ++ dvs)) (upd (upd H1 dx (.own x)) x (.ins C dx [])) (fun v H2 => v = .non ∧ Q (.ref x) H2) E
/-- how the parameters are bound: us the positional arguments, kw the keywords' values by name, ds the defaults that fill up -/
def Binds (K : PySem.W.Frag) (fd : FuncData) (ps : List Str) (ds : List Value) : Prop :=
  ∀ (s : Shared) (us : List Value), K.In s.heap → (us ++ ds).length = ps.length → BindsTo s fd ⟨us, []⟩ (ps.zip (us ++ ds))
/-- every parameter is given -/
theorem Binds.all {K : PySem.W.Frag} {fd : FuncData} {ps : List Str} (h : ∀ us : List Value, us.length = ps.length → bindArgs fd ⟨us, []⟩ = pure (ps.zip us)) : Binds K fd ps [] := fun s us _ hl => by
  rw [List.append_nil] at hl ⊢
  exact .of_eq (h us hl)
/-- an exception of a callee reaches what this body wants of exceptions -/
def Passes (CX : CXT) (X : Cx) (E : XK) : Prop := ∀ (pins : List (Addr × Obj)) (σ : St) (H : Hp) (s : Shared) (e : Value) (s' : Shared), Inv X pins σ H s → CX X.stack H s E e s' → X.xe e s'
section
variable {X : Cx} {CX : CXT} {k : Nat} {f C : Addr} {fd : FuncData} {ps : List Str} {sp : Sp} {dvs : List V} {ds : List Value} {E : XK} {x m : Str} {p pos apos : Pos} {e o : Expr} {es : List Expr} {ta : TE} {t : TA}
/-- the callee runs -/
theorem run_fn {pins : List (Addr × Obj)} {σ : St} {H : Hp} {s : Shared} {Q : VK} {us : List Value} {vs : List V} (F : FnOk X.prog X.w X.K X.mg X.base CX k f fd ps sp) (hr : Room k X.A) (hb : Binds X.K fd ps ds) (hd : Vals dvs ds) (hx : Passes CX X E)
    (I : Inv X pins σ H s) (r : Vals vs us) (h : sp (vs ++ dvs) H Q E) : wpAny (model X.prog X.w) X.A (call (.ref f) us) (EP X pins σ Q) X.xe s := by
  have r2 : Vals (vs ++ dvs) (us ++ ds) := r.append hd
  have hl : (us ++ ds).length = ps.length := by rw [← r2.length]; exact F.len _ _ _ _ h
  refine wpAny_call (codeAny_mono (F.run X.A X.stack s H ⟨us, []⟩ (us ++ ds) (vs ++ dvs) Q E hr I.env0 (hb s us I.kIn hl) r2 h) fun r s' hq => ?_)
  cases r with
  | error e => exact hx pins σ H s e s' I hq
  | ok fl =>
    cases fl with
    | ret u => exact I.after hq
    | next => exact False.elim hq
    | brk => exact False.elim hq
    | cont => exact False.elim hq
theorem pe_call (F : FnOk X.prog X.w X.K X.mg X.base CX k f fd ps sp) (hr : Room k X.A) (hg : Gl X x) (hm : X.mg x = some (.ref f)) (hk : PySem.W.keepIn X.K (.ref f) = true) (hb : Binds X.K fd ps ds) (hd : Vals dvs ds) (hx : Passes CX X E)
    (ha : PA X (e :: es) t) (hdb : (x == ("__debug__" : Str)) = false := by decide) (he : starEach (e :: es) X.env = (false, eval e X.env) :: starEach es X.env := by rfl) (hpl : (backTo pos (starEach es X.env)).any (·.1) = false := by rfl) :
    PE X (.Call (.Name x p) (e :: es) [] pos) (tCall sp dvs E t) := by
  intro pins s σ H Q I h
  refine wpAny_Call_Name_kw (ld_glob I hg hm ?_ hdb)
  refine PySem.W.callWith_K (h₀ := X.base) I.ok.mod.kin hk (thn (ha pos pins s σ H _ I h) fun us s1 ⟨vs, H1, I1, r, q⟩ => ⟨I1.kIn, ?_⟩) he hpl
  exact run_fn F hr hb hd hx I1 r q
/-- what a class must have to be made -/
structure Mk (K : PySem.W.Frag) (C f : Addr) : Prop where
  makes : PySem.W.makesIn K C = true
  init : PySem.W.findIn K (.ref C) "__init__" = some (some (.ref f))
  fn : PySem.W.isFn K (.ref f) = true
  kp : PySem.W.keepIn K (.ref C) = true
theorem run_make {pins : List (Addr × Obj)} {σ : St} {H : Hp} {s : Shared} {Q : VK} {us : List Value} {vs : List V} (M : Mk X.K C f) (F : FnOk X.prog X.w X.K X.mg X.base CX k f fd ps sp) (hr : Room (k + 1) X.A) (hb : Binds X.K fd ps ds) (hd : Vals dvs ds)
    (hx : Passes CX X E) (I : Inv X pins σ H s) (r : Vals vs us)
    (h : ∀ x dx, H x = none → H dx = none → dx ≠ x → sp (.ref x :: (vs ++ dvs)) (upd (upd H dx (.own x)) x (.ins C dx [])) (fun v H2 => v = .non ∧ Q (.ref x) H2) E) :
    wpAny (model X.prog X.w) X.A (call (.ref C) us) (EP X pins σ Q) X.xe s := by
  have hq := h (s.heap.objs.size + 1) s.heap.objs.size (I.hok.fresh (Nat.le_succ _)) (I.hok.fresh (Nat.le_refl _)) (Nat.ne_of_lt (Nat.lt_succ_self _))
  have I2 := Inv.made (C := C) I
  have r2 : Vals (V.ref (s.heap.objs.size + 1) :: (vs ++ dvs)) (Value.ref (s.heap.objs.size + 1) :: (us ++ ds)) := .cons rfl (r.append hd)
  have hl : (Value.ref (s.heap.objs.size + 1) :: us ++ ds).length = ps.length := by
    have e := r2.length
    rw [F.len _ _ _ _ hq] at e
    exact e.symm
  refine wpAny_call (make_map (f := f) I.kIn M.makes M.init (beq_iff_eq.mp M.fn) (codeAny_mono (F.run _ X.stack _ _ ⟨Value.ref (s.heap.objs.size + 1) :: us, []⟩ (Value.ref (s.heap.objs.size + 1) :: (us ++ ds)) _ _ E (hr.make C us [])
    (I2.env0.make C us []) (hb _ (Value.ref (s.heap.objs.size + 1) :: us) I2.kIn hl) r2 hq) fun r s' hq' => ?_))
  cases r with
  | error e => exact hx pins σ _ _ e s' I2 hq'
  | ok fl =>
    cases fl with
    | ret u =>
      obtain ⟨v, H', I3, rv, ev, q3⟩ := I2.after hq'
      subst ev
      exact ⟨rv, ⟨V.ref (s.heap.objs.size + 1), H', I3, rfl, q3⟩⟩
    | next => exact False.elim hq'
    | brk => exact False.elim hq'
    | cont => exact False.elim hq'
theorem pe_make (M : Mk X.K C f) (F : FnOk X.prog X.w X.K X.mg X.base CX k f fd ps sp) (hr : Room (k + 1) X.A) (hg : Gl X x) (hm : X.mg x = some (.ref C)) (hb : Binds X.K fd ps ds) (hd : Vals dvs ds) (hx : Passes CX X E)
    (ha : PA X (e :: es) t) (hdb : (x == ("__debug__" : Str)) = false := by decide) (he : starEach (e :: es) X.env = (false, eval e X.env) :: starEach es X.env := by rfl) (hpl : (backTo pos (starEach es X.env)).any (·.1) = false := by rfl) :
    PE X (.Call (.Name x p) (e :: es) [] pos) (tMake C sp dvs E t) := by
  intro pins s σ H Q I h
  refine wpAny_Call_Name_kw (ld_glob I hg hm ?_ hdb)
  refine PySem.W.callWith_K (h₀ := X.base) I.ok.mod.kin M.kp (thn (ha pos pins s σ H _ I h) fun us s1 ⟨vs, H1, I1, r, q⟩ => ⟨I1.kIn, ?_⟩) he hpl
  exact run_make M F hr hb hd hx I1 r q
theorem pe_make0 (M : Mk X.K C f) (F : FnOk X.prog X.w X.K X.mg X.base CX k f fd ps sp) (hr : Room (k + 1) X.A) (hg : Gl X x) (hm : X.mg x = some (.ref C)) (hb : Binds X.K fd ps ds) (hd : Vals dvs ds) (hx : Passes CX X E)
    (hdb : (x == ("__debug__" : Str)) = false := by decide) : PE X (.Call (.Name x p) [] [] pos) (tMake C sp dvs E tNil) := by
  intro pins s σ H Q I h
  refine wpAny_Call_Name_kw (ld_glob I hg hm ?_ hdb)
  exact PySem.W.callWith_K0 I.kIn M.kp (run_make (us := []) M F hr hb hd hx I .nil h)
end
/-! ### keywords -/
section
variable {X : Cx} {CX : CXT} {k : Nat} {f C : Addr} {fd : FuncData} {ps ks : List Str} {sp : Sp} {E : XK} {x m : Str} {p pos apos kpos : Pos} {e o : Expr} {es : List Expr} {kws : List Keyword} {te ta : TE} {t tk : TA} {nm : Option Str}
variable {g : List Value → List Value → List Value} {gV : List V → List V → List V}
end
/-! ### a def's body keeps its promise -/
/-- names: the parameters first -/
structure FnScope (N P : List Str) (sc : Scope) : Prop where
  kind : sc.kind = .function
  co : sc.isCoroutine = false
  gen : sc.isGenerator = false
  nd : N.Nodup
  pre : N.take P.length = P
  par : ∀ x ∈ P, sc.names.lookup x = some .local ∨ sc.names.lookup x = some .cell
  nofree : ∀ y ∈ sc.names, y.2 ≠ .free
theorem bindL_out {kindOf : Str → Option NameKind} {x : Str} : ∀ {binds : List (Str × Value)} {m : Str → Option Value}, (∀ v, (x, v) ∉ binds) → bindL kindOf binds m x = m x
  | [], _, _ => rfl
  | (n, v) :: r, m, h => by
    unfold bindL
    rw [bindL_out fun w hw => h w (List.mem_cons_of_mem _ hw)]
    split
    · have : x ≠ n := by rintro rfl; exact h v List.mem_cons_self
      simp [this]
    · rfl
theorem bindC_out {kindOf : Str → Option NameKind} {x : Str} : ∀ {binds : List (Str × Value)} {m : Str → Option Value}, (∀ v, (x, v) ∉ binds) → bindC kindOf binds m x = m x
  | [], _, _ => rfl
  | (n, v) :: r, m, h => by
    unfold bindC
    rw [bindC_out fun w hw => h w (List.mem_cons_of_mem _ hw)]
    split
    · rfl
    · have : x ≠ n := by rintro rfl; exact h v List.mem_cons_self
      simp [this]
theorem bindL_get {kindOf : Str → Option NameKind} {x : Str} {v : Value} : ∀ {P : List Str} {vs : List Value} {i : Nat} {m : Str → Option Value}, P.Nodup → P[i]? = some x → vs[i]? = some v → kindOf x = some .local →
    bindL kindOf (P.zip vs) m x = some v
  | [], _, _, _, _, h, _, _ => by simp at h
  | _ :: _, [], _, _, _, _, h, _ => by simp at h
  | p :: P, w :: vs, 0, m, nd, h1, h2, hk => by
    simp at h1 h2; subst h1; subst h2
    show bindL kindOf ((p, w) :: P.zip vs) m p = _
    unfold bindL
    rw [bindL_out fun v hv => (List.nodup_cons.mp nd).1 (List.of_mem_zip hv).1, if_pos hk]
    simp
  | p :: P, w :: vs, i + 1, m, nd, h1, h2, hk => by
    show bindL kindOf ((p, w) :: P.zip vs) m x = _
    unfold bindL
    exact bindL_get (i := i) (List.nodup_cons.mp nd).2 (by simpa using h1) (by simpa using h2) hk
theorem bindC_get {kindOf : Str → Option NameKind} {x : Str} {v : Value} : ∀ {P : List Str} {vs : List Value} {i : Nat} {m : Str → Option Value}, P.Nodup → P[i]? = some x → vs[i]? = some v → kindOf x ≠ some .local →
    bindC kindOf (P.zip vs) m x = some v
  | [], _, _, _, _, h, _, _ => by simp at h
  | _ :: _, [], _, _, _, _, h, _ => by simp at h
  | p :: P, w :: vs, 0, m, nd, h1, h2, hk => by
    simp at h1 h2; subst h1; subst h2
    show bindC kindOf ((p, w) :: P.zip vs) m p = _
    unfold bindC
    rw [bindC_out fun v hv => (List.nodup_cons.mp nd).1 (List.of_mem_zip hv).1, if_neg hk]
    simp
  | p :: P, w :: vs, i + 1, m, nd, h1, h2, hk => by
    show bindC kindOf ((p, w) :: P.zip vs) m x = _
    unfold bindC
    exact bindC_get (i := i) (List.nodup_cons.mp nd).2 (by simpa using h1) (by simpa using h2) hk
/-- the names' values at the entry -/
def start (N : List Str) (vs : List V) : St := vs.map some ++ List.replicate (N.length - vs.length) none
/-- the context of a def's body, at its entry; an exception leaves the frame, then lies as CX says -/
def cxOf (CX : CXT) (P : Program) (w : World) (K : PySem.W.Frag) (mg : Str → Option Value) (base : Heap) (N : List Str) (qual : Str) (scope : Scope) (f : Addr) (cd : Value) (A : Around) (outer : List Env) (s : Shared) (H : Hp) (E : XK) : Cx where
  prog := P
  w := w
  K := K
  mg := mg
  base := base
  A := A.deeper (envOfC qual scope s.heap.objs.size f cd)
  N := N
  s_0 := s
  H_0 := H
  env := envOfC qual scope s.heap.objs.size f cd
  outer := outer
  stack := envOfC qual scope s.heap.objs.size f cd :: outer
  ex := []
  calm := true
  fn := fun _ => true
  pn := []
  xe := fun e s' => wpAny (model P w) (A.deeper (envOfC qual scope s.heap.objs.size f cd)) (leaving (envOfC qual scope s.heap.objs.size f cd) e) (fun _ s'' => CX outer H s E e s'') (fun e' s'' => CX outer H s E e' s'') s'
theorem cell_has {sc : Scope} {n : Nat} {x : Str} (h : sc.names.lookup x = some .cell) : ∃ c, (cellsFrom n sc.names []).lookup x = some c := by
  have q := PySem.W.cellsFrom_some sc.names n [] (.inl h)
  exact Option.isSome_iff_exists.mp q
theorem inv_start {CX : CXT} {P : Program} {w : World} {K : PySem.W.Frag} {mg : Str → Option Value} {base : Heap} {N ps : List Str} {qual : Str} {scope : Scope} {f : Addr} {cd : Value} {A : Around} {outer : List Env} {s s1 : Shared} {H : Hp} {E : XK} {us : List Value} {vs : List V}
    (S : FnScope N ps scope) (hd : A.handled = none) (e0 : Env0 P w K mg base A outer s H) (hl : vs.length = ps.length) (r : Vals vs us)
    (x : InCallC s s.heap.objs.size (bindL (envOfC qual scope s.heap.objs.size f cd).kindOf (ps.zip us) fun _ => none) (cellsFrom (s.heap.objs.size + 1) scope.names []) (bindC (envOfC qual scope s.heap.objs.size f cd).kindOf (ps.zip us) fun _ => none) s1) :
    Inv (cxOf CX P w K mg base N qual scope f cd A outer s H E) [] (start N vs) H s1 := by
  have hpl : ps.length ≤ N.length := by have := congrArg List.length S.pre; rw [List.length_take] at this; omega
  obtain ⟨h1, tk, rfl, hk⟩ := x.done
  have noA : ∀ b : Addr, b ∉ (cxOf CX P w K mg base N qual scope f cd A outer s H E).ex := fun b z => absurd (show b ∈ ([] : List Addr) from z) (by simp)
  refine ⟨⟨e0.mod, S.kind, rfl, rfl, Nat.le_refl _, fun y z c h1 h2 => ?_, fun y hy => ?_, fun y c _ h => ?_, fun _ => hd, Around.frames_deeper e0.frames, .inr ⟨rfl, rfl⟩, fun b z => absurd z (noA b), e0.bs, e0.bsz, fun b _ _ => noA b, fun b z => absurd z (noA b), e0.funs, e0.frf⟩,
    rfl, e0.bare, Un.kept hk, ⟨_, x.toInCall.ns, fun i y v h1 h2 h3 => ?_⟩, fun y c h => ⟨_, x.cell y c h⟩, e0.hok.fresh (Nat.le_refl _), fun y c h => ?_, fun p hp => absurd (show p ∈ ([] : List (Addr × Obj)) from hp) (by simp), e0.hok.kept hk, ?_⟩
  · exact name_of_addr x.apart (PySem.mem_of_lookup h1) (PySem.mem_of_lookup h2)
  · have hy : scope.names.lookup y = some .cell ∨ scope.names.lookup y = some .free := hy
    rcases hy with hy | hy
    · exact cell_has hy
    · exact absurd rfl (S.nofree _ (PySem.mem_of_lookup hy))
  · exact Nat.le_of_lt (x.above y c (PySem.mem_of_lookup h))
  · have hi : i < vs.length := by
      unfold start at h2
      by_cases hi : i < vs.length
      · exact hi
      · rw [List.getElem?_append_right (by simpa using hi)] at h2
        rw [List.getElem?_replicate] at h2
        split at h2 <;> cases h2
    have ha : vs[i]? = some v := by
      unfold start at h2
      rw [List.getElem?_append_left (by simpa using hi), List.getElem?_map] at h2
      cases e : vs[i]? with
      | none => rw [e] at h2; cases h2
      | some a => rw [e] at h2; cases h2; rfl
    obtain ⟨u, hu, rv⟩ := r.get ha
    have hp : ps[i]? = some y := by
      rw [← S.pre, List.getElem?_take_of_lt (by omega)]; exact h1
    have ndP : ps.Nodup := by rw [← S.pre]; exact S.nd.sublist (List.take_sublist _ _)
    refine ⟨u, rv, ?_⟩
    rcases S.par y (List.mem_of_getElem? hp) with k | k
    · exact .inl ⟨k, bindL_get ndP hp hu k⟩
    · obtain ⟨c, e⟩ := cell_has (n := s.heap.objs.size + 1) k
      refine .inr ⟨.inl k, c, e, ?_⟩
      have q := x.cell y c e
      rw [bindC_get ndP hp hu (by show scope.names.lookup y ≠ _; rw [k]; decide)] at q
      exact q
  · exact e0.hok.fresh (Nat.le_of_lt (x.above y c (PySem.mem_of_lookup h)))
  · unfold start
    show _ = N.length
    rw [List.length_append, List.length_map, List.length_replicate]
    omega
/-- THE RULE: a def (or a method) of the text, by its body. The body's reading t is chosen for each entry; it is run at the parameters' values -/
theorem fn_of {CX : CXT} {P : Program} {w : World} {K : PySem.W.Frag} {mg : Str → Option Value} {base : Heap} {k : Nat} {f : Addr} {name qual : Str} {params : Arguments} {body : List Stmt} {scope : Scope} {dV kV doc pm cdv ct oc : Value} {an od : Option Addr}
    {osl : Array (Option Value)} {N ps : List Str} {sp : Sp} (lk : K.lookup f = some ⟨oc, od, .func (PySem.W.fnOf name qual params body scope dV kV doc pm an cdv ct), osl⟩) (hcd : PySem.W.codeIn K cdv qual = true) (S : FnScope N ps scope)
    (len : ∀ vs H Q E, sp vs H Q E → vs.length = ps.length)
    (hbody : ∀ (A : Around) (outer : List Env) (s : Shared) (H : Hp) (vs : List V) (Q : VK) (E : XK), Room k (A.deeper (envOfC qual scope s.heap.objs.size f cdv)) → sp vs H Q E →
      ∃ t, PSs (cxOf CX P w K mg base N qual scope f cdv A outer s H E) body t ∧ t { nx := fun _ H' => Q .non H', rt := Q } (start N vs) H) :
    FnOk P w K mg base CX (k + 1) f (PySem.W.fnOf name qual params body scope dV kV doc pm an cdv ct) ps sp := by
  refine ⟨len, fun A outer s H args us vs Q E hr e0 hb r hsp => ?_⟩
  have hl := len _ _ _ _ hsp
  have KX : K.In s.heap := e0.mod.kin.keeps fun b o e => (e0.bs b o e).1
  have lim : s.heap.NoLimit := e0.mod.nolimit.keeps fun b o e => (e0.bs b o e).1
  have hkind : ∀ y ∈ ps.zip us, scope.names.lookup y.1 = some .local ∨ (scope.names.lookup y.1 = some .cell ∧ ((cellsFrom (s.heap.objs.size + 1) scope.names []).lookup y.1).isSome = true) := fun ⟨n, v⟩ hy => by
    rcases S.par n (List.of_mem_zip hy).1 with q | q
    · exact .inl q
    · exact .inr ⟨q, PySem.W.cellsFrom_some _ _ _ (.inl q)⟩
  refine codeAny_call_function hr.depth (KX _ _ lk) rfl S.co S.gen rfl (PySem.W.codeRec_of KX hcd) (hb _ _ _ _ ?_)
  refine wpAny_newFunctionEnv_cells S.kind hkind fun env he s1 x => ?_
  subst he
  refine ⟨lim.keeps x.toInCall.keep, codeAny_func ?_⟩
  obtain ⟨t, ht, hq⟩ := hbody A outer s H vs Q E (hr.deeper _) hsp
  have I : Inv (cxOf CX P w K mg base N qual scope f cdv A outer s H E) [] (start N vs) H s1 := inv_start S hr.hd e0 hl r x
  refine wpAny_mono (ht [] s1 (start N vs) H _ I hq) (fun fl s' hs => ?_) fun e s' hs => hs
  have fin : ∀ {σ' : St} {H' : Hp} {v : V} {u : Value}, Inv (cxOf CX P w K mg base N qual scope f cdv A outer s H E) [] σ' H' s' → RelV v u → Q v H' → CE outer P w H s Q u s' :=
    fun {σ' H' v u} J rv q => ⟨v, H', J.os, J.bare, J.base, J.hok, rv, q⟩
  cases fl with
  | ret u =>
    obtain ⟨v, σ', H', J, rv, q⟩ := hs
    exact fin J rv q
  | next =>
    obtain ⟨σ', H', J, q⟩ := hs
    exact fin (v := V.non) (u := Value.none) J rfl q
  | brk =>
    obtain ⟨_, _, _, q⟩ := hs
    exact False.elim q
  | cont =>
    obtain ⟨_, _, _, q⟩ := hs
    exact False.elim q
end L2
namespace L2
open PySem PySem.Spec PyProof.Rows
section
variable {X : Cx} {x : Str} {p pos : Pos} {e : Expr} {es : List Expr} {t : TA} {id T : String} {r : List V → Hp → VK → Prop}
def tCB (r : List V → Hp → VK → Prop) (t : TA) : TE := fun σ H Q => t σ H fun vs H1 => r vs H1 Q
/-- f(e, ..), f a built-in function -/
theorem pe_callB (hc : CallR X (.builtin id) r) (hg : Gl X x) (hm : X.mg x = none) (hv : bootBuiltins x = some (.builtin id)) (ha : PA X (e :: es) t) (hn : x ≠ "__name__" := by decide) (hdb : (x == ("__debug__" : Str)) = false := by decide)
    (he : starEach (e :: es) X.env = (false, eval e X.env) :: starEach es X.env := by rfl) (hpl : (backTo pos (starEach es X.env)).any (·.1) = false := by rfl) : PE X (.Call (.Name x p) (e :: es) [] pos) (tCB r t) := by
  intro pins s σ H Q I h
  refine wpAny_Call_Name_kw (ld_blt I hg hm hv ?_ hn hdb)
  exact PyProof.Rows.callWith_builtin1 (thn (ha pos pins s σ H _ I h) fun us s1 ⟨vs, H1, I1, r1, q1⟩ => hc pins s1 σ H1 vs us Q I1 r1 q1) he hpl
/-- T(e, ..), T a built-in type -/
theorem pe_callTy (hc : CallR X (.type T) r) (hg : Gl X x) (hm : X.mg x = none) (hv : bootBuiltins x = some (.type T)) (ha : PA X (e :: es) t) (hn : x ≠ "__name__" := by decide) (hdb : (x == ("__debug__" : Str)) = false := by decide)
    (he : starEach (e :: es) X.env = (false, eval e X.env) :: starEach es X.env := by rfl) (hpl : (backTo pos (starEach es X.env)).any (·.1) = false := by rfl) : PE X (.Call (.Name x p) (e :: es) [] pos) (tCB r t) := by
  intro pins s σ H Q I h
  refine wpAny_Call_Name_kw (ld_blt I hg hm hv ?_ hn hdb)
  exact PyProof.Rows.callWith_type1 (thn (ha pos pins s σ H _ I h) fun us s1 ⟨vs, H1, I1, r1, q1⟩ => hc pins s1 σ H1 vs us Q I1 r1 q1) he hpl
end
end L2
namespace HT
open PySem PyProof.Rows
section
open PySem.SeqAt
open PySem.AutoSeq1 (wpAny_loadPart')
open PySem.MeetsSeq PySem.MeetsSeq2 PySem.MeetsSeq3
end
section
variable {prog : Program} {w : World} {A : Around} {E : Value → Shared → Prop} {s : Shared}
/-! ### t[a:b], not the whole -/
/-- a slice's bound as a place among n (d where it is left out) -/
def sIx (n d : Nat) : Option Int → Nat
  | none => d
  | some v => if v < 0 then (v + (n : Int)).toNat else min v.toNat n
end
end HT
namespace L2
open PySem PySem.Spec PyProof.Rows
/-! ### the parts of a slice -/
section
variable {X : Cx} {e : Expr} {te : TE} {lo hi : Option Expr} {tl th : TO} {pos p2 : Pos}
/-- what a slice of a value is, by values: the slice object stands at sl -/
def SlR (X : Cx) (r : V → Option Int → Option Int → Hp → VK → Prop) : Prop :=
  ∀ (pins : List (Addr × Obj)) (s : Shared) (σ : St) (H : Hp) (x : V) (v vl vu : Value) (lo hi : Option Int) (sl : Addr) (Q : VK), Inv X pins σ H s → RelV x v → s.heap.IsSliceOf sl vl vu .none → IsPart vl lo → IsPart vu hi → r x lo hi H Q →
    ∃ T id, typeLookup (.type T) "__getitem__" = pure (some (.builtin id)) ∧ s.TypeIs v T ∧ wpAny (model X.prog X.w) X.A (getItem v (.ref sl)) (EP X pins σ Q) X.xe s
/-- the items of xs[lo:hi] -/
def cutV (xs : List V) (lo hi : Option Int) : List V := (xs.drop (HT.sIx xs.length 0 lo)).take (HT.sIx xs.length xs.length hi - HT.sIx xs.length 0 lo)
theorem cutV_length (xs : List V) (lo hi : Option Int) : (cutV xs lo hi).length ≤ xs.length := by
  unfold cutV
  rw [List.length_take, List.length_drop]
  omega
/-! ### t < u, t + u -/
end
end L2
namespace L2
open PySem PySem.Spec PyProof.Rows
/-! ### places -/
/-- the place that an index of any sign means -/
def ixN (n : Nat) (i : Int) : Option Nat := if 0 ≤ i then (if i < n then some i.toNat else none) else if -(n : Int) ≤ i then some (i + n).toNat else none
def atI {α : Type} (xs : List α) (i : Int) : Option α := (ixN xs.length i).bind fun j => xs[j]?
theorem ixN_seq {n : Nat} {i : Int} {j : Nat} (h : ixN n i = some j) : seqIndex? i n = some j ∧ j < n ∧ -(n : Int) ≤ i ∧ i < n := by
  unfold ixN at h
  by_cases h0 : 0 ≤ i
  · rw [if_pos h0] at h
    by_cases h1 : i < n
    · rw [if_pos h1] at h
      have e : i.toNat = j := Option.some.inj h
      exact ⟨by rw [seqIndex_of h0 h1, e], by omega, by omega, h1⟩
    · rw [if_neg h1] at h; cases h
  · rw [if_neg h0] at h
    by_cases h1 : -(n : Int) ≤ i
    · rw [if_pos h1] at h
      have e : (i + n).toNat = j := Option.some.inj h
      exact ⟨by rw [seqIndex_neg (by omega) h1, e], by omega, h1, by omega⟩
    · rw [if_neg h1] at h; cases h
theorem atI_get {α : Type} {xs : List α} {i : Int} {v : α} (h : atI xs i = some v) : ∃ j, seqIndex? i xs.length = some j ∧ xs[j]? = some v ∧ j < xs.length ∧ -(xs.length : Int) ≤ i ∧ i < xs.length := by
  unfold atI at h
  cases e : ixN xs.length i with
  | none => rw [e] at h; cases h
  | some j =>
    rw [e] at h
    obtain ⟨h1, h2, h3, h4⟩ := ixN_seq e
    exact ⟨j, h1, h, h2, h3, h4⟩
theorem atI_nat {α : Type} {xs : List α} {j : Nat} {v : α} (h : xs[j]? = some v) : atI xs (j : Int) = some v := by
  have hj : j < xs.length := (List.getElem?_eq_some_iff.mp h).1
  have e : ixN xs.length (j : Int) = some j := by
    unfold ixN
    rw [if_pos (by omega), if_pos (by omega)]; simp
  unfold atI; rw [e]; exact h
theorem atI_last {α : Type} (xs : List α) (v : α) : atI (xs ++ [v]) (-1) = some v := by
  have hl : (xs ++ [v]).length = xs.length + 1 := by simp
  have e : ixN (xs ++ [v]).length (-1) = some xs.length := by
    unfold ixN
    rw [hl, if_neg (by decide), if_pos (by omega)]
    congr 1
    omega
  unfold atI
  rw [e]
  show (xs ++ [v])[xs.length]? = some v
  simp
/-! ### what may be subscripted -/
/-- what stands as an index of a plain subscript -/
def PlainIx (b : Expr) : Prop := ∀ o i, subscripted b false o i = operate [o, i] (getItem o i)
/-- a subscript by values -/
def IxR (X : Cx) (r : R2) : Prop :=
  ∀ (value slice : Expr) (pins : List (Addr × Obj)) (s : Shared) (σ : St) (H : Hp) (x y : V) (v u : Value) (Q : VK), Inv X pins σ H s → RelV x v → RelV y u → r x y H Q →
    subscripted slice false v u = operate [v, u] (getItem v u) → wpAny (model X.prog X.w) X.A (subscriptTail value slice v u) (EP X pins σ Q) X.xe s
/-- a call of a builtin's method by values: the receiver, the arguments -/
def MtR (X : Cx) (id : String) (r : V → List V → Hp → VK → Prop) : Prop :=
  ∀ (pins : List (Addr × Obj)) (s : Shared) (σ : St) (H : Hp) (x : V) (xs : List V) (v : Value) (us : List Value) (Q : VK), Inv X pins σ H s → RelV x v → Vals xs us → r x xs H Q →
    wpAny (model X.prog X.w) X.A (call (.builtin id) (v :: us)) (EP X pins σ Q) X.xe s
section
variable {X : Cx} {a b : Expr} {ta tb : TE} {pos : Pos}
/-- a[b] -/
theorem pe_ix {r : R2} (hr : IxR X r) (ha : PE X a ta) (hb : PE X b tb) (hs : PlainIx b) : PE X (.Subscript a b pos) (tOp r ta tb) := by
  intro pins s σ H Q I h
  exact Subscript_ (binT ha hb I h fun v u s2 x y H2 I2 rx ry q => hr a b pins s2 σ H2 x y v u Q I2 rx ry q (hs _ _))
def rIxL (K : PySem.W.Frag) : R2 := fun x y H Q => ∃ p xs i v, x = .ref p ∧ y = .int i ∧ SqL K H p xs ∧ atI xs i = some v ∧ Q v H
def rIxT (K : PySem.W.Frag) : R2 := fun x y H Q => ∃ p xs i v, x = .ref p ∧ y = .int i ∧ SqT K H p xs ∧ atI xs i = some v ∧ Q v H
theorem ix_list : IxR X (rIxL X.K) := by
  intro value slice pins s σ H x y v u Q I rx ry h hs
  obtain ⟨p, xs, i, z, rfl, rfl, hq, he, q⟩ := h
  cases rx
  obtain ⟨t, rfl⟩ := ry
  obtain ⟨its, r, pl, hz⟩ := I.list hq
  obtain ⟨j, h1, h2, h3, h4, h5⟩ := atI_get he
  obtain ⟨w, ew, rw'⟩ := r.get h2
  have hl := r.length
  have hn := line63
  have fin : EP X pins σ Q w s := ⟨z, H, I, rw', q⟩
  by_cases h0 : 0 ≤ i
  · have hj : i.toNat = j := by
      rw [seqIndex_of h0 h5] at h1
      exact Option.some.inj h1
    exact item_listR pl.isList h0 (by omega) (by rw [hj]; simpa using ew) fin hs
  · have hj : (i + (its.toArray.size : Int)).toNat = j := by
      rw [seqIndex_neg (by omega) h4] at h1
      rw [List.size_toArray, ← hl]
      exact Option.some.inj h1
    exact subscriptTail_builtinR (x := w) pl.isList.typeIs slot_list_getitem.lookup
      (wpAny_getItem_list_neg (Q := fun r s' => r = w ∧ EP X pins σ Q r s') pl.isList (by omega) (by rw [List.size_toArray] <;> omega) (by omega) (by rw [hj]; simpa using ew) ⟨rfl, fin⟩) hs
theorem ix_tup : IxR X (rIxT X.K) := by
  intro value slice pins s σ H x y v u Q I rx ry h hs
  obtain ⟨p, xs, i, z, rfl, rfl, hq, he, q⟩ := h
  cases rx
  obtain ⟨t, rfl⟩ := ry
  obtain ⟨its, r, pl, hz⟩ := I.tuple hq
  obtain ⟨j, h1, h2, h3, h4, h5⟩ := atI_get he
  obtain ⟨w, ew, rw'⟩ := r.get h2
  have hl := r.length
  have hn := line63
  have fin : EP X pins σ Q w s := ⟨z, H, I, rw', q⟩
  exact subscriptTail_builtinR (x := w) pl.typeIs slot_tuple_getitem.lookup
    (getItem_tuple (j := j) (Q := fun r s' => r = w ∧ EP X pins σ Q r s') pl (by omega) (by omega) (by rw [List.size_toArray, ← hl]; exact h1) (by simpa using ew) ⟨rfl, fin⟩) hs
/-! ### xs[i] = v, any sign -/
/-- the list's object behind a store -/
theorem mapSeq_set (its : List Value) (n j : Nat) (u : Value) : Obj.mapSeq (·.setIfInBounds j u) { cls := .type "list", data := .seq its.toArray n } = { cls := .type "list", data := .seq (its.set j u).toArray n } := by
  simp [Obj.mapSeq]
theorem Inv.lst {pins : List (Addr × Obj)} {σ : St} {H : Hp} {s : Shared} {p : Addr} {xs : List V} (I : Inv X pins σ H s) (h : H p = some (.lst xs)) :
    ∃ (its : List Value) (n : Nat), Vals xs its ∧ s.heap.get? p = some { cls := .type "list", data := .seq its.toArray n } ∧ xs.length ≤ sizeLine := by
  obtain ⟨z, its, n, r, e⟩ := I.hok p _ h
  exact ⟨its, n, r, e, z⟩
/-- the list at p is written by an update of its object -/
theorem Inv.lstUpd {pins : List (Addr × Obj)} {σ : St} {H : Hp} {s : Shared} {p : Addr} {xs ys : List V} {its its' : List Value} {n n' : Nat} {f : Obj → Obj} (I : Inv X pins σ H s) (h : H p = some (.lst xs))
    (ho : s.heap.get? p = some { cls := .type "list", data := .seq its.toArray n }) (hf : f { cls := .type "list", data := .seq its.toArray n } = { cls := .type "list", data := .seq its'.toArray n' }) (r : Vals ys its') (hz : ys.length ≤ sizeLine) (t : Nat) :
    Inv X pins σ (upd H p (.lst ys)) { s with heap := s.heap.update p f, toks := t } := by
  have e : (s.heap.update p f).get? p = some { cls := .type "list", data := .seq its'.toArray n' } := by
    rw [Heap.get?_update_self f ho (by rw [hf] <;> rfl), hf]
  refine I.write (x := p) (e := p) (by rw [h]; trivial) (.inl rfl) (fun b u hb q => (Heap.get?_update_other _ _ (Ne.symm hb)).trans q) ⟨_, e⟩ ?_
  exact ⟨hz, its', n', r, e⟩
def rSetL : V → V → V → Hp → (Hp → Prop) → Prop := fun o i v H Q => ∃ p xs k j, o = .ref p ∧ i = .int k ∧ H p = some (.lst xs) ∧ ixN xs.length k = some j ∧ Q (upd H p (.lst (xs.set j v)))
theorem set_list : PSet X rSetL := by
  intro pins s σ H o i v ov iv u Q I ro ri rv h
  obtain ⟨p, xs, k, j, rfl, rfl, hp, hj, q⟩ := h
  cases ro
  obtain ⟨t, rfl⟩ := ri
  obtain ⟨its, n, r, ho, hz⟩ := I.lst hp
  obtain ⟨h1, h2, h3, h4⟩ := ixN_seq hj
  have hl := r.length
  have hn := line63
  have I' : Inv X pins σ (upd H p (.lst (xs.set j v))) { s with heap := s.heap.update p (Obj.mapSeq (·.setIfInBounds j u)) } :=
    I.lstUpd hp ho (mapSeq_set its n j u) (r.set rv j) (by rw [List.length_set]; exact hz) s.toks
  by_cases h0 : 0 ≤ k
  · have hk : k.toNat = j := by
      rw [seqIndex_of h0 h4] at h1
      exact Option.some.inj h1
    exact PySem.W.ki_setAt ho h0 (by omega) (by rw [List.size_toArray, ← hl]; exact h4) (by rw [hk]; exact ⟨_, I', q⟩)
  · have hk : (k + (its.toArray.size : Int)).toNat = j := by
      rw [seqIndex_neg (by omega) h3] at h1
      rw [List.size_toArray, ← hl]
      exact Option.some.inj h1
    exact PySem.W.ki_setBack ho (by omega) (by rw [List.size_toArray, ← hl]; exact h3) (by omega) (by rw [hk]; exact ⟨_, I', q⟩)
/-! ### slices -/
theorem slice_bounds (lo hi : Option Int) (n : Nat) : (sliceBounds lo hi none n).1 = ((HT.sIx n 0 lo : Nat) : Int) ∧ (sliceBounds lo hi none n).2.1 = ((HT.sIx n n hi : Nat) : Int) ∧ (sliceBounds lo hi none n).2.2 = 1 := by
  refine ⟨?_, ?_, rfl⟩
  · cases lo with
    | none => simp [sliceBounds, HT.sIx]
    | some i =>
      simp only [sliceBounds, HT.sIx, Option.getD_none, show (1 : Int) > 0 by decide, if_true]
      by_cases h : i < 0
      · simp only [h, if_true] <;> omega
      · simp only [h, if_false] <;> omega
  · cases hi with
    | none => simp [sliceBounds, HT.sIx]
    | some i =>
      simp only [sliceBounds, HT.sIx, Option.getD_none, show (1 : Int) > 0 by decide, if_true]
      by_cases h : i < 0
      · simp only [h, if_true] <;> omega
      · simp only [h, if_false] <;> omega
theorem slicePick_cut (its : List Value) (lo hi : Option Int) : slicePick its.toArray lo hi none = ((its.drop (HT.sIx its.length 0 lo)).take (HT.sIx its.length its.length hi - HT.sIx its.length 0 lo)).toArray := by
  obtain ⟨h1, h2, h3⟩ := slice_bounds lo hi its.toArray.size
  unfold slicePick
  rw [h1, h2, h3]
  simp only [sliceRange_one, pick_run, List.size_toArray] <;> rfl
/-- xs[lo:hi] of a list: a new list -/
def rSlL (K : PySem.W.Frag) : V → Option Int → Option Int → Hp → VK → Prop := fun x lo hi H Q => ∃ a xs, x = .ref a ∧ SqL K H a xs ∧ ∀ p, H p = none → Q (.ref p) (upd H p (.lst (cutV xs lo hi)))
theorem sl_list : SlR X (rSlL X.K) := by
  intro pins s σ H x v vl vu lo hi sl Q I rx hs pl pu h
  obtain ⟨a, xs, rfl, hx, q⟩ := h
  cases rx
  obtain ⟨its, r, ht, hz⟩ := I.list hx
  have hlen := r.length
  refine ⟨"list", _, slot_list_getitem.lookup, ht.isList.typeIs, ?_⟩
  refine wpAny_getItem_list_slice ht.isList hs pl pu .none (by simp) ?_ (by rw [List.size_toArray] <;> omega)
  rw [slicePick_cut, ← hlen]
  refine ⟨.ref s.heap.objs.size, _, I.laid (t' := s.toks) (o := .lst (cutV xs lo hi)) (fun b ob q => Heap.get?_push_of_some _ q) (Nat.le_refl _) ?_, rfl, q _ (I.hok.fresh (Nat.le_refl _))⟩
  exact ⟨Nat.le_trans (cutV_length xs lo hi) hz, _, 0, (r.drop (HT.sIx xs.length 0 lo)).take (HT.sIx xs.length xs.length hi - HT.sIx xs.length 0 lo), Heap.get?_push_size _ rfl⟩
/-! ### in, not in: flat items -/
/-! ### len, list(x), tuple(x) of any list or tuple that is read -/
theorem call_len_seq : CallR X (.builtin "len") (fun xs H Q => ∃ p ys, xs = [.ref p] ∧ (SqL X.K H p ys ∨ SqT X.K H p ys) ∧ Q (.int ys.length) H) := by
  intro pins s σ H xs us Q I r h
  obtain ⟨p, ys, rfl, hq, q⟩ := h
  obtain ⟨u, rfl, rx⟩ := vals1 r
  cases rx
  have hn := line63
  rcases hq with hq | hq
  · obtain ⟨its, r', pl, hz⟩ := I.list hq
    have hlen := r'.length
    exact Calls.call_len_list pl.isList (by simp only [List.size_toArray] <;> omega) ⟨.int ys.length, H, I.tok _, ⟨s.toks + 1, by rw [List.size_toArray, hlen]⟩, q⟩
  · obtain ⟨its, r', pl, hz⟩ := I.tuple hq
    have hlen := r'.length
    exact len_tuple pl (by simp only [List.size_toArray] <;> omega) ⟨.int ys.length, H, I.tok _, ⟨s.toks + 1, by rw [List.size_toArray, hlen]⟩, q⟩
theorem call_list_of : CallR X (.type "list") (fun xs H Q => ∃ p ys, xs = [.ref p] ∧ (SqL X.K H p ys ∨ SqT X.K H p ys) ∧ ∀ l, H l = none → Q (.ref l) (upd H l (.lst ys))) := by
  intro pins s σ H xs us Q I r h
  obtain ⟨p, ys, rfl, hq, q⟩ := h
  obtain ⟨u, rfl, rx⟩ := vals1 r
  cases rx
  have fin : ∀ (its : List Value), Vals ys its → ys.length ≤ sizeLine → ∀ (h' : Heap) (c' : Nat), (∀ b o', s.heap.get? b = some o' → h'.get? b = some o') →
      h'.get? s.heap.objs.size = some { cls := .type "list", dict := none, data := .seq its.toArray c', slots := #[] } → EP X pins σ Q (.ref s.heap.objs.size) { s with heap := h' } := fun its r' hz h' c' kp e =>
    ⟨.ref s.heap.objs.size, _, I.laid (t' := s.toks) kp (Nat.le_refl _) (show ObjOk X.prog X.w _ h' _ (.lst ys) from ⟨hz, its, c', r', e⟩), rfl, q _ (I.hok.fresh (Nat.le_refl _))⟩
  rcases hq with hq | hq
  · obtain ⟨its, r', pl, hz⟩ := I.list hq
    have hlen := r'.length
    obtain ⟨o, ho, hc, n, hd⟩ := pl.isList
    exact call_list_seq p (.inl rfl) ho hc hd (fun h' c' kp e => fin its r' hz h' c' kp e) (by simp only [List.size_toArray] <;> omega)
  · obtain ⟨its, r', pl, hz⟩ := I.tuple hq
    have hlen := r'.length
    obtain ⟨o, ho, hc, n, hd⟩ := pl
    exact call_list_seq p (.inr rfl) ho hc hd (fun h' c' kp e => fin its r' hz h' c' kp e) (by simp only [List.size_toArray] <;> omega)
theorem call_tuple_of : CallR X (.type "tuple") (fun xs H Q => ∃ p ys, xs = [.ref p] ∧ ((SqL X.K H p ys ∧ ∀ l, H l = none → Q (.ref l) (upd H l (.tup ys))) ∨ (SqT X.K H p ys ∧ Q (.ref p) H))) := by
  intro pins s σ H xs us Q I r h
  obtain ⟨p, ys, rfl, h⟩ := h
  obtain ⟨u, rfl, rx⟩ := vals1 r
  cases rx
  rcases h with ⟨hq, q⟩ | ⟨hq, q⟩
  · obtain ⟨its, r', pl, hz⟩ := I.list hq
    have hlen := r'.length
    refine call_tuple_list pl.isList (fun h' kp => ?_) (by simp only [List.size_toArray] <;> omega)
    have I1 : Inv X pins σ H { s with heap := h' } := I.kept (t' := s.toks) kp
    have I2 : Inv X pins σ (upd H h'.objs.size (.tup ys)) { s with heap := h'.push { cls := .type "tuple", data := .seq its.toArray } } :=
      I1.laid (t' := s.toks) (fun b o e => Heap.get?_push_of_some _ e) (Nat.le_refl _) (show ObjOk X.prog X.w _ _ _ (.tup ys) from ⟨hz, its, r', IsTup.new _ _⟩)
    exact ⟨.ref h'.objs.size, _, I2, rfl, q _ (I1.hok.fresh (Nat.le_refl _))⟩
  · obtain ⟨its, r', pl, hz⟩ := I.tuple hq
    exact call_tuple_same pl ⟨.ref p, H, I, rfl, q⟩
/-! ### the call of a builtin's method: o.m(..) -/
/-- the value is of that builtin type -/
def tyV (K : PySem.W.Frag) (T : String) (x : V) (H : Hp) : Prop := match x with
  | .str _ => T = "str"
  | .int _ => T = "int"
  | .ref p => (T = "list" ∧ ∃ xs, SqL K H p xs) ∨ (T = "tuple" ∧ ∃ o, K.lookup p = some o ∧ o.cls = .type "tuple" ∧ o.dict = none) ∨
      (T = "dict" ∧ ((∃ kvs, H p = some (.dK kvs)) ∨ ∃ kvs, H p = some (.dT kvs))) ∨ (T = "set" ∧ ∃ S n, H p = some (.set S n))
  | _ => False
theorem tyV_is {pins : List (Addr × Obj)} {σ : St} {H : Hp} {s : Shared} {T : String} {x : V} {v : Value} (I : Inv X pins σ H s) (r : RelV x v) (ty : tyV X.K T x H) :
    s.TypeIs v T ∧ ∀ a, v = .ref a → ∃ ob, s.heap.get? a = some ob ∧ ob.dict = none := by
  cases x with
  | str z =>
    obtain ⟨t, rfl⟩ := r
    cases (show T = "str" from ty)
    exact ⟨typeIs_str s z t, fun _ e => nomatch e⟩
  | int i =>
    obtain ⟨t, rfl⟩ := r
    cases (show T = "int" from ty)
    exact ⟨typeIs_int s i t, fun _ e => nomatch e⟩
  | ref p =>
    cases r
    rcases ty with ⟨rfl, xs, hq⟩ | ⟨rfl, o, hk, hc, hd⟩ | ⟨rfl, hk⟩ | ⟨rfl, S, n, hk⟩
    · obtain ⟨its, _, pl, _⟩ := I.list hq
      refine ⟨pl.isList.typeIs, fun a e => ?_⟩
      cases e
      obtain ⟨o, n, e, c, hd, _⟩ := pl
      exact ⟨o, e, hd⟩
    · refine ⟨⟨o, I.kIn p o hk, hc⟩, fun a e => ?_⟩
      cases e
      exact ⟨o, I.kIn _ o hk, hd⟩
    · have z : ∃ o, s.heap.get? p = some o ∧ o.ExactDict := by
        rcases hk with ⟨kvs, hk⟩ | ⟨kvs, hk⟩
        · obtain ⟨_, _, _, _, o, _, _, e, ex, _⟩ := I.hok p _ hk
          exact ⟨o, e, ex⟩
        · obtain ⟨_, _, _, _, o, _, _, e, ex, _⟩ := I.hok p _ hk
          exact ⟨o, e, ex⟩
      obtain ⟨o, e, ex⟩ := z
      refine ⟨⟨o, e, ex.1⟩, fun a e2 => ?_⟩
      cases e2
      exact ⟨o, e, ex.2.1⟩
    · obtain ⟨o, _, _, _, e, ex, _⟩ := I.hok p _ hk
      refine ⟨⟨o, e, ex.1⟩, fun a e2 => ?_⟩
      cases e2
      exact ⟨o, e, ex.2.1⟩
  | _ => exact False.elim ty
def tBM0 (K : PySem.W.Frag) (T : String) (r : V → List V → Hp → VK → Prop) (to : TE) : TE := fun σ H Q => to σ H fun x H1 => tyV K T x H1 ∧ r x [] H1 Q
def tBM (K : PySem.W.Frag) (T : String) (r : V → List V → Hp → VK → Prop) (to : TE) (t : TA) : TE := fun σ H Q => to σ H fun x H1 => tyV K T x H1 ∧ t σ H1 fun xs H2 => r x xs H2 Q
variable {o e : Expr} {es : List Expr} {to : TE} {t : TA} {name : Str} {apos cpos : Pos} {T id : String} {r : V → List V → Hp → VK → Prop}
theorem pe_bm0 (pa : PlainAttrs T) (slot : Slot T name id) (hty : typeOf (.builtin id) = pure (.type "method_descriptor")) (hm : MtR X id r) (ho : PE X o to)
    (hbase : attributeBase o name X.env (eval o X.env) = eval o X.env := by rfl) (hline : (apos.endLine == cpos.line) = true := by rfl) : PE X (.Call (.Attribute o name apos) [] [] cpos) (tBM0 X.K T r to) := by
  intro pins s σ H Q I h
  refine wpAny_Call_method0_late hbase hline (thn (ho pins s σ H _ I h) fun v s1 ⟨x, H1, I1, r1, ty, q1⟩ => ?_)
  obtain ⟨h1, h2⟩ := tyV_is I1 r1 ty
  exact ⟨T, id, pa, slot, hty, h1, h2, Calls.callWith_builtin rfl (PySem.evalArgs_none (hm pins s1 σ H1 x [] v [] Q I1 r1 .nil q1))⟩
theorem pe_bm (pa : PlainAttrs T) (slot : Slot T name id) (hty : typeOf (.builtin id) = pure (.type "method_descriptor")) (hm : MtR X id r) (ho : PE X o to) (ha : PA X (e :: es) t)
    (hbase : attributeBase o name X.env (eval o X.env) = eval o X.env := by rfl)
    (hfew : ((backTo cpos (starEach (e :: es) X.env)).all (fun x => !x.1) && (backToKw cpos (keywordEach [] X.env)).all (fun x => x.1.isSome)
      && decide ((e :: es).length + ([] : List Keyword).length + (if ([] : List Keyword).isEmpty then 0 else 1) < 30)) = true := by rfl)
    (hline : (apos.endLine == cpos.line) = true := by rfl) (hs : starEach (e :: es) X.env = (false, eval e X.env) :: starEach es X.env := by rfl) (hplain : (backTo cpos (starEach es X.env)).any (·.1) = false := by rfl) :
    PE X (.Call (.Attribute o name apos) (e :: es) [] cpos) (tBM X.K T r to t) := by
  intro pins s σ H Q I h
  refine wpAny_Call_method_late hbase hfew hline rfl (thn (ho pins s σ H _ I h) fun v s1 ⟨x, H1, I1, r1, ty, q1⟩ => ?_)
  obtain ⟨h1, h2⟩ := tyV_is I1 r1 ty
  refine ⟨T, id, pa, slot, hty, h1, h2, ?_⟩
  have hA := ha cpos pins s1 σ H1 _ I1 q1
  rw [hs] at hA ⊢
  refine Calls.callWith_builtin (by show (false || (backTo cpos (starEach es X.env)).any (·.1)) = false; rw [hplain] <;> rfl) (Calls.evalArgs_plain ?_)
  exact thn hA fun us s2 ⟨vs, H2, I2, r2, q2⟩ => hm pins s2 σ H2 x vs v us Q I2 r1 r2 q2
/- xs.append(e), list.index on a module's tuple .. are MtR facts of 06m -/
end
end L2
namespace L2
open PySem PySem.Spec PyProof.Rows
def MtM (X : Cx) (id : String) (r : V → List V → Hp → VK → Prop) : Prop :=
  ∀ (pins : List (Addr × Obj)) (s : Shared) (σ : St) (H : Hp) (x : V) (xs : List V) (v : Value) (us : List Value) (Q : VK), Inv X pins σ H s → RelV x v → Vals xs us → r x xs H Q →
    wpAny (model X.prog X.w) X.A (call (.builtin id) (v :: us)) (EP X pins σ Q) X.xe s
/-! ### lists of values -/
theorem Vals.one : ∀ {x : V} {us : List Value}, Vals [x] us → ∃ u, us = [u] ∧ RelV x u
  | _, _, .cons r .nil => ⟨_, rfl, r⟩
theorem Vals.zero : ∀ {us : List Value}, Vals [] us → us = []
  | _, .nil => rfl
theorem Vals.dropLast {xs : List V} {us : List Value} (h : Vals xs us) : Vals xs.dropLast us.dropLast := by
  induction h with
  | nil => exact .nil
  | cons r t ih =>
    cases t with
    | nil => exact .nil
    | cons q t' => exact .cons r ih
theorem erase_last {α : Type} (l : List α) : l.eraseIdx (l.length - 1) = l.dropLast := by
  induction l with
  | nil => rfl
  | cons a r ih =>
    cases r with
    | nil => rfl
    | cons b r =>
      have e : (a :: b :: r).length - 1 = ((b :: r).length - 1) + 1 := by
        have h1 : (a :: b :: r).length = r.length + 2 := rfl
        have h2 : (b :: r).length = r.length + 1 := rfl
        omega
      rw [e, List.eraseIdx_cons_succ, ih]
      all_goals rfl
section
variable {X : Cx} {pins : List (Addr × Obj)} {σ : St} {H : Hp} {s : Shared} {l b : Addr} {xs ys zs : List V}
/-! ### the two steps: a tracked list is rewritten, a new list is laid -/
theorem Inv.lset {its its' : List Value} {n : Nat} {f : Array Value → Array Value} {t' : Nat} (I : Inv X pins σ H s) (hH : H l = some (.lst xs))
    (e : s.heap.get? l = some { cls := .type "list", data := .seq its.toArray n }) (hf : f its.toArray = its'.toArray) (hv : Vals ys its') (hz : ys.length ≤ sizeLine) :
    Inv X pins σ (upd H l (.lst ys)) { s with heap := s.heap.update l (Obj.mapSeq f), toks := t' } := by
  have q := PySem.IsL.update e f
  rw [hf] at q
  refine I.write (x := l) (e := l) (by rw [hH]; exact trivial) (.inl rfl) (fun b' u hb hu => (Heap.get?_update_other s.heap (Obj.mapSeq f) (Ne.symm hb)).trans hu) ⟨_, q⟩ ?_
  exact ⟨hz, its', _, hv, q⟩
theorem Inv.lnew {its : List Value} {t' : Nat} (I : Inv X pins σ H s) (hv : Vals ys its) (hz : ys.length ≤ sizeLine) :
    Inv X pins σ (upd H s.heap.objs.size (.lst ys)) { s with heap := s.heap.push { cls := .type "list", data := .seq its.toArray }, toks := t' } :=
  I.laid (fun _ _ q => Heap.get?_push_of_some _ q) (Nat.le_refl _) ⟨hz, its, 0, hv, Heap.get?_push_size _ rfl⟩
theorem Inv.fresh (I : Inv X pins σ H s) : H s.heap.objs.size = none := I.hok.fresh (Nat.le_refl _)
theorem Inv.lstM (I : Inv X pins σ H s) (hH : H l = some (.lst xs)) : xs.length ≤ sizeLine ∧ ∃ (its : List Value) (n : Nat), Vals xs its ∧ xs.length = its.length ∧ s.heap.get? l = some { cls := .type "list", data := .seq its.toArray n } := by
  obtain ⟨z, its, n, r, e⟩ := I.hok l _ hH
  exact ⟨z, its, n, r, r.length, e⟩
theorem notLongL {n : Nat} (h : n ≤ sizeLine) : Builtin.List.listTooLong n = false := by
  unfold Builtin.List.listTooLong
  exact decide_eq_false (by omega)
end
section
variable {X : Cx}
/-! ### methods -/
def rAppend : V → List V → Hp → VK → Prop := fun x vs H Q => ∃ l xs y, x = .ref l ∧ vs = [y] ∧ H l = some (.lst xs) ∧ xs.length < sizeLine ∧ Q .non (upd H l (.lst (xs ++ [y])))
theorem mt_append : MtM X "list.append" rAppend := by
  intro pins s σ H x vs v us Q I rx rv h
  obtain ⟨l, xs, y, rfl, rfl, hH, hz, q⟩ := h
  cases rx
  obtain ⟨u, rfl, ru⟩ := rv.one
  obtain ⟨z, its, n, r, hl, e⟩ := I.lstM hH
  refine call_meets F.slot_list_append ⟨_, e, rfl⟩ F.entry_list_append (F.args_list_append_2 _ _) (PySem.list_append l its.toArray n u (by rw [List.size_toArray]; omega)) ⟨e, ?_⟩
  refine ⟨.non, _, I.lset (its' := its ++ [u]) hH e (by simp) (r.append (.cons ru .nil)) ?_, rfl, q⟩
  rw [List.length_append, List.length_singleton]
  omega
def rExtend : V → List V → Hp → VK → Prop := fun x vs H Q => ∃ l b xs zs, x = .ref l ∧ vs = [.ref b] ∧ H l = some (.lst xs) ∧ H b = some (.lst zs) ∧ xs.length + zs.length ≤ sizeLine ∧ Q .non (upd H l (.lst (xs ++ zs)))
theorem mt_extend : MtM X "list.extend" rExtend := by
  intro pins s σ H x vs v us Q I rx rv h
  obtain ⟨l, b, xs, zs, rfl, rfl, hH, hB, hz, q⟩ := h
  cases rx
  obtain ⟨u, rfl, ru⟩ := rv.one
  cases ru
  obtain ⟨z, its, n, r, hl, e⟩ := I.lstM hH
  obtain ⟨z2, its2, n2, r2, hl2, e2⟩ := I.lstM hB
  have hsz : its.toArray.size + its2.toArray.size ≤ sizeLine := by rw [List.size_toArray, List.size_toArray]; omega
  have hlong : ¬ (!its.toArray.isEmpty && Builtin.List.listTooLong (its.toArray.size + its2.toArray.size)) = true := by
    rw [notLongL hsz, Bool.and_false]
    exact Bool.false_ne_true
  refine call_meets F.slot_list_extend ⟨_, e, rfl⟩ F.entry_list_extend (F.args_list_extend_2 _ _)
    (AutoSeq1.list_extend_list_list_0 l its.toArray n b its2.toArray n2 hlong (by rw [List.size_toArray]; omega) (by omega)) ⟨e, e2, ?_⟩
  refine ⟨.non, _, I.lset (its' := its ++ its2) hH e (by simp) (r.append r2) ?_, rfl, q⟩
  rw [List.length_append]
  omega
def rPop : V → List V → Hp → VK → Prop := fun x vs H Q => ∃ l xs y, x = .ref l ∧ vs = [] ∧ H l = some (.lst xs) ∧ xs[xs.length - 1]? = some y ∧ Q y (upd H l (.lst xs.dropLast))
theorem mt_pop : MtM X "list.pop" rPop := by
  intro pins s σ H x vs v us Q I rx rv h
  obtain ⟨l, xs, y, rfl, rfl, hH, hy, q⟩ := h
  cases rx
  have hus := rv.zero
  subst hus
  obtain ⟨z, its, n, r, hl, e⟩ := I.lstM hH
  obtain ⟨u, hu, ru⟩ := r.get hy
  have hy' : its.toArray[its.toArray.size - 1]? = some u := by
    show its.toArray[its.length - 1]? = some u
    rw [← Array.getElem?_toList, ← hl]
    exact hu
  refine call_meets F.slot_list_pop ⟨_, e, rfl⟩ F.entry_list_pop (F.args_list_pop_1 _) (MeetsSeq.list_pop_last l its.toArray n u hy' (by rw [List.size_toArray]; omega)) ⟨e, ?_⟩
  refine ⟨y, _, I.lset (its' := its.dropLast) hH e ?_ r.dropLast ?_, ru, q⟩
  · show its.toArray.eraseIdxIfInBounds (its.toArray.size - 1) = its.dropLast.toArray
    rw [List.size_toArray, List.eraseIdxIfInBounds_toArray, erase_last]
  · rw [List.length_dropLast]
    omega
/-! ### list + list, list += list, list * int -/
def rCat : R2 := fun x y H Q => ∃ l b xs zs, x = .ref l ∧ y = .ref b ∧ H l = some (.lst xs) ∧ H b = some (.lst zs) ∧ xs.length + zs.length ≤ sizeLine ∧ ∀ p, H p = none → Q (.ref p) (upd H p (.lst (xs ++ zs)))
theorem op_cat : OpR X (binaryOp .Add) rCat := by
  intro pins s σ H x y v u Q I rx ry h
  obtain ⟨l, b, xs, zs, rfl, rfl, hH, hB, hz, q⟩ := h
  cases rx
  cases ry
  obtain ⟨z, its, n, r, hl, e⟩ := I.lstM hH
  obtain ⟨z2, its2, n2, r2, hl2, e2⟩ := I.lstM hB
  refine PySem.P.add_list e e2 ?_ (by rw [List.size_toArray, List.size_toArray]; omega)
  have ea : its.toArray ++ its2.toArray = (its ++ its2).toArray := by simp
  rw [ea]
  exact ⟨.ref _, _, I.lnew (t' := s.toks) (r.append r2) (by rw [List.length_append]; omega), rfl, q _ I.fresh⟩
/-! ### del xs[i] -/
end
/-! ### xs[a:b] = ys -/
section
variable {prog : Program} {w : World} {A : Around} {E : Value → Shared → Prop} {s : Shared}
end
section
variable {X : Cx}
end
end L2
namespace L2
open PySem PySem.Spec PyProof.Rows
theorem Vals.ints : ∀ {ns : List Int} {us : List Value}, Vals (ns.map V.int) us → IntsAre us ns
  | [], us, h => by
    rw [List.map_nil] at h
    cases h
    exact IntsAre.nil
  | n :: ns, us, h => by
    rw [List.map_cons] at h
    cases h with
    | cons r t =>
      obtain ⟨k, rfl⟩ := r
      exact IntsAre.cons n k (Vals.ints t)
/-! ### the library's walks over a list of ints, kept objects alone -/
section
variable {prog : Program} {w : World} {A : Around} {E : Value → Shared → Prop} {s : Shared} {l : Addr} {its : List Value} {ns : List Int} {Q : Value → Shared → Prop}
end
/-! ### the calls, by values (CallR of 03t; MtR of 06l) -/
section
variable {X : Cx}
/-! sorted, sort (fewer than 64 items: the library's own bound) -/
end
/-! ### list.index, flat items -/
section
variable {X : Cx}
end
/-! ### type(x) of an own instance; is, is not of a module's class -/
section
variable {X : Cx}
end
/-! ### any(xs), all(xs) of a list of bools -/
section
variable {X : Cx}
end
/-! ### == and != of data at any depth: none, bools, ints, texts, lists, tuples -/
section
variable {X : Cx} {pins : List (Addr × Obj)} {σ : St} {H : Hp} {s : Shared}
end
section
variable {X : Cx}
end
end L2
namespace L2
open PySem PySem.Spec PyProof.Rows
abbrev CellAt (h : Heap) (c : Addr) (v : Option Value) : Prop := h.IsCell c v
def relS (scope sc : Scope) : Scope :=
  { scope with names := scope.names.map fun (n, k) => if (k == .free && sc.kind == .function && sc.names.lookup n == some .cell) then (n, .cell) else (n, k) }
def cloFrom (cells : List (Str × Addr)) : List (Str × NameKind) → List (Str × Addr) → List (Str × Addr)
  | [], acc => acc
  | (n, k) :: r, acc => if k == .free then cloFrom cells r ((n, (cells.lookup n).getD 0) :: acc) else cloFrom cells r acc
theorem closure_loop (env : Env) (f : Str × NameKind → List (Str × Addr) → Sem (ForInStep (List (Str × Addr))))
    (hf : ∀ n k c, f (n, k) c = if k == .free then (do let a ← cellOf env n; pure (.yield ((n, a) :: c))) else pure (.yield c)) :
    ∀ (names : List (Str × NameKind)) (acc : List (Str × Addr)), (∀ y ∈ names, y.2 = .free → ∃ c, env.cells.lookup y.1 = some c) → forIn names acc f = pure (cloFrom env.cells names acc)
  | [], acc, _ => by rw [List.forIn_nil]; rfl
  | (n, k) :: r, acc, h => by
    rw [List.forIn_cons, hf]
    have ih := fun acc => closure_loop env f hf r acc fun y hy => h y (List.mem_cons_of_mem _ hy)
    unfold cloFrom
    by_cases hk : (k == NameKind.free) = true
    · rw [if_pos hk, if_pos hk]
      obtain ⟨c, hc⟩ := h (n, k) List.mem_cons_self (by simpa using hk)
      have e : cellOf env n = pure c := by unfold cellOf; rw [hc]
      rw [e]
      have e2 : (env.cells.lookup n).getD 0 = c := by rw [hc]; rfl
      rw [e2]
      exact ih _
    · rw [if_neg hk, if_neg hk]
      exact ih _
theorem closure_ok {scope : Scope} {env : Env} (h : ∀ y ∈ scope.names, y.2 = .free → ∃ c, env.cells.lookup y.1 = some c) : closureFor scope env = pure (cloFrom env.cells scope.names []) := by
  simp only [closureFor]
  rw [closure_loop env _ (fun n k c => rfl) scope.names [] h]
  rfl
theorem mem_lookup {α : Type} : ∀ {l : List (Str × α)} {n : Str} {c : α}, (n, c) ∈ l → ∃ c', l.lookup n = some c'
  | (k, v) :: r, n, c, h => by
    rw [List.lookup_cons]
    cases hb : n == k with
    | true => exact ⟨_, rfl⟩
    | false =>
      rcases List.mem_cons.mp h with e | h
      · cases e; simp at hb
      · exact mem_lookup h
theorem cloFrom_mem {cells : List (Str × Addr)} : ∀ {names : List (Str × NameKind)} {acc : List (Str × Addr)} {n : Str} {c : Addr}, (n, c) ∈ cloFrom cells names acc → (n, c) ∈ acc ∨ ((n, .free) ∈ names ∧ c = (cells.lookup n).getD 0)
  | [], _, _, _, h => .inl h
  | (m, k) :: r, acc, n, c, h => by
    unfold cloFrom at h
    split at h
    · rename_i hk
      have hk : k = .free := by simpa using hk
      rcases cloFrom_mem h with h | ⟨h1, h2⟩
      · rcases List.mem_cons.mp h with e | h
        · cases e; exact .inr ⟨hk ▸ List.mem_cons_self, rfl⟩
        · exact .inl h
      · exact .inr ⟨List.mem_cons_of_mem _ h1, h2⟩
    · rcases cloFrom_mem h with h | ⟨h1, h2⟩
      · exact .inl h
      · exact .inr ⟨List.mem_cons_of_mem _ h1, h2⟩
theorem cloFrom_acc {cells : List (Str × Addr)} : ∀ {names : List (Str × NameKind)} {acc : List (Str × Addr)} {p : Str × Addr}, p ∈ acc → p ∈ cloFrom cells names acc
  | [], _, _, h => h
  | (m, k) :: r, acc, p, h => by
    unfold cloFrom
    split
    · exact cloFrom_acc (List.mem_cons_of_mem _ h)
    · exact cloFrom_acc h
theorem cloFrom_has {cells : List (Str × Addr)} : ∀ {names : List (Str × NameKind)} {acc : List (Str × Addr)} {n : Str}, (n, .free) ∈ names → (n, (cells.lookup n).getD 0) ∈ cloFrom cells names acc
  | (m, k) :: r, acc, n, h => by
    unfold cloFrom
    rcases List.mem_cons.mp h with e | h
    · cases e
      exact cloFrom_acc List.mem_cons_self
    · split
      · exact cloFrom_has h
      · exact cloFrom_has h
theorem cells_mem : ∀ {names : List (Str × NameKind)} {h : Heap} {acc : List (Str × Addr)} {x : Str} {c : Addr}, (x, c) ∈ cellsFrom h.objs.size names acc →
    (x, c) ∈ acc ∨ ((x, .cell) ∈ names ∧ h.objs.size ≤ c ∧ CellAt (pushCells h names) c none)
  | [], _, _, _, _, h => .inl h
  | (n, k) :: r, h, acc, x, c, hm => by
    unfold cellsFrom at hm
    unfold pushCells
    split at hm
    · rename_i hk
      rw [if_pos hk]
      have hk : k = .cell := by simpa using hk
      rw [← Heap.size_push h { cls := .type "cell", data := .cell none }] at hm
      rcases cells_mem hm with hm | ⟨h1, h2, h3⟩
      · rcases List.mem_cons.mp hm with e | hm
        · cases e
          exact .inr ⟨hk ▸ List.mem_cons_self, Nat.le_refl _, _, pushCells_keeps r _ _ _ (Heap.get?_push_size _ rfl), rfl⟩
        · exact .inl hm
      · rw [Heap.size_push] at h2
        exact .inr ⟨List.mem_cons_of_mem _ h1, Nat.le_of_succ_le h2, h3⟩
    · rename_i hk
      rw [if_neg hk]
      rcases cells_mem hm with hm | ⟨h1, h2, h3⟩
      · exact .inl hm
      · exact .inr ⟨List.mem_cons_of_mem _ h1, h2, h3⟩
theorem cells_acc : ∀ {names : List (Str × NameKind)} {n : Nat} {acc : List (Str × Addr)} {p : Str × Addr}, p ∈ acc → p ∈ cellsFrom n names acc
  | [], _, _, _, h => h
  | (m, k) :: r, n, acc, p, h => by
    unfold cellsFrom
    split
    · exact cells_acc (List.mem_cons_of_mem _ h)
    · exact cells_acc h
theorem cells_has : ∀ {names : List (Str × NameKind)} {n : Nat} {acc : List (Str × Addr)} {x : Str}, (x, .cell) ∈ names → ∃ c, (x, c) ∈ cellsFrom n names acc
  | (m, k) :: r, n, acc, x, h => by
    unfold cellsFrom
    rcases List.mem_cons.mp h with e | h
    · cases e
      exact ⟨n, cells_acc List.mem_cons_self⟩
    · split
      · exact cells_has h
      · exact cells_has h
theorem cells_inj : ∀ {names : List (Str × NameKind)} {h : Heap} {acc : List (Str × Addr)} {x y : Str} {c : Addr}, (∀ p ∈ acc, p.2 < h.objs.size) → (∀ x y c, (x, c) ∈ acc → (y, c) ∈ acc → x = y) →
    (x, c) ∈ cellsFrom h.objs.size names acc → (y, c) ∈ cellsFrom h.objs.size names acc → x = y
  | [], _, _, _, _, _, _, hi, h1, h2 => hi _ _ _ h1 h2
  | (n, k) :: r, h, acc, x, y, c, hl, hi, h1, h2 => by
    unfold cellsFrom at h1 h2
    split at h1
    · rename_i hk
      rw [if_pos hk] at h2
      rw [← Heap.size_push h { cls := .type "cell", data := .cell none }] at h1 h2
      refine cells_inj (h := h.push _) (fun p hp => ?_) (fun x y c a b => ?_) h1 h2
      · rw [Heap.size_push]
        rcases List.mem_cons.mp hp with rfl | hp
        · exact Nat.lt_succ_self _
        · exact Nat.lt_succ_of_lt (hl p hp)
      · rcases List.mem_cons.mp a with e | a <;> rcases List.mem_cons.mp b with e' | b
        · cases e; cases e'; rfl
        · cases e; exact absurd (hl _ b) (Nat.lt_irrefl _)
        · cases e'; exact absurd (hl _ a) (Nat.lt_irrefl _)
        · exact hi _ _ _ a b
    · rename_i hk
      rw [if_neg hk] at h2
      exact cells_inj hl hi h1 h2
theorem newEnv_comp {M : Model} {A : Around} {E : Value → Shared → Prop} {s : Shared} {scope : Scope} {globals : Addr} {closure : List (Str × Addr)} {qual : Str} {func : Option Addr} {code : Value} {around : Env} {builtins : Addr} {Q : Env → Shared → Prop}
    (h : Q (newEnv scope s.heap.objs.size globals (cellsFrom (s.heap.objs.size + 1) scope.names closure) qual func code (some around) builtins)
      { s with heap := pushCells (s.heap.push { cls := .type "dict", data := .dict #[] }) scope.names }) :
    wpAny M A (newFunctionEnv scope globals closure [] qual func code (some around) builtins) Q E s := by
  simp only [newFunctionEnv, Option.isSome_some, if_true]
  refine wpAny_bind (wpAny_alloc ?_)
  refine wpAny_bind (wpAny_layCells _ (fun n k c => rfl) scope.names closure _ _ ?_)
  rw [show ({ s with heap := s.heap.push { cls := .type "dict", data := .dict #[] } } : Shared).heap.objs.size = s.heap.objs.size + 1 from Heap.size_push ..]
  rw [List.forIn_nil]
  exact wpAny_bind (wpAny_pure (wpAny_pure h))
/-- every name of the written scope, in the scope that runs -/
theorem lookup_relS {sc : Scope} : ∀ {names : List (Str × NameKind)} {x : Str} {k : NameKind},
    (names.map fun (n, k) => if (k == NameKind.free && sc.kind == .function && sc.names.lookup n == some .cell) then (n, NameKind.cell) else (n, k)).lookup x = some k →
    ∃ k', names.lookup x = some k' ∧ (k = k' ∨ (k' = .free ∧ k = .cell))
  | [], _, _, h => by simp at h
  | (n, k₀) :: r, x, k, h => by
    have ih := @lookup_relS sc r x k
    have h' : List.lookup x ((if (k₀ == NameKind.free && sc.kind == .function && sc.names.lookup n == some .cell) = true then (n, NameKind.cell) else (n, k₀)) :: (r.map _)) = some k := h
    cases hx : x == n with
    | true =>
      simp only [List.lookup_cons, hx]
      by_cases hc : (k₀ == NameKind.free && sc.kind == .function && sc.names.lookup n == some .cell) = true
      · rw [if_pos hc] at h'
        simp only [List.lookup_cons, hx] at h'
        cases h'
        simp only [Bool.and_eq_true, beq_iff_eq] at hc
        exact ⟨k₀, rfl, .inr ⟨hc.1.1, rfl⟩⟩
      · rw [if_neg hc] at h'
        simp only [List.lookup_cons, hx] at h'
        cases h'
        exact ⟨_, rfl, .inl rfl⟩
    | false =>
      simp only [List.lookup_cons, hx]
      by_cases hc : (k₀ == NameKind.free && sc.kind == .function && sc.names.lookup n == some .cell) = true
      · rw [if_pos hc] at h'
        simp only [List.lookup_cons, hx] at h'
        exact ih h'
      · rw [if_neg hc] at h'
        simp only [List.lookup_cons, hx] at h'
        exact ih h'
/-- the names of a comprehension's block: its own (with their places in N), or captured -/
structure BlkOk (N : List Str) (sc scope : Scope) (own : List (Str × Nat)) : Prop where
  kind : scope.kind = .function
  uniq : ∀ y ∈ scope.names, scope.names.lookup y.1 = some y.2
  ix : ∀ p ∈ own, N[p.2]? = some p.1
  free : ∀ y ∈ scope.names, y.2 = .free → sc.names.lookup y.1 = some .cell ∨ sc.names.lookup y.1 = some .free
  own : ∀ y ∈ scope.names, y.2 = .local ∨ y.2 = .cell → y.1 ∈ own.map (·.1) ∨ y.1 ∉ N
/-- the slots of the block's own names forgotten -/
def wipe (σ : St) : List Nat → St
  | [] => σ
  | v :: vs => (wipe σ vs).set v none
theorem wipe_length (σ : St) : ∀ vs : List Nat, (wipe σ vs).length = σ.length
  | [] => rfl
  | v :: vs => by unfold wipe; rw [List.length_set, wipe_length σ vs]
theorem wipe_some {σ : St} {i : Nat} {x : V} : ∀ {vs : List Nat}, (wipe σ vs)[i]? = some (some x) → σ[i]? = some (some x) ∧ i ∉ vs
  | [], h => ⟨h, by simp⟩
  | v :: vs, h => by
    unfold wipe at h
    by_cases hi : v = i
    · subst hi
      by_cases hv : v < (wipe σ vs).length
      · rw [List.getElem?_set_self hv] at h; cases h
      · rw [List.getElem?_eq_none (by simpa using hv)] at h; cases h
    · rw [List.getElem?_set_ne hi] at h
      obtain ⟨h1, h2⟩ := wipe_some h
      exact ⟨h1, by simp only [List.mem_cons, not_or]; exact ⟨fun e => hi e.symm, h2⟩⟩
/-- the context of a block that starts at s, its iterator's objects at fp -/
abbrev Cx.blk (X : Cx) (s : Shared) (H : Hp) (scope : Scope) (cenv : Env) (fp : List Addr) : Cx := { X with s_0 := s, H_0 := H, env := cenv, outer := X.stack, ex := fp, fn := fun x => scope.names.lookup x == some .cell, pn := [], xe := fun _ _ => False }
section
variable {X : Cx} {pins : List (Addr × Obj)} {σ : St} {H : Hp} {s : Shared}
theorem block_start {scope : Scope} {own : List (Str × Nat)} {fp : List Addr} (I : Inv X pins σ H s) (ok : BlkOk X.N X.env.scope scope own) (hN : X.N.Nodup) (hfp : ∀ b ∈ fp, FpOk X pins H b ∧ b < s.heap.objs.size) :
    Inv (X.blk s H scope (compEnvC scope (cellsFrom (s.heap.objs.size + 1) scope.names (cloFrom X.env.cells scope.names [])) s.heap.objs.size X.env) fp) [] (wipe σ (own.map (·.2))) H { s with heap := pushCells (s.heap.push { cls := .type "dict", data := .dict #[] }) scope.names } := by
  have hfree : ∀ y ∈ scope.names, y.2 = .free → ∃ c, X.env.cells.lookup y.1 = some c := fun y hy e => by
    rcases ok.free y hy e with k | k
    · exact I.ok.has _ (.inl k)
    · exact I.ok.has _ (.inr k)
  generalize hcenv : compEnvC scope (cellsFrom (s.heap.objs.size + 1) scope.names (cloFrom X.env.cells scope.names [])) s.heap.objs.size X.env = cenv
  have kp : ∀ b o, s.heap.get? b = some o → (pushCells (s.heap.push { cls := .type "dict", data := .dict #[] }) scope.names).get? b = some o := fun b o e => pushCells_keeps _ _ _ _ (Heap.get?_push_of_some _ e)
  have hL : cenv.locals = s.heap.objs.size := by rw [← hcenv]; rfl
  have hcl : cenv.cells = cellsFrom (s.heap.objs.size + 1) scope.names (cloFrom X.env.cells scope.names []) := by rw [← hcenv]; rfl
  have hsc : cenv.scope = relS scope X.env.scope := by rw [← hcenv]; rfl
  rw [← Heap.size_push s.heap { cls := .type "dict", data := .dict #[] }] at hcl
  have cm : ∀ {y c}, (y, c) ∈ cloFrom X.env.cells scope.names [] → X.env.cells.lookup y = some c ∧ c < s.heap.objs.size := fun {y c} hm => by
    rcases cloFrom_mem hm with hm | ⟨h1, rfl⟩
    · cases hm
    · obtain ⟨c, hc⟩ := hfree _ h1 rfl
      rw [hc]
      obtain ⟨w, z⟩ := I.cell _ _ hc
      exact ⟨rfl, z.lt⟩
  have mem : ∀ {y c}, cenv.cells.lookup y = some c → (X.env.cells.lookup y = some c ∧ c < s.heap.objs.size) ∨ (s.heap.objs.size + 1 ≤ c ∧ CellAt (pushCells (s.heap.push { cls := .type "dict", data := .dict #[] }) scope.names) c none) := fun {y c} e => by
    rw [hcl] at e
    rcases cells_mem (PySem.mem_of_lookup e) with hm | ⟨_, h2, h3⟩
    · exact .inl (cm hm)
    · rw [Heap.size_push] at h2; exact .inr ⟨h2, h3⟩
  have look : ∀ {y}, scope.names.lookup y = some .free → ∃ c, cenv.cells.lookup y = some c ∧ X.env.cells.lookup y = some c := fun {y} hl => by
    have hy : (y, NameKind.free) ∈ scope.names := PySem.mem_of_lookup hl
    obtain ⟨c', e'⟩ := mem_lookup (cells_acc (names := scope.names) (n := (s.heap.push { cls := .type "dict", data := .dict #[] }).objs.size) (cloFrom_has (cells := X.env.cells) (acc := []) hy))
    rw [← hcl] at e'
    refine ⟨c', e', ?_⟩
    rw [hcl] at e'
    rcases cells_mem (PySem.mem_of_lookup e') with hm | ⟨h1, _, _⟩
    · exact (cm hm).1
    · have := ok.uniq _ h1
      rw [hl] at this; cases this
  have okB : (X.blk s H scope cenv fp).Ok := by
    refine ⟨I.ok.mod, by show cenv.scope.kind = _; rw [hsc]; exact ok.kind, by show cenv.globals = _; rw [← hcenv]; exact I.ok.glob, by show cenv.builtins = _; rw [← hcenv]; exact I.ok.blt, by show s.heap.objs.size ≤ cenv.locals; rw [hL]; exact Nat.le_refl _,
      fun y z c e1 e2 => ?_, fun y hy => ?_, fun y c z e => ?_, I.ok.hd, I.ok.frames, .inl rfl, fun b hb => ⟨?_, fun y c e z => ?_⟩, I.bs, Nat.le_trans I.ok.bsz I.sz, fun b o e hb => ?_, fun b hb z => ?_, I.stack, I.stkFree⟩
    · have e1 : cenv.cells.lookup y = some c := e1
      have e2 : cenv.cells.lookup z = some c := e2
      rw [hcl] at e1 e2
      refine cells_inj (fun p hp => ?_) (fun y z c a b => I.ok.inj y z c (cm a).1 (cm b).1) (PySem.mem_of_lookup e1) (PySem.mem_of_lookup e2)
      rw [Heap.size_push]
      exact Nat.lt_succ_of_lt (cm (y := p.1) (c := p.2) hp).2
    · show ∃ c, cenv.cells.lookup y = some c
      have key : ∀ k, cenv.kindOf y = some k → (k = .cell ∨ k = .free) → ∃ c, cenv.cells.lookup y = some c := fun k hk hk' => by
        unfold Env.kindOf at hk
        rw [hsc] at hk
        obtain ⟨k', e, r⟩ := lookup_relS hk
        have : k' = .cell ∨ k' = .free := by
          rcases r with rfl | ⟨rfl, _⟩
          · exact hk'
          · exact .inr rfl
        rcases this with rfl | rfl
        · obtain ⟨c, hm⟩ := cells_has (n := (s.heap.push { cls := .type "dict", data := .dict #[] }).objs.size) (acc := cloFrom X.env.cells scope.names []) (PySem.mem_of_lookup e)
          obtain ⟨c', e'⟩ := mem_lookup hm
          exact ⟨c', by rw [hcl]; exact e'⟩
        · obtain ⟨c, h1, _⟩ := look e
          exact ⟨c, h1⟩
      rcases hy with hy | hy
      · exact key _ hy (.inl rfl)
      · exact key _ hy (.inr rfl)
    · have z : (scope.names.lookup y == some NameKind.cell) = true := z
      have z : scope.names.lookup y = some .cell := by simpa using z
      have e : cenv.cells.lookup y = some c := e
      rw [hcl] at e
      rcases cells_mem (PySem.mem_of_lookup e) with hm | ⟨_, h2, _⟩
      · rcases cloFrom_mem hm with hm | ⟨h1, _⟩
        · cases hm
        · have q := ok.uniq _ h1
          rw [z] at q; cases q
      · rw [Heap.size_push] at h2
        exact Nat.le_of_succ_le h2
    · show b ≠ cenv.locals
      rw [hL]; exact Nat.ne_of_lt (hfp b hb).2
    · have e : cenv.cells.lookup y = some c := e
      rcases mem e with ⟨h1, _⟩ | ⟨h1, _⟩
      · exact (hfp b hb).1.2.2.2.2.1 y c h1 z
      · have h2 : s.heap.objs.size + 1 ≤ b := by rw [← z]; exact h1
        exact absurd (Nat.lt_of_lt_of_le (hfp b hb).2 (Nat.le_of_succ_le h2)) (Nat.lt_irrefl _)
    · rcases (hfp b hb).1.2.2.2.1 with z | z
      · exact I.ok.noex b o e z
      · exact absurd (Nat.lt_of_lt_of_le (Heap.lt_size e) (Nat.le_trans I.ok.bsz z)) (Nat.lt_irrefl _)
    · rcases List.mem_cons.mp (I.stkSub b z) with z | z
      · exact (hfp b hb).1.2.1 z
      · exact (hfp b hb).1.2.2.1 z
  refine ⟨okB, rfl, I.bare, Un.kept kp, ⟨fun _ => none, ?_, fun i y av e1 e2 e3 => ?_⟩, fun y c e => ?_, ?_, fun y c e => ?_, fun p hp => ?_, I.hok.kept kp, by rw [wipe_length]; exact I.len⟩
  · show Heap.Ns _ cenv.locals _
    rw [hL]
    exact Heap.Ns.keeps (Heap.Ns.new ..) fun b o e => pushCells_keeps _ _ _ _ e
  · obtain ⟨e2, hne⟩ := wipe_some e2
    have hfr : scope.names.lookup y = some .free ∧ (cenv.kindOf y = some .cell ∨ cenv.kindOf y = some .free) := by
      have key : ∀ k, cenv.scope.names.lookup y = some k → k = .local ∨ k = .cell ∨ k = .free → scope.names.lookup y = some .free ∧ (cenv.kindOf y = some .cell ∨ cenv.kindOf y = some .free) := fun k hk hk' => by
        have hk0 := hk
        rw [hsc] at hk
        obtain ⟨k', e, r⟩ := lookup_relS hk
        have no : ¬ (k' = .local ∨ k' = .cell) := fun hh => by
          rcases ok.own _ (PySem.mem_of_lookup e) hh with e' | e'
          · obtain ⟨p, hp, hpy⟩ := List.mem_map.mp e'
            have e3 := ok.ix p hp
            have : p.1 = y := hpy
            rw [this] at e3
            exact hne (List.mem_map.mpr ⟨p, hp, nodup_ix hN e3 e1⟩)
          · exact e' (List.mem_of_getElem? e1)
        rcases r with rfl | ⟨rfl, rfl⟩
        · rcases hk' with rfl | rfl | rfl
          · exact absurd (.inl rfl) no
          · exact absurd (.inr rfl) no
          · exact ⟨e, .inr hk0⟩
        · exact ⟨e, .inl hk0⟩
      have e3 : Vis cenv.scope y := e3
      rcases e3 with e3 | e3 | e3
      · exact key _ e3 (.inl rfl)
      · exact key _ e3 (.inr (.inl rfl))
      · exact key _ e3 (.inr (.inr rfl))
    obtain ⟨m, hn, hl⟩ := I.loc
    have hvis : Vis X.env.scope y := (ok.free _ (PySem.mem_of_lookup hfr.1) rfl).elim (fun k => .inr (.inl k)) (fun k => .inr (.inr k))
    obtain ⟨w, r, q⟩ := hl i y av e1 e2 hvis
    refine ⟨w, r, .inr ⟨hfr.2, ?_⟩⟩
    obtain ⟨c, h1, h2⟩ := look hfr.1
    rcases q with ⟨k, _⟩ | ⟨_, c', e', z⟩
    · have k : X.env.scope.names.lookup y = some .local := k
      rcases ok.free _ (PySem.mem_of_lookup hfr.1) rfl with k' | k' <;> rw [show X.env.scope.names.lookup y = _ from k'] at k <;> cases k
    · rw [h2] at e'; cases e'
      exact ⟨c, h1, z.keeps kp⟩
  · have e : cenv.cells.lookup y = some c := e
    rcases mem e with ⟨h1, _⟩ | ⟨_, z⟩
    · obtain ⟨w, z⟩ := I.cell y c h1
      exact ⟨w, z.keeps kp⟩
    · exact ⟨_, z⟩
  · show H cenv.locals = none
    rw [hL]; exact I.hok.fresh (Nat.le_refl _)
  · have e : cenv.cells.lookup y = some c := e
    rcases mem e with ⟨h1, _⟩ | ⟨h1, _⟩
    · exact I.freeC y c h1
    · exact I.hok.fresh (Nat.le_of_succ_le h1)
  · exact absurd (show p ∈ ([] : List (Addr × Obj)) ++ [] from hp) (by simp)
/-- an item appended to a tracked list -/
theorem app_ok {E : Value → Shared → Prop} {D : Addr} {xs : List V} {y : V} {v : Value} {Q : Value → Shared → Prop} (I : Inv X pins σ H s) (hD : H D = some (.lst xs)) (hz : xs.length < sizeLine) (r : RelV y v)
    (h : ∀ s', Inv X pins σ (upd H D (.lst (xs ++ [y]))) s' → Q .none s') : wpAny (model X.prog X.w) X.A (call (.builtin "list.append") [.ref D, v]) Q E s := by
  obtain ⟨hz', its, n, ri, e⟩ := I.hok D _ hD
  have hl := ri.length
  refine append_at (hsz := by rw [List.size_toArray]; omega) e fun h' sb ho' => ?_
  refine h { s with heap := h' } (I.write (t' := s.toks) (by rw [hD]; trivial) (.inl rfl) (fun b u hb q => (sb.2 b hb).trans q) ⟨_, ho'⟩ ⟨by rw [List.length_append]; exact hz, its ++ [v], n + 1, ri.append (.cons r .nil), ?_⟩)
  rw [ho']
  simp
/-- a clause's tests -/
def PTs (X : Cx) (ifs : List Expr) (t : TT) : Prop :=
  ∀ (pins : List (Addr × Obj)) (s : Shared) (σ : St) (H : Hp) (Q : Bool → Hp → Prop), Inv X pins σ H s → t σ H Q →
    wpAny (model X.prog X.w) X.A (forIn ifs true fun c r => if r = true then do let ok ← isTrue c X.env (eval c X.env); pure (ForInStep.yield ok) else pure (ForInStep.yield r)) (TP X pins σ Q) X.xe s
def tYes : TT := fun _ H Q => Q true H
theorem pts_nil : PTs X [] tYes := fun _ _ _ H _ I h => wpAny_tests_nil ⟨H, I, h⟩
theorem pts_one {c : Expr} {t : TT} (h : PT X c t) : PTs X [c] t := fun pins s σ H Q I hw => wpAny_tests_one (h pins s σ H Q I hw)
end
theorem thnF {α : Type} {t : Sem α} {Q Q' : α → Shared → Prop} {M : Model} {A : Around} {E : Value → Shared → Prop} {s : Shared} (h : wpAny M A t Q (fun _ _ => False) s) (hQ : ∀ a s, Q a s → Q' a s) : wpAny M A t Q' E s := wpAny_mono h hQ fun _ _ z => False.elim z
/-- the loop of a list comprehension's block, the target of any form (codeAny_compLoop_tests asks a target that no tuple goes to; statement and proof follow it, PyProof/CompMap.lean:41-61, with the step letOwnedTupleGo kept) -/
theorem compLoop_any {prog : Program} {w : World} {A : Around} {R : Result → Shared → Prop} {s : Shared} {elt target iter : Expr} {ifs : List Expr} {scope : Scope} {pos : Pos} {it acc : Value} {env : Env} (I : Nat → Shared → Prop)
    (turn : ∀ n s, I n s → wpAny (model prog w) A (pyNext it) (fun r s₁ => match r with
      | none => R (.ok .next) s₁
      | some v => wpAny (model prog w) A (letOwnedTupleGo target it v) (fun _ s₁' => wpAny (model prog w) A (assign target env v) (fun _ s₂ =>
          wpAny (model prog w) A (forIn ifs true fun c r => if r = true then do let ok ← isTrue c env (eval c env); pure (ForInStep.yield ok) else pure (ForInStep.yield r)) (fun ok s₃ =>
            if ok = true then wpAny (model prog w) A (eval elt env) (fun x s₄ =>
              wpAny (model prog w) A (call (.builtin "list.append") [acc, x]) (fun _ s₅ => ∃ m, m < n ∧ I m s₅) (notedBy (model prog w) A env fun e s' => R (.error e) s') s₄) (notedBy (model prog w) A env fun e s' => R (.error e) s') s₃
            else ∃ m, m < n ∧ I m s₃) (notedBy (model prog w) A env fun e s' => R (.error e) s') s₂) (notedBy (model prog w) A env fun e s' => R (.error e) s') s₁') (notedBy (model prog w) A env fun e s' => R (.error e) s') s₁) (notedBy (model prog w) A env fun e s' => R (.error e) s') s)
    (n : Nat) (h : I n s) :
    codeAny (model prog w) A (.compLoop (.ListComp elt [⟨target, iter, ifs, 0⟩] scope pos) 0 it acc env) R s := by
  refine codeAny_loop rfl I (fun n s hI => ?_) n h
  show wpAny _ A ((compTurn (.ListComp elt [⟨target, iter, ifs, 0⟩] scope pos) 0 it acc env).onRaise (fun x => do noteFrame x env; theTreesLotGoes x)) _ _ s
  refine wpAny_noted ?_
  rw [compTurn_list]
  refine wpAny_bind (wpAny_standAt (wpAny_bind (wpAny_mono (turn n s hI) (fun r s₁ h₁ => ?_) fun _ _ h' => h')))
  cases r with
  | none => exact wpAny_pure h₁
  | some v =>
    refine wpAny_bind (wpAny_mono h₁ (fun _ s₁' h₁' => ?_) fun _ _ h' => h')
    refine wpAny_bind (wpAny_mono h₁' (fun _ s₂ h₂ => wpAny_bind (wpAny_mono h₂ (fun ok s₃ h₃ => ?_) fun _ _ h' => h')) fun _ _ h' => h')
    cases ok with
    | false => exact wpAny_pure ⟨rfl, h₃⟩
    | true =>
      exact wpAny_bind (wpAny_bind (wpAny_mono h₃ (fun x s₄ h₄ => wpAny_bind (wpAny_mono h₄ (fun _ s₅ h₅ => wpAny_pure (wpAny_pure ⟨rfl, h₅⟩)) fun _ _ h' => h')) fun _ _ h' => h'))
section
variable {X : Cx}
/-- [elt for target in iter if ..]: D the new list; W by the turn and a measure, Nx what a turn is to reach -/
def tLc (wi : TI) (g : TG) (tt : TT) (te : TE) (vs : List Nat) : TE := fun σ H Q => wi σ H fun J H1 => ∀ D, H1 D = none → ∃ W : Nat → Nat → Hp → Prop, (∃ m, W 0 m (upd H1 D (.lst []))) ∧ ∀ i m H, W i m H →
  (J.stop i H ∧ Q (.ref D) H) ∨ (J.go i H ∧ ∃ Nx : Hp → Prop, (∀ H', Nx H' → ∃ m', m' < m ∧ W (i + 1) m' H') ∧ ∀ x H', J.yld i H x H' → g x (wipe σ vs) H' fun σ2 H2 => wipe σ2 vs = wipe σ vs ∧ tt σ2 H2 fun b H3 =>
    if b = true then te σ2 H3 fun y H4 => ∃ acc, H4 D = some (.lst acc) ∧ acc.length < sizeLine ∧ Nx (upd H4 D (.lst (acc ++ [y]))) else Nx H3)
theorem lc_core {pins : List (Addr × Obj)} {s : Shared} {σ : St} {H : Hp} {Q : VK} {elt tg iter : Expr} {ifs : List Expr} {scope : Scope} {own : List (Str × Nat)} {pos pos' : Pos} {wi : TI} {g : TG} {tt : TT} {te : TE} {use : Option (Value → Sem Unit)} {Qf : Value → Shared → Prop}
    (hc : X.calm = true) (hN : X.N.Nodup) (I : Inv X pins σ H s) (hi : PI X tg iter wi) (ok : BlkOk X.N X.env.scope scope own)
    (hg : ∀ (s : Shared) (H : Hp) (C : Addr) (cl : List (Str × Addr)) (fp : List Addr), PG (X.blk s H scope (compEnvC scope cl C X.env) fp) tg g) (ht : ∀ (s : Shared) (H : Hp) (C : Addr) (cl : List (Str × Addr)) (fp : List Addr), PTs (X.blk s H scope (compEnvC scope cl C X.env) fp) ifs tt)
    (he : ∀ (s : Shared) (H : Hp) (C : Addr) (cl : List (Str × Addr)) (fp : List Addr), PE (X.blk s H scope (compEnvC scope cl C X.env) fp) elt te) (hs : ∀ x, foldedSetIterable iter X.env x = pure x)
    (h : tLc wi g tt te (own.map (·.2)) σ H Q)
    (hRR : ∀ D C s' m H', Inv X pins σ H' s' → Q (.ref D) H' → s'.heap.Ns C m → FpOk X pins H' C → compPost (model X.prog X.w) X.A X.xe use Qf (.ref D) C (.ok .next) s') :
    wpAny (model X.prog X.w) X.A (comprehension (.ListComp elt [⟨tg, iter, ifs, 0⟩] scope pos) scope X.env pos' (newList []) false (eval iter X.env) use) Qf X.xe s := by
  have hfree : ∀ y ∈ scope.names, y.2 = .free → ∃ c, X.env.cells.lookup y.1 = some c := fun y hy e => by
    rcases ok.free y hy e with k | k
    · exact I.ok.has _ (.inl k)
    · exact I.ok.has _ (.inr k)
  refine wpAny_comprehension_free (use := use) rfl hs (closure_ok hfree) ok.kind (fun y hy e => by rw [ok.uniq y hy, e])
    (thn (hi pins s σ H _ I h) fun xv s1 hx => thn hx fun itv s2 h2 => ?_)
  obtain ⟨it, fp, tn, J, H2, e, I2, T, st2, f2, q⟩ := h2
  subst e
  refine wpAny_newObj_type (newEnv_comp ?_) (by show 0 ≤ sizeLine; decide)
  generalize hD : s2.heap.objs.size = D
  have hDn : H2 D = none := I2.hok.fresh (Nat.le_of_eq hD)
  obtain ⟨W, ⟨m0, w0⟩, turn⟩ := q D hDn
  -- the new list
  generalize hs3 : ({ s2 with heap := s2.heap.push { cls := .type "list", data := .seq ([] : List Value).toArray } } : Shared) = s3
  have I3 : Inv X pins σ (upd H2 D (.lst [])) s3 := by
    rw [← hs3]
    refine I2.laid (t' := s2.toks) (fun b o e => Heap.get?_push_of_some _ e) (Nat.le_of_eq hD) ⟨Nat.zero_le _, [], 0, .nil, ?_⟩
    rw [← hD]
    exact Heap.get?_push_size _ rfl
  have h3 : s3.heap = s2.heap.push { cls := .type "list", data := .seq ([] : List Value).toArray } := by rw [← hs3]
  have sz : ∀ b ∈ fp, b < s2.heap.objs.size := fun b hb => by
    obtain ⟨o, e, _⟩ := T.obj _ _ st2 b hb
    exact Heap.lt_size e
  have f3 : ∀ b ∈ fp, FpOk X pins (upd H2 D (.lst [])) b ∧ b < s3.heap.objs.size := fun b hb => by
    have hlt := sz b hb
    refine ⟨⟨?_, (f2 b hb).2⟩, by rw [h3, Heap.size_push]; exact Nat.lt_succ_of_lt hlt⟩
    rw [upd_ne (by rw [← hD]; exact Nat.ne_of_lt hlt)]
    exact (f2 b hb).1
  have st3 : tn 0 s3.heap := T.keep _ _ _ st2 fun b _ o e => by rw [h3]; exact Heap.get?_push_of_some _ e
  have I4 := block_start I3 ok hN f3
  have pg := hg s3 (upd H2 D (.lst [])) s3.heap.objs.size (cellsFrom (s3.heap.objs.size + 1) scope.names (cloFrom X.env.cells scope.names [])) fp
  have pt := ht s3 (upd H2 D (.lst [])) s3.heap.objs.size (cellsFrom (s3.heap.objs.size + 1) scope.names (cloFrom X.env.cells scope.names [])) fp
  have pe := he s3 (upd H2 D (.lst [])) s3.heap.objs.size (cellsFrom (s3.heap.objs.size + 1) scope.names (cloFrom X.env.cells scope.names [])) fp
  show codeAny _ _ (.compStart (.ListComp elt [⟨tg, iter, ifs, 0⟩] scope pos) 0 (.ref it) (.ref D) (compEnvC scope (cellsFrom (s3.heap.objs.size + 1) scope.names (cloFrom X.env.cells scope.names [])) s3.heap.objs.size X.env)) (compPost (model X.prog X.w) X.A X.xe use Qf (.ref D) s3.heap.objs.size) { s3 with heap := pushCells (s3.heap.push { cls := .type "dict", data := .dict #[] }) scope.names }
  have nfp : ∀ b ∈ fp, (upd H2 D (.lst [])) b = none := fun b hb => (f3 b hb).1.1
  generalize hce : compEnvC scope (cellsFrom (s3.heap.objs.size + 1) scope.names (cloFrom X.env.cells scope.names [])) s3.heap.objs.size X.env = ce at I4 pg pt pe ⊢
  have cL : ce.locals = s3.heap.objs.size := by subst hce; rfl
  generalize hH3 : upd H2 D (.lst []) = H3 at I3 I4 pg pt pe w0 nfp f3
  generalize hs4 : ({ s3 with heap := pushCells (s3.heap.push { cls := .type "dict", data := .dict #[] }) scope.names } : Shared) = s4 at I4 ⊢
  have st4 : tn 0 s4.heap := T.keep _ _ _ st3 fun b _ o e => by rw [← hs4]; exact pushCells_keeps _ _ _ _ (Heap.get?_push_of_some _ e)
  have stat : ∀ {σ' : St} {H' : Hp} {s' : Shared}, Inv (X.blk s3 H3 scope ce fp) [] σ' H' s' → (∀ b ∈ fp, H' b = none) → ∀ b ∈ fp, FpOk (X.blk s3 H3 scope ce fp) [] H' b := fun {σ' H' s'} I' hn b hb =>
    ⟨hn b hb, (I'.ok.exf b hb).1, I'.ok.exfs b hb, .inl hb, fun x c e => (I'.ok.exf b hb).2 x c e, fun p hp => absurd (show p ∈ ([] : List (Addr × Obj)) ++ [] from hp) (by simp)⟩
  have loop : codeAny (model X.prog X.w) X.A (.compLoop (.ListComp elt [⟨tg, iter, ifs, 0⟩] scope pos) 0 (.ref it) (.ref D) ce) (compPost (model X.prog X.w) X.A X.xe use Qf (.ref D) s3.heap.objs.size) s4 := by
    refine compLoop_any (fun n s' => ∃ i H', Inv (X.blk s3 H3 scope ce fp) [] (wipe σ (own.map (·.2))) H' s' ∧ tn i s'.heap ∧ (∀ b ∈ fp, H' b = none) ∧ W i n H') ?_ m0 ⟨0, H3, I4, st4, nfp, w0⟩
    rintro n s5 ⟨i, H5, I5, st5, n5, w5⟩
    rcases turn i n H5 w5 with ⟨stop, qq⟩ | ⟨go, Nx, hNx, step⟩
    · have td := T.done (X.blk s3 H3 scope ce fp) rfl rfl rfl hc i [] s5 _ H5 (fun _ _ => False) I5 (stat I5 n5) st5 stop
      refine thnF td fun r s6 ⟨hr, I6⟩ => ?_
      subst hr
      -- back in the def's context
      have I7 : Inv X pins σ H5 s6 := I3.call' (ch := fp) I6.os I6.base I6.hok I6.bare fun b hb => ⟨(f3 b hb).1.2.2.2.1, (f3 b hb).1.2.1, (f3 b hb).1.2.2.2.2.1, (f3 b hb).1.2.2.2.2.2⟩
      have nC : H5 s3.heap.objs.size = none := by
        have z : H5 ce.locals = none := I6.free
        rw [cL] at z
        exact z
      obtain ⟨m, hn, _⟩ := I6.loc
      have hn : s6.heap.Ns ce.locals m := hn
      rw [cL] at hn
      exact hRR D s3.heap.objs.size s6 m H5 I7 qq hn (I3.fpOk (Nat.le_refl _) nC)
    · have ti := T.item (X.blk s3 H3 scope ce fp) rfl rfl rfl hc i [] s5 _ H5 (fun _ _ => False) I5 (stat I5 n5) st5 go
      refine thnF ti fun r s6 ⟨u, hr, h6⟩ => ?_
      subst hr
      refine thnF h6 fun _ s7 ⟨x, H7, I7, r7, y7, st7, n7⟩ => ?_
      have I7' := I7.pinned (stat I7 n7) (T.obj _ _ st7)
      refine thnF (pg _ s7 _ H7 x u _ I7' r7 (step x H7 y7)) fun _ s8 ⟨σ8, H8, I8, hw8, q8⟩ => ?_
      refine thnF (pt _ s8 σ8 H8 _ I8 q8) fun b s9 ⟨H9, I9, q9⟩ => ?_
      -- the turn's end
      have fin : ∀ {s' : Shared} {H' : Hp}, Inv (X.blk s3 H3 scope ce fp) ([] ++ pinsAt fp s7.heap) σ8 H' s' → Nx H' → ∃ m, m < n ∧ ∃ i H', Inv (X.blk s3 H3 scope ce fp) [] (wipe σ (own.map (·.2))) H' s' ∧ tn i s'.heap ∧ (∀ b ∈ fp, H' b = none) ∧ W i m H' := fun {s' H'} I' nx => by
        obtain ⟨m', hm, w'⟩ := hNx H' nx
        have pin' : ∀ b ∈ fp, ∀ o, s7.heap.get? b = some o → s'.heap.get? b = some o ∧ H' b = none := fun b hb o e =>
          let z := I'.pin (b, o) (List.mem_append_right _ (List.mem_append_right _ (mem_pinsAt hb e)))
          ⟨z.1, z.2.1⟩
        have hl : (wipe σ (own.map (·.2))).length = σ8.length := by rw [← hw8, wipe_length]
        refine ⟨m', hm, i + 1, H', (I'.unpinned (pins := [])).weak hl (fun j v e => ?_), T.keep _ _ _ st7 fun b hb o e => (pin' b hb o e).1, fun b hb => ?_, w'⟩
        · rw [← hw8] at e
          exact (wipe_some e).1
        · obtain ⟨o, e, _⟩ := T.obj _ _ st7 b hb
          exact (pin' b hb o e).2
      cases b with
      | false =>
        simp only [Bool.false_eq_true, if_false] at q9 ⊢
        exact fin I9 q9
      | true =>
        simp only [if_true] at q9 ⊢
        refine thnF (pe _ s9 σ8 H9 _ I9 q9) fun z s10 ⟨yv, H10, I10, r10, acc, hD10, hz10, nx⟩ => ?_
        exact app_ok (X := X.blk s3 H3 scope ce fp) I10 hD10 hz10 r10 fun s11 I11 => fin I11 nx
  exact codeAny_compStart_list loop (T.self X.A 0 _ _ _ st4 loop)
/-- as a value -/
theorem pe_lc {elt tg iter : Expr} {ifs : List Expr} {scope : Scope} {own : List (Str × Nat)} {pos : Pos} {wi : TI} {g : TG} {tt : TT} {te : TE} (hc : X.calm = true) (hN : X.N.Nodup) (hi : PI X tg iter wi) (ok : BlkOk X.N X.env.scope scope own)
    (hg : ∀ (s : Shared) (H : Hp) (C : Addr) (cl : List (Str × Addr)) (fp : List Addr), PG (X.blk s H scope (compEnvC scope cl C X.env) fp) tg g) (ht : ∀ (s : Shared) (H : Hp) (C : Addr) (cl : List (Str × Addr)) (fp : List Addr), PTs (X.blk s H scope (compEnvC scope cl C X.env) fp) ifs tt)
    (he : ∀ (s : Shared) (H : Hp) (C : Addr) (cl : List (Str × Addr)) (fp : List Addr), PE (X.blk s H scope (compEnvC scope cl C X.env) fp) elt te) (hs : ∀ x, foldedSetIterable iter X.env x = pure x := by intro _; rfl) :
    PE X (.ListComp elt [⟨tg, iter, ifs, 0⟩] scope pos) (tLc wi g tt te (own.map (·.2))) := by
  intro pins s σ H Q I h
  rw [eval_ListComp]
  refine lc_core hc hN I hi ok hg ht he hs h fun D C s' m H' I' q hn f => ⟨m, hn, fun h'' sb => ?_⟩
  obtain ⟨f0, f1, f2, f3, f4, f5⟩ := f
  exact ⟨.ref D, H', I'.turned (t' := s'.toks) (fun b o hb e => (sb.2 b hb).trans e) f0 f1 f3 f4 f5, rfl, q⟩
/-- name = [..] on one line, the name a local -/
theorem ps_setLc {i : Nat} {y : Str} {py : Pos} {elt tg iter : Expr} {ifs : List Expr} {scope : Scope} {own : List (Str × Nat)} {pos spos : Pos} {wi : TI} {g : TG} {tt : TT} {te : TE} (hc : X.calm = true) (hN : X.N.Nodup) (hy : X.N[i]? = some y) (hyl : X.env.scope.names.lookup y = some .local)
    (hsw : swapsWith (.ListComp elt [⟨tg, iter, ifs, 0⟩] scope pos) (some (.Name y py)) spos.line X.env = pure true) (hi : PI X tg iter wi) (ok : BlkOk X.N X.env.scope scope own)
    (hg : ∀ (s : Shared) (H : Hp) (C : Addr) (cl : List (Str × Addr)) (fp : List Addr), PG (X.blk s H scope (compEnvC scope cl C X.env) fp) tg g) (ht : ∀ (s : Shared) (H : Hp) (C : Addr) (cl : List (Str × Addr)) (fp : List Addr), PTs (X.blk s H scope (compEnvC scope cl C X.env) fp) ifs tt)
    (he : ∀ (s : Shared) (H : Hp) (C : Addr) (cl : List (Str × Addr)) (fp : List Addr), PE (X.blk s H scope (compEnvC scope cl C X.env) fp) elt te) (hs : ∀ x, foldedSetIterable iter X.env x = pure x := by intro _; rfl) :
    PS X (.Assign [.Name y py] (.ListComp elt [⟨tg, iter, ifs, 0⟩] scope pos) spos) (tAsg (tLc wi g tt te (own.map (·.2))) (gName i)) := by
  intro pins s σ H D I h
  rw [exec_Assign_Name_used _ _ _ _ hsw]
  refine wpAny_bind (wpAny_standAt (wpAny_bind ?_))
  show wpAny _ X.A (do let _ ← comprehension (.ListComp elt [⟨tg, iter, ifs, 0⟩] scope pos) scope X.env (firstIterPos [⟨tg, iter, ifs, 0⟩] pos) (newList []) false (eval iter X.env) (some (assign (.Name y py) X.env))) _ _ s
  have h : tLc wi g tt te (own.map (·.2)) σ H (fun x H1 => gName i x σ H1 D.nx) := h
  refine wpAny_bind (thn (lc_core (Qf := fun _ s' => SP X pins D .next s') hc hN I hi ok hg ht he hs h fun L C s' m H' I' q hn f => ?_) fun _ s' hq => wpAny_pure (wpAny_pure hq))
  show wpAny _ _ (assign (.Name y py) X.env (.ref L)) _ _ _
  refine wpAny_assign_Name (store_ok2 (v := V.ref L) I' hN hy (.inl hyl) rfl (fun s2 I2 ⟨a, sb, ha⟩ => ?_) (.inr hyl))
  obtain ⟨f0, f1, f2, f3, f4, f5⟩ := f
  have haC : C ≠ a := by
    rcases ha with z | z
    · rw [z]; exact f1
    · exact fun e => f4 y a z e.symm
  refine ⟨m, hn.sameBut sb haC, fun h3 sb3 => ?_⟩
  exact ⟨_, H', I2.turned (t' := s2.toks) (fun b o hb e => (sb3.2 b hb).trans e) f0 f1 f3 f4 f5, q⟩
theorem sw_true {elt : Expr} {gs : List Comprehension} {scope : Scope} {pos py : Pos} {y : Str} {l : Nat} {env : Env} (hk : env.scope.kind = .function) (hy : env.scope.names.lookup y = some .local) (hl : (py.line == pos.line) = true)
    (ha : (scope.names.any fun (n, k) => n == y && (k == .local || k == .cell)) = false) : swapsWith (.ListComp elt gs scope pos) (some (.Name y py)) l env = pure true := by
  have ky : env.kindOf y = some .local := hy
  have hb : env.blockKind = .function := by unfold Env.blockKind; rw [hk]; rfl
  unfold swapsWith
  simp only [hb, ky, ha, Expr.pos, hl]
  rfl
end
/-! ### the forms one uses -/
/-- over a list that the block leaves as it is -/
theorem lc_list {K : PySem.W.Frag} {a : Addr} {xs : List V} {g : TG} {tt : TT} {te : TE} {vs : List Nat} {σ : St} {H1 : Hp} {D : Addr} {Qd : Hp → Prop} (Pv : Nat → Hp → Prop) (h0 : Pv 0 (upd H1 D (.lst []))) (hl : ∀ i H, i ≤ xs.length → Pv i H → SqL K H a xs)
    (hs : ∀ i x H, xs[i]? = some x → Pv i H → g x (wipe σ vs) H fun σ2 H2 => wipe σ2 vs = wipe σ vs ∧ tt σ2 H2 fun b H3 =>
      if b = true then te σ2 H3 fun y H4 => ∃ acc, H4 D = some (.lst acc) ∧ acc.length < sizeLine ∧ Pv (i + 1) (upd H4 D (.lst (acc ++ [y]))) else Pv (i + 1) H3) (hd : ∀ H, Pv xs.length H → Qd H) :
    ∃ W : Nat → Nat → Hp → Prop, (∃ m, W 0 m (upd H1 D (.lst []))) ∧ ∀ i m H, W i m H →
      ((Itl K a).stop i H ∧ Qd H) ∨ ((Itl K a).go i H ∧ ∃ Nx : Hp → Prop, (∀ H', Nx H' → ∃ m', m' < m ∧ W (i + 1) m' H') ∧ ∀ x H', (Itl K a).yld i H x H' → g x (wipe σ vs) H' fun σ2 H2 => wipe σ2 vs = wipe σ vs ∧ tt σ2 H2 fun b H3 =>
        if b = true then te σ2 H3 fun y H4 => ∃ acc, H4 D = some (.lst acc) ∧ acc.length < sizeLine ∧ Nx (upd H4 D (.lst (acc ++ [y]))) else Nx H3) := by
  refine ⟨fun i m H => m = xs.length - i ∧ i ≤ xs.length ∧ Pv i H, ⟨xs.length, by simp, Nat.zero_le _, h0⟩, ?_⟩
  rintro i m H ⟨rfl, hi, p⟩
  have q := hl i H hi p
  by_cases hlt : i < xs.length
  · refine .inr ⟨⟨xs, xs[i], q, by simp [hlt]⟩, Pv (i + 1), fun H' p' => ⟨xs.length - (i + 1), by omega, rfl, hlt, p'⟩, fun x H' y => ?_⟩
    obtain ⟨e, y⟩ := y
    subst e
    exact hs i x _ (y xs q) p
  · have e : i = xs.length := by omega
    subst e
    exact .inl ⟨⟨xs, q, Nat.le_refl _⟩, hd H p⟩
def blkC (N : List Str) (sc scope : Scope) (own : List (Str × Nat)) : Bool :=
  (match scope.kind with | .function => true | _ => false) && (scope.names.all fun y => decide (scope.names.lookup y.1 = some y.2)) && (own.all fun p => decide (N[p.2]? = some p.1)) &&
    (scope.names.all fun y => match y.2 with
      | .free => (match sc.names.lookup y.1 with | some .cell => true | some .free => true | _ => false)
      | .local => decide (y.1 ∈ own.map (·.1)) || decide (y.1 ∉ N)
      | .cell => decide (y.1 ∈ own.map (·.1)) || decide (y.1 ∉ N)
      | _ => true)
theorem blkOk_by {N : List Str} {sc scope : Scope} {own : List (Str × Nat)} (h : blkC N sc scope own = true) : BlkOk N sc scope own := by
  unfold blkC at h
  simp only [Bool.and_eq_true, List.all_eq_true, decide_eq_true_eq] at h
  obtain ⟨⟨⟨h1, h2⟩, h3⟩, h4⟩ := h
  refine ⟨?_, h2, h3, fun y hy e => ?_, fun y hy e => ?_⟩
  · split at h1
    · assumption
    · cases h1
  · have q := h4 y hy
    simp only [e] at q
    split at q <;> first | exact .inl (by assumption) | exact .inr (by assumption) | cases q
  · have q := h4 y hy
    rcases e with e | e <;> (simp only [e, Bool.or_eq_true, decide_eq_true_eq] at q; exact q)
end L2
namespace L2
open PySem PySem.Spec PyProof.Rows
section
variable {prog : Program} {w : World} {A : Around} {R : Result → Shared → Prop} {s : Shared} {elt t0 i0 t1 i1 : Expr} {ifs0 ifs1 : List Expr} {scope : Scope} {pos : Pos} {it acc : Value} {env : Env}
end
section
variable {X : Cx}
end
end L2
namespace L2
open PySem PySem.Spec PyProof.Rows
/-! ### lists of pairs as tables -/
section
variable {κ : Type} [DecidableEq κ]
def valV (kvs : List (κ × V)) (k : κ) : Option V := (kvs.find? fun kv => decide (kv.1 = k)).map (·.2)
/-- in its place, or at the end -/
def putK (kvs : List (κ × V)) (k : κ) (v : V) : List (κ × V) :=
  if (kvs.any fun kv => decide (kv.1 = k)) = true then kvs.map (fun kv => if kv.1 = k then (kv.1, v) else kv) else kvs ++ [(k, v)]
theorem valV_pos {p : κ × V} {r : List (κ × V)} {k : κ} (e : p.1 = k) : valV (p :: r) k = some p.2 := by simp [valV, List.find?_cons, e]
theorem valV_neg {p : κ × V} {r : List (κ × V)} {k : κ} (e : ¬ p.1 = k) : valV (p :: r) k = valV r k := by simp [valV, List.find?_cons, e]
theorem valV_any (k : κ) : ∀ kvs : List (κ × V), (kvs.any fun kv => decide (kv.1 = k)) = (valV kvs k).isSome
  | [] => rfl
  | p :: r => by
    rw [List.any_cons]
    by_cases e : p.1 = k
    · simp only [valV_pos e, decide_eq_true e, Bool.true_or, Option.isSome_some]
    · rw [valV_neg e, decide_eq_false e, Bool.false_or]; exact valV_any k r
theorem valV_map (k j : κ) (y : V) : ∀ kvs : List (κ × V), valV (kvs.map fun kv => if kv.1 = k then (kv.1, y) else kv) j = (valV kvs j).map fun x => if j = k then y else x
  | [] => rfl
  | p :: r => by
    have ih := valV_map k j y r
    rw [List.map_cons]
    by_cases h : p.1 = k
    · rw [if_pos h]
      by_cases e : p.1 = j
      · rw [valV_pos (p := (p.1, y)) e, valV_pos e, Option.map_some, if_pos (e.symm.trans h)]
      · rw [valV_neg (p := (p.1, y)) e, valV_neg e, ih]
    · rw [if_neg h]
      by_cases e : p.1 = j
      · rw [valV_pos (p := p) e, valV_pos e, Option.map_some, if_neg (fun z => h (e.trans z))]
      · rw [valV_neg (p := p) e, valV_neg e, ih]
theorem valV_snoc (k j : κ) (y : V) : ∀ kvs : List (κ × V), valV kvs k = none → valV (kvs ++ [(k, y)]) j = if j = k then some y else valV kvs j
  | [], _ => by
    by_cases e : k = j
    · rw [if_pos e.symm]; exact valV_pos (p := (k, y)) e
    · rw [if_neg (fun z => e z.symm)]; exact valV_neg (p := (k, y)) e
  | p :: r, hn => by
    rw [List.cons_append]
    have hk : ¬ p.1 = k := fun z => by rw [valV_pos z] at hn; cases hn
    rw [valV_neg hk] at hn
    have ih := valV_snoc k j y r hn
    by_cases e : p.1 = j
    · rw [valV_pos e, valV_pos e, if_neg (fun z => hk (e.trans z))]
    · rw [valV_neg e, valV_neg e, ih]
theorem valV_put (kvs : List (κ × V)) (k j : κ) (y : V) : valV (putK kvs k y) j = if j = k then some y else valV kvs j := by
  unfold putK
  by_cases a : (kvs.any fun kv => decide (kv.1 = k)) = true
  · rw [if_pos a, valV_map]
    rw [valV_any] at a
    by_cases e : j = k
    · obtain ⟨x, hx⟩ := Option.isSome_iff_exists.mp a
      rw [if_pos e, e, hx, Option.map_some, if_pos rfl]
    · rw [if_neg e]
      cases valV kvs j with
      | none => rfl
      | some x => rw [Option.map_some, if_neg e]
  · rw [if_neg a]
    refine valV_snoc k j y kvs ?_
    rw [valV_any] at a
    cases q : valV kvs k with
    | none => rfl
    | some x => rw [q] at a; exact (a rfl).elim
theorem length_putK (kvs : List (κ × V)) (k : κ) (v : V) : (putK kvs k v).length ≤ kvs.length + 1 := by
  unfold putK
  split
  · rw [List.length_map]; omega
  · rw [List.length_append, List.length_cons, List.length_nil]; omega
theorem RelO.isSome_eq {o : Option V} {u : Option Value} (r : RelO o u) : o.isSome = u.isSome := by
  cases o with
  | none => cases u with
    | none => rfl
    | some _ => exact (show False from r).elim
  | some _ => cases u with
    | none => exact (show False from r).elim
    | some _ => rfl
/-- raw tables of the same keys -/
theorem KV.val {kvs : List (κ × V)} {vs : List (κ × Value)} (r : KV kvs vs) (k : κ) : RelO (valV kvs k) (valueAt vs k) := by
  unfold KV at r
  induction r with
  | nil => exact True.intro
  | @cons p q ps qs h t ih =>
    obtain ⟨h1, h2⟩ := h
    by_cases e : p.1 = k
    · have e' : q.1 = k := h1.symm.trans e
      have b : valueAt (q :: qs) k = some q.2 := by simp [valueAt, List.find?_cons, e']
      rw [valV_pos e, b]; exact h2
    · have e' : ¬ q.1 = k := fun z => e (h1.trans z)
      have b : valueAt (q :: qs) k = valueAt qs k := by simp [valueAt, List.find?_cons, e']
      rw [valV_neg e, b]; exact ih
theorem KV.any {kvs : List (κ × V)} {vs : List (κ × Value)} (r : KV kvs vs) (k : κ) : (kvs.any fun kv => decide (kv.1 = k)) = vs.any fun kv => decide (kv.1 = k) := by
  unfold KV at r
  induction r with
  | nil => rfl
  | cons h t ih => rw [List.any_cons, List.any_cons, ih, h.1]
theorem KV.repl {kvs : List (κ × V)} {vs : List (κ × Value)} (r : KV kvs vs) (k : κ) {y : V} {u : Value} (ry : RelV y u) :
    KV (kvs.map fun kv => if kv.1 = k then (kv.1, y) else kv) (vs.map fun kv => if kv.1 = k then (kv.1, u) else kv) := by
  unfold KV at r ⊢
  induction r with
  | nil => exact .nil
  | @cons p q ps qs h t ih =>
    rw [List.map_cons, List.map_cons]
    refine .cons ?_ ih
    obtain ⟨h1, h2⟩ := h
    by_cases e : p.1 = k
    · rw [if_pos e, if_pos (h1.symm.trans e)]; exact ⟨h1, ry⟩
    · rw [if_neg e, if_neg (fun z => e (h1.trans z))]; exact ⟨h1, h2⟩
theorem KV.put {kvs : List (κ × V)} {vs : List (κ × Value)} (r : KV kvs vs) (k : κ) {y : V} {u : Value} (ry : RelV y u) : KV (putK kvs k y) (stored vs k u) := by
  unfold putK stored
  rw [r.any k]
  by_cases e : (vs.any fun kv => decide (kv.1 = k)) = true
  · rw [if_pos e, if_pos e]; exact r.repl k ry
  · rw [if_neg e, if_neg e]; exact Paired.snoc r ⟨rfl, ry⟩
theorem KV.length {kvs : List (κ × V)} {vs : List (κ × Value)} (r : KV kvs vs) : kvs.length = vs.length := Paired.length r
end
/-! ### a tracked dict, its keys ints and texts or tuples of these -/
theorem kV_is {P : Program} {w : World} {k : Key} {u : Value} (r : RelV (kV k) u) : (mixKind P w).is k u = true := by
  cases k with
  | inl i => obtain ⟨t, e⟩ := (show ∃ t, u = Value.int i t from r); subst e; exact mixKind_int P w i t
  | inr x => obtain ⟨t, e⟩ := (show ∃ t, u = Value.str x t from r); subst e; exact mixKind_str P w x t
theorem items_are {P : Program} {w : World} : ∀ {ks : List Key} {us : List Value}, Vals (ks.map kV) us → ItemsAre (mixKind P w) ks us
  | [], _, r => by rw [List.map_nil] at r; cases r; exact .nil
  | k :: ks, _, r => by
    rw [List.map_cons] at r
    cases r with
    | cons h t => exact .cons (kV_is h) (items_are t)
/-- raw entries of a dict with tuple keys -/
abbrev KT (H : Hp) : List (List Key × V) → List (List Key × Addr × Value) → Prop := Paired fun p q => p.1 = q.1 ∧ H q.2.1 = some (.tup (p.1.map kV)) ∧ RelV p.2 q.2.2
theorem KT.val {H : Hp} {kvs : List (List Key × V)} {xs : List (List Key × Addr × Value)} (r : KT H kvs xs) (k : List Key) : RelO (valV kvs k) ((atKey xs k).map (·.2)) := by
  induction r with
  | nil => exact True.intro
  | @cons p q ps qs h t ih =>
    obtain ⟨h1, _, h2⟩ := h
    by_cases e : p.1 = k
    · have e' : q.1 = k := h1.symm.trans e
      have b : atKey (q :: qs) k = some q.2 := by simp [atKey, List.find?_cons, e']
      rw [valV_pos e, b]; exact h2
    · have e' : ¬ q.1 = k := fun z => e (h1.trans z)
      have b : atKey (q :: qs) k = atKey qs k := by simp [atKey, List.find?_cons, e']
      rw [valV_neg e, b]; exact ih
theorem KT.repl {H : Hp} {kvs : List (List Key × V)} {xs : List (List Key × Addr × Value)} (r : KT H kvs xs) (k : List Key) {y : V} {u : Value} (ry : RelV y u) :
    KT H (kvs.map fun kv => if kv.1 = k then (kv.1, y) else kv) (xs.map (putAt k u)) := by
  induction r with
  | nil => exact .nil
  | @cons p q ps qs h t ih =>
    rw [List.map_cons, List.map_cons]
    refine .cons ?_ ih
    obtain ⟨h1, h2, h3⟩ := h
    unfold putAt
    by_cases e : p.1 = k
    · rw [if_pos e, if_pos (h1.symm.trans e)]; exact ⟨h1, h2, ry⟩
    · rw [if_neg e, if_neg (fun z => e (h1.trans z))]; exact ⟨h1, h2, h3⟩
theorem KT.put {H : Hp} {kvs : List (List Key × V)} {xs : List (List Key × Addr × Value)} (r : KT H kvs xs) (k : List Key) {b : Addr} {y : V} {u : Value} (hb : H b = some (.tup (k.map kV))) (ry : RelV y u) :
    KT H (putK kvs k y) (storedH xs k b u) := by
  have e : (kvs.any fun kv => decide (kv.1 = k)) = (atKey xs k).isSome := by
    rw [valV_any, (r.val k).isSome_eq, Option.isSome_map]
  unfold putK storedH
  rw [e]
  by_cases q : (atKey xs k).isSome = true
  · rw [if_pos q, if_pos q]; exact r.repl k ry
  · rw [if_neg q, if_neg q]; exact Paired.snoc r ⟨rfl, hb, ry⟩
theorem KT.keeps {H H' : Hp} {kvs : List (List Key × V)} {xs : List (List Key × Addr × Value)} (r : KT H kvs xs) (ht : ∀ b ys, H b = some (.tup ys) → H' b = some (.tup ys)) : KT H' kvs xs :=
  Paired.mapP r fun _ _ z => ⟨z.1, ht _ _ z.2.1, z.2.2⟩
section
variable {P : Program} {w : World} {H : Hp} {h : Heap} {a : Addr}
theorem rd_of {u : HO} (ok : HOk P w H h) (e : Rd H a u) : ObjOk P w H h a u := e.ok ok
theorem dk_rd {kvs : List (Key × V)} (ok : HOk P w H h) (e : Rd H a (.dK kvs)) : kvs.length ≤ sizeLine ∧ (a == sysModules) = false ∧ ∃ vs, KV kvs vs ∧ h.DictOf (mixKind P w) a vs :=
  show ObjOk P w H h a (.dK kvs) from rd_of ok e
theorem dk_of {kvs : List (Key × V)} (ok : HOk P w H h) (e : H a = some (.dK kvs)) : kvs.length ≤ sizeLine ∧ (a == sysModules) = false ∧ ∃ vs, KV kvs vs ∧ h.DictOf (mixKind P w) a vs := dk_rd ok (.inl e)
/-- a tracked tuple of ints and texts is a key -/
theorem key_of {ks : List Key} (ok : HOk P w H h) (e : H a = some (.tup (ks.map kV))) : (tupleKind (mixKind P w)).is h ks a := by
  obtain ⟨_, its, r, o, h1, h2, n, h3⟩ := (show ObjOk P w H h a (.tup (ks.map kV)) from ok a _ e)
  exact ⟨o, its.toArray, n, h1, h2, h3, by simpa using items_are r⟩
theorem dt_rd {kvs : List (List Key × V)} (ok : HOk P w H h) (e : Rd H a (.dT kvs)) : kvs.length ≤ sizeLine ∧ (a == sysModules) = false ∧
    ∃ xs, KT H kvs xs ∧ h.DictOfH (tupleKind (mixKind P w)) a xs := by
  obtain ⟨z, y, xs, r, o, es, ep, h1, h2, h3, h4, h5⟩ := (show ObjOk P w H h a (.dT kvs) from rd_of ok e)
  refine ⟨z, y, xs, r, o, es, ep, h1, h2, h3, h4, fun x hx => ?_, h5⟩
  have all : ∀ {l : List (List Key × V)} {m : List (List Key × Addr × Value)}, KT H l m → ∀ x ∈ m, (tupleKind (mixKind P w)).is h x.1 x.2.1 := by
    intro l m q
    induction q with
    | nil => intro x hx; exact nomatch hx
    | @cons p q ps qs hq t ih =>
      intro x hx
      rcases List.mem_cons.mp hx with e | hx
      · subst e
        exact key_of ok (by rw [← hq.1]; exact hq.2.1)
      · exact ih x hx
  exact all r x hx
theorem dt_of {kvs : List (List Key × V)} (ok : HOk P w H h) (e : H a = some (.dT kvs)) : kvs.length ≤ sizeLine ∧ (a == sysModules) = false ∧
    ∃ xs, KT H kvs xs ∧ h.DictOfH (tupleKind (mixKind P w)) a xs := dt_rd ok (.inl e)
end
/-- what the dict at a holds at the key y -/
def DGet (H : Hp) (a : Addr) (y : V) (r : Option V) : Prop :=
  (∃ kvs k, Rd H a (.dK kvs) ∧ y = kV k ∧ r = valV kvs k) ∨ ∃ kvs k b, Rd H a (.dT kvs) ∧ y = .ref b ∧ H b = some (.tup (k.map kV)) ∧ r = valV kvs k
/-- the heap behind a[y] = v -/
def DPut (H : Hp) (a : Addr) (y v : V) (H' : Hp) : Prop :=
  (∃ kvs k, H a = some (.dK kvs) ∧ y = kV k ∧ kvs.length < sizeLine ∧ H' = upd H a (.dK (putK kvs k v))) ∨
  ∃ kvs k b, H a = some (.dT kvs) ∧ y = .ref b ∧ H b = some (.tup (k.map kV)) ∧ kvs.length < sizeLine ∧ H' = upd H a (.dT (putK kvs k v))
theorem DGet.t {H : Hp} {a b : Addr} {kvs : List (List Key × V)} {k : List Key} (e : H a = some (.dT kvs)) (eb : H b = some (.tup (k.map kV))) : DGet H a (.ref b) (valV kvs k) := .inr ⟨kvs, k, b, .inl e, rfl, eb, rfl⟩
theorem DPut.t {H : Hp} {a b : Addr} {kvs : List (List Key × V)} {k : List Key} {v : V} (e : H a = some (.dT kvs)) (eb : H b = some (.tup (k.map kV))) (hl : kvs.length < sizeLine) :
    DPut H a (.ref b) v (upd H a (.dT (putK kvs k v))) := .inr ⟨kvs, k, b, e, rfl, eb, hl, rfl⟩
section
variable {X : Cx} {pins : List (Addr × Obj)} {σ : St} {H : Hp} {s : Shared} {a : Addr} {y v : V} {u r : Value} {o : Option V} {A : Around} {E : Value → Shared → Prop}
theorem Inv.big (I : Inv X pins σ H s) : sysModules < s.heap.objs.size := by
  have h : mainGlobals < s.heap.objs.size := (I.mod.glob.keeps I.bk).lt
  exact Nat.lt_trans (by decide) h
/-- y in d -/
theorem d_in {Q : Value → Shared → Prop} (hu : A.units + 1 < cLine) (I : Inv X pins σ H s) (g : DGet H a y o) (ry : RelV y u) (h : ∀ s', Inv X pins σ H s' → Q (.bool o.isSome) s') :
    wpAny (model X.prog X.w) A (compareOp .In u (.ref a)) Q E s := by
  rcases g with ⟨kvs, k, e, ey, l⟩ | ⟨kvs, k, b, e, ey, eb, l⟩
  · subst ey
    obtain ⟨z, hd, vs, rel, dd⟩ := dk_rd I.hok e
    refine wpAny_in_of (kV_is ry) hd dd.mapOf ?_
    rw [← (rel.val k).isSome_eq, ← l]
    exact h _ (I.tok _)
  · subst ey
    cases (show u = Value.ref b from ry)
    obtain ⟨z, hd, xs, rel, dd⟩ := dt_rd I.hok e
    refine wpAny_in_heap (tupleKind_room_in1 hu) (key_of I.hok eb) hd dd ?_
    have q := (rel.val k).isSome_eq
    rw [Option.isSome_map] at q
    rw [← q, ← l]
    exact h _ (I.tok _)
/-- a dict's object is replaced -/
theorem d_write {h' : Heap} {t' : Nat} {ob : HO} (I : Inv X pins σ H s) (mu : Mut (H a)) (hs : Heap.SameBut a s.heap h') (he : ∃ q, h'.get? a = some q) (new : ObjOk X.prog X.w (upd H a ob) h' a ob) :
    Inv X pins σ (upd H a ob) { s with heap := h', toks := t' } :=
  I.write (x := a) (e := a) mu (.inl rfl) (fun b q hb z => (hs.2 b hb).trans z) he new
theorem dk_new {P : Program} {w : World} {H' : Hp} {h' : Heap} {kvs : List (Key × V)} {vs : List (Key × Value)} (z : kvs.length ≤ sizeLine) (hd : (a == sysModules) = false) (rel : KV kvs vs) (dd : h'.DictOf (mixKind P w) a vs) :
    ObjOk P w H' h' a (.dK kvs) := ⟨z, hd, vs, rel, dd⟩
/-- d[y] = v -/
theorem d_setItem {H' : Hp} {Q : Unit → Shared → Prop} (hu : A.units + 1 < cLine) (I : Inv X pins σ H s) (g : DPut H a y v H') (ry : RelV y u) (rv : RelV v r) (h : ∀ s', Inv X pins σ H' s' → Q () s') :
    wpAny (model X.prog X.w) A (setItem (.ref a) u r) Q E s := by
  rcases g with ⟨kvs, k, e, ey, l, eH⟩ | ⟨kvs, k, b, e, ey, eb, l, eH⟩
  · subst ey eH
    obtain ⟨z, hd, vs, rel, dd⟩ := dk_of I.hok e
    have hz : vs.length ≤ sizeLine := by rw [← rel.length]; exact z
    have hl : (putK kvs k v).length ≤ sizeLine := by have := length_putK kvs k v; omega
    refine wpAny_setItem_pairs (hsz := hz) (kV_is ry) dd fun h' dd' hs => h _ ?_
    have he : ∃ q, h'.get? a = some q := let ⟨q, _, _, hq, _⟩ := dd'; ⟨q, hq⟩
    exact d_write I (by rw [e]; exact True.intro) hs he (dk_new hl hd (rel.put k rv) dd')
  · subst ey eH
    cases (show u = Value.ref b from ry)
    obtain ⟨z, hd, xs, rel, dd⟩ := dt_of I.hok e
    have hz : xs.length ≤ sizeLine := by rw [← Paired.length rel]; exact z
    have hl : (putK kvs k v).length ≤ sizeLine := by have := length_putK kvs k v; omega
    refine wpAny_setItem_heap (hsz := hz) (tupleKind_room_in1 hu) (key_of I.hok eb) dd fun h' dd' hs => h _ ?_
    obtain ⟨q, es, ep, hq, h2, h3, h4, _, h5⟩ := dd'
    refine d_write I (by rw [e]; exact True.intro) hs ⟨q, hq⟩ ⟨hl, hd, _, (rel.put k eb rv).keeps fun c ys ec => ?_, q, es, ep, hq, h2, h3, h4, h5⟩
    rw [upd_ne (ne_of ec e (fun z => nomatch z))]
    exact ec
end
section
variable {X : Cx} {pins : List (Addr × Obj)} {σ : St} {H : Hp} {s : Shared} {a : Addr} {kvs : List (Key × V)} {k : Key} {u : Value} {A : Around} {E : Value → Shared → Prop}
end
/-! ### readings and rules -/
/-- y in d, y not in d -/
def tDIn (ty td : TE) : TE := fun σ H Q => ty σ H fun y H1 => td σ H1 fun x H2 => ∃ a o, x = .ref a ∧ DGet H2 a y o ∧ Q (.bl o.isSome) H2
/-- d[y] = v -/
def sDPut (td ty tv : TE) : TS := fun D σ H => tv σ H fun v H1 => td σ H1 fun x H2 => ty σ H2 fun y H3 => ∃ a H4, x = .ref a ∧ DPut H3 a y v H4 ∧ D.nx σ H4
section
variable {X : Cx} {o i e value : Expr} {pos pos' tpos : Pos} {td ty tv : TE}
theorem pc_din (hu : X.A.units + 1 < cLine) (hi : PE X i ty) (ho : PE X o td) : PC X .In i o (tDIn ty td) := by
  intro pins s σ H Q I h
  refine thn (hi pins s σ H _ I h) fun iv s1 ⟨y, H1, I1, ry, q1⟩ => thn (ho pins s1 σ H1 _ I1 q1) fun u s2 ⟨x, H2, I2, rx, a, ov, ex, g, q2⟩ => ?_
  subst ex
  obtain rfl : u = Value.ref a := rx
  exact d_in hu I2 g ry fun s3 I3 => ⟨.bl ov.isSome, H2, I3, rfl, q2⟩
theorem ps_dput (hu : X.A.units + 1 < cLine) (ho : PE X o td) (hi : PE X i ty) (hv : PE X value tv) (hs : swapsWith value (some (.Subscript o i pos')) pos.line X.env = pure false) :
    PS X (.Assign [.Subscript o i pos'] value pos) (sDPut td ty tv) := by
  intro pins s σ H D I h
  refine wpAny_Assign_Subscript (thn (hv pins s σ H _ I h) fun r s1 ⟨v, H1, I1, rv, q1⟩ => thn (ho pins s1 σ H1 _ I1 q1) fun u s2 ⟨x, H2, I2, rx, q2⟩ => thn (hi pins s2 σ H2 _ I2 q2) fun iv s3 ⟨y, H3, I3, ry, a, H4, ex, g, q3⟩ => ?_) hs
  subst ex
  obtain rfl : u = Value.ref a := rx
  exact d_setItem hu I3 g ry rv fun s4 I4 => ⟨σ, H4, I4, q3⟩
end
/-! ### displays -/
theorem dk_empty {P : Program} {w : World} {H : Hp} (h : Heap) (hb : sysModules < h.objs.size) : ObjOk P w H (h.push { cls := .type "dict", data := .dict #[] }) h.objs.size (.dK []) :=
  ⟨Nat.zero_le _, beq_eq_false_iff_ne.mpr (Ne.symm (Nat.ne_of_lt hb)), [], .nil, Heap.DictOf.new h⟩
theorem dt_empty {P : Program} {w : World} {H : Hp} (h : Heap) (hb : sysModules < h.objs.size) : ObjOk P w H (h.push { cls := .type "dict", data := .dict #[] }) h.objs.size (.dT []) :=
  ⟨Nat.zero_le _, beq_eq_false_iff_ne.mpr (Ne.symm (Nat.ne_of_lt hb)), [], .nil, _, #[], 0, Heap.get?_push_size _ rfl, ⟨rfl, rfl, rfl⟩, rfl, rfl, List.nodup_nil⟩
/-- {}, to be a dict of the kind that is wanted -/
def tDNewK : TE := fun _ H Q => ∀ p, H p = none → Q (.ref p) (upd H p (.dK []))
def tDNewT : TE := fun _ H Q => ∀ p, H p = none → Q (.ref p) (upd H p (.dT []))
section
variable {X : Cx} {pos : Pos}
theorem pe_dnewK : PE X (.Dict [] [] pos) tDNewK := fun pins s σ H Q I h =>
  wpAny_Dict_empty ⟨.ref s.heap.objs.size, _, I.laid (a := s.heap.objs.size) (o := .dK []) (t' := s.toks) (fun _ _ q => Heap.get?_push_of_some _ q) (Nat.le_refl _) (dk_empty s.heap I.big), rfl, h _ (I.hok.fresh (Nat.le_refl _))⟩
theorem pe_dnewT : PE X (.Dict [] [] pos) tDNewT := fun pins s σ H Q I h =>
  wpAny_Dict_empty ⟨.ref s.heap.objs.size, _, I.laid (a := s.heap.objs.size) (o := .dT []) (t' := s.toks) (fun _ _ q => Heap.get?_push_of_some _ q) (Nat.le_refl _) (dt_empty s.heap I.big), rfl, h _ (I.hok.fresh (Nat.le_refl _))⟩
end
/-! ### methods -/
structure M2 (X : Cx) (o : Expr) (m : Str) (apos : Pos) (e f : Expr) (cpos : Pos) : Prop where
  base : attributeBase o m X.env (eval o X.env) = eval o X.env
  few : ((backTo cpos (starEach [e, f] X.env)).all (fun x => !x.1) && (backToKw cpos (keywordEach [] X.env)).all (fun x => x.1.isSome)
    && decide (([e, f] : List Expr).length + ([] : List Keyword).length + (if ([] : List Keyword).isEmpty then 0 else 1) < 30)) = true
  line : (apos.endLine == cpos.line) = true
  trees : backTo cpos (starEach [e, f] X.env) = [(false, eval e X.env), (false, eval f X.env)]
/-- a is a dict, whatever its keys -/
def IsD (H : Hp) (a : Addr) : Prop := (∃ kvs, Rd H a (.dK kvs)) ∨ ∃ kvs, Rd H a (.dT kvs)
theorem isD_at {X : Cx} {pins : List (Addr × Obj)} {σ : St} {H : Hp} {s : Shared} {a : Addr} (I : Inv X pins σ H s) (d : IsD H a) :
    s.TypeIs (.ref a) "dict" ∧ (∀ b, Value.ref a = .ref b → ∃ ob, s.heap.get? b = some ob ∧ ob.dict = none) ∧ (a == sysModules) = false := by
  rcases d with ⟨kvs, e⟩ | ⟨kvs, e⟩
  · obtain ⟨_, hd, vs, _, dd⟩ := dk_rd I.hok e
    refine ⟨dd.typeIs, fun b q => ?_, hd⟩
    cases q
    obtain ⟨ob, _, _, h1, h2, _⟩ := dd
    exact ⟨ob, h1, h2.2.1⟩
  · obtain ⟨_, hd, xs, _, dd⟩ := dt_rd I.hok e
    refine ⟨dd.typeIs, fun b q => ?_, hd⟩
    cases q
    obtain ⟨ob, _, _, h1, h2, _⟩ := dd
    exact ⟨ob, h1, h2.2.1⟩
section
variable {X : Cx} {pins : List (Addr × Obj)} {σ : St} {H : Hp} {s : Shared} {a : Addr} {y d : V} {u r : Value} {o : Option V} {A : Around} {E : Value → Shared → Prop}
end
section
variable {X : Cx} {o e f : Expr} {apos cpos : Pos} {td ty tx : TE}
end
/-! ### dict(d): a copy -/
section
variable {X : Cx} {pins : List (Addr × Obj)} {σ : St} {H : Hp} {s : Shared} {a : Addr} {kvs : List (Key × V)} {A : Around} {E : Value → Shared → Prop}
end
section
variable {X : Cx} {pins : List (Addr × Obj)} {σ : St} {H : Hp} {s : Shared} {a : Addr} {y : V} {u : Value} {A : Around} {E : Value → Shared → Prop}
end
end L2
namespace L2
open PySem PySem.Spec PyProof.Rows
section
variable {prog : Program} {w : World} {A : Around} {E : Value → Shared → Prop}
end
section
variable {X : Cx}
end
end L2
namespace L2
open PySem PySem.Spec PyProof.Rows
section
variable {X : Cx} {pins : List (Addr × Obj)} {σ : St} {H : Hp} {s : Shared} {h' : Heap}
/-- several records of ours have turned -/
theorem Inv.turnedL {t' : Nat} {ch : List Addr} (I : Inv X pins σ H s) (k : ∀ b o, b ∉ ch → s.heap.get? b = some o → h'.get? b = some o) (hf : ∀ b ∈ ch, FpOk X pins H b) : Inv X pins σ H { s with heap := h', toks := t' } := by
  have nit : ∀ b u, H b = some u → b ∉ ch := fun b u e z => by
    have q := (hf b z).1
    rw [q] at e; cases e
  refine I.step (g' := s.gens) (d' := s.drawn) (ch := ch) (fun b hb => ⟨(hf b hb).2.2.2.1, (hf b hb).2.1, (hf b hb).2.2.2.2.1, (hf b hb).2.2.2.2.2⟩) (fun b o _ _ hc e _ => k b o hc e) (fun b o _ _ hc e _ => ⟨o.slots, k b o hc e⟩)
    (fun _ _ _ _ n => n) (fun b o hc e => ⟨o, k b o hc e⟩) (fun _ _ e => e) (fun _ _ _ e => e) (fun b ps e => ⟨#[], by rw [e]; simp⟩) (fun m hm => ?_) (fun b u e => ?_) I.bare
  · obtain ⟨o, es, ep, ho, r⟩ := hm
    exact ⟨o, es, ep, k _ o (fun z => (hf _ z).2.1 rfl) ho, r⟩
  · refine (I.hok b u e).stay (fun c v hc q => k c v ?_ q) (fun _ q => q) fun _ _ q => q
    rcases hc with z | z
    · rw [z]; exact nit b u e
    · exact nit c _ z
/-- .. and one new object is laid -/
theorem Inv.turnedNew {t' : Nat} {ch : List Addr} {T : Addr} {ob : HO} (I : Inv X pins σ H s) (k : ∀ b o, b ∉ ch → s.heap.get? b = some o → h'.get? b = some o) (hf : ∀ b ∈ ch, FpOk X pins H b) (hT : s.heap.objs.size ≤ T)
    (new : ObjOk X.prog X.w (upd H T ob) h' T ob) : Inv X pins σ (upd H T ob) { s with heap := h', toks := t' } := by
  have hn : H T = none := I.hok.fresh hT
  have nit : ∀ b u, H b = some u → b ∉ ch := fun b u e z => by
    have q := (hf b z).1
    rw [q] at e; cases e
  refine I.step (g' := s.gens) (d' := s.drawn) (ch := ch) (fun b hb => ⟨(hf b hb).2.2.2.1, (hf b hb).2.1, (hf b hb).2.2.2.2.1, (hf b hb).2.2.2.2.2⟩) (fun b o _ _ hc e _ => k b o hc e) (fun b o _ _ hc e _ => ⟨o.slots, k b o hc e⟩)
    (fun b o _ e n => ?_) (fun b o hc e => ⟨o, k b o hc e⟩) (fun b xs e => ?_) (fun b o u e => ?_) (fun b ps e => ⟨#[], ?_⟩) (fun m hm => ?_) (fun b u e => ?_) I.bare
  · rw [upd_ne (Nat.ne_of_lt (Nat.lt_of_lt_of_le (Heap.lt_size e) hT))]; exact n
  · rw [upd_ne (ne_of_none e hn)]; exact e
  · rw [upd_ne (ne_of_none e hn)]; exact e
  · rw [upd_ne (ne_of_none e hn), e]; simp
  · obtain ⟨o, es, ep, ho, r⟩ := hm
    exact ⟨o, es, ep, k _ o (fun z => (hf _ z).2.1 rfl) ho, r⟩
  · by_cases hb : b = T
    · subst hb
      rw [upd_same] at e
      cases e
      exact new
    · rw [upd_ne hb] at e
      refine (I.hok b u e).stay (fun c v hc q => k c v ?_ q) (fun c q => by rw [upd_ne (ne_of_none q hn)]; exact q) fun c xs q => by rw [upd_ne (ne_of_none q hn)]; exact q
      rcases hc with z | z
      · rw [z]; exact nit b u e
      · exact nit c _ z
/-! ### locking a thing while a statement runs -/
end
section
variable {X : Cx}
/-! ### one iterator just laid -/
end
/-! ### range with a step -/
section
variable {X : Cx} {tg : Expr}
end
/-! ### reversed(list) -/
section
variable {X : Cx} {tg : Expr}
end
/-! ### a str -/
/-! ### a dict's keys: any dict's entries -/
section
variable {prog : Program} {w : World} {A : Around} {E : Value → Shared → Prop} {s : Shared}
end
/-! ### a locked dict -/
section
variable {X : Cx} {pins : List (Addr × Obj)} {σ : St} {H : Hp} {s : Shared} {d : Addr} {o : Obj}
end
section
variable {P : Program} {w : World} {K : PySem.W.Frag} {tg : Expr} {d : Addr} {o : Obj} {es : Array DictEntry} {ep : Nat}
end
/-! ### for k in d, d.keys(), d.values(), d.items() -/
section
variable {X : Cx} {tg e : Expr} {td : TE} {apos cpos : Pos}
end
/-! ### enumerate(list) -/
/-- the list at a as it stands at each turn, each item in a new pair -/
def Ite (K : PySem.W.Frag) (a : Addr) : It :=
  ⟨fun i H => ∃ (xs : List V) (x : V), SqL K H a xs ∧ xs[i]? = some x, fun i H v H' => ∃ T x, v = .ref T ∧ H T = none ∧ H' = upd H T (.tup [.int (i : Nat), x]) ∧ ∀ xs, SqL K H a xs → xs[i]? = some x, fun i H => ∃ xs : List V, SqL K H a xs ∧ xs.length ≤ i⟩
theorem turn_enum {P : Program} {w : World} {K : PySem.W.Frag} {elts : List Expr} {kk : Nat} {tpos : Pos} (a e it : Addr) :
    Turn P w K (.Tuple elts kk tpos) (Ite K a) [e, it] e (fun i h => (∃ old, IsEnum h e it ((i : Nat) : Int) old) ∧ h.IsListIter it a i ∧ e ≠ it) where
  mem := by simp
  obj := fun i h st b hb => by
    obtain ⟨⟨old, he⟩, ⟨o, ho, hc, hd⟩, _⟩ := st
    have e' : b = e ∨ b = it := by simpa using hb
    rcases e' with z | z
    · rw [z]; exact ⟨_, he, fun v q => nomatch q⟩
    · rw [z]; exact ⟨o, ho, fun v q => by rw [hd] at q; cases q⟩
  keep := fun i h h' st k => let ⟨⟨old, he⟩, hi, hne⟩ := st; ⟨⟨old, k e (by simp) _ he⟩, hi.at fun o q => k it (by simp) o q, hne⟩
  item := by
    intro X hP hw hK hc i pins s σ H E I hf st hg
    subst hP hw hK
    obtain ⟨⟨old, he⟩, hit, hne⟩ := st
    obtain ⟨xs, x, hq, hx⟩ := hg
    obtain ⟨its, rv, p, hz⟩ := I.list hq
    obtain ⟨u, hu, ru⟩ := rv.get hx
    have hel : e < s.heap.objs.size := Heap.lt_size he
    have hil : it < s.heap.objs.size := by obtain ⟨_, q, _⟩ := hit; exact Heap.lt_size q
    refine wpAny_pyNext_enum_item he hit p.isList (x := u) (by simpa using hu) hne fun h' ho hit' hT hsz hk => ?_
    refine ⟨_, rfl, wpAny_letOwnedTupleGo_enum (s := { s with heap := h', toks := s.toks + 1 }) ho fun h'' he' sb => ?_⟩
    have hT2 : h''.get? s.heap.objs.size = some { cls := .type "tuple", data := .seq #[.int i s.toks, u] } := (sb.2 _ (Nat.ne_of_gt hel)).trans hT
    have new : ObjOk X.prog X.w (upd H s.heap.objs.size (.tup [.int (i : Nat), x])) h'' s.heap.objs.size (.tup [.int (i : Nat), x]) :=
      ⟨by show 2 ≤ sizeLine; decide, [.int i s.toks, u], .cons ⟨_, rfl⟩ (.cons ru .nil), ⟨_, hT2, rfl, _, rfl⟩⟩
    have I1 : Inv X pins σ (upd H s.heap.objs.size (.tup [.int (i : Nat), x])) { s with heap := h'', toks := s.toks + 1 } :=
      I.turnedNew (ch := [e, it]) (fun b ob hb q => (sb.2 b (fun z => hb (by simp [z]))).trans (hk b ob (fun z => hb (by simp [z])) (fun z => hb (by simp [z])) q)) hf (Nat.le_refl _) new
    refine ⟨.ref s.heap.objs.size, _, I1, rfl, ⟨_, x, rfl, I.hok.fresh (Nat.le_refl _), rfl, fun ys hy => by rw [I.list_inj hy hq]; exact hx⟩, ⟨⟨u, ?_⟩, hit'.at fun o q => (sb.2 it (Ne.symm hne)).trans q, hne⟩, fun b hb => ?_⟩
    · have e1 : ((i + 1 : Nat) : Int) = (i : Int) + 1 := by omega
      rw [e1]; exact he'
    · have hb' : b < s.heap.objs.size := by
        have e' : b = e ∨ b = it := by simpa using hb
        rcases e' with z | z
        · rw [z]; exact hel
        · rw [z]; exact hil
      rw [upd_ne (Nat.ne_of_lt hb')]
      exact (hf b hb).1
  done := by
    intro X hP hw hK hc i pins s σ H E I hf st hg
    subst hP hw hK
    obtain ⟨⟨old, he⟩, hit, hne⟩ := st
    obtain ⟨xs, hq, hx⟩ := hg
    obtain ⟨its, rv, p, hz⟩ := I.list hq
    obtain ⟨f0, f1, f2, f3, f4, f5⟩ := hf it (by simp)
    have hl := rv.length
    exact wpAny_pyNext_enum_end (I.ok.hd hc) he hit p.isList (by simp; omega) fun h' eb => ⟨rfl, I.turned (t' := s.toks) (fun b o hb q => eb b o hb q) f0 f1 f3 f4 f5⟩
  self := fun A i s Q E st h => let ⟨⟨_, he⟩, _⟩ := st; wpAny_pyIter_enum he h
def iEnum (K : PySem.W.Frag) (ta : TA) : TI := fun σ H R => ta σ H fun vs H1 => ∃ a xs, vs = [.ref a] ∧ SqL K H1 a xs ∧ R (Ite K a) H1
theorem pi_enum {X : Cx} {e : Expr} {ta : TA} {p pos tpos : Pos} {elts : List Expr} {kk : Nat} (hg : Gl X "enumerate") (hm : X.mg "enumerate" = none) (ha : PA X [e] ta) (hs : starEach [e] X.env = [(false, eval e X.env)] := by rfl) :
    PI X (.Tuple elts kk tpos) (.Call (.Name "enumerate" p) [e] [] pos) (iEnum X.K ta) := by
  intro pins s σ H R I h
  refine Call_ (ld_blt I hg hm boot_enumerate (PyProof.Rows.callWith_type1 (thn (ha pos pins s σ H _ I h) fun us s1 ⟨vs, H1, I1, r1, q1⟩ => ?_) hs rfl))
  obtain ⟨a, xs, ex, hq, q⟩ := q1
  subst ex
  cases r1 with
  | cons r rr =>
    cases rr
    cases r
    obtain ⟨its, rv, p', hz⟩ := I1.list hq
    refine call_enumerate_list p'.isList fun h' he hit hsz hk => wpAny_pyIter_enum he ?_
    have I2 : Inv X pins σ H1 { s1 with heap := h' } := I1.kept (t' := s1.toks) hk
    refine ⟨s1.heap.objs.size + 1, [s1.heap.objs.size + 1, s1.heap.objs.size], _, _, H1, rfl, I2, turn_enum a (s1.heap.objs.size + 1) s1.heap.objs.size, ⟨⟨.none, he⟩, hit, Nat.succ_ne_self _⟩, fun b hb => ?_, q⟩
    have e' : b = s1.heap.objs.size + 1 ∨ b = s1.heap.objs.size := by simpa using hb
    have hle : s1.heap.objs.size ≤ b := by
      rcases e' with z | z
      · rw [z]; exact Nat.le_add_right _ _
      · rw [z]; exact Nat.le_refl _
    exact I1.fpOk hle (I1.hok.fresh hle)
/-! ### zip(list, list) -/
theorem boot_zip5 : bootBuiltins "zip" = some (.type "zip") := by decide +kernel
end L2
section 
namespace Bits
open PySem PyProof.Rows
end Bits
end 
section 
namespace TL
open PySem PySem.Builtin PySem.Builtin.Str PySem.StrLaws
/-! ### the list functions -/
/-! ### the model's split and partition are these -/
/-! ### computing spl and par -/
/-! ### digits -/
/-! ### words: x.split() -/
end TL
end 
namespace L2
open PySem PySem.Spec PyProof.Rows
section
variable {X : Cx} {pins : List (Addr × Obj)} {σ : St} {H : Hp} {s : Shared} {Q : VK}
end
section
variable {X : Cx}
/-! ### of a text alone -/
/-! ### of a text and a text -/
end
section
variable {X : Cx} {o e : Expr} {to te : TE}
end
end L2
namespace L2
open PySem PySem.Spec PyProof.Rows
section
variable {X : Cx}
end
/-! ### slices of a text -/
end L2
namespace Att
open PySem PySem.W PySem.Calls PyProof.Rows
/-! ### the script -/
/-! ### the attachment: holds_open's last premise (the goal 'hc' behind k_head) from a wpAny of the law's body -/
/-! ### rules over ANY heap (no ledger) from facts about the written part K: the library's own take a ledger (News) for what they write -/
section
variable {prog : Program} {w : World} {A : Around} {E : Value → Shared → Prop} {s : Shared} {K : Frag}
/-! the whole heap as the ledger: makes every rule that writes through a ledger a rule over any heap -/
end
end Att
namespace L2
open PySem PySem.Spec PyProof.Rows
end L2
namespace L2
open PySem PySem.Spec PyProof.Rows
end L2
/- THE LAST THEOREM (shape; LID, My.* are yours):
   My.Adr: a structure of the addresses that your layer names (classes, functions); My.Txt K t: a structure (Prop) of the equations over K;
   My.txt_mk : {K} {implicit addresses ..} (e1 : nsIn K mainGlobals "law" = some (some (.ref f))) (e2 : K.lookup f = some ⟨oc, od, .func (fnOf "law" "law" params body scope dV kV doc pm an cdv ct), sl⟩) (e3 : codeIn K cdv "law" = true) .. : ∃ t, My.Txt K t
set_option maxRecDepth 100000 in
set_option maxHeartbeats 0 in
theorem PySem.Challenge.cw_LID_holds : PySem.Challenge.rw_LID.Holds := by
  w_on; o_law; k_head; (case hw => w_witness2)
  k_fill
  refine L2.walk_of (l := PySem.Challenge.rw_LID) (n := 63) (k := 40) (x := "script") (CX := fun w => ..) (sp := fun _ => My.sp_law) rfl (by decide) rfl ⟨rfl, by decide, by decide⟩ (fun w h Y => PySem.W.kIn_of Y) ?F ?S ?C
  case F =>
    intro w mg fa h KX G hmg
    have T : ∃ t, My.Txt (L2.KOf KX) t := by
      dsimp only [L2.KOf]                          -- K must stand as «<heap const> w.params» for k_is
      refine' My.txt_mk ?e1 ?e2 ?e3 ..
      (case e1 => PySem.W.k_is)                    -- in the order: a name -> its address -> its object -> its parts
      (case e2 => PySem.W.k_is)
      ..
    obtain ⟨t, T⟩ := T
    have e0 := hmg.symm.trans (PySem.W.mg_of KX G T.law)
    cases e0                                       -- fa is the law's own address
    exact ⟨_, fun s u => .of_eq rfl, fun base kb nb => My.law_fn T kb nb⟩     -- if «.of_eq rfl» comes too early: refine' ⟨_, ?b, fun base kb nb => My.law_fn T kb nb⟩; exact fun s u => .of_eq rfl
  case S => exact fun w H a ns hl hO hS => ..
  case C => exact ..
(the tactic k_is has no namespace: write k_is) -/
/-! SHORT WORDS over the layer: a def of the text, its body, what a loop and a test want. -/
namespace L2
open PySem PySem.Spec PyProof.Rows
/-! ### the text by places -/
/-- the j-th statement of a class's body -/
def inClass (s : Stmt) (j : Nat) : Stmt := match s with
  | .ClassDef _ _ _ body _ _ _ _ _ _ _ => body.getD j (.Pass ⟨0, 0, 0, 0⟩)
  | _ => .Pass ⟨0, 0, 0, 0⟩
def defArgs (s : Stmt) : Arguments := match s with
  | .FunctionDef _ a _ _ _ _ _ _ _ _ => a
  | _ => { posonlyargs := [], args := [], vararg := none, kwonlyargs := [], kw_defaults := [], kwarg := none, defaults := [] }
def defBody (s : Stmt) : List Stmt := match s with
  | .FunctionDef _ _ b _ _ _ _ _ _ _ => b
  | _ => []
def defScope (s : Stmt) : Scope := match s with
  | .FunctionDef _ _ _ _ _ _ sc _ _ _ => sc
  | _ => { kind := .function, names := [], isGenerator := false, isCoroutine := false }
/-! ### no exception leaves a def -/
abbrev CX0 : CXT := fun _ _ _ _ _ _ => False
abbrev E0 : XK := fun _ _ _ => False
theorem pass0 {X : Cx} : Passes CX0 X E0 := fun _ _ _ _ _ _ _ h => h.elim
/-! ### a def (or method) of the text as it stands behind the top -/
structure Fun (K : PySem.W.Frag) (x qual : Str) (st : Stmt) (f : Addr) (fd : FuncData) : Prop where
  ex : ∃ (oc : Value) (od : Option Addr) (kV doc pm : Value) (an : Option Addr) (cdv ct : Value) (osl : Array (Option Value)),
    fd = PySem.W.fnOf x qual (defArgs st) (defBody st) (defScope st) .none kV doc pm an cdv ct ∧ K.lookup f = some ⟨oc, od, .func fd, osl⟩ ∧ PySem.W.codeIn K cdv qual = true
  kp : PySem.W.keepIn K (.ref f) = true
section
variable {P : Program} {w : World} {K : PySem.W.Frag} {mg : Str → Option Value} {base : Heap}
/-- THE RULE for a def: its body as a term of rules, and the reading of that term -/
theorem Fun.ok {x qual : Str} {st : Stmt} {f : Addr} {fd : FuncData} {N ps : List Str} {k : Nat} {sp : Sp} (F : Fun K x qual st f fd) (S : FnScope N ps (defScope st)) (len : ∀ vs H Q E, sp vs H Q E → vs.length = ps.length)
    (hbody : ∀ (cdv : Value) (A : Around) (outer : List Env) (s : Shared) (H : Hp) (vs : List V) (Q : VK) (E : XK), Room k (A.deeper (envOfC qual (defScope st) s.heap.objs.size f cdv)) → sp vs H Q E →
      ∃ t, PSs (cxOf CX0 P w K mg base N qual (defScope st) f cdv A outer s H E).nox (defBody st) t ∧ t { nx := fun _ H' => Q .non H', rt := Q } (start N vs) H) : FnOk P w K mg base CX0 (k + 1) f fd ps sp := by
  obtain ⟨oc, od, kV, doc, pm, an, cdv, ct, osl, rfl, lk, hcd⟩ := F.ex
  refine fn_of lk hcd S len fun A outer s H vs Q E hr hsp => ?_
  obtain ⟨t, h, q⟩ := hbody cdv A outer s H vs Q E hr hsp
  exact ⟨t, h.nox, q⟩
/-- how its arguments bind (no defaults): h is «fun _ _ _ _ _ _ us hl => match us, hl with | [_, _], _ => rfl», one _ a parameter -/
theorem Fun.binds {x qual : Str} {st : Stmt} {f : Addr} {fd : FuncData} {ps : List Str} (F : Fun K x qual st f fd)
    (h : ∀ (kV doc pm : Value) (an : Option Addr) (cdv ct : Value) (us : List Value), us.length = ps.length → bindArgs (PySem.W.fnOf x qual (defArgs st) (defBody st) (defScope st) .none kV doc pm an cdv ct) ⟨us, []⟩ = pure (ps.zip us)) : Binds K fd ps [] := by
  obtain ⟨oc, od, kV, doc, pm, an, cdv, ct, osl, rfl, lk, hcd⟩ := F.ex
  exact .all (h kV doc pm an cdv ct)
theorem fun_mk {x qual : Str} {st : Stmt} {f : Addr} {oc : Value} {od an : Option Addr} {osl : Array (Option Value)} {kV doc pm cdv ct : Value} (l : K.lookup f = some ⟨oc, od, .func (PySem.W.fnOf x qual (defArgs st) (defBody st) (defScope st) .none kV doc pm an cdv ct), osl⟩)
    (c : PySem.W.codeIn K cdv qual = true) (k : PySem.W.keepIn K (.ref f) = true) : Fun K x qual st f (PySem.W.fnOf x qual (defArgs st) (defBody st) (defScope st) .none kV doc pm an cdv ct) := ⟨⟨oc, od, kV, doc, pm, an, cdv, ct, osl, rfl, l, c⟩, k⟩
end
theorem hu_of {A : Around} {k : Nat} (hr : Room k A) : A.units + 1 < cLine := Nat.lt_of_le_of_lt (Nat.add_le_add_left (by decide : 1 ≤ 64) _) hr.units
theorem small1000 {n : Nat} (h : n ≤ 1000) : n < sizeLine := Nat.lt_of_le_of_lt h (by decide)
/-! ### expressions in short: the name that stands in the i-th slot -/
section
variable {X : Cx}
theorem pv (i : Nat) {x : Str} {pos : Pos} (hN : X.N[i]? = some x := by rfl) (hv : Vis X.env.scope x := by first | exact Or.inl rfl | exact Or.inr (Or.inl rfl) | exact Or.inr (Or.inr rfl)) (hd : (x == ("__debug__" : Str)) = false := by decide)
    (hcd : (x == ("__classdict__" : Str)) = false := by decide) : PE X (.Name x pos) (tVar i) := pe_var hN hv hd hcd
end
/-! ### tests -/
theorem iteF {A B : Prop} (h : B) : if false = true then A else B := by
  rw [if_neg Bool.false_ne_true]
  exact h
theorem iteT {A B : Prop} (h : A) : if true = true then A else B := by
  rw [if_pos rfl]
  exact h
theorem ite2 {c A B : Prop} [Decidable c] (h1 : c → A) (h2 : ¬ c → B) : if c then A else B := by
  by_cases h : c
  · rw [if_pos h]
    exact h1 h
  · rw [if_neg h]
    exact h2 h
/-! ### heaps -/
/-- all that was tracked is as it was -/
def Same (H H' : Hp) : Prop := ∀ b o, H b = some o → H' b = some o
theorem Same.refl (H : Hp) : Same H H := fun _ _ h => h
theorem Same.trans {H H1 H2 : Hp} (a : Same H H1) (b : Same H1 H2) : Same H H2 := fun c o h => b c o (a c o h)
/-! ### a dict's pairs: keys that differ -/
section
variable {κ : Type} [DecidableEq κ]
end
/-! ### lists -/
theorem at_of {xs : List V} {z : Int} {j : Nat} {v : V} (e : z = (j : Int)) (h : xs[j]? = some v) : atI xs z = some v := by
  rw [e]
  exact atI_nat h
/-- a new instance and its __init__ leave all that was tracked as it was -/
theorem Same.made {H H1 : Hp} {x dx C : Addr} (nx : H x = Option.none) (nd : H dx = Option.none) (k : ∀ b o, (upd (upd H dx (.own x)) x (.ins C dx [])) b = some o → b ≠ x → H1 b = some o) : Same H H1 := fun b o e =>
  k b o (by rw [upd_ne (ne_of_none e nx), upd_ne (ne_of_none e nd)]; exact e) (ne_of_none e nx)
end L2
end
section
set_option Elab.async false
set_option linter.all false
set_option maxRecDepth 100000
set_option maxHeartbeats 2000000
namespace L2
open PySem PySem.Spec PyProof.Rows
open PySem.W (WData Codec OpenSpec Well WellAll ReadsW ReadsAllW)
/-! ### an answer as data -/
mutual
/-- x stands for the datum d, lists and tuples all the way -/
inductive Dw (K : PySem.W.Frag) (H : Hp) : V → WData → Prop
  | non : Dw K H .non .none
  | bl (b : Bool) : Dw K H (.bl b) (.bool b)
  | int (i : Int) : Dw K H (.int i) (.int i)
  | str (x : Str) : Dw K H (.str x) (.str x)
  | byt (b : Array UInt8) : Dw K H (.byt b) (.bytes b.toList)
  | lst {a : Addr} {xs : List V} {ds : List WData} : SqL K H a xs → DwAll K H xs ds → Dw K H (.ref a) (.list ds)
  | tup {a : Addr} {xs : List V} {ds : List WData} : SqT K H a xs → DwAll K H xs ds → Dw K H (.ref a) (.tuple ds)
inductive DwAll (K : PySem.W.Frag) (H : Hp) : List V → List WData → Prop
  | nil : DwAll K H [] []
  | cons {v : V} {vs : List V} {d : WData} {ds : List WData} : Dw K H v d → DwAll K H vs ds → DwAll K H (v :: vs) (d :: ds)
end
theorem dw_ints {K : PySem.W.Frag} {H : Hp} : ∀ ns : List Int, DwAll K H (ns.map V.int) (ns.map WData.int)
  | [] => .nil
  | n :: r => .cons (.int n) (dw_ints r)
theorem ints_dw {K : PySem.W.Frag} {H : Hp} : ∀ (ns : List Int) (xs : List V), DwAll K H xs (ns.map WData.int) → xs = ns.map V.int
  | [], xs, h => by
    cases h
    rfl
  | n :: r, xs, h => by
    cases h with
    | cons h1 h2 =>
      cases h1
      rw [ints_dw r _ h2] <;> rfl
section
variable {P : Program} {w : World} {K : PySem.W.Frag} {H : Hp} {h : Heap} {R : PySem.W.WRecords} {cl : Str → Option Addr}
theorem sqL_at {a : Addr} {xs : List V} (hok : HOk P w H h) (KX : K.In h) (q : SqL K H a xs) : ∃ (its : List Value) (o : Obj) (n : Nat), Vals xs its ∧ h.get? a = some o ∧ o.cls = .type "list" ∧ o.data = .seq its.toArray n := by
  rcases q with q | ⟨o, its, n, e, hc, _, hd, _, hv⟩
  · obtain ⟨_, its, n, hv, e⟩ := (show ObjOk P w H h a (.lst xs) from q.ok hok)
    exact ⟨its, _, n, hv, e, rfl, rfl⟩
  · exact ⟨its.toList, o, n, hv, KX _ _ e, hc, by simp [hd]⟩
theorem sqT_at {a : Addr} {xs : List V} (hok : HOk P w H h) (KX : K.In h) (q : SqT K H a xs) : ∃ (its : List Value) (o : Obj) (n : Nat), Vals xs its ∧ h.get? a = some o ∧ o.cls = .type "tuple" ∧ o.data = .seq its.toArray n := by
  rcases q with q | ⟨o, its, n, e, hc, hd, _, hv⟩
  · obtain ⟨_, its, hv, o, e, hc, n, hd⟩ := (show ObjOk P w H h a (.tup xs) from q.ok hok)
    exact ⟨its, o, n, hv, e, hc, hd⟩
  · exact ⟨its.toList, o, n, hv, KX _ _ e, hc, by simp [hd]⟩
mutual
theorem Dw.reads (hok : HOk P w H h) (KX : K.In h) : ∀ (d : WData) (v : V) (u : Value), Dw K H v d → RelV v u → ∃ as, ReadsW R cl h u d as
  | .none, _, _, x, r => by
    cases x
    cases r
    exact ⟨_, ReadsW.none⟩
  | .bool b, _, _, x, r => by
    cases x
    cases r
    exact ⟨_, ReadsW.bool b⟩
  | .int i, _, _, x, r => by
    cases x
    obtain ⟨t, rfl⟩ := r
    exact ⟨_, ReadsW.int i t⟩
  | .str s, _, _, x, r => by
    cases x
    obtain ⟨t, rfl⟩ := r
    exact ⟨_, ReadsW.str s t⟩
  | .bytes b, _, _, x, r => by
    cases x
    obtain ⟨t, rfl⟩ := r
    exact ⟨_, ReadsW.bytes _ t⟩
  | .list ds, _, _, x, r => by
    cases x with
    | lst hs ha =>
      cases r
      obtain ⟨its, o, n, rv, ho, hc, hd⟩ := sqL_at hok KX hs
      obtain ⟨as, hr⟩ := Dw.readsAll hok KX ds _ its ha rv
      exact ⟨_, ReadsW.list ho hc hd hr⟩
  | .tuple ds, _, _, x, r => by
    cases x with
    | tup hs ha =>
      cases r
      obtain ⟨its, o, n, rv, ho, hc, hd⟩ := sqT_at hok KX hs
      obtain ⟨as, hr⟩ := Dw.readsAll hok KX ds _ its ha rv
      exact ⟨_, ReadsW.tuple ho hc hd hr⟩
  | .float _, _, _, x, _ => by cases x
  | .dict _, _, _, x, _ => by cases x
  | .bytearray _, _, _, x, _ => by cases x
  | .set _, _, _, x, _ => by cases x
  | .frozenset _, _, _, x, _ => by cases x
  | .obj _ _, _, _, x, _ => by cases x
theorem Dw.readsAll (hok : HOk P w H h) (KX : K.In h) : ∀ (ds : List WData) (vs : List V) (us : List Value), DwAll K H vs ds → Vals vs us → ∃ as, ReadsAllW R cl h us ds as
  | [], _, _, x, r => by
    cases x
    cases r
    exact ⟨_, ReadsAllW.nil⟩
  | d :: ds, _, _, x, r => by
    cases x with
    | cons h1 h2 =>
      cases r with
      | cons r1 r2 =>
        obtain ⟨as, q1⟩ := Dw.reads hok KX d _ _ h1 r1
        obtain ⟨bs, q2⟩ := Dw.readsAll hok KX ds _ _ h2 r2
        exact ⟨_, ReadsAllW.cons q1 q2⟩
end
end
/-! ### the arguments -/
mutual
/-- data that a codec tells -/
def plW : WData → Bool
  | .none => true
  | .bool _ => true
  | .int _ => true
  | .str _ => true
  | .bytes _ => true
  | .list xs => plWs xs
  | .tuple xs => plWs xs
  | _ => false
def plWs : List WData → Bool
  | [] => true
  | x :: r => plW x && plWs r
end
theorem plWs_map {α : Type} {f : α → WData} (h : ∀ a, plW (f a) = true) : ∀ l : List α, plWs (l.map f) = true
  | [] => rfl
  | x :: r => by
    show (plW (f x) && plWs (r.map f)) = true
    rw [h x, plWs_map h r] <;> rfl
theorem pl_enc : ∀ (c : Codec) (a : c.denote), plW (c.enc a) = true
  | .unit, _ => rfl
  | .bool, _ => rfl
  | .int _ _, _ => rfl
  | .nat _ _, _ => rfl
  | .u8, _ => rfl
  | .bytes _ _, _ => rfl
  | .text _ _ _ _, _ => rfl
  | .list _ _ c, a => plWs_map (fun x => pl_enc c x) a
  | .pair c d, a => by
    show (plW (c.enc a.1) && (plW (d.enc a.2) && true)) = true
    rw [pl_enc c a.1, pl_enc d a.2] <;> rfl
  | .triple c d e, a => by
    show (plW (c.enc a.1) && (plW (d.enc a.2.1) && (plW (e.enc a.2.2) && true))) = true
    rw [pl_enc c a.1, pl_enc d a.2.1, pl_enc e a.2.2] <;> rfl
  | .option c, none => rfl
  | .option c, some x => pl_enc c x
theorem pl_encAll : ∀ (cs : List Codec) (a : Codec.denoteAll cs), plWs (Codec.encAll cs a) = true
  | [], _ => rfl
  | c :: cs, a => by
    show (plW (c.enc a.1) && plWs (Codec.encAll cs a.2)) = true
    rw [pl_enc c a.1, pl_encAll cs a.2] <;> rfl
theorem weight_mem : ∀ {xs : List WData} {d : WData}, d ∈ xs → d.weight ≤ WData.weightAll xs
  | [], d, h => absurd h (by simp)
  | x :: r, d, h => by
    show d.weight ≤ x.weight + 1 + WData.weightAll r
    rcases List.mem_cons.mp h with e | m
    · rw [e]
      omega
    · have z := weight_mem m
      omega
def toV : Value → V
  | .none => .non
  | .bool b => .bl b
  | .int i _ => .int i
  | .str x _ => .str x
  | .bytes b _ => .byt b
  | .ref a => .ref a
  | _ => .non
/-- a value of the arguments, its objects among A -/
def OkU (A : List Addr) : Value → Prop
  | .none => True
  | .bool _ => True
  | .int _ _ => True
  | .str _ _ => True
  | .bytes _ _ => True
  | .ref a => a ∈ A
  | _ => False
theorem OkU.mono {A B : List Addr} (h : ∀ a ∈ A, a ∈ B) : ∀ {u : Value}, OkU A u → OkU B u := fun {u} x => by
  cases u with
  | ref a => exact h a x
  | none => trivial
  | bool b => trivial
  | int i t => trivial
  | str s t => trivial
  | bytes b t => trivial
  | _ => exact False.elim x
theorem relV_toV {A : List Addr} {u : Value} (x : OkU A u) : RelV (toV u) u := by
  cases u with
  | ref a => rfl
  | none => rfl
  | bool b => rfl
  | int i t => exact ⟨t, rfl⟩
  | str s t => exact ⟨t, rfl⟩
  | bytes b t => exact ⟨t, rfl⟩
  | _ => exact False.elim x
theorem vals_toV {A : List Addr} : ∀ {vs : List Value}, (∀ u ∈ vs, OkU A u) → Vals (vs.map toV) vs
  | [], _ => .nil
  | u :: r, h => .cons (relV_toV (h u (List.mem_cons_self ..))) (vals_toV fun x hx => h x (List.mem_cons_of_mem _ hx))
/-- an object of the arguments -/
def ArgOb (h : Heap) (A : List Addr) (a : Addr) : Prop := ∃ vs : List Value, vs.length ≤ sizeLine ∧ (∀ u ∈ vs, OkU A u) ∧
  (h.get? a = some { cls := .type "list", data := .seq vs.toArray } ∨ h.get? a = some { cls := .type "tuple", data := .seq vs.toArray })
theorem ArgOb.mono {h : Heap} {A B : List Addr} {a : Addr} (k : ∀ a ∈ A, a ∈ B) (x : ArgOb h A a) : ArgOb h B a := by
  obtain ⟨vs, h1, h2, h3⟩ := x
  exact ⟨vs, h1, fun u hu => (h2 u hu).mono k, h3⟩
theorem wellAll_len {P : Params} {h : Heap} : ∀ {vs : List Value} {ds : List WData}, WellAll P h vs ds → vs.length = ds.length
  | _, _, .nil => rfl
  | _, _, .cons _ b => by
    show _ + 1 = _ + 1
    rw [wellAll_len b]
theorem well_list {P : Params} {h : Heap} {v : Value} {ds : List WData} (x : Well P h v (.list ds)) : ∃ (a : Addr) (vs : List Value), v = .ref a ∧ h.get? a = some { cls := .type "list", data := .seq vs.toArray } ∧ WellAll P h vs ds := by
  cases x with
  | list ho hall => exact ⟨_, _, rfl, ho, hall⟩
theorem well_tuple {P : Params} {h : Heap} {v : Value} {ds : List WData} (x : Well P h v (.tuple ds)) : ∃ (a : Addr) (vs : List Value), v = .ref a ∧ h.get? a = some { cls := .type "tuple", data := .seq vs.toArray } ∧ WellAll P h vs ds := by
  cases x with
  | tuple ho hall => exact ⟨_, _, rfl, ho, hall⟩
theorem well_cons {P : Params} {h : Heap} {us : List Value} {d : WData} {ds : List WData} (x : WellAll P h us (d :: ds)) : ∃ (v : Value) (vs : List Value), us = v :: vs ∧ Well P h v d ∧ WellAll P h vs ds := by
  cases x with
  | cons a b => exact ⟨_, _, rfl, a, b⟩
theorem line_of {n : Nat} (h : n ≤ 1048576) : n ≤ sizeLine := Nat.le_trans h (by decide)
section
variable {P : Params} {h : Heap}
mutual
theorem area_one : ∀ (d : WData) (v : Value), Well P h v d → plW d = true → d.weight ≤ 1048576 → ∃ A : List Addr, OkU A v ∧ ∀ a ∈ A, ArgOb h A a
  | .none, _, x, _, _ => by
    cases x
    exact ⟨[], trivial, fun a m => absurd m (by simp)⟩
  | .bool b, _, x, _, _ => by
    cases x
    exact ⟨[], trivial, fun a m => absurd m (by simp)⟩
  | .int i, _, x, _, _ => by
    cases x
    exact ⟨[], trivial, fun a m => absurd m (by simp)⟩
  | .str s, _, x, _, _ => by
    cases x
    exact ⟨[], trivial, fun a m => absurd m (by simp)⟩
  | .bytes b, _, x, _, _ => by
    cases x
    exact ⟨[], trivial, fun a m => absurd m (by simp)⟩
  | .list ds, _, x, p, z => by
    obtain ⟨a, vs, rfl, ho, hall⟩ := well_list x
    have z2 : WData.weightAll ds ≤ 1048576 := z
    obtain ⟨A, h1, h2⟩ := area_all ds _ hall p fun d hd => Nat.le_trans (weight_mem hd) z2
    have k : ∀ b ∈ A, b ∈ a :: A := fun b hb => List.mem_cons_of_mem _ hb
    refine ⟨a :: A, List.mem_cons_self .., fun b hb => ?_⟩
    rcases List.mem_cons.mp hb with e | m
    · rw [e]
      exact ⟨vs, line_of (by rw [wellAll_len hall]; exact Nat.le_trans (PySem.W.length_le_weightAllW ds) z2), fun u hu => (h1 u hu).mono k, .inl ho⟩
    · exact (h2 b m).mono k
  | .tuple ds, _, x, p, z => by
    obtain ⟨a, vs, rfl, ho, hall⟩ := well_tuple x
    have z2 : WData.weightAll ds ≤ 1048576 := z
    obtain ⟨A, h1, h2⟩ := area_all ds _ hall p fun d hd => Nat.le_trans (weight_mem hd) z2
    have k : ∀ b ∈ A, b ∈ a :: A := fun b hb => List.mem_cons_of_mem _ hb
    refine ⟨a :: A, List.mem_cons_self .., fun b hb => ?_⟩
    rcases List.mem_cons.mp hb with e | m
    · rw [e]
      exact ⟨vs, line_of (by rw [wellAll_len hall]; exact Nat.le_trans (PySem.W.length_le_weightAllW ds) z2), fun u hu => (h1 u hu).mono k, .inr ho⟩
    · exact (h2 b m).mono k
  | .float _, _, _, p, _ => Bool.noConfusion (show false = true from p)
  | .dict _, _, _, p, _ => Bool.noConfusion (show false = true from p)
  | .bytearray _, _, _, p, _ => Bool.noConfusion (show false = true from p)
  | .set _, _, _, p, _ => Bool.noConfusion (show false = true from p)
  | .frozenset _, _, _, p, _ => Bool.noConfusion (show false = true from p)
  | .obj _ _, _, _, p, _ => Bool.noConfusion (show false = true from p)
theorem area_all : ∀ (ds : List WData) (vs : List Value), WellAll P h vs ds → plWs ds = true → (∀ d ∈ ds, d.weight ≤ 1048576) → ∃ A : List Addr, (∀ u ∈ vs, OkU A u) ∧ ∀ a ∈ A, ArgOb h A a
  | [], _, x, _, _ => by
    cases x
    exact ⟨[], fun u m => absurd m (by simp), fun a m => absurd m (by simp)⟩
  | d :: ds, _, x, p, z => by
    obtain ⟨v, vs, rfl, x1, x2⟩ := well_cons x
    have q : plW d = true ∧ plWs ds = true := Bool.and_eq_true_iff.mp p
    obtain ⟨A, a1, a2⟩ := area_one d v x1 q.1 (z d (List.mem_cons_self ..))
    obtain ⟨B, b1, b2⟩ := area_all ds vs x2 q.2 fun e he => z e (List.mem_cons_of_mem _ he)
    have kA : ∀ b ∈ A, b ∈ A ++ B := fun b hb => List.mem_append.mpr (.inl hb)
    have kB : ∀ b ∈ B, b ∈ A ++ B := fun b hb => List.mem_append.mpr (.inr hb)
    refine ⟨A ++ B, fun u hu => ?_, fun b hb => ?_⟩
    · rcases List.mem_cons.mp hu with e | m
      · rw [e]
        exact a1.mono kA
      · exact (b1 u m).mono kB
    · rcases List.mem_append.mp hb with m | m
      · exact (a2 b m).mono kA
      · exact (b2 b m).mono kB
end
end
/-- what is tracked of an argument's object -/
def hoOf (o : Obj) : Option HO := match o.data with
  | .seq vs _ => if (o.cls == Value.type "list") = true then some (.frz o (.lst (vs.toList.map toV))) else some (.frz o (.tup (vs.toList.map toV)))
  | _ => none
def argH (K : PySem.W.Frag) (h : Heap) (A : List Addr) : Hp := fun b => if b ∈ A then (if (K.lookup b).isNone = true then (h.get? b).bind hoOf else none) else none
/-- nothing is tracked but what is known to the object -/
def OnlyF (H : Hp) : Prop := ∀ b, H b = none ∨ ∃ o u, H b = some (.frz o u)
theorem hoOf_lst (vs : List Value) : hoOf { cls := .type "list", data := .seq vs.toArray } = some (.frz { cls := .type "list", data := .seq vs.toArray } (.lst (vs.map toV))) := by
  show (if (Value.type "list" == Value.type "list") = true then some (HO.frz { cls := .type "list", data := .seq vs.toArray } (.lst (vs.toArray.toList.map toV))) else some (HO.frz { cls := .type "list", data := .seq vs.toArray } (.tup (vs.toArray.toList.map toV)))) = _
  rw [if_pos (beq_self_eq_true _)]
theorem hoOf_tup (vs : List Value) : hoOf { cls := .type "tuple", data := .seq vs.toArray } = some (.frz { cls := .type "tuple", data := .seq vs.toArray } (.tup (vs.map toV))) := by
  show (if (Value.type "tuple" == Value.type "list") = true then some (HO.frz { cls := .type "tuple", data := .seq vs.toArray } (.lst (vs.toArray.toList.map toV))) else some (HO.frz { cls := .type "tuple", data := .seq vs.toArray } (.tup (vs.toArray.toList.map toV)))) = _
  rw [if_neg (by decide)]
section
variable {P : Program} {w : World} {K : PySem.W.Frag} {h : Heap} {A : List Addr}
theorem argH_at {b : Addr} {o : Obj} (hb : b ∈ A) (hk : K.lookup b = none) (e : h.get? b = some o) : argH K h A b = hoOf o := by
  unfold argH
  rw [if_pos hb, hk, if_pos (show (none : Option Obj).isNone = true from rfl), e] <;> rfl
theorem of_argH {b : Addr} {u : HO} (q : argH K h A b = some u) : b ∈ A ∧ K.lookup b = none := by
  unfold argH at q
  by_cases hb : b ∈ A
  · rw [if_pos hb] at q
    cases hk : K.lookup b with
    | none => exact ⟨hb, rfl⟩
    | some o =>
      rw [hk, if_neg (by simp)] at q
      cases q
  · rw [if_neg hb] at q
    cases q
/-- what stands tracked -/
theorem argH_is (ar : ∀ a ∈ A, ArgOb h A a) {b : Addr} {u : HO} (q : argH K h A b = some u) : K.lookup b = none ∧ ∃ vs : List Value, vs.length ≤ sizeLine ∧ (∀ u ∈ vs, OkU A u) ∧
    ((h.get? b = some { cls := .type "list", data := .seq vs.toArray } ∧ u = .frz { cls := .type "list", data := .seq vs.toArray } (.lst (vs.map toV))) ∨
     (h.get? b = some { cls := .type "tuple", data := .seq vs.toArray } ∧ u = .frz { cls := .type "tuple", data := .seq vs.toArray } (.tup (vs.map toV)))) := by
  obtain ⟨hb, hk⟩ := of_argH q
  obtain ⟨vs, h1, h2, h3⟩ := ar b hb
  refine ⟨hk, vs, h1, h2, ?_⟩
  rcases h3 with e | e
  · rw [argH_at hb hk e, hoOf_lst] at q
    exact .inl ⟨e, (Option.some.inj q).symm⟩
  · rw [argH_at hb hk e, hoOf_tup] at q
    exact .inr ⟨e, (Option.some.inj q).symm⟩
theorem argH_only (ar : ∀ a ∈ A, ArgOb h A a) : OnlyF (argH K h A) := fun b => by
  cases q : argH K h A b with
  | none => exact .inl rfl
  | some u =>
    obtain ⟨_, vs, _, _, ⟨_, e⟩ | ⟨_, e⟩⟩ := argH_is ar q
    · exact .inr ⟨_, _, by rw [e]⟩
    · exact .inr ⟨_, _, by rw [e]⟩
theorem argH_ok (ar : ∀ a ∈ A, ArgOb h A a) : HOk P w (argH K h A) h := fun b u q => by
  obtain ⟨_, vs, h1, h2, ⟨e, rfl⟩ | ⟨e, rfl⟩⟩ := argH_is ar q
  · exact ⟨e, by rw [List.length_map]; exact h1, vs, _, vals_toV h2, e⟩
  · exact ⟨e, by rw [List.length_map]; exact h1, vs, vals_toV h2, _, e, rfl, _, rfl⟩
theorem seq_inj {c c' : Value} {vs us : List Value} (e : (some { cls := c, data := .seq vs.toArray } : Option Obj) = some { cls := c', data := .seq us.toArray }) : c = c' ∧ vs = us := by
  have e1 := Option.some.inj e
  have e2 : c = c' := congrArg Obj.cls e1
  have e3 : Data.seq vs.toArray = Data.seq us.toArray := congrArg Obj.data e1
  injection e3 with e4
  refine ⟨e2, ?_⟩
  have e5 := congrArg Array.toList e4
  simpa using e5
/-- a list argument -/
theorem argL (KX : K.In h) (ar : ∀ a ∈ A, ArgOb h A a) {a : Addr} {vs : List Value} (ha : a ∈ A) (e : h.get? a = some { cls := .type "list", data := .seq vs.toArray }) : (∀ u ∈ vs, OkU A u) ∧ SqL K (argH K h A) a (vs.map toV) := by
  obtain ⟨us, h1, h2, h3⟩ := ar a ha
  have hu : us = vs := by
    rcases h3 with q | q
    · rw [e] at q
      exact (seq_inj q).2.symm
    · rw [e] at q
      exact absurd (Value.type.inj (seq_inj q).1) (by decide)
  subst hu
  refine ⟨h2, ?_⟩
  cases hk : K.lookup a with
  | none => exact .inl (.inr ⟨_, by rw [argH_at ha hk e, hoOf_lst]⟩)
  | some o =>
    have e2 := KX a o hk
    rw [e] at e2
    obtain rfl := Option.some.inj e2
    exact .inr ⟨_, us.toArray, _, hk, rfl, rfl, rfl, by rw [List.size_toArray]; exact h1, by simpa using vals_toV h2⟩
theorem argT (KX : K.In h) (ar : ∀ a ∈ A, ArgOb h A a) {a : Addr} {vs : List Value} (ha : a ∈ A) (e : h.get? a = some { cls := .type "tuple", data := .seq vs.toArray }) : (∀ u ∈ vs, OkU A u) ∧ SqT K (argH K h A) a (vs.map toV) := by
  obtain ⟨us, h1, h2, h3⟩ := ar a ha
  have hu : us = vs := by
    rcases h3 with q | q
    · rw [e] at q
      exact absurd (Value.type.inj (seq_inj q).1) (by decide)
    · rw [e] at q
      exact (seq_inj q).2.symm
  subst hu
  refine ⟨h2, ?_⟩
  cases hk : K.lookup a with
  | none => exact .inl (.inr ⟨_, by rw [argH_at ha hk e, hoOf_tup]⟩)
  | some o =>
    have e2 := KX a o hk
    rw [e] at e2
    obtain rfl := Option.some.inj e2
    exact .inr ⟨_, us.toArray, _, hk, rfl, rfl, by rw [List.size_toArray]; exact h1, by simpa using vals_toV h2⟩
mutual
theorem dw_one {Pm : Params} (KX : K.In h) (ar : ∀ a ∈ A, ArgOb h A a) : ∀ (d : WData) (v : Value), Well Pm h v d → plW d = true → OkU A v → Dw K (argH K h A) (toV v) d
  | .none, _, x, _, _ => by
    cases x
    exact .non
  | .bool b, _, x, _, _ => by
    cases x
    exact .bl b
  | .int i, _, x, _, _ => by
    cases x
    exact .int i
  | .str s, _, x, _, _ => by
    cases x
    exact .str s
  | .bytes b, _, x, _, _ => by
    cases x
    have z := Dw.byt (K := K) (H := argH K h A) b.toArray
    exact z
  | .list ds, _, x, p, hu => by
    obtain ⟨a, vs, rfl, ho, hall⟩ := well_list x
    obtain ⟨h2, hs⟩ := argL KX ar hu ho
    exact .lst hs (dw_all KX ar ds _ hall p h2)
  | .tuple ds, _, x, p, hu => by
    obtain ⟨a, vs, rfl, ho, hall⟩ := well_tuple x
    obtain ⟨h2, hs⟩ := argT KX ar hu ho
    exact .tup hs (dw_all KX ar ds _ hall p h2)
  | .float _, _, _, p, _ => Bool.noConfusion (show false = true from p)
  | .dict _, _, _, p, _ => Bool.noConfusion (show false = true from p)
  | .bytearray _, _, _, p, _ => Bool.noConfusion (show false = true from p)
  | .set _, _, _, p, _ => Bool.noConfusion (show false = true from p)
  | .frozenset _, _, _, p, _ => Bool.noConfusion (show false = true from p)
  | .obj _ _, _, _, p, _ => Bool.noConfusion (show false = true from p)
theorem dw_all {Pm : Params} (KX : K.In h) (ar : ∀ a ∈ A, ArgOb h A a) : ∀ (ds : List WData) (vs : List Value), WellAll Pm h vs ds → plWs ds = true → (∀ u ∈ vs, OkU A u) → DwAll K (argH K h A) (vs.map toV) ds
  | [], _, x, _, _ => by
    cases x
    exact .nil
  | d :: ds, _, x, p, hu => by
    obtain ⟨v, vs, rfl, x1, x2⟩ := well_cons x
    have q : plW d = true ∧ plWs ds = true := Bool.and_eq_true_iff.mp p
    exact .cons (dw_one KX ar d v x1 q.1 (hu _ (List.mem_cons_self ..))) (dw_all KX ar ds vs x2 q.2 fun u m => hu u (List.mem_cons_of_mem _ m))
end
end
/-! ### the call -/
theorem spec_call {P : Program} {w : World} {K : PySem.W.Frag} {mg mb : Str → Option Value} {CX : CXT} {k : Nat} {fa : Addr} {fd : FuncData} {ps : List Str} {sp : Sp} {s₁ : Shared} {vals : List Value} {ds : List WData} {R : PySem.W.WRecords} {cl : Str → Option Addr} {d0 : WData}
    (KX : K.In s₁.heap) (hns : s₁.heap.Ns mainGlobals mg) (hb : s₁.heap.Ns builtinsNs mb) (hbb : ∀ x : Str, x ≠ "__name__" → mb x = bootBuiltins x) (hlim : s₁.heap.NoLimit) (hg : s₁.gens = #[])
    (hwl : WellAll w.params s₁.heap vals ds) (hpl : plWs ds = true) (hwt : ∀ d ∈ ds, d.weight ≤ 1048576) (hr : Room k callerA)
    (F : ∀ base : Heap, K.In base → base.Ns mainGlobals mg → FnOk P w K mg base CX k fa fd ps sp) (hbind : ∀ (s : Shared) (us : List Value), us.length = ps.length → BindsTo s fd ⟨us, []⟩ (ps.zip us)) (hlen : ds.length = ps.length)
    (hsp : ∀ (H : Hp) (xs : List V), OnlyF H → DwAll K H xs ds → sp xs H (fun v H' => Dw K H' v d0) fun _ _ _ => False)
    (hCX : ∀ H e s', CX [] H s₁ (fun _ _ _ => False) e s' → False) :
    codeAny (model P w) callerA (.call (.ref fa) ⟨vals, []⟩) (fun r s' => ∃ u as, r = .ok (.ret u) ∧ ReadsW R cl s'.heap u d0 as ∧ OldK s₁.heap s'.heap ∧ s'.os = s₁.os ∧ AllBare s'.gens) s₁ := by
  obtain ⟨A, ho, ar⟩ := area_all ds vals hwl hpl hwt
  have hO : OnlyF (argH K s₁.heap A) := argH_only ar
  have hok : HOk P w (argH K s₁.heap A) s₁.heap := argH_ok ar
  have hS := dw_all KX ar ds vals hwl hpl ho
  have hV := vals_toV ho
  have hK : ∀ b u, argH K s₁.heap A b = some u → K.lookup b = none := fun b u q => (argH_is ar q).1
  have noA : ∀ {b : Addr} {o : Obj} {es : Array DictEntry} {ep : Nat}, s₁.heap.get? b = some o → o.data = .dict es ep → argH K s₁.heap A b = none := fun {b o es ep} e d => by
    cases q : argH K s₁.heap A b with
    | none => rfl
    | some u =>
      obtain ⟨_, vs, _, _, ⟨e2, _⟩ | ⟨e2, _⟩⟩ := argH_is ar q
      · rw [e2] at e
        cases e
        have d' : Data.seq vs.toArray _ = Data.dict es ep := d
        cases d'
      · rw [e2] at e
        cases e
        have d' : Data.seq vs.toArray _ = Data.dict es ep := d
        cases d'
  generalize argH K s₁.heap A = H at hO hok hS hK noA
  have base_of : ∀ {b : Addr} {o : Obj}, s₁.heap.get? b = some o → H b = none → (hidT s₁.heap H).get? b = some o := fun e n => hidT_get e n
  have nsK : ∀ {b : Addr} {m : Str → Option Value}, s₁.heap.Ns b m → (hidT s₁.heap H).Ns b m := fun {b m} ⟨o, es, ep, e, d, r⟩ => ⟨o, es, ep, base_of e (noA e d), d, r⟩
  have nK : ∀ b o, K.lookup b = some o → H b = none := fun b o e => by
    cases q : H b with
    | none => rfl
    | some u =>
      rw [hK b u q] at e
      cases e
  have hKb : K.In (hidT s₁.heap H) := fun b o e => base_of (KX b o e) (nK b o e)
  have hM : Mod K mg (hidT s₁.heap H) := ⟨hKb, nsK hns, ⟨mb, nsK hb, hbb⟩, let ⟨mc, h1, h2⟩ := hlim; ⟨mc, nsK h1, h2⟩⟩
  have e0 : Env0 P w K mg (hidT s₁.heap H) callerA [] s₁ H := ⟨rfl, hM, fun b o e => of_hidT e, Nat.le_of_eq (hidT_size _ _), trivial, fun b hb => absurd (show b ∈ ([] : List Addr) from hb) (by simp), hok, .of_eq hg⟩
  have hl : vals.length = ps.length := by rw [wellAll_len hwl]; exact hlen
  refine codeAny_mono ((F _ hKb (nsK hns)).run callerA [] s₁ H ⟨vals, []⟩ vals (vals.map toV) _ _ hr e0 (hbind s₁ vals hl) hV (hsp H _ hO hS)) fun r s' x => ?_
  cases r with
  | error e => exact (hCX H e s' x).elim
  | ok fl =>
    cases fl with
    | next => exact False.elim x
    | brk => exact False.elim x
    | cont => exact False.elim x
    | ret u =>
      obtain ⟨v, H', os, bare, un, hok', r', q⟩ := x
      have kept : ∀ b o, s₁.heap.get? b = some o → s'.heap.get? b = some o := fun b o e => by
        cases q2 : H b with
        | none => exact un.keep b o e q2 (by intro z; exact absurd (show b ∈ ([] : List Addr) from z) (by simp)) (by simp)
        | some u2 =>
          rcases hO b with z | ⟨ob, u3, z⟩
          · rw [q2] at z
            cases z
          · have z2 := un.frzs b ob _ z
            obtain ⟨e1, _⟩ := hok b _ z
            obtain ⟨e2, _⟩ := hok' b _ z2
            rw [e] at e1
            cases e1
            exact e2
      have KX' : K.In s'.heap := fun b o e => kept b o (KX b o e)
      obtain ⟨as, hrd⟩ := Dw.reads (R := R) (cl := cl) hok' KX' d0 v u q r'
      exact ⟨u, as, rfl, hrd, OldK.of_keep kept, os, bare⟩
/-! ### the row -/
theorem layable_weight {ds : List WData} (h : WData.layableAll ds = true) : ∀ d ∈ ds, d.weight ≤ 1048576 := fun d hd =>
  (PySem.W.layableW_iff.mp (List.all_eq_true.mp h d hd)).2.2
theorem encAll_len : ∀ (cs : List Codec) (a : Codec.denoteAll cs), (Codec.encAll cs a).length = cs.length
  | [], _ => rfl
  | c :: cs, a => by
    show (Codec.encAll cs a.2).length + 1 = cs.length + 1
    rw [encAll_len cs a.2]
/-- the goal that k_headS leaves (case hc), from the promise of the row's def: whatever the arguments that the codecs let and the row asks for, the def gives what stands for enc (f ..) -/
theorem walk_spec {r : OpenSpec} {k : Nat} {q : Program} {loose : List Str} {XP : (Str → Option Value) → Heap → Prop} {YP : World → Heap → Prop} {d : DefRec} {K : Params → PySem.W.Frag} {CX : World → CXT} {ps : List Str} {sp : World → Sp}
    (hwell : r.wellSaid = true) (hdf : d.params.defaults = []) (hlen : r.args.length = ps.length) (hr : Room k callerA)
    (hY : ∀ (w : World) (h : Heap), YP w h → (K w.params).In h)
    (F : ∀ (w : World) (mg : Str → Option Value) (fa : Addr) (h : Heap), YP w h → (K w.params).In h → h.Ns mainGlobals mg → mg d.name = some (.ref fa) →
      ∃ fd : FuncData, (∀ (s : Shared) (us : List Value), us.length = ps.length → BindsTo s fd ⟨us, []⟩ (ps.zip us)) ∧
        ∀ base : Heap, (K w.params).In base → base.Ns mainGlobals mg → FnOk r.prog w (K w.params) mg base (CX w) k fa fd ps (sp w))
    (hsp : ∀ (w : World) (H : Hp) (xs : List V) (a : Codec.denoteAll r.args), OnlyF H → Codec.withinAll r.args a = true → Codec.app r.args r.asked a = true → DwAll (K w.params) H xs (Codec.encAll r.args a) →
      sp w xs H (fun v H' => Dw (K w.params) H' v (r.ret.enc (Codec.app r.args r.f a))) fun _ _ _ => False)
    (hCX : ∀ (w : World) (H : Hp) (s : Shared) (e : Value) (s' : Shared), CX w [] H s (fun _ _ _ => False) e s' → False) :
    PySem.W.WalkOS q loose XP YP r d [] (fun f vs => PySem.call f vs) := by
  intro w s_0 s₁ mg mb G Y fa o pm cd doc dV kV ho hd hcd hD hmg hg args vals as hpre hlay hrd hwl hlo
  obtain ⟨a, e1, e2⟩ := PySem.W.os_pre_some hpre
  obtain ⟨e3, hwi⟩ := Codec.encAll_of_decAll r.args args a e1
  subst e3
  have KX := hY w _ Y
  obtain ⟨fd, hb, hF⟩ := F w mg fa _ Y KX G.T.g hmg
  refine PySem.W.enter_call (codeAny_mono (spec_call (R := []) (cl := classAt s_0.heap) (d0 := r.ret.enc (Codec.app r.args r.f a)) KX G.T.g G.T.b G.T.builtins G.T.nolimit hg hwl (pl_encAll _ _) (layable_weight hlay) hr hF hb (by rw [encAll_len]; exact hlen)
    (fun H xs hO hS => hsp w H xs a hO hwi e2 hS) fun H e s' => hCX w H s₁ e s') fun r' s' hq => ?_)
  obtain ⟨u, as', rfl, h1, h2, h3, h4⟩ := hq
  exact ⟨.inl ⟨u, _, as', rfl, fun _ => rfl, h1, (OpenSpec.post_iff hwell hwi _ _).mpr rfl, fun z => Bool.noConfusion (show false = true from z)⟩, h2, h3, h4⟩
/-- the same where the promise hangs on the written part alone -/
theorem walk_specK {r : OpenSpec} {k : Nat} {q : Program} {loose : List Str} {XP : (Str → Option Value) → Heap → Prop} {YP : World → Heap → Prop} {d : DefRec} {K : Params → PySem.W.Frag} {CX : CXT} {ps : List Str} {sp : PySem.W.Frag → Sp}
    (hwell : r.wellSaid = true) (hdf : d.params.defaults = []) (hlen : r.args.length = ps.length) (hr : Room k callerA)
    (hY : ∀ (w : World) (h : Heap), YP w h → (K w.params).In h)
    (F : ∀ (w : World) (mg : Str → Option Value) (fa : Addr) (h : Heap), YP w h → (K w.params).In h → h.Ns mainGlobals mg → mg d.name = some (.ref fa) →
      ∃ fd : FuncData, (∀ (s : Shared) (us : List Value), us.length = ps.length → BindsTo s fd ⟨us, []⟩ (ps.zip us)) ∧
        ∀ base : Heap, (K w.params).In base → base.Ns mainGlobals mg → FnOk r.prog w (K w.params) mg base CX k fa fd ps (sp (K w.params)))
    (hsp : ∀ (K : PySem.W.Frag) (H : Hp) (xs : List V) (a : Codec.denoteAll r.args), OnlyF H → Codec.withinAll r.args a = true → Codec.app r.args r.asked a = true → DwAll K H xs (Codec.encAll r.args a) →
      sp K xs H (fun v H' => Dw K H' v (r.ret.enc (Codec.app r.args r.f a))) fun _ _ _ => False)
    (hCX : ∀ (H : Hp) (s : Shared) (e : Value) (s' : Shared), CX [] H s (fun _ _ _ => False) e s' → False) :
    PySem.W.WalkOS q loose XP YP r d [] (fun f vs => PySem.call f vs) :=
  walk_spec (K := K) (CX := fun _ => CX) (sp := fun w => sp (K w.params)) hwell hdf hlen hr hY F (fun w H xs a h1 h2 h3 h4 => hsp (K w.params) H xs a h1 h2 h3 h4) fun _ H s e s' => hCX H s e s'
end L2
end
section
set_option maxHeartbeats 1000000
namespace Lk
open Md26
/-! ### permutations by counting -/
theorem pm {α : Type} [BEq α] [LawfulBEq α] {l m : List α} (h : ∀ a, l.count a = m.count a) : l.Perm m := List.perm_iff_count.mpr h
/-- the formulas' places -/
def pl (fs : List Form) : List Nat := fs.flatMap placesOf
theorem pl_nil : pl [] = [] := rfl
theorem pl_cons (f : Form) (r : List Form) : pl (f :: r) = placesOf f ++ pl r := rfl
theorem pl_app (r s : List Form) : pl (r ++ s) = pl r ++ pl s := by
  unfold pl
  rw [List.flatMap_append]
theorem pl_perm {r s : List Form} (h : r.Perm s) : (pl r).Perm (pl s) := h.flatMap_right _
theorem places_ne : ∀ f : Form, ∃ p, p ∈ placesOf f
  | .letter i => ⟨i, by simp [placesOf]⟩
  | .both f g => by
    obtain ⟨p, h⟩ := places_ne f
    exact ⟨p, by simp [placesOf, h]⟩
  | .with_ _ f g => by
    obtain ⟨p, h⟩ := places_ne f
    exact ⟨p, by simp [placesOf, h]⟩
/-! ### parts of a formula -/
/-- y is a part of a formula -/
def Sub (y : Form) : Form → Prop
  | .letter i => y = .letter i
  | .both f g => y = .both f g ∨ Sub y f ∨ Sub y g
  | .with_ n f g => y = .with_ n f g ∨ Sub y f ∨ Sub y g
def In (y : Form) (fs : List Form) : Prop := ∃ f, f ∈ fs ∧ Sub y f
theorem sub_refl : ∀ f : Form, Sub f f
  | .letter _ => rfl
  | .both _ _ => Or.inl rfl
  | .with_ _ _ _ => Or.inl rfl
theorem mem_pl {p : Nat} {fs : List Form} : p ∈ pl fs ↔ ∃ f, f ∈ fs ∧ p ∈ placesOf f := List.mem_flatMap
theorem in_perm {y : Form} {r s : List Form} (h : r.Perm s) (hy : In y r) : In y s := by
  obtain ⟨f, hf, hs⟩ := hy
  exact ⟨f, h.mem_iff.mp hf, hs⟩
/-! ### proofs from given rows, each used once -/
end Lk
end
section
set_option maxHeartbeats 1000000
namespace Lk
open Md26
theorem nodup_two {α : Type} {l m : List α} (h : (l ++ m).Nodup) {p : α} (a : p ∈ l) (b : p ∈ m) : False :=
  (List.nodup_append.mp h).2.2 p a p b rfl
theorem both_perm (f g : Form) (r s : List Form) : (pl (.both f g :: (r ++ s))).Perm (pl (f :: r) ++ pl (g :: s)) := by
  refine pm fun a => ?_
  simp only [pl_cons, pl_app, placesOf, List.count_append]
  omega
end Lk
end
section
set_option maxHeartbeats 1000000
namespace Lk
open Md26
/-! ### the rules' proofs are the ones that are told -/
theorem each_perm : ∀ {a fs : List Form} {x : Form × List Form}, x ∈ each a fs → (a ++ fs).Perm (x.1 :: x.2)
  | a, [], x, h => by cases h
  | a, f :: r, x, h => by
    rcases List.mem_cons.mp h with rfl | h
    · refine pm fun c => ?_
      simp only [List.count_cons, List.count_append]
      omega
    · refine List.Perm.trans ?_ (each_perm h)
      simp
theorem each_mem : ∀ {a fs : List Form} {f : Form}, f ∈ fs → ∃ x, x ∈ each a fs ∧ x.1 = f
  | a, [], f, h => by cases h
  | a, g :: r, f, h => by
    rcases List.mem_cons.mp h with rfl | h
    · exact ⟨_, List.mem_cons_self, rfl⟩
    · obtain ⟨x, hx, e⟩ := each_mem (a := a ++ [g]) h
      exact ⟨x, List.mem_cons_of_mem _ hx, e⟩
theorem shared_perm : ∀ {r : List Form} {y : List Form × List Form}, y ∈ shared r → r.Perm (y.1 ++ y.2)
  | [], y, h => by
    have e : y = ([], []) := by simpa [shared] using h
    subst e
    exact .refl _
  | f :: r, y, h => by
    obtain ⟨x, hx, hy⟩ := List.mem_flatMap.mp h
    have ih := shared_perm hx
    simp only [List.mem_cons, List.not_mem_nil, or_false] at hy
    rcases hy with rfl | rfl
    · exact ih.cons _
    · refine pm fun c => ?_
      have c1 := ih.count_eq c
      simp only [List.count_cons, List.count_append] at c1 ⊢
      omega
theorem shared_all : ∀ {r s t : List Form}, r.Perm (s ++ t) → ∃ y, y ∈ shared r ∧ y.1.Perm s ∧ y.2.Perm t
  | [], s, t, h => by
    have e : s ++ t = [] := List.perm_nil.mp h.symm
    obtain ⟨rfl, rfl⟩ := List.append_eq_nil_iff.mp e
    exact ⟨([], []), by simp [shared], .refl _, .refl _⟩
  | f :: r, s, t, h => by
    have hm : f ∈ s ++ t := h.mem_iff.mp List.mem_cons_self
    rcases List.mem_append.mp hm with hm | hm
    · have e := List.perm_cons_erase hm
      have hr : r.Perm (s.erase f ++ t) := by
        refine pm fun c => ?_
        have c1 := h.count_eq c
        have c2 := e.count_eq c
        simp only [List.count_cons, List.count_append] at c1 c2 ⊢
        omega
      obtain ⟨y, hy, y1, y2⟩ := shared_all hr
      exact ⟨(f :: y.1, y.2), List.mem_flatMap.mpr ⟨y, hy, List.mem_cons_self⟩, (y1.cons f).trans e.symm, y2⟩
    · have e := List.perm_cons_erase hm
      have hr : r.Perm (s ++ t.erase f) := by
        refine pm fun c => ?_
        have c1 := h.count_eq c
        have c2 := e.count_eq c
        simp only [List.count_cons, List.count_append] at c1 c2 ⊢
        omega
      obtain ⟨y, hy, y1, y2⟩ := shared_all hr
      exact ⟨(y.1, f :: y.2), List.mem_flatMap.mpr ⟨y, hy, List.mem_cons_of_mem _ List.mem_cons_self⟩, y1, (y2.cons f).trans e.symm⟩
theorem proof_sound {l : Links} : ∀ {k : Nat} {fs : List Form}, proofIn l k fs = true → Proof l fs
  | 0, fs, h => by cases h
  | k + 1, fs, h => by
    unfold proofIn at h
    split at h
    · rename_i n f g r hx
      have hm := List.mem_of_find?_eq_some hx
      have p := each_perm hm
      simp only [List.nil_append] at p
      exact .order _ _ p.symm (.with_ _ _ _ _ (proof_sound h))
    · rw [Bool.or_eq_true] at h
      rcases h with h | h
      · split at h
        · rename_i i j _
          simp only [Bool.and_eq_true, decide_eq_true_eq, bne_iff_ne] at h
          exact .linked i j h.1 h.2.1 h.2.2
        · cases h
      · obtain ⟨x, hx, hb⟩ := List.any_eq_true.mp h
        have p := each_perm hx
        simp only [List.nil_append] at p
        split at hb
        · rename_i f g e
          obtain ⟨y, hy, hc⟩ := List.any_eq_true.mp hb
          simp only [Bool.and_eq_true] at hc
          have q := shared_perm hy
          rw [e] at p
          exact .order _ _ ((q.symm.cons _).trans p.symm) (.both _ _ _ _ (proof_sound hc.2.2.1) (proof_sound hc.2.2.2))
        · cases hb
/-- links stay among the places of what has a proof -/
theorem proof_closed {l : Links} {fs : List Form} (h : Proof l fs) : ∀ i, i ∈ pl fs → ∃ j, l[i]? = some j ∧ j ∈ pl fs := by
  induction h with
  | linked i j h1 h2 h3 =>
    intro a ha
    have : a = i ∨ a = j := by simpa [pl, placesOf] using ha
    rcases this with rfl | rfl
    · exact ⟨j, h1, by simp [pl, placesOf]⟩
    · exact ⟨i, h2, by simp [pl, placesOf]⟩
  | with_ n f g r _ ih =>
    have e : pl (.with_ n f g :: r) = pl (f :: g :: r) := by simp [pl_cons, placesOf]
    rw [e]
    exact ih
  | both f g r s _ _ ih1 ih2 =>
    intro a ha
    have p := both_perm f g r s
    rcases List.mem_append.mp (p.mem_iff.mp ha) with h | h
    · obtain ⟨j, a1, a2⟩ := ih1 a h
      exact ⟨j, a1, p.mem_iff.mpr (List.mem_append.mpr (Or.inl a2))⟩
    · obtain ⟨j, a1, a2⟩ := ih2 a h
      exact ⟨j, a1, p.mem_iff.mpr (List.mem_append.mpr (Or.inr a2))⟩
  | order r s hp _ ih =>
    intro a ha
    obtain ⟨j, a1, a2⟩ := ih a ((pl_perm hp).mem_iff.mpr ha)
    exact ⟨j, a1, (pl_perm hp).mem_iff.mp a2⟩
theorem closed_of {l : Links} {fs : List Form} (h : Proof l fs) : closed l fs = true := by
  unfold closed
  refine List.all_eq_true.mpr fun i hi => ?_
  obtain ⟨j, h1, h2⟩ := proof_closed h i hi
  simp only [h1]
  exact List.contains_iff_mem.mpr h2
theorem par_inv {l : Links} {s : List Form} (h : Proof l s) : ∀ (n : Nat) (f g : Form) (r : List Form), s.Perm (.with_ n f g :: r) → Proof l (f :: g :: r) := by
  induction h with
  | linked i j h1 h2 h3 =>
    intro n f g r hp
    have : Form.with_ n f g ∈ [Form.letter i, Form.letter j] := hp.mem_iff.mpr List.mem_cons_self
    simp at this
  | with_ m a b t d ih =>
    intro n f g r hp
    by_cases e : Form.with_ m a b = .with_ n f g
    · cases e
      exact .order _ _ (((List.perm_cons _).mp hp).cons _ |>.cons _) d
    · have hm : Form.with_ n f g ∈ t := by
        have : Form.with_ n f g ∈ Form.with_ m a b :: t := hp.mem_iff.mpr List.mem_cons_self
        rcases List.mem_cons.mp this with q | q
        · exact (e q.symm).elim
        · exact q
      have p := List.perm_cons_erase hm
      have d2 := ih n f g (a :: b :: t.erase (.with_ n f g)) (pm fun c => by
        have c1 := p.count_eq c
        simp only [List.count_cons] at c1 ⊢
        omega)
      have d3 : Proof l (a :: b :: (f :: g :: t.erase (.with_ n f g))) := .order _ _ (pm fun c => by simp only [List.count_cons]; omega) d2
      refine .order _ _ (pm fun c => ?_) (Proof.with_ m _ _ _ d3)
      have c1 := p.count_eq c
      have c2 := hp.count_eq c
      simp only [List.count_cons] at c1 c2 ⊢
      omega
  | both a b t u d1 d2 ih1 ih2 =>
    intro n f g r hp
    have hm : Form.with_ n f g ∈ t ++ u := by
      have : Form.with_ n f g ∈ Form.both a b :: (t ++ u) := hp.mem_iff.mpr List.mem_cons_self
      rcases List.mem_cons.mp this with q | q
      · cases q
      · exact q
    rcases List.mem_append.mp hm with hm | hm
    · have p := List.perm_cons_erase hm
      have d3 := ih1 n f g (a :: t.erase (.with_ n f g)) (pm fun c => by
        have c1 := p.count_eq c
        simp only [List.count_cons] at c1 ⊢
        omega)
      have d4 : Proof l (a :: (f :: g :: t.erase (.with_ n f g))) := .order _ _ (pm fun c => by simp only [List.count_cons]; omega) d3
      refine .order _ _ (pm fun c => ?_) (Proof.both _ _ _ _ d4 d2)
      have c1 := p.count_eq c
      have c2 := hp.count_eq c
      simp only [List.count_cons, List.count_append] at c1 c2 ⊢
      omega
    · have p := List.perm_cons_erase hm
      have d3 := ih2 n f g (b :: u.erase (.with_ n f g)) (pm fun c => by
        have c1 := p.count_eq c
        simp only [List.count_cons] at c1 ⊢
        omega)
      have d4 : Proof l (b :: (f :: g :: u.erase (.with_ n f g))) := .order _ _ (pm fun c => by simp only [List.count_cons]; omega) d3
      refine .order _ _ (pm fun c => ?_) (Proof.both _ _ _ _ d1 d4)
      have c1 := p.count_eq c
      have c2 := hp.count_eq c
      simp only [List.count_cons, List.count_append] at c1 c2 ⊢
      omega
  | order t u hq _ ih =>
    intro n f g r hp
    exact ih n f g r (hq.trans hp)
theorem proof_last {l : Links} {s : List Form} (h : Proof l s) : (∃ i j, s.Perm [.letter i, .letter j] ∧ l[i]? = some j ∧ l[j]? = some i ∧ i ≠ j) ∨ (∃ n f g, Form.with_ n f g ∈ s) ∨
    ∃ f g t u, s.Perm (.both f g :: (t ++ u)) ∧ Proof l (f :: t) ∧ Proof l (g :: u) := by
  induction h with
  | linked i j h1 h2 h3 => exact Or.inl ⟨i, j, .refl _, h1, h2, h3⟩
  | with_ n f g r _ _ => exact Or.inr (Or.inl ⟨n, f, g, List.mem_cons_self⟩)
  | both f g r s d1 d2 _ _ => exact Or.inr (Or.inr ⟨f, g, r, s, .refl _, d1, d2⟩)
  | order r s hp _ ih =>
    rcases ih with ⟨i, j, a, b⟩ | ⟨n, f, g, a⟩ | ⟨f, g, t, u, a, b⟩
    · exact Or.inl ⟨i, j, hp.symm.trans a, b⟩
    · exact Or.inr (Or.inl ⟨n, f, g, hp.mem_iff.mp a⟩)
    · exact Or.inr (Or.inr ⟨f, g, t, u, hp.symm.trans a, b⟩)
def sz (fs : List Form) : Nat := (fs.map Form.size).sum
theorem sz_perm {r s : List Form} (h : r.Perm s) : sz r = sz s := (h.map _).sum_nat
theorem sz_cons (f : Form) (r : List Form) : sz (f :: r) = f.size + sz r := by simp [sz]
theorem sz_app (r s : List Form) : sz (r ++ s) = sz r + sz s := by simp [sz]
theorem proof_complete {l : Links} : ∀ {k : Nat} {fs : List Form}, sz fs < k → Proof l fs → proofIn l k fs = true
  | 0, fs, h, _ => by omega
  | k + 1, fs, hk, d => by
    unfold proofIn
    split
    · rename_i n f g r hx
      have hm := List.mem_of_find?_eq_some hx
      have p := each_perm hm
      simp only [List.nil_append] at p
      have s1 := sz_perm p
      simp only [sz_cons, Form.size] at s1
      exact proof_complete (by simp only [sz_cons]; omega) (par_inv d n f g r p)
    · rename_i hno
      have nw : ∀ n f g, Form.with_ n f g ∉ fs := by
        intro n f g hm
        obtain ⟨x, hx, e⟩ := each_mem (a := []) hm
        cases hf : (each [] fs).find? fun (x : Form × List Form) => isWith x.1 with
        | none =>
          have := List.find?_eq_none.mp hf x hx
          rw [e] at this
          exact this rfl
        | some y =>
          have hy := List.find?_some hf
          obtain ⟨y1, y2⟩ := y
          cases y1 with
          | letter i => cases hy
          | both a b => cases hy
          | with_ m a b => exact hno m a b y2 hf
      rcases proof_last d with ⟨i, j, a, b1, b2, b3⟩ | ⟨n, f, g, a⟩ | ⟨f, g, t, u, a, b1, b2⟩
      · have e : fs = [.letter i, .letter j] ∨ fs = [.letter j, .letter i] := by
          have hl := a.length_eq
          match fs, hl with
          | [x, y], _ =>
            have hx : x ∈ [Form.letter i, Form.letter j] := a.mem_iff.mp List.mem_cons_self
            simp only [List.mem_cons, List.not_mem_nil, or_false] at hx
            rcases hx with rfl | rfl
            · have := (List.perm_cons _).mp a
              have := List.perm_singleton.mp this
              cases this
              exact Or.inl rfl
            · have q : [Form.letter j, y].Perm [.letter j, .letter i] := a.trans (.swap _ _ _)
              have := (List.perm_cons _).mp q
              have := List.perm_singleton.mp this
              cases this
              exact Or.inr rfl
        rw [Bool.or_eq_true]
        refine Or.inl ?_
        rcases e with rfl | rfl
        · simp [b1, b2, b3]
        · simp [b1, b2, b3.symm]
      · exact (nw _ _ _ a).elim
      · rw [Bool.or_eq_true]
        refine Or.inr (List.any_eq_true.mpr ?_)
        have hm : Form.both f g ∈ fs := a.mem_iff.mpr List.mem_cons_self
        obtain ⟨x, hx, e⟩ := each_mem (a := []) hm
        have p := each_perm hx
        simp only [List.nil_append] at p
        rw [e] at p
        have q : x.2.Perm (t ++ u) := (List.perm_cons _).mp (p.symm.trans a)
        obtain ⟨y, hy, y1, y2⟩ := shared_all q
        refine ⟨x, hx, ?_⟩
        rw [e]
        show ((shared x.2).any fun (y : List Form × List Form) => closed l (f :: y.1) && (closed l (g :: y.2) && (proofIn l k (f :: y.1) && proofIn l k (g :: y.2)))) = true
        refine List.any_eq_true.mpr ⟨y, hy, ?_⟩
        have d1 : Proof l (f :: y.1) := .order _ _ (y1.symm.cons _) b1
        have d2 : Proof l (g :: y.2) := .order _ _ (y2.symm.cons _) b2
        have s1 := sz_perm a
        have s2 := sz_perm y1
        have s3 := sz_perm y2
        simp only [sz_cons, sz_app, Form.size] at s1
        simp only [Bool.and_eq_true]
        refine ⟨closed_of d1, closed_of d2, proof_complete ?_ d1, proof_complete ?_ d2⟩
        · simp only [sz_cons]
          omega
        · simp only [sz_cons]
          omega
theorem proof_main (l : Links) (fs : List Form) : proof l fs = true ↔ Proof l fs :=
  ⟨proof_sound, fun h => proof_complete (Nat.lt_succ_self _) h⟩
end Lk
end
section
set_option maxHeartbeats 1000000
namespace Lk
open Md26
/-! ### parts by their numbers -/
/-- x is one of the two formulas of part k -/
def KidI (kd : Nat → Option (Bool × Nat × Nat)) (k x : Nat) : Prop := ∃ w a b, kd k = some (w, a, b) ∧ (x = a ∨ x = b)
/-- n parts, their kinds and formulas; m letters; the formulas that lie in no other -/
structure Shape (n m : Nat) (kd : Nat → Option (Bool × Nat × Nat)) (lt : Nat → Nat) (F : Nat → Form) (tops : List Nat) : Prop where
  kid_lt : ∀ {k w a b}, k < n → kd k = some (w, a, b) → a < k ∧ b < k ∧ a ≠ b
  comp : ∀ {k w a b}, k < n → kd k = some (w, a, b) → (w = true ∧ ∃ j, F k = .with_ j (F a) (F b)) ∨ (w = false ∧ F k = .both (F a) (F b))
  leaf : ∀ {k}, k < n → kd k = none → ∃ p, p < m ∧ k = lt p
  letter : ∀ {p}, p < m → lt p < n ∧ kd (lt p) = none ∧ F (lt p) = .letter p
  inj : ∀ {i j}, i < n → j < n → F i = F j → i = j
  uniq : ∀ {k k' x}, k < n → k' < n → KidI kd k x → KidI kd k' x → k = k'
  top_lt : ∀ {t}, t ∈ tops → t < n
  under : ∀ {k}, k < n → k ∈ tops ∨ ∃ k', k' < n ∧ KidI kd k' k
  topfree : ∀ {t k}, t ∈ tops → k < n → ¬ KidI kd k t
  places : pl (tops.map F) = List.range m
section
variable {n m : Nat} {kd : Nat → Option (Bool × Nat × Nat)} {lt : Nat → Nat} {F : Nat → Form} {tops : List Nat}
theorem Shape.nd (S : Shape n m kd lt F tops) : (pl (tops.map F)).Nodup := by
  rw [S.places]
  exact List.nodup_range
theorem Shape.kid_n (S : Shape n m kd lt F tops) {k x : Nat} (hk : k < n) (h : KidI kd k x) : x < k := by
  obtain ⟨w, a, b, e, hx⟩ := h
  have := S.kid_lt hk e
  rcases hx with rfl | rfl
  · exact this.1
  · exact this.2.1
/-! ### pieces -/
variable {l : Links} {pc : Nat → Option Nat} {B : List (Nat × List Nat)}
end
end Lk
end
section
set_option maxHeartbeats 1000000
namespace Lk
open Md26
section
variable {n m : Nat} {kd : Nat → Option (Bool × Nat × Nat)} {lt : Nat → Nat} {F : Nat → Form} {tops : List Nat} {l : Links} {pc : Nat → Option Nat} {B : List (Nat × List Nat)}
theorem perm_of_nodup {α : Type} [BEq α] [LawfulBEq α] {r s : List α} (hr : r.Nodup) (hs : s.Nodup) (h : ∀ a, a ∈ r ↔ a ∈ s) : r.Perm s := by
  refine pm fun a => ?_
  have c1 := hr.count (a := a)
  have c2 := hs.count (a := a)
  rw [c1, c2]
  by_cases q : a ∈ r
  · rw [if_pos q, if_pos ((h a).mp q)]
  · rw [if_neg q, if_neg (fun z => q ((h a).mpr z))]
/-- these numbers are links, of m letters -/
structure Linked (m : Nat) (l : Links) : Prop where
  len : l.length = m
  back : ∀ {p}, p < m → l.getD p 0 < m ∧ l.getD p 0 ≠ p ∧ l.getD (l.getD p 0) 0 = p
theorem Linked.at_ (L : Linked m l) {p : Nat} (hp : p < m) : l[p]? = some (l.getD p 0) := by
  rw [List.getD_eq_getElem?_getD]
  have : p < l.length := by rw [L.len]; exact hp
  rw [List.getElem?_eq_getElem this]
  rfl
end
end Lk
end
section
set_option maxHeartbeats 1000000
namespace Lk
open Md26
/-- n parts and m letters so far; st: the formulas that lie in no other so far -/
structure PInv (n m : Nat) (kd : Nat → Option (Bool × Nat × Nat)) (lt : Nat → Nat) (F : Nat → Form) (st : List Nat) : Prop where
  kid_lt : ∀ {k w a b}, k < n → kd k = some (w, a, b) → a < k ∧ b < k ∧ a ≠ b
  comp : ∀ {k w a b}, k < n → kd k = some (w, a, b) → (w = true ∧ ∃ j, F k = .with_ j (F a) (F b)) ∨ (w = false ∧ F k = .both (F a) (F b))
  leaf : ∀ {k}, k < n → kd k = none → ∃ p, p < m ∧ k = lt p
  letter : ∀ {p}, p < m → lt p < n ∧ kd (lt p) = none ∧ F (lt p) = .letter p
  inj : ∀ {i j}, i < n → j < n → F i = F j → i = j
  uniq : ∀ {k k' x}, k < n → k' < n → KidI kd k x → KidI kd k' x → k = k'
  st_lt : ∀ {t}, t ∈ st → t < n
  under : ∀ {k}, k < n → k ∈ st ∨ ∃ k', k' < n ∧ KidI kd k' k
  free : ∀ {t k}, t ∈ st → k < n → ¬ KidI kd k t
  snod : st.Nodup
theorem PInv.shape {n m kd lt F st} (h : PInv n m kd lt F st) (hp : pl (st.map F) = List.range m) : Shape n m kd lt F st :=
  ⟨h.kid_lt, h.comp, h.leaf, h.letter, h.inj, h.uniq, h.st_lt, h.under, h.free, hp⟩
theorem PInv.zero {kd lt F} : PInv 0 0 kd lt F [] :=
  ⟨fun h => by omega, fun h => by omega, fun h => by omega, fun h => by omega, fun h => by omega, fun h => by omega, fun h => (List.not_mem_nil h).elim, fun h => by omega, fun h => (List.not_mem_nil h).elim, List.nodup_nil⟩
theorem kid_same {kd kd' : Nat → Option (Bool × Nat × Nat)} {k x : Nat} (h : kd' k = kd k) : KidI kd' k x ↔ KidI kd k x := by
  unfold KidI
  rw [h]
section
variable {n m : Nat} {kd kd' : Nat → Option (Bool × Nat × Nat)} {lt lt' : Nat → Nat} {F F' : Nat → Form} {st : List Nat}
theorem PInv.places_lt (h : PInv n m kd lt F st) {k p : Nat} (hk : k < n) (e : F k = .letter p) : p < m := by
  cases q : kd k with
  | none =>
    obtain ⟨p', hp, rfl⟩ := h.leaf hk q
    rw [(h.letter hp).2.2] at e
    cases e
    exact hp
  | some v =>
    obtain ⟨w, a, b⟩ := v
    rcases h.comp hk q with ⟨_, j, y⟩ | ⟨_, y⟩
    · rw [y] at e
      cases e
    · rw [y] at e
      cases e
/-- a letter more -/
theorem PInv.letter_step (h : PInv n m kd lt F st) (ekd : ∀ k, k < n → kd' k = kd k) (ekn : kd' n = none) (elt : ∀ p, p < m → lt' p = lt p) (eln : lt' m = n) (eF : ∀ k, k < n → F' k = F k) (eFn : F' n = .letter m) :
    PInv (n + 1) (m + 1) kd' lt' F' (st ++ [n]) := by
  have kn : ∀ x, ¬ KidI kd' n x := by
    intro x ⟨w, a, b, e, _⟩
    rw [ekn] at e
    cases e
  have kl : ∀ {k x}, k < n + 1 → KidI kd' k x → k < n ∧ KidI kd k x := by
    intro k x hk hx
    by_cases e : k = n
    · subst e
      exact (kn x hx).elim
    · have : k < n := by omega
      exact ⟨this, (kid_same (ekd k this)).mp hx⟩
  have fresh : ∀ {i}, i < n → F' i ≠ .letter m := by
    intro i hi e
    rw [eF i hi] at e
    have := h.places_lt hi e
    omega
  constructor
  case kid_lt =>
    intro k w a b hk e
    have := kl hk ⟨w, a, b, e, Or.inl rfl⟩
    rw [ekd k this.1] at e
    exact h.kid_lt this.1 e
  case comp =>
    intro k w a b hk e
    have := kl hk ⟨w, a, b, e, Or.inl rfl⟩
    rw [ekd k this.1] at e
    have hl := h.kid_lt this.1 e
    rw [eF k this.1, eF a (by omega), eF b (by omega)]
    exact h.comp this.1 e
  case leaf =>
    intro k hk e
    by_cases q : k = n
    · exact ⟨m, by omega, by rw [eln]; exact q⟩
    · have hk' : k < n := by omega
      rw [ekd k hk'] at e
      obtain ⟨p, hp, rfl⟩ := h.leaf hk' e
      exact ⟨p, by omega, (elt p hp).symm⟩
  case letter =>
    intro p hp
    by_cases q : p = m
    · subst q
      rw [eln]
      exact ⟨by omega, ekn, eFn⟩
    · have hp' : p < m := by omega
      rw [elt p hp']
      have x := h.letter hp'
      rw [ekd _ x.1, eF _ x.1]
      exact ⟨by omega, x.2⟩
  case inj =>
    intro i j hi hj e
    by_cases q : i = n
    · by_cases q2 : j = n
      · rw [q, q2]
      · rw [q, eFn] at e
        exact (fresh (show j < n by omega) e.symm).elim
    · by_cases q2 : j = n
      · rw [q2, eFn] at e
        exact (fresh (show i < n by omega) e).elim
      · rw [eF i (by omega), eF j (by omega)] at e
        exact h.inj (by omega) (by omega) e
  case uniq =>
    intro k k' x hk hk' a b
    have a' := kl hk a
    have b' := kl hk' b
    exact h.uniq a'.1 b'.1 a'.2 b'.2
  case st_lt =>
    intro t ht
    rcases List.mem_append.mp ht with ht | ht
    · have := h.st_lt ht
      omega
    · have : t = n := by simpa using ht
      omega
  case under =>
    intro k hk
    by_cases q : k = n
    · subst q
      exact Or.inl (by simp)
    · rcases h.under (show k < n by omega) with x | ⟨k', x, y⟩
      · exact Or.inl (List.mem_append.mpr (Or.inl x))
      · exact Or.inr ⟨k', by omega, (kid_same (ekd k' x)).mpr y⟩
  case free =>
    intro t k ht hk hx
    have x := kl hk hx
    rcases List.mem_append.mp ht with ht | ht
    · exact h.free ht x.1 x.2
    · have e : t = n := by simpa using ht
      subst e
      obtain ⟨w, a, b, e, hab⟩ := x.2
      have hl := h.kid_lt x.1 e
      have := x.1
      rcases hab with q | q <;> omega
  case snod =>
    refine List.nodup_append.mpr ⟨h.snod, by simp, fun x hx y hy q => ?_⟩
    have : y = n := by simpa using hy
    have := h.st_lt hx
    omega
/-- a bracket closes: two formulas become one -/
theorem PInv.comp_step {w : Bool} {a b : Nat} (h : PInv n m kd lt F (st ++ [a, b])) (ekd : ∀ k, k < n → kd' k = kd k) (ekn : kd' n = some (w, a, b)) (eF : ∀ k, k < n → F' k = F k)
    (eFn : (w = true ∧ ∃ j, F' n = .with_ j (F a) (F b)) ∨ (w = false ∧ F' n = .both (F a) (F b))) : PInv (n + 1) m kd' lt F' (st ++ [n]) := by
  have ma : a ∈ st ++ [a, b] := by simp
  have mb : b ∈ st ++ [a, b] := by simp
  have la := h.st_lt ma
  have lb := h.st_lt mb
  have hnd := h.snod
  rw [List.nodup_append] at hnd
  obtain ⟨nst, nab, ndis⟩ := hnd
  have hab : a ≠ b := by
    intro q
    subst q
    simp at nab
  have kn : ∀ x, KidI kd' n x ↔ (x = a ∨ x = b) := by
    intro x
    constructor
    · intro ⟨w', a', b', e, hx⟩
      rw [ekn] at e
      cases e
      exact hx
    · intro hx
      exact ⟨w, a, b, ekn, hx⟩
  have ko : ∀ {k x}, k < n → (KidI kd' k x ↔ KidI kd k x) := fun hk => kid_same (ekd _ hk)
  have fresh : ∀ {i}, i < n → F i ≠ F' n := by
    intro i hi e
    have kids : KidI kd i a := by
      have hi2 : ∀ f g, (F i = .both f g ∨ ∃ j, F i = .with_ j f g) → f = F a → KidI kd i a := by
        intro f g hfg hf
        cases q : kd i with
        | none =>
          obtain ⟨p, hp, rfl⟩ := h.leaf hi q
          have z := (h.letter hp).2.2
          rcases hfg with y | ⟨j, y⟩
          · rw [z] at y
            cases y
          · rw [z] at y
            cases y
        | some v =>
          obtain ⟨w', a', b'⟩ := v
          have hl := h.kid_lt hi q
          refine ⟨w', a', b', q, Or.inl ?_⟩
          rcases h.comp hi q with ⟨_, j', y'⟩ | ⟨_, y'⟩
          · rcases hfg with y | ⟨j, y⟩
            · rw [y'] at y
              cases y
            · rw [y'] at y
              cases y
              exact h.inj la (by omega) hf.symm
          · rcases hfg with y | ⟨j, y⟩
            · rw [y'] at y
              cases y
              exact h.inj la (by omega) hf.symm
            · rw [y'] at y
              cases y
      rcases eFn with ⟨_, j, y⟩ | ⟨_, y⟩
      · exact hi2 _ _ (Or.inr ⟨j, e.trans y⟩) rfl
      · exact hi2 _ _ (Or.inl (e.trans y)) rfl
    exact h.free ma hi kids
  constructor
  case kid_lt =>
    intro k w' a' b' hk e
    by_cases q : k = n
    · subst q
      rw [ekn] at e
      cases e
      exact ⟨la, lb, hab⟩
    · rw [ekd k (by omega)] at e
      exact h.kid_lt (by omega) e
  case comp =>
    intro k w' a' b' hk e
    by_cases q : k = n
    · subst q
      rw [ekn] at e
      cases e
      rw [eF a la, eF b lb]
      exact eFn
    · have hk' : k < n := by omega
      rw [ekd k hk'] at e
      have hl := h.kid_lt hk' e
      rw [eF k hk', eF a' (by omega), eF b' (by omega)]
      exact h.comp hk' e
  case leaf =>
    intro k hk e
    by_cases q : k = n
    · subst q
      rw [ekn] at e
      cases e
    · have hk' : k < n := by omega
      rw [ekd k hk'] at e
      exact h.leaf hk' e
  case letter =>
    intro p hp
    have x := h.letter hp
    rw [ekd _ x.1, eF _ x.1]
    exact ⟨by omega, x.2⟩
  case inj =>
    intro i j hi hj e
    by_cases q : i = n
    · by_cases q2 : j = n
      · rw [q, q2]
      · rw [q, eF j (by omega)] at e
        exact (fresh (show j < n by omega) e.symm).elim
    · by_cases q2 : j = n
      · rw [q2, eF i (by omega)] at e
        exact (fresh (show i < n by omega) e).elim
      · rw [eF i (by omega), eF j (by omega)] at e
        exact h.inj (by omega) (by omega) e
  case uniq =>
    intro k k' x hk hk' p q
    by_cases e1 : k = n
    · by_cases e2 : k' = n
      · rw [e1, e2]
      · have l2 : k' < n := by omega
        rw [e1] at p
        rcases (kn x).mp p with rfl | rfl
        · exact (h.free ma l2 ((ko l2).mp q)).elim
        · exact (h.free mb l2 ((ko l2).mp q)).elim
    · have l1 : k < n := by omega
      by_cases e2 : k' = n
      · rw [e2] at q
        rcases (kn x).mp q with rfl | rfl
        · exact (h.free ma l1 ((ko l1).mp p)).elim
        · exact (h.free mb l1 ((ko l1).mp p)).elim
      · have l2 : k' < n := by omega
        exact h.uniq l1 l2 ((ko l1).mp p) ((ko l2).mp q)
  case st_lt =>
    intro t ht
    rcases List.mem_append.mp ht with ht | ht
    · have := h.st_lt (List.mem_append.mpr (Or.inl ht))
      omega
    · have : t = n := by simpa using ht
      omega
  case under =>
    intro k hk
    by_cases q : k = n
    · subst q
      exact Or.inl (by simp)
    · rcases h.under (show k < n by omega) with x | ⟨k', x, y⟩
      · rcases List.mem_append.mp x with x | x
        · exact Or.inl (List.mem_append.mpr (Or.inl x))
        · refine Or.inr ⟨n, by omega, (kn k).mpr ?_⟩
          simpa using x
      · exact Or.inr ⟨k', by omega, (ko x).mpr y⟩
  case free =>
    intro t k ht hk hx
    rcases List.mem_append.mp ht with ht1 | ht
    · by_cases e : k = n
      · rw [e] at hx
        rcases (kn t).mp hx with q | q
        · exact ndis t ht1 a (by simp) q
        · exact ndis t ht1 b (by simp) q
      · have l1 : k < n := by omega
        exact h.free (List.mem_append.mpr (Or.inl ht1)) l1 ((ko l1).mp hx)
    · have e : t = n := by simpa using ht
      subst e
      by_cases e : k = t
      · subst e
        rcases (kn k).mp hx with q | q <;> omega
      · have l1 : k < t := by omega
        obtain ⟨w', a', b', e', hx'⟩ := (ko l1).mp hx
        have := h.kid_lt l1 e'
        rcases hx' with q | q <;> omega
  case snod =>
    refine List.nodup_append.mpr ⟨nst, by simp, fun x hx y hy q => ?_⟩
    have : y = n := by simpa using hy
    have := h.st_lt (List.mem_append.mpr (Or.inl hx))
    omega
end
end Lk
end
section
set_option maxHeartbeats 1000000
namespace Lk
open Md26
/-! ### reading a text, byte by byte -/
structure RS where
  parts : List (Nat × Option (Nat × Nat))
  letters : List Nat
  ones : List (Option Nat)
  tops : List Nat
  brackets : List (Option (Nat × Nat × Nat))
  latest : Option Nat
def kdOf (ps : List (Nat × Option (Nat × Nat))) (k : Nat) : Option (Bool × Nat × Nat) := match ps[k]? with
  | some (c, some (a, b)) => some (c == 124, a, b)
  | _ => none
def ltOf (ls : List Nat) (p : Nat) : Nat := ls.getD p 0
def FOf (fl : List Form) (i : Nat) : Form := fl.getD i (.letter 0)
def firsts (bs : List (Option (Nat × Nat × Nat))) : List Nat := bs.filterMap fun o => o.map (·.2.1)
def pends (bs : List (Option (Nat × Nat × Nat))) : List Nat := bs.filterMap fun o => o.bind fun p => if p.1 = 124 then some p.2.2 else none
def isLet (c : Nat) : Prop := (97 ≤ c ∧ c ≤ 104) ∨ (65 ≤ c ∧ c ≤ 72)
instance (c : Nat) : Decidable (isLet c) := by unfold isLet; infer_instance
def begin_ (s : RS) (c : Nat) : Option RS :=
  if c = 40 then (if s.brackets.length + 1 ≤ 16 then some { s with brackets := s.brackets ++ [none] } else none)
  else if isLet c then (if s.letters.length + 1 ≤ 16 then some { s with parts := s.parts ++ [(c, none)], letters := s.letters ++ [s.parts.length], latest := some s.parts.length } else none)
  else none
def goOn (s : RS) (x c : Nat) : Option RS := match s.brackets.getLast? with
  | none => if c = 44 then some { s with tops := s.tops ++ [x], latest := none } else none
  | some none => if c = 42 ∨ c = 124 then some { s with brackets := s.brackets.dropLast ++ [some (c, x, s.ones.length)], latest := none, ones := if c = 124 then s.ones ++ [none] else s.ones } else none
  | some (some (o, y, k)) => if c = 41 then some { s with parts := s.parts ++ [(o, some (y, x))], brackets := s.brackets.dropLast, latest := some s.parts.length, ones := if o = 124 then s.ones.set k (some s.parts.length) else s.ones } else none
def step (s : RS) (c : Nat) : Option RS := match s.latest with
  | none => begin_ s c
  | some x => goOn s x c
def run : RS → List Nat → Option RS
  | s, [] => some s
  | s, c :: q => match step s c with
    | none => none
    | some s1 => run s1 q
def fin (s : RS) : Option RS := match s.latest, s.brackets with
  | some x, [] => some { s with tops := s.tops ++ [x] }
  | _, _ => none
def ends (s : RS) (b : List Nat) : Option RS := (run s b).bind fin
theorem ends_nil (s : RS) : ends s [] = fin s := rfl
theorem ends_cons (s : RS) (c : Nat) (q : List Nat) : ends s (c :: q) = match step s c with
    | none => none
    | some s1 => ends s1 q := by
  unfold ends
  show (match step s c with | none => none | some s1 => run s1 q).bind fin = _
  cases step s c <;> rfl
theorem ends_none {s : RS} {c : Nat} {q : List Nat} (h : step s c = none) : ends s (c :: q) = none := by
  rw [ends_cons, h]
theorem ends_some {s s1 : RS} {c : Nat} {q : List Nat} (h : step s c = some s1) : ends s (c :: q) = ends s1 q := by
  rw [ends_cons, h]
def s0 : RS := ⟨[], [], [], [], [], none⟩
structure Rd (s : RS) (fl : List Form) (ls : List Nat) (st : List Nat) : Prop where
  len : fl.length = s.parts.length
  lls : ls.length = s.letters.length
  inv : PInv s.parts.length s.letters.length (kdOf s.parts) (ltOf s.letters) (FOf fl) st
  sign : ∀ p c, ls[p]? = some c → isLet c ∧ s.parts[ltOf s.letters p]? = some (c, none)
  ops : ∀ (k c a b : Nat), s.parts[k]? = some (c, some (a, b)) → c = 42 ∨ c = 124
theorem Rd.zero : Rd s0 [] [] [] := ⟨rfl, rfl, .zero, fun p c h => (by simp at h), fun k c a b h => (by simp [s0] at h)⟩
theorem FOf_lt {fl : List Form} {x : Form} {i : Nat} (h : i < fl.length) : FOf (fl ++ [x]) i = FOf fl i := by
  unfold FOf
  rw [List.getD_eq_getElem?_getD, List.getD_eq_getElem?_getD, List.getElem?_append_left h]
theorem FOf_eq {fl : List Form} {x : Form} {i : Nat} (h : i = fl.length) : FOf (fl ++ [x]) i = x := by
  subst h
  unfold FOf
  rw [List.getD_eq_getElem?_getD, List.getElem?_concat_length]
  rfl
theorem ltOf_lt {ls : List Nat} {x i : Nat} (h : i < ls.length) : ltOf (ls ++ [x]) i = ltOf ls i := by
  unfold ltOf
  rw [List.getD_eq_getElem?_getD, List.getD_eq_getElem?_getD, List.getElem?_append_left h]
theorem ltOf_eq {ls : List Nat} {x : Nat} : ltOf (ls ++ [x]) ls.length = x := by
  unfold ltOf
  rw [List.getD_eq_getElem?_getD, List.getElem?_concat_length]
  rfl
theorem kdOf_lt {ps : List (Nat × Option (Nat × Nat))} {x : Nat × Option (Nat × Nat)} {k : Nat} (h : k < ps.length) : kdOf (ps ++ [x]) k = kdOf ps k := by
  unfold kdOf
  rw [List.getElem?_append_left h]
theorem firsts_app (a b : List (Option (Nat × Nat × Nat))) : firsts (a ++ b) = firsts a ++ firsts b := List.filterMap_append
/-- a letter is read -/
theorem Rd.letter {s : RS} {fl : List Form} {ls st : List Nat} (h : Rd s fl ls st) {c : Nat} (hc : isLet c) :
    Rd { s with parts := s.parts ++ [(c, none)], letters := s.letters ++ [s.parts.length], latest := some s.parts.length } (fl ++ [.letter ls.length]) (ls ++ [c]) (st ++ [s.parts.length]) := by
  refine ⟨by simp [h.len], by simp [h.lls], ?_, ?_, ?_⟩
  · show PInv (s.parts ++ [(c, none)]).length (s.letters ++ [s.parts.length]).length (kdOf (s.parts ++ [(c, none)])) (ltOf (s.letters ++ [s.parts.length])) _ _
    rw [List.length_append, List.length_append]
    refine h.inv.letter_step (fun k hk => kdOf_lt hk) ?_ (fun p hp => ltOf_lt hp) ltOf_eq (fun k hk => FOf_lt (by rw [h.len]; exact hk)) ?_
    · unfold kdOf
      rw [List.getElem?_concat_length]
    · rw [FOf_eq h.len.symm, h.lls]
  · intro p c' hp
    show isLet c' ∧ (s.parts ++ [(c, none)])[ltOf (s.letters ++ [s.parts.length]) p]? = some (c', none)
    by_cases e : p < ls.length
    · rw [List.getElem?_append_left e] at hp
      obtain ⟨x1, x2⟩ := h.sign p c' hp
      rw [ltOf_lt (by rw [← h.lls]; exact e)]
      have hl := (h.inv.letter (show p < s.letters.length by rw [← h.lls]; exact e)).1
      rw [List.getElem?_append_left hl]
      exact ⟨x1, x2⟩
    · have hl := (List.getElem?_eq_some_iff.mp hp).1
      have e2 : p = ls.length := by
        simp at hl
        omega
      subst e2
      rw [List.getElem?_concat_length] at hp
      cases hp
      rw [h.lls, ltOf_eq, List.getElem?_concat_length]
      exact ⟨hc, rfl⟩
  · intro k c' a b hk
    have hk : (s.parts ++ [(c, none)])[k]? = some (c', some (a, b)) := hk
    by_cases e : k < s.parts.length
    · rw [List.getElem?_append_left e] at hk
      exact h.ops k c' a b hk
    · have hl := (List.getElem?_eq_some_iff.mp hk).1
      have e2 : k = s.parts.length := by
        simp at hl
        omega
      subst e2
      rw [List.getElem?_concat_length] at hk
      cases hk
/-- a bracket is closed -/
theorem Rd.close {s : RS} {fl : List Form} {ls st : List Nat} {a b o : Nat} {f : Form} {bs : List (Option (Nat × Nat × Nat))} {os : List (Option Nat)} (h : Rd s fl ls (st ++ [a, b])) (ho : o = 42 ∨ o = 124)
    (hf : (o = 124 ∧ ∃ j, f = .with_ j (FOf fl a) (FOf fl b)) ∨ (o = 42 ∧ f = .both (FOf fl a) (FOf fl b))) :
    Rd { s with parts := s.parts ++ [(o, some (a, b))], brackets := bs, latest := some s.parts.length, ones := os } (fl ++ [f]) ls (st ++ [s.parts.length]) := by
  refine ⟨by simp [h.len], h.lls, ?_, ?_, ?_⟩
  · show PInv (s.parts ++ [(o, some (a, b))]).length s.letters.length (kdOf (s.parts ++ [(o, some (a, b))])) (ltOf s.letters) _ _
    rw [List.length_append]
    refine h.inv.comp_step (w := o == 124) (fun k hk => kdOf_lt hk) ?_ (fun k hk => FOf_lt (by rw [h.len]; exact hk)) ?_
    · unfold kdOf
      rw [List.getElem?_concat_length]
    · rw [FOf_eq h.len.symm]
      rcases hf with ⟨e, j, y⟩ | ⟨e, y⟩
      · exact Or.inl ⟨by rw [e]; rfl, j, y⟩
      · exact Or.inr ⟨by rw [e]; rfl, y⟩
  · intro p c hp
    obtain ⟨x1, x2⟩ := h.sign p c hp
    have e := (List.getElem?_eq_some_iff.mp hp).1
    have hl := (h.inv.letter (show p < s.letters.length by rw [← h.lls]; exact e)).1
    refine ⟨x1, ?_⟩
    show (s.parts ++ [(o, some (a, b))])[ltOf s.letters p]? = some (c, none)
    rw [List.getElem?_append_left hl]
    exact x2
  · intro k c' a' b' hk
    have hk : (s.parts ++ [(o, some (a, b))])[k]? = some (c', some (a', b')) := hk
    by_cases e : k < s.parts.length
    · rw [List.getElem?_append_left e] at hk
      exact h.ops k c' a' b' hk
    · have hl := (List.getElem?_eq_some_iff.mp hk).1
      have e2 : k = s.parts.length := by
        simp at hl
        omega
      subst e2
      rw [List.getElem?_concat_length] at hk
      cases hk
      exact ho
theorem Rd.st_lt {s : RS} {fl : List Form} {ls st : List Nat} (h : Rd s fl ls st) {t : Nat} (ht : t ∈ st) : t < fl.length := by
  rw [h.len]
  exact h.inv.st_lt ht
/-- what else stands in the state does not matter -/
theorem Rd.of {s s' : RS} {fl : List Form} {ls st st' : List Nat} (h : Rd s fl ls st) (e1 : s'.parts = s.parts) (e2 : s'.letters = s.letters) (e3 : st = st') : Rd s' fl ls st' := by
  subst e3
  obtain ⟨a, b, c, d, e⟩ := h
  refine ⟨?_, ?_, ?_, ?_, ?_⟩
  · rw [e1]; exact a
  · rw [e2]; exact b
  · rw [e1, e2]; exact c
  · rw [e1, e2]; exact d
  · rw [e1]; exact e
/-- the withs met so far -/
structure Os (s : RS) (fl : List Form) (W : Nat) : Prop where
  len : s.ones.length = W
  at_ : ∀ j k, s.ones[j]? = some (some k) → k < fl.length ∧ ∃ f g, FOf fl k = .with_ j f g
  all : ∀ k j f g, k < fl.length → FOf fl k = .with_ j f g → s.ones[j]? = some (some k)
  opn : ∀ j, s.ones[j]? = some none ↔ j ∈ pends s.brackets
  nod : (pends s.brackets).Nodup
theorem Os.zero : Os s0 [] 0 := ⟨rfl, fun j k h => by simp [s0] at h, fun k j f g h => by simp at h, fun j => by simp [s0, pends], by simp [s0, pends]⟩
theorem Os.of {s s' : RS} {fl : List Form} {W : Nat} (h : Os s fl W) (e1 : s'.ones = s.ones) (e2 : pends s'.brackets = pends s.brackets) : Os s' fl W := by
  obtain ⟨a, b, c, d, e⟩ := h
  refine ⟨by rw [e1]; exact a, by rw [e1]; exact b, by rw [e1]; exact c, by rw [e1, e2]; exact d, by rw [e2]; exact e⟩
theorem pends_app (a b : List (Option (Nat × Nat × Nat))) : pends (a ++ b) = pends a ++ pends b := List.filterMap_append
theorem pends_none (a : List (Option (Nat × Nat × Nat))) : pends (a ++ [none]) = pends a := by
  rw [pends_app]
  simp [pends]
theorem pends_one (a : List (Option (Nat × Nat × Nat))) (x k : Nat) : pends (a ++ [some (124, x, k)]) = pends a ++ [k] := by
  rw [pends_app]
  simp [pends]
theorem pends_two (a : List (Option (Nat × Nat × Nat))) {o : Nat} (ho : o ≠ 124) (x k : Nat) : pends (a ++ [some (o, x, k)]) = pends a := by
  rw [pends_app]
  simp [pends, ho]
theorem Os.letter {s s' : RS} {fl : List Form} {W p : Nat} (h : Os s fl W) (e1 : s'.ones = s.ones) (e2 : s'.brackets = s.brackets) : Os s' (fl ++ [.letter p]) W := by
  refine ⟨by rw [e1]; exact h.len, fun j k e => ?_, fun k j f g hk e => ?_, fun j => ?_, ?_⟩
  · rw [e1] at e
    obtain ⟨a, f, g, b⟩ := h.at_ j k e
    exact ⟨by simp; omega, f, g, by rw [FOf_lt a]; exact b⟩
  · rw [e1]
    by_cases q : k < fl.length
    · rw [FOf_lt q] at e
      exact h.all k j f g q e
    · have : k = fl.length := by
        simp at hk
        omega
      rw [FOf_eq this] at e
      cases e
  · rw [e1, e2]
    exact h.opn j
  · rw [e2]
    exact h.nod
/-- the sign between two formulas -/
theorem Os.second {s s' : RS} {fl : List Form} {W o x : Nat} {B : List (Option (Nat × Nat × Nat))} (h : Os s fl W) (hB : pends s.brackets = pends B) (e1 : s'.ones = if o = 124 then s.ones ++ [none] else s.ones) (e2 : s'.brackets = B ++ [some (o, x, s.ones.length)]) : Os s' fl (if o = 124 then W + 1 else W) := by
  by_cases ho : o = 124
  · subst ho
    rw [if_pos rfl] at e1 ⊢
    have pe : pends s'.brackets = pends s.brackets ++ [s.ones.length] := by rw [e2, pends_one, hB]
    have old : ∀ j, j < s.ones.length → s'.ones[j]? = s.ones[j]? := fun j hj => by rw [e1, List.getElem?_append_left hj]
    have new : s'.ones[s.ones.length]? = some none := by rw [e1, List.getElem?_concat_length]
    have lim : ∀ j v, s'.ones[j]? = some v → j < s.ones.length ∨ j = s.ones.length := fun j v e => by
      have := (List.getElem?_eq_some_iff.mp e).1
      rw [e1] at this
      simp at this
      omega
    have low : ∀ j, j ∈ pends s.brackets → j < s.ones.length := fun j hj => (List.getElem?_eq_some_iff.mp ((h.opn j).mpr hj)).1
    refine ⟨by rw [e1]; simp [h.len], fun j k e => ?_, fun k j f g hk e => ?_, fun j => ?_, ?_⟩
    · rcases lim j _ e with q | q
      · rw [old j q] at e
        exact h.at_ j k e
      · subst q
        rw [new] at e
        cases e
    · have := h.all k j f g hk e
      rw [old j (List.getElem?_eq_some_iff.mp this).1]
      exact this
    · rw [pe, List.mem_append, List.mem_singleton]
      constructor
      · intro e
        rcases lim j _ e with q | q
        · rw [old j q] at e
          exact Or.inl ((h.opn j).mp e)
        · exact Or.inr q
      · rintro (q | rfl)
        · rw [old j (low j q)]
          exact (h.opn j).mpr q
        · exact new
    · rw [pe]
      refine List.nodup_append.mpr ⟨h.nod, by simp, fun a ha b hb q => ?_⟩
      have := low a ha
      have := List.mem_singleton.mp hb
      omega
  · rw [if_neg ho] at e1 ⊢
    exact h.of e1 (by rw [e2, pends_two _ ho, hB])
/-- a bracket closes -/
theorem Os.close {s s' : RS} {fl : List Form} {W o x k : Nat} {f g : Form} {B : List (Option (Nat × Nat × Nat))} (h : Os s fl W) (hB : s.brackets = B ++ [some (o, x, k)]) (e1 : s'.ones = if o = 124 then s.ones.set k (some fl.length) else s.ones) (e2 : s'.brackets = B) :
    Os s' (fl ++ [if o = 124 then .with_ k f g else .both f g]) W := by
  by_cases ho : o = 124
  · subst ho
    rw [if_pos rfl] at e1 ⊢
    have pe : pends s.brackets = pends B ++ [k] := by rw [hB, pends_one]
    have hk : s.ones[k]? = some none := (h.opn k).mpr (by rw [pe]; simp)
    have hkl := (List.getElem?_eq_some_iff.mp hk).1
    have nd := h.nod
    rw [pe] at nd
    have kB : k ∉ pends B := fun z => nodup_two nd z (by simp)
    have new : s'.ones[k]? = some (some fl.length) := by rw [e1, List.getElem?_set_self hkl]
    have old : ∀ j, j ≠ k → s'.ones[j]? = s.ones[j]? := fun j hj => by rw [e1, List.getElem?_set_ne (fun z => hj z.symm)]
    refine ⟨by rw [e1, List.length_set]; exact h.len, fun j k' e => ?_, fun k' j f' g' hk' e => ?_, fun j => ?_, by rw [e2]; exact (List.nodup_append.mp nd).1⟩
    · by_cases q : j = k
      · subst q
        rw [new] at e
        cases e
        exact ⟨by simp, f, g, FOf_eq rfl⟩
      · rw [old j q] at e
        obtain ⟨a, f', g', b⟩ := h.at_ j k' e
        exact ⟨by simp; omega, f', g', by rw [FOf_lt a]; exact b⟩
    · by_cases q : k' < fl.length
      · rw [FOf_lt q] at e
        have := h.all k' j f' g' q e
        have hj : j ≠ k := by
          rintro rfl
          rw [hk] at this
          cases this
        rw [old j hj]
        exact this
      · have : k' = fl.length := by
          simp at hk'
          omega
        rw [FOf_eq this] at e
        cases e
        rw [new, this]
    · rw [e2]
      by_cases q : j = k
      · subst q
        rw [new]
        exact ⟨fun z => (nomatch z), fun z => (kB z).elim⟩
      · rw [old j q, h.opn j, pe, List.mem_append, List.mem_singleton]
        exact ⟨fun z => z.elim id fun z => (q z).elim, Or.inl⟩
  · rw [if_neg ho] at e1 ⊢
    have pe : pends s.brackets = pends B := by rw [hB, pends_two _ ho]
    refine ⟨by rw [e1]; exact h.len, fun j k' e => ?_, fun k' j f' g' hk' e => ?_, fun j => by rw [e1, e2, ← pe]; exact h.opn j, by rw [e2, ← pe]; exact h.nod⟩
    · rw [e1] at e
      obtain ⟨a, f', g', b⟩ := h.at_ j k' e
      exact ⟨by simp; omega, f', g', by rw [FOf_lt a]; exact b⟩
    · rw [e1]
      by_cases q : k' < fl.length
      · rw [FOf_lt q] at e
        exact h.all k' j f' g' q e
      · have : k' = fl.length := by
          simp at hk'
          omega
        rw [FOf_eq this] at e
        cases e
theorem getLast_snoc {α : Type} (l : List α) (x : α) : (l ++ [x]).getLast? = some x := by simp
/-- what the specification's reading does, opened -/
theorem form_inv {k d : Nat} {r : Row} {b : List Nat} {f : Form} {r' : Row} {q : List Nat} (h : form (k + 1) d r b = some (f, r', q)) :
    (∃ c, b = c :: q ∧ isLet c ∧ f = .letter r.letters.length ∧ r' = { r with letters := r.letters ++ [c] }) ∨
    (∃ q0 f1 r1 o q1 g, b = 40 :: q0 ∧ d ≠ 0 ∧ form k (d - 1) r q0 = some (f1, r1, o :: q1) ∧ (o = 42 ∨ o = 124) ∧
      form k (d - 1) (if o = 124 then { r1 with withs := r1.withs + 1 } else r1) q1 = some (g, r', 41 :: q) ∧ f = (if o = 124 then .with_ r1.withs f1 g else .both f1 g)) := by
  cases b with
  | nil => cases h
  | cons c q0 =>
    unfold form at h
    dsimp only at h
    by_cases hc : isLet c
    · rw [if_pos (show (97 ≤ c ∧ c ≤ 104) ∨ (65 ≤ c ∧ c ≤ 72) from hc)] at h
      cases h
      exact Or.inl ⟨c, rfl, hc, rfl, rfl⟩
    · rw [if_neg (show ¬ ((97 ≤ c ∧ c ≤ 104) ∨ (65 ≤ c ∧ c ≤ 72)) from hc)] at h
      by_cases ho : c = 40 ∧ d ≠ 0
      · rw [if_pos ho] at h
        obtain ⟨rfl, hd⟩ := ho
        refine Or.inr ?_
        split at h
        · rename_i f1 r1 o q1 e1
          split at h
          · cases h
          · rename_i hop
            split at h
            · rename_i g r3 q2 e2
              cases h
              exact ⟨q0, f1, r1, o, q1, g, rfl, hd, e1, by omega, e2, rfl⟩
            · cases h
        · cases h
      · rw [if_neg ho] at h
        cases h
theorem form_facts {k d : Nat} {r : Row} {b : List Nat} {f : Form} {r' : Row} {q : List Nat} (h : form k d r b = some (f, r', q)) :
    q.length < b.length ∧ r'.forms = r.forms ∧ r.letters.length ≤ r'.letters.length ∧ placesOf f = List.range' r.letters.length (r'.letters.length - r.letters.length) := by
  induction k generalizing d r b f r' q with
  | zero => cases h
  | succ k ih =>
    rcases form_inv h with ⟨c, rfl, hc, rfl, rfl⟩ | ⟨q0, f1, r1, o, q1, g, rfl, hd, e1, ho, e2, rfl⟩
    · refine ⟨by simp, rfl, by simp, ?_⟩
      show [r.letters.length] = List.range' r.letters.length ((r.letters ++ [c]).length - r.letters.length)
      rw [List.length_append, Nat.add_sub_cancel_left]
      rfl
    · have a := ih e1
      have b := ih e2
      have r2l : (if o = 124 then ({ r1 with withs := r1.withs + 1 } : Row) else r1).letters = r1.letters := by
        split <;> rfl
      have r2f : (if o = 124 then ({ r1 with withs := r1.withs + 1 } : Row) else r1).forms = r1.forms := by
        split <;> rfl
      rw [r2l, r2f] at b
      refine ⟨?_, by rw [b.2.1, a.2.1], by omega, ?_⟩
      · have := a.1
        have := b.1
        simp at *
        omega
      · have e : placesOf (if o = 124 then Form.with_ r1.withs f1 g else .both f1 g) = placesOf f1 ++ placesOf g := by
          split <;> rfl
        rw [e, a.2.2.2, b.2.2.2]
        have e3 : r1.letters.length = r.letters.length + 1 * (r1.letters.length - r.letters.length) := by omega
        conv => lhs; rhs; rw [e3]
        rw [List.range'_append]
        congr 1
        omega
theorem parse : ∀ (k d : Nat) (r : Row) (b : List Nat) (s : RS) (fl : List Form), b.length ≤ k → s.latest = none → s.brackets.length + d = 16 → Rd s fl r.letters (s.tops ++ firsts s.brackets) → Os s fl r.withs → r.letters.length ≤ 16 →
    match form k d r b with
    | none => ends s b = none
    | some (f, r', q) => q.length < b.length ∧ r'.forms = r.forms ∧ r.letters.length ≤ r'.letters.length ∧ (16 < r'.letters.length → ends s b = none) ∧
      (r'.letters.length ≤ 16 → ∃ s' fl' x, ends s b = ends s' q ∧ s'.tops = s.tops ∧ s'.brackets = s.brackets ∧ s'.latest = some x ∧ FOf fl' x = f ∧ Rd s' fl' r'.letters (s.tops ++ firsts s.brackets ++ [x]) ∧ Os s' fl' r'.withs ∧
        (∀ i, i < fl.length → FOf fl' i = FOf fl i) ∧ fl.length ≤ fl'.length) := by
  intro k
  induction k with
  | zero =>
    intro d r b s fl hb hl _ _ _ _
    have : b = [] := List.length_eq_zero_iff.mp (by omega)
    subst this
    show ends s [] = none
    rw [ends_nil]
    unfold fin
    rw [hl]
  | succ k ih =>
    intro d r b s fl hb hl hd hR hO hr
    cases b with
    | nil =>
      show ends s [] = none
      rw [ends_nil]
      unfold fin
      rw [hl]
    | cons c q =>
      have hst : step s c = begin_ s c := by
        unfold step
        rw [hl]
      have hq : q.length ≤ k := by simpa using hb
      unfold form
      dsimp only
      by_cases hc : isLet c
      · rw [if_pos (show (97 ≤ c ∧ c ≤ 104) ∨ (65 ≤ c ∧ c ≤ 72) from hc)]
        dsimp only
        have n40 : c ≠ 40 := by
          unfold isLet at hc
          omega
        refine ⟨by simp, rfl, by simp, ?_, ?_⟩
        · intro h
          refine ends_none ?_
          rw [hst]
          unfold begin_
          rw [if_neg n40, if_pos hc, if_neg (by rw [← hR.lls]; simp at h; omega)]
        · intro h
          refine ⟨_, _, _, ends_some (s1 := { s with parts := s.parts ++ [(c, none)], letters := s.letters ++ [s.parts.length], latest := some s.parts.length }) ?_, rfl, rfl, rfl, ?_, hR.letter hc, hO.letter rfl rfl, fun i hi => FOf_lt hi, by simp⟩
          · rw [hst]
            unfold begin_
            rw [if_neg n40, if_pos hc, if_pos (by rw [← hR.lls]; simp at h; omega)]
          · exact FOf_eq hR.len.symm
      · rw [if_neg (show ¬ ((97 ≤ c ∧ c ≤ 104) ∨ (65 ≤ c ∧ c ≤ 72)) from hc)]
        by_cases ho : c = 40 ∧ d ≠ 0
        · rw [if_pos ho]
          obtain ⟨rfl, hd0⟩ := ho
          have hs1 : step s 40 = some { s with brackets := s.brackets ++ [none] } := by
            rw [hst]
            unfold begin_
            rw [if_pos rfl, if_pos (by omega)]
          rw [ends_some hs1]
          have I := ih (d - 1) r q { s with brackets := s.brackets ++ [none] } fl hq hl (by simp; omega) (by
            refine hR.of rfl rfl ?_
            show _ = s.tops ++ firsts (s.brackets ++ [none])
            rw [firsts_app]
            simp [firsts]) (hO.of rfl (pends_none _)) hr
          generalize hs1' : ({ s with brackets := s.brackets ++ [none] } : RS) = s1 at I hs1
          have s1b : s1.brackets = s.brackets ++ [none] := by rw [← hs1']
          have s1t : s1.tops = s.tops := by rw [← hs1']
          cases h1 : form k (d - 1) r q with
          | none =>
            rw [h1] at I
            exact I
          | some v =>
            obtain ⟨f, r1, q1⟩ := v
            rw [h1] at I
            dsimp only at I
            obtain ⟨I1, I2, I3, I4, I5⟩ := I
            cases q1 with
            | nil =>
              dsimp only
              by_cases hle : r1.letters.length ≤ 16
              · obtain ⟨s2, fl2, x, e, _, eb, el, _⟩ := I5 hle
                clear I5
                rw [e, ends_nil]
                unfold fin
                rw [el, eb, s1b]
                cases s.brackets <;> rfl
              · exact I4 (by omega)
            | cons o q2 =>
              dsimp only
              by_cases hop : o ≠ 42 ∧ o ≠ 124
              · rw [if_pos hop]
                by_cases hle : r1.letters.length ≤ 16
                · obtain ⟨s2, fl2, x, e, _, eb, el, _⟩ := I5 hle
                  clear I5
                  rw [e]
                  refine ends_none ?_
                  unfold step
                  rw [el]
                  show goOn s2 x o = none
                  unfold goOn
                  rw [eb, s1b, getLast_snoc]
                  dsimp only
                  rw [if_neg (by omega)]
                · exact I4 (by omega)
              · rw [if_neg hop]
                have ho2 : o = 42 ∨ o = 124 := by omega
                generalize hr2 : (if o = 124 then ({ r1 with withs := r1.withs + 1 } : Row) else r1) = r2
                have r2l : r2.letters = r1.letters := by
                  rw [← hr2]
                  split <;> rfl
                have r2f : r2.forms = r1.forms := by
                  rw [← hr2]
                  split <;> rfl
                by_cases hle : r1.letters.length ≤ 16
                · obtain ⟨s2, fl2, x, e, et, eb, el, eF, R2, O2, ag, le2⟩ := I5 hle
                  clear I5
                  have R2st := R2
                  have hs2 : step s2 o = some { s2 with brackets := s2.brackets.dropLast ++ [some (o, x, s2.ones.length)], latest := none, ones := if o = 124 then s2.ones ++ [none] else s2.ones } := by
                    unfold step
                    rw [el]
                    show goOn s2 x o = _
                    unfold goOn
                    rw [eb, s1b, getLast_snoc]
                    dsimp only
                    rw [if_pos ho2]
                  rw [e, ends_some hs2]
                  have eb2 : s2.brackets.dropLast = s.brackets := by
                    rw [eb, s1b]
                    simp
                  rw [eb2]
                  have est : s1.tops ++ firsts s1.brackets = s.tops ++ firsts s.brackets := by
                    rw [s1t, s1b, firsts_app]
                    simp [firsts]
                  rw [est] at R2
                  have hq2 : q2.length ≤ k := by
                    simp at I1
                    omega
                  have hbr : (s.brackets ++ [some (o, x, s2.ones.length)]).length + (d - 1) = 16 := by
                    rw [List.length_append]
                    simp only [List.length_cons, List.length_nil]
                    omega
                  have J := ih (d - 1) r2 q2 { s2 with brackets := s.brackets ++ [some (o, x, s2.ones.length)], latest := none, ones := if o = 124 then s2.ones ++ [none] else s2.ones } fl2 hq2 rfl hbr (by
                    rw [r2l]
                    refine R2.of rfl rfl ?_
                    show _ = s2.tops ++ firsts (s.brackets ++ [some (o, x, s2.ones.length)])
                    rw [firsts_app, et, s1t]
                    simp [firsts]) (by
                    have hw : r2.withs = if o = 124 then r1.withs + 1 else r1.withs := by
                      rw [← hr2]
                      split <;> rfl
                    rw [hw]
                    exact O2.second (B := s.brackets) (x := x) (by rw [eb, s1b, pends_none]) rfl rfl) (by rw [r2l]; exact hle)
                  generalize hs3 : ({ s2 with brackets := s.brackets ++ [some (o, x, s2.ones.length)], latest := none, ones := if o = 124 then s2.ones ++ [none] else s2.ones } : RS) = s3 at J
                  have s3b : s3.brackets = s.brackets ++ [some (o, x, s2.ones.length)] := by rw [← hs3]
                  have s3t : s3.tops = s.tops := by rw [← hs3]; exact et.trans s1t
                  cases h2 : form k (d - 1) r2 q2 with
                  | none =>
                    rw [h2] at J
                    exact J
                  | some v =>
                    obtain ⟨g, r3, q3⟩ := v
                    rw [h2] at J
                    dsimp only at J
                    obtain ⟨J1, J2, J3, J4, J5⟩ := J
                    cases q3 with
                    | nil =>
                      by_cases hle3 : r3.letters.length ≤ 16
                      · obtain ⟨s4, fl4, y, e4, _, eb4, el4, _⟩ := J5 hle3
                        clear J5
                        rw [e4, ends_nil]
                        unfold fin
                        rw [el4, eb4, s3b]
                        cases s.brackets <;> rfl
                      · exact J4 (by omega)
                    | cons z q4 =>
                      by_cases hz : z = 41
                      · subst hz
                        refine ⟨?_, by rw [J2, r2f, I2], by rw [r2l] at J3; omega, fun h => J4 h, fun hle3 => ?_⟩
                        · simp at I1 J1 ⊢
                          omega
                        · obtain ⟨s4, fl4, y, e4, et4, eb4, el4, eF4, R4, O4, ag4, le4⟩ := J5 hle3
                          clear J5
                          have hs4 : step s4 41 = some { s4 with parts := s4.parts ++ [(o, some (x, y))], brackets := s4.brackets.dropLast, latest := some s4.parts.length, ones := if o = 124 then s4.ones.set s2.ones.length (some s4.parts.length) else s4.ones } := by
                            unfold step
                            rw [el4]
                            show goOn s4 y 41 = _
                            unfold goOn
                            rw [eb4, s3b, getLast_snoc]
                            dsimp only
                            rw [if_pos rfl]
                          have eb5 : s4.brackets.dropLast = s.brackets := by
                            rw [eb4, s3b]
                            simp
                          have est4 : s3.tops ++ firsts s3.brackets ++ [y] = (s.tops ++ firsts s.brackets) ++ [x, y] := by
                            rw [s3t, s3b, firsts_app]
                            simp [firsts]
                          rw [est4] at R4
                          have xl : x < fl2.length := R2.st_lt (by simp)
                          have eFx : FOf fl4 x = f := by rw [ag4 x xl, eF]
                          have C := R4.close (o := o) (f := if o = 124 then .with_ r1.withs f g else .both f g) (bs := s.brackets) (os := if o = 124 then s4.ones.set s2.ones.length (some s4.parts.length) else s4.ones) ho2 (by
                            rw [eFx, eF4]
                            by_cases h124 : o = 124
                            · exact Or.inl ⟨h124, r1.withs, if_pos h124⟩
                            · exact Or.inr ⟨by omega, if_neg h124⟩)
                          refine ⟨{ s4 with parts := s4.parts ++ [(o, some (x, y))], brackets := s.brackets, latest := some s4.parts.length, ones := if o = 124 then s4.ones.set s2.ones.length (some s4.parts.length) else s4.ones }, _, s4.parts.length, by rw [e4, ends_some hs4, eb5], et4.trans s3t, rfl, rfl, ?_, C, ?_, fun i hi => ?_, by simp; omega⟩
                          · exact FOf_eq R4.len.symm
                          · have := O4.close (f := f) (g := g) (s' := { s4 with parts := s4.parts ++ [(o, some (x, y))], brackets := s.brackets, latest := some s4.parts.length, ones := if o = 124 then s4.ones.set s2.ones.length (some s4.parts.length) else s4.ones }) (eb4.trans s3b) (by rw [R4.len]) rfl
                            rw [O2.len] at this ⊢
                            exact this
                          · rw [FOf_lt (by omega), ag4 i (by omega), ag i hi]
                      · split
                        case h_2 =>
                          rename_i heq
                          exfalso
                          split at heq
                          · rename_i e
                            cases e
                            exact hz rfl
                          · cases heq
                        by_cases hle3 : r3.letters.length ≤ 16
                        · obtain ⟨s4, fl4, y, e4, _, eb4, el4, _⟩ := J5 hle3
                          clear J5
                          rw [e4]
                          refine ends_none ?_
                          unfold step
                          rw [el4]
                          show goOn s4 y z = none
                          unfold goOn
                          rw [eb4, s3b, getLast_snoc]
                          dsimp only
                          rw [if_neg hz]
                        · exact J4 (by omega)
                · have hno := I4 (by omega)
                  cases h2 : form k (d - 1) r2 q2 with
                  | none => exact hno
                  | some v =>
                    obtain ⟨g, r3, q3⟩ := v
                    have fa := form_facts h2
                    rw [r2l, r2f] at fa
                    cases q3 with
                    | nil => exact hno
                    | cons z q4 =>
                      by_cases hz : z = 41
                      · subst hz
                        refine ⟨?_, by rw [fa.2.1, I2], by omega, fun _ => hno, fun h => by omega⟩
                        have := fa.1
                        simp at I1 this ⊢
                        omega
                      · split
                        case h_2 =>
                          rename_i heq
                          exfalso
                          split at heq
                          · rename_i e
                            cases e
                            exact hz rfl
                          · cases heq
                        exact hno
        · rw [if_neg ho]
          dsimp only
          refine ends_none ?_
          rw [hst]
          unfold begin_
          by_cases h40 : c = 40
          · rw [if_pos h40, if_neg (by omega)]
          · rw [if_neg h40, if_neg hc]
end Lk
namespace Lk
open Md26
theorem forms_facts {k : Nat} {r r' : Row} {b : List Nat} (h : forms k r b = some r') : r.letters.length ≤ r'.letters.length ∧ (pl r.forms = List.range r.letters.length → pl r'.forms = List.range r'.letters.length) := by
  induction k generalizing r b with
  | zero => cases h
  | succ k ih =>
    unfold forms at h
    have key : ∀ {f : Form} {r1 : Row} {q : List Nat}, form (b.length + 1) DEEP r b = some (f, r1, q) → r.letters.length ≤ r1.letters.length ∧ (pl r.forms = List.range r.letters.length → pl (r1.forms ++ [f]) = List.range r1.letters.length) := by
      intro f r1 q e
      have a := form_facts e
      refine ⟨a.2.2.1, fun hp => ?_⟩
      rw [pl_app, a.2.1, hp, pl_cons, pl_nil, List.append_nil, a.2.2.2, List.range_eq_range', List.range_eq_range']
      have e3 : List.range' r.letters.length (r1.letters.length - r.letters.length) = List.range' (0 + 1 * r.letters.length) (r1.letters.length - r.letters.length) := by
        congr 1
        omega
      rw [e3, List.range'_append]
      congr 1
      omega
    split at h
    · rename_i f r1 e
      cases h
      exact key e
    · rename_i f r1 s e
      have a := key e
      have b := ih h
      exact ⟨Nat.le_trans a.1 b.1, fun hp => b.2 (a.2 hp)⟩
    · cases h
theorem goOn_top {s : RS} {x : Nat} (hb : s.brackets = []) (c : Nat) : goOn s x c = if c = 44 then some { s with tops := s.tops ++ [x], latest := none } else none := by
  unfold goOn
  rw [hb]
  rfl
theorem parse_all : ∀ (k : Nat) (r : Row) (b : List Nat) (s : RS) (fl : List Form), b.length < k → s.latest = none → s.brackets = [] → Rd s fl r.letters s.tops → Os s fl r.withs → s.tops.map (FOf fl) = r.forms → r.letters.length ≤ 16 →
    match forms k r b with
    | none => ends s b = none
    | some r' => (16 < r'.letters.length → ends s b = none) ∧ (r'.letters.length ≤ 16 → ∃ s' fl', ends s b = some s' ∧ Rd s' fl' r'.letters s'.tops ∧ Os s' fl' r'.withs ∧ s'.brackets = [] ∧ s'.tops.map (FOf fl') = r'.forms ∧ s'.tops ≠ []) := by
  intro k
  induction k with
  | zero => intro r b s fl hb; omega
  | succ k ih =>
    intro r b s fl hb hl hbr hR hO hf hr
    have I := parse (b.length + 1) DEEP r b s fl (by omega) hl (by rw [hbr]; rfl) (by rw [hbr]; simpa [firsts] using hR) hO hr
    unfold forms
    cases h1 : form (b.length + 1) DEEP r b with
    | none =>
      rw [h1] at I
      exact I
    | some v =>
      obtain ⟨f, r1, q⟩ := v
      rw [h1] at I
      dsimp only at I
      obtain ⟨I1, I2, I3, I4, I5⟩ := I
      cases q with
      | nil =>
        dsimp only
        refine ⟨I4, fun hle => ?_⟩
        obtain ⟨s', fl', x, e, et, eb, el, eF, R, O, ag, le⟩ := I5 hle
        clear I5
        have hfin : fin s' = some { s' with tops := s'.tops ++ [x] } := by
          unfold fin
          rw [el, eb, hbr]
        refine ⟨{ s' with tops := s'.tops ++ [x] }, fl', by rw [e, ends_nil, hfin], ?_, O.of rfl rfl, by rw [← hbr]; exact eb, ?_, by simp⟩
        · refine R.of rfl rfl ?_
          show _ = s'.tops ++ [x]
          rw [et, hbr]
          simp [firsts]
        · show (s'.tops ++ [x]).map (FOf fl') = r1.forms ++ [f]
          rw [List.map_append, et, I2, ← hf]
          congr 1
          · refine List.map_congr_left fun t ht => ag t (hR.st_lt ht)
          · simp [eF]
      | cons z q1 =>
        by_cases hz : z = 44
        · subst hz
          change match forms k { r1 with forms := r1.forms ++ [f] } q1 with
            | none => ends s b = none
            | some r' => (16 < r'.letters.length → ends s b = none) ∧ (r'.letters.length ≤ 16 → ∃ s' fl', ends s b = some s' ∧ Rd s' fl' r'.letters s'.tops ∧ Os s' fl' r'.withs ∧ s'.brackets = [] ∧ s'.tops.map (FOf fl') = r'.forms ∧ s'.tops ≠ [])
          by_cases hle : r1.letters.length ≤ 16
          · obtain ⟨s', fl', x, e, et, eb, el, eF, R, O, ag, le⟩ := I5 hle
            clear I5
            have hs : step s' 44 = some { s' with tops := s'.tops ++ [x], latest := none } := by
              unfold step
              rw [el]
              show goOn s' x 44 = _
              rw [goOn_top (by rw [eb, hbr]), if_pos rfl]
            rw [e, ends_some hs]
            have hq1 : q1.length < k := by
              simp at I1
              omega
            refine ih { r1 with forms := r1.forms ++ [f] } q1 { s' with tops := s'.tops ++ [x], latest := none } fl' hq1 rfl (by rw [← hbr]; exact eb) ?_ (O.of rfl rfl) ?_ hle
            · refine R.of rfl rfl ?_
              show _ = s'.tops ++ [x]
              rw [et, hbr]
              simp [firsts]
            · show (s'.tops ++ [x]).map (FOf fl') = r1.forms ++ [f]
              rw [List.map_append, et, I2, ← hf]
              congr 1
              · refine List.map_congr_left fun t ht => ag t (hR.st_lt ht)
              · simp [eF]
          · have hno := I4 (by omega)
            cases h2 : forms k { r1 with forms := r1.forms ++ [f] } q1 with
            | none => exact hno
            | some r2 =>
              dsimp only
              refine ⟨fun _ => hno, fun h => ?_⟩
              have := forms_facts h2
              dsimp only at this
              omega
        · split
          case h_2 =>
            rename_i heq
            exfalso
            split at heq
            · rename_i e
              cases e
            · rename_i e
              cases e
              exact hz rfl
            · cases heq
          by_cases hle : r1.letters.length ≤ 16
          · obtain ⟨s', fl', x, e, et, eb, el, eF, R, O, ag, le⟩ := I5 hle
            clear I5
            rw [e]
            refine ends_none ?_
            unfold step
            rw [el]
            show goOn s' x z = none
            rw [goOn_top (by rw [eb, hbr]), if_neg hz]
          · exact I4 (by omega)
end Lk
namespace Lk
open Md26
theorem read_ok (b : List Nat) : match Md26.read b with
    | none => ends s0 b = none
    | some r => ∃ s fl, ends s0 b = some s ∧ Rd s fl r.letters s.tops ∧ Os s fl r.withs ∧ s.brackets = [] ∧ s.tops.map (FOf fl) = r.forms ∧ s.tops ≠ [] ∧ r.letters.length ≤ 16 ∧ pl r.forms = List.range r.letters.length := by
  have I := parse_all (b.length + 1) ⟨[], [], 0⟩ b s0 [] (by omega) rfl rfl .zero .zero rfl (by simp)
  unfold Md26.read
  cases h : forms (b.length + 1) ⟨[], [], 0⟩ b with
  | none =>
    rw [h] at I
    exact I
  | some r =>
    rw [h] at I
    dsimp only at I ⊢
    by_cases hle : r.letters.length ≤ LETTERS
    · rw [if_pos hle]
      obtain ⟨s, fl, a1, a2, a3, a4, a5, a6⟩ := I.2 hle
      exact ⟨s, fl, a1, a2, a3, a4, a5, a6, hle, (forms_facts h).2 rfl⟩
    · rw [if_neg hle]
      exact I.1 (by unfold LETTERS at hle; omega)
end Lk
end
section
set_option maxHeartbeats 1000000
namespace Lk
open Md26
/-! ### pieces by numbers -/
def nu (ns : List Nat) (i : Nat) : Nat := ns.getD i 0
def joinN (ns : List Nat) (i j : Nat) : List Nat := ns.map fun x => if x = nu ns j then nu ns i else x
theorem joinN_len (ns : List Nat) (i j : Nat) : (joinN ns i j).length = ns.length := by
  unfold joinN
  rw [List.length_map]
theorem nu_at {ns : List Nat} {k : Nat} (hk : k < ns.length) : ns[k]? = some (nu ns k) := by
  unfold nu
  rw [List.getD_eq_getElem?_getD, List.getElem?_eq_getElem hk]
  rfl
theorem nu_mem {ns : List Nat} {k : Nat} (hk : k < ns.length) : nu ns k ∈ ns := List.mem_of_getElem? (nu_at hk)
theorem mem_nu {ns : List Nat} {c : Nat} (h : c ∈ ns) : ∃ k, k < ns.length ∧ nu ns k = c := by
  obtain ⟨k, hk, e⟩ := List.getElem_of_mem h
  refine ⟨k, hk, ?_⟩
  have := nu_at hk
  rw [List.getElem?_eq_getElem hk, e] at this
  exact (Option.some.inj this).symm
theorem nu_join {ns : List Nat} {i j k : Nat} (hk : k < ns.length) : nu (joinN ns i j) k = if nu ns k = nu ns j then nu ns i else nu ns k := by
  have h1 := nu_at (ns := joinN ns i j) (k := k) (by rw [joinN_len]; exact hk)
  unfold joinN at h1
  rw [List.getElem?_map, nu_at hk] at h1
  exact (Option.some.inj h1).symm
/-- joined stay joined -/
theorem join_mono {ns : List Nat} {i j k k' : Nat} (hk : k < ns.length) (hk' : k' < ns.length) (h : nu ns k = nu ns k') : nu (joinN ns i j) k = nu (joinN ns i j) k' := by
  rw [nu_join hk, nu_join hk', h]
theorem join_ends {ns : List Nat} {i j : Nat} (hi : i < ns.length) (hj : j < ns.length) : nu (joinN ns i j) i = nu (joinN ns i j) j := by
  rw [nu_join hi, nu_join hj, if_pos rfl]
  split <;> rfl
/-- what is joined was so before, or lies in the two pieces -/
theorem join_inv {ns : List Nat} {i j k k' : Nat} (hk : k < ns.length) (hk' : k' < ns.length) (h : nu (joinN ns i j) k = nu (joinN ns i j) k') :
    nu ns k = nu ns k' ∨ (nu ns k = nu ns i ∧ nu ns k' = nu ns j) ∨ (nu ns k = nu ns j ∧ nu ns k' = nu ns i) := by
  rw [nu_join hk, nu_join hk'] at h
  split at h <;> split at h <;> omega
/-! ### how many pieces -/
/-- numbers of n parts -/
structure Nm (n : Nat) (ns : List Nat) : Prop where
  len : ns.length = n
  val : ∀ x, x ∈ ns → x < n
theorem Nm.join {n : Nat} {ns : List Nat} (h : Nm n ns) {i j : Nat} (hi : i < n) : Nm n (joinN ns i j) := by
  refine ⟨by rw [joinN_len]; exact h.len, fun x hx => ?_⟩
  unfold joinN at hx
  obtain ⟨y, hy, e⟩ := List.mem_map.mp hx
  split at e
  · rw [← e]
    exact h.val _ (nu_mem (by rw [h.len]; exact hi))
  · rw [← e]
    exact h.val _ hy
def cls (ns : List Nat) : Nat := (List.range ns.length).countP fun c => decide (c ∈ ns)
theorem countP_less {L : List Nat} (hn : L.Nodup) {a : Nat} (ha : a ∈ L) {p : Nat → Bool} (hp : p a = true) : L.countP (fun c => p c && decide (c ≠ a)) + 1 = L.countP p := by
  have e := List.perm_cons_erase ha
  rw [e.countP_eq p, e.countP_eq, List.countP_cons, List.countP_cons, hp]
  simp only [ne_eq, not_true_eq_false, decide_false, Bool.and_false, Bool.false_eq_true, if_false, Nat.add_zero, if_true]
  congr 1
  refine List.countP_congr fun x hx => ?_
  have : x ≠ a := by
    intro z
    subst z
    exact (List.nodup_cons.mp (e.nodup_iff.mp hn)).1 hx
  simp [this]
theorem join_mem {ns : List Nat} {i j : Nat} (hi : i < ns.length) (hn : nu ns i ≠ nu ns j) (c : Nat) : c ∈ joinN ns i j ↔ c ∈ ns ∧ c ≠ nu ns j := by
  unfold joinN
  rw [List.mem_map]
  constructor
  · rintro ⟨x, hx, e⟩
    split at e
    · subst e
      exact ⟨nu_mem hi, hn⟩
    · subst e
      exact ⟨hx, by assumption⟩
  · rintro ⟨h1, h2⟩
    exact ⟨c, h1, if_neg h2⟩
/-- two pieces become one -/
theorem cls_join {n : Nat} {ns : List Nat} (h : Nm n ns) {i j : Nat} (hi : i < n) (hj : j < n) (hn : nu ns i ≠ nu ns j) : cls (joinN ns i j) + 1 = cls ns := by
  unfold cls
  rw [joinN_len]
  have hj' : j < ns.length := by rw [h.len]; exact hj
  have hi' : i < ns.length := by rw [h.len]; exact hi
  rw [← countP_less (a := nu ns j) List.nodup_range (List.mem_range.mpr (by rw [h.len]; exact h.val _ (nu_mem hj'))) (p := fun c => decide (c ∈ ns)) (decide_eq_true (nu_mem hj'))]
  congr 1
  refine List.countP_congr fun x _ => ?_
  simp only [decide_eq_true_eq, Bool.and_eq_true]
  exact join_mem hi' hn x
theorem cls_range (n : Nat) : cls (List.range n) = n := by
  unfold cls
  rw [List.length_range]
  have : (List.range n).countP (fun c => decide (c ∈ List.range n)) = (List.range n).length := by
    rw [List.countP_eq_length]
    intro a ha
    exact decide_eq_true ha
  rw [this, List.length_range]
/-- all in one piece -/
theorem cls_one {n : Nat} {ns : List Nat} (h : Nm n ns) (hn : 0 < n) : cls ns = 1 ↔ ∀ i j, i < n → j < n → nu ns i = nu ns j := by
  have h0 : 0 < ns.length := by rw [h.len]; exact hn
  have z0 := nu_mem h0
  have zr := List.mem_range.mpr (by rw [h.len]; exact h.val _ z0 : nu ns 0 < ns.length)
  have e := countP_less (a := nu ns 0) List.nodup_range zr (p := fun c => decide (c ∈ ns)) (decide_eq_true z0)
  constructor
  · intro hc i j hi hj
    unfold cls at hc
    rw [hc] at e
    have e0 : (List.range ns.length).countP (fun c => decide (c ∈ ns) && decide (c ≠ nu ns 0)) = 0 := by omega
    rw [List.countP_eq_zero] at e0
    have all : ∀ k, k < n → nu ns k = nu ns 0 := by
      intro k hk
      have hk' : k < ns.length := by rw [h.len]; exact hk
      have x := e0 (nu ns k) (List.mem_range.mpr (by rw [h.len]; exact h.val _ (nu_mem hk')))
      simp only [Bool.and_eq_true, decide_eq_true_eq, not_and, ne_eq] at x
      exact Classical.not_not.mp (x (nu_mem hk'))
    rw [all i hi, all j hj]
  · intro ha
    have e0 : (List.range ns.length).countP (fun c => decide (c ∈ ns) && decide (c ≠ nu ns 0)) = 0 := by
      rw [List.countP_eq_zero]
      intro c _
      simp only [Bool.and_eq_true, decide_eq_true_eq, not_and, ne_eq, Classical.not_not]
      intro hc
      obtain ⟨k, hk, rfl⟩ := mem_nu hc
      exact ha k 0 (by rw [← h.len]; exact hk) hn
    unfold cls
    omega
/-! ### joining along the lines that are settled -/
def kda (kd : Nat → Option (Bool × Nat × Nat)) (k : Nat) : Nat := match kd k with
  | some (_, a, _) => a
  | none => 0
def kdb (kd : Nat → Option (Bool × Nat × Nat)) (k : Nat) : Nat := match kd k with
  | some (_, _, b) => b
  | none => 0
/-- one walk over those that wait -/
def pass (kd : Nat → Option (Bool × Nat × Nat)) : List Nat → List Nat → List Nat × List Nat
  | ns, [] => (ns, [])
  | ns, k :: r => if nu ns (kda kd k) = nu ns (kdb kd k) ∧ nu ns (kda kd k) ≠ nu ns k then pass kd (joinN ns (kda kd k) k) r
    else ((pass kd ns r).1, k :: (pass kd ns r).2)
def settle (kd : Nat → Option (Bool × Nat × Nat)) (ns w : List Nat) : List Nat × List Nat :=
  if h : (pass kd ns w).2.length < w.length then settle kd (pass kd ns w).1 (pass kd ns w).2 else pass kd ns w
termination_by w.length
def addLine (kd : Nat → Option (Bool × Nat × Nat)) (p : List Nat × List Nat) (i j : Nat) : Option (List Nat × List Nat) :=
  if nu p.1 i = nu p.1 j then none else some (settle kd (joinN p.1 i j) p.2)
def starStep (kd : Nat → Option (Bool × Nat × Nat)) (ns : List Nat) (k : Nat) : List Nat := match kd k with
  | some (false, a, b) => joinN (joinN ns k a) k b
  | _ => ns
def startN (kd : Nat → Option (Bool × Nat × Nat)) (n : Nat) : List Nat := (List.range n).foldl (starStep kd) (List.range n)
def linkAll (kd : Nat → Option (Bool × Nat × Nat)) (lt : Nat → Nat) : Option (List Nat × List Nat) → List (Nat × Nat) → Option (List Nat × List Nat)
  | none, _ => none
  | some p, [] => some p
  | some p, (i, j) :: r => linkAll kd lt (addLine kd p (lt i) (lt j)) r
def pairs (l : List Nat) : List (Nat × Nat) := (List.range l.length).filterMap fun i => if i < l.getD i 0 then some (i, l.getD i 0) else none
def isP : Option (List Nat × List Nat) → Bool
  | none => false
  | some (ns, w) => w.isEmpty && ns.count (nu ns 0) == ns.length
theorem isP_iff {n : Nat} {ns w : List Nat} (h : Nm n ns) (hn : 0 < n) : isP (some (ns, w)) = true ↔ w = [] ∧ cls ns = 1 := by
  unfold isP
  rw [Bool.and_eq_true, List.isEmpty_iff, beq_iff_eq, cls_one h hn, List.count_eq_length]
  have h0 : 0 < ns.length := by rw [h.len]; exact hn
  constructor
  · rintro ⟨h1, h2⟩
    refine ⟨h1, fun i j hi hj => ?_⟩
    exact (h2 _ (nu_mem (by rw [h.len]; exact hi))).symm.trans (h2 _ (nu_mem (by rw [h.len]; exact hj)))
  · rintro ⟨h1, h2⟩
    refine ⟨h1, fun b hb => ?_⟩
    obtain ⟨k, hk, rfl⟩ := mem_nu hb
    exact h2 0 k hn (by rw [← h.len]; exact hk)
/-- what every step keeps, the walks keep -/
theorem pass_keeps {kd : Nat → Option (Bool × Nat × Nat)} (I : List Nat → List Nat → Prop)
    (hs : ∀ ns w k w', I ns w → w.Perm (k :: w') → nu ns (kda kd k) = nu ns (kdb kd k) → nu ns (kda kd k) ≠ nu ns k → I (joinN ns (kda kd k) k) w') (hp : ∀ ns w w', w.Perm w' → I ns w → I ns w') :
    ∀ (w : List Nat) (ns still : List Nat), I ns (still ++ w) → I (pass kd ns w).1 (still ++ (pass kd ns w).2)
  | [], ns, still, h => by
    simpa [pass] using h
  | k :: r, ns, still, h => by
    unfold pass
    split
    · rename_i hc
      exact pass_keeps I hs hp r _ still (hs _ _ k _ h List.perm_middle hc.1 hc.2)
    · have := pass_keeps I hs hp r ns (still ++ [k]) (by simpa using h)
      simpa using this
theorem settle_keeps {kd : Nat → Option (Bool × Nat × Nat)} (I : List Nat → List Nat → Prop)
    (hs : ∀ ns w k w', I ns w → w.Perm (k :: w') → nu ns (kda kd k) = nu ns (kdb kd k) → nu ns (kda kd k) ≠ nu ns k → I (joinN ns (kda kd k) k) w') (hp : ∀ ns w w', w.Perm w' → I ns w → I ns w') :
    ∀ (m : Nat) (ns w : List Nat), w.length ≤ m → I ns w → I (settle kd ns w).1 (settle kd ns w).2 := by
  intro m
  induction m with
  | zero =>
    intro ns w hm h
    rw [settle]
    rw [dif_neg (by omega)]
    exact pass_keeps I hs hp w ns [] h
  | succ m ih =>
    intro ns w hm h
    have := pass_keeps I hs hp w ns [] h
    rw [settle]
    split
    · exact ih _ _ (by omega) this
    · exact this
theorem pass_len (kd : Nat → Option (Bool × Nat × Nat)) : ∀ (w ns : List Nat), (pass kd ns w).2.length ≤ w.length
  | [], ns => by simp [pass]
  | k :: r, ns => by
    unfold pass
    split
    · have := pass_len kd r (joinN ns (kda kd k) k)
      simp only [List.length_cons]
      omega
    · have := pass_len kd r ns
      simp only [List.length_cons]
      omega
/-- nothing can be joined any more -/
def Calm (kd : Nat → Option (Bool × Nat × Nat)) (ns w : List Nat) : Prop := ∀ k, k ∈ w → nu ns (kda kd k) = nu ns (kdb kd k) → nu ns (kda kd k) = nu ns k
theorem pass_calm (kd : Nat → Option (Bool × Nat × Nat)) : ∀ (w ns : List Nat), ¬ (pass kd ns w).2.length < w.length → pass kd ns w = (ns, w) ∧ Calm kd ns w
  | [], ns, _ => ⟨rfl, fun k hk => (List.not_mem_nil hk).elim⟩
  | k :: r, ns, h => by
    have e : pass kd ns (k :: r) = if nu ns (kda kd k) = nu ns (kdb kd k) ∧ nu ns (kda kd k) ≠ nu ns k then pass kd (joinN ns (kda kd k) k) r
      else ((pass kd ns r).1, k :: (pass kd ns r).2) := rfl
    by_cases hc : nu ns (kda kd k) = nu ns (kdb kd k) ∧ nu ns (kda kd k) ≠ nu ns k
    · rw [e, if_pos hc] at h
      have := pass_len kd r (joinN ns (kda kd k) k)
      simp only [List.length_cons] at h
      omega
    · rw [e, if_neg hc] at h ⊢
      simp only [List.length_cons] at h
      obtain ⟨h1, h2⟩ := pass_calm kd r ns (by omega)
      rw [h1]
      refine ⟨rfl, fun x hx => ?_⟩
      rcases List.mem_cons.mp hx with rfl | hx
      · intro q
        exact Classical.not_not.mp fun z => hc ⟨q, z⟩
      · exact h2 x hx
theorem settle_calm (kd : Nat → Option (Bool × Nat × Nat)) : ∀ (m : Nat) (ns w : List Nat), w.length ≤ m → Calm kd (settle kd ns w).1 (settle kd ns w).2 := by
  intro m
  induction m with
  | zero =>
    intro ns w hm
    rw [settle, dif_neg (by omega)]
    have := pass_calm kd w ns (by omega)
    rw [this.1]
    exact this.2
  | succ m ih =>
    intro ns w hm
    rw [settle]
    split
    · exact ih _ _ (by omega)
    · rename_i h
      have := pass_calm kd w ns h
      rw [this.1]
      exact this.2
end Lk
end
section
set_option maxHeartbeats 1000000
namespace Lk
open Md26
/-! ### a piece: what has a proof once its leaves have one -/
def JP (l : Links) (F : Nat → Form) (R L : List Nat) : Prop := ∀ D : Nat → List Form, (∀ x, x ∈ L → Proof l (F x :: D x)) → Proof l (R.map F ++ L.flatMap D)
section
variable {l : Links} {F : Nat → Form}
theorem JP.perm {R R' L L' : List Nat} (h : JP l F R L) (hr : R.Perm R') (hl : L.Perm L') : JP l F R' L' := by
  intro D hD
  exact .order _ _ ((hr.map F).append (hl.flatMap_right D)) (h D fun x hx => hD x (hl.mem_iff.mp hx))
theorem flat_upd {x : Nat} {A : List Form} {D : Nat → List Form} : ∀ {L : List Nat}, x ∉ L → (L.flatMap fun y => if y = x then A else D y) = L.flatMap D
  | [], _ => rfl
  | y :: L, h => by
    rw [List.flatMap_cons, List.flatMap_cons, flat_upd (fun z => h (List.mem_cons_of_mem _ z)), if_neg (fun z => h (by rw [z]; exact List.mem_cons_self))]
/-- a leaf that has a proof -/
theorem JP.cut {A : List Form} {R2 L2 : List Nat} {x : Nat} (h2 : JP l F R2 (x :: L2)) (hx : x ∉ L2) {D : Nat → List Form} (hD : ∀ y, y ∈ L2 → Proof l (F y :: D y)) (hA : Proof l (F x :: A)) : Proof l (R2.map F ++ (A ++ L2.flatMap D)) := by
  have q := h2 (fun y => if y = x then A else D y) fun y hy => by
    by_cases e : y = x
    · rw [if_pos e, e]
      exact hA
    · rw [if_neg e]
      refine hD y ?_
      rcases List.mem_cons.mp hy with z | z
      · exact (e z).elim
      · exact z
  rw [List.flatMap_cons, if_pos rfl, flat_upd hx] at q
  exact q
theorem JP.par {R L1 R2 L2 : List Nat} {a b x : Nat} (h1 : JP l F (a :: b :: R) L1) (h2 : JP l F R2 (x :: L2)) (e : ∃ j, F x = .with_ j (F a) (F b)) (hx : x ∉ L2) : JP l F (R ++ R2) (L1 ++ L2) := by
  intro D hD
  obtain ⟨j, e⟩ := e
  have p1 := h1 D fun y hy => hD y (List.mem_append.mpr (Or.inl hy))
  have p2 : Proof l (F x :: (R.map F ++ L1.flatMap D)) := by
    rw [e]
    exact .with_ _ _ _ _ p1
  have p3 := JP.cut h2 hx (fun y hy => hD y (List.mem_append.mpr (Or.inr hy))) p2
  refine .order _ _ (pm fun a => ?_) p3
  simp only [List.map_append, List.flatMap_append, List.count_append]
  omega
theorem JP.star {R1 L1 R2 L2 R3 L3 : List Nat} {a b x : Nat} (h1 : JP l F (a :: R1) L1) (h2 : JP l F (b :: R2) L2) (h3 : JP l F R3 (x :: L3)) (e : F x = .both (F a) (F b)) (hx : x ∉ L3) : JP l F (R3 ++ R1 ++ R2) (L3 ++ L1 ++ L2) := by
  intro D hD
  have p1 := h1 D fun y hy => hD y (by simp [hy])
  have p2 := h2 D fun y hy => hD y (by simp [hy])
  have p3 : Proof l (.both (F a) (F b) :: ((R1.map F ++ L1.flatMap D) ++ (R2.map F ++ L2.flatMap D))) := Proof.both _ _ _ _ p1 p2
  rw [← e] at p3
  have p4 := JP.cut h3 hx (fun y hy => hD y (by simp [hy])) p3
  refine .order _ _ (pm fun a => ?_) p4
  simp only [List.map_append, List.flatMap_append, List.count_append]
  omega
theorem JP.link {R1 L1 R2 L2 : List Nat} {a b : Nat} (h1 : JP l F R1 (a :: L1)) (h2 : JP l F R2 (b :: L2)) (e : Proof l [F a, F b]) (ha : a ∉ L1) (hb : b ∉ L2) : JP l F (R1 ++ R2) (L1 ++ L2) := by
  intro D hD
  have p1 := JP.cut h1 ha (fun y hy => hD y (by simp [hy])) e
  have p2 : Proof l (F b :: (R1.map F ++ L1.flatMap D)) := by
    refine .order _ _ (pm fun a => ?_) p1
    simp only [List.count_append, List.count_cons, List.count_nil]
    omega
  have p3 := JP.cut h2 hb (fun y hy => hD y (by simp [hy])) p2
  refine .order _ _ (pm fun a => ?_) p3
  simp only [List.map_append, List.flatMap_append, List.count_append]
  omega
end
/-! ### all pieces -/
def inP (ns : List Nat) (c : Nat) (X : List Nat) : List Nat := X.filter fun x => nu ns x == c
theorem inP_perm {ns : List Nat} {c : Nat} {X Y : List Nat} (h : X.Perm Y) : (inP ns c X).Perm (inP ns c Y) := h.filter _
theorem inP_cons {ns : List Nat} {c x : Nat} {X : List Nat} (h : nu ns x = c) : inP ns c (x :: X) = x :: inP ns c X := by
  unfold inP
  rw [List.filter_cons_of_pos (by rw [h]; exact beq_self_eq_true c)]
theorem inP_skip {ns : List Nat} {c x : Nat} {X : List Nat} (h : nu ns x ≠ c) : inP ns c (x :: X) = inP ns c X := by
  unfold inP
  rw [List.filter_cons_of_neg (by simp [h])]
theorem inP_mem {ns : List Nat} {c x : Nat} {X : List Nat} (h : x ∈ inP ns c X) : x ∈ X := (List.mem_filter.mp h).1
theorem inP_join {ns : List Nat} {i j : Nat} (hij : nu ns i ≠ nu ns j) : ∀ (X : List Nat), (∀ x, x ∈ X → x < ns.length) → (inP (joinN ns i j) (nu ns i) X).Perm (inP ns (nu ns i) X ++ inP ns (nu ns j) X)
  | [], _ => .refl _
  | x :: X, h => by
    have ih := inP_join hij X fun y hy => h y (List.mem_cons_of_mem _ hy)
    have hx := nu_join (i := i) (j := j) (h x List.mem_cons_self)
    by_cases e1 : nu ns x = nu ns i
    · rw [if_neg (by rw [e1]; exact hij)] at hx
      rw [inP_cons (hx.trans e1), inP_cons e1, inP_skip (c := nu ns j) (by rw [e1]; exact hij)]
      exact ih.cons _
    · by_cases e2 : nu ns x = nu ns j
      · rw [if_pos e2] at hx
        rw [inP_cons hx, inP_skip e1, inP_cons e2]
        exact (ih.cons _).trans List.perm_middle.symm
      · rw [if_neg e2] at hx
        rw [inP_skip (by rw [hx]; exact e1), inP_skip e1, inP_skip e2]
        exact ih
theorem inP_other {ns : List Nat} {i j c : Nat} (h1 : c ≠ nu ns i) (h2 : c ≠ nu ns j) (X : List Nat) (h : ∀ x, x ∈ X → x < ns.length) : inP (joinN ns i j) c X = inP ns c X := by
  unfold inP
  refine List.filter_congr fun x hx => ?_
  rw [nu_join (h x hx)]
  split
  · rename_i e
    have a1 : (nu ns i == c) = false := by simp; omega
    have a2 : (nu ns x == c) = false := by simp; omega
    rw [a1, a2]
  · rfl
def kidsOf (kd : Nat → Option (Bool × Nat × Nat)) (w : List Nat) : List Nat := w.flatMap fun k => [kda kd k, kdb kd k]
def rootsL (kd : Nat → Option (Bool × Nat × Nat)) (tops w : List Nat) : List Nat := tops ++ kidsOf kd w
theorem rootsL_perm {kd : Nat → Option (Bool × Nat × Nat)} {tops w w' : List Nat} {k : Nat} (h : w.Perm (k :: w')) : (rootsL kd tops w).Perm (kda kd k :: kdb kd k :: rootsL kd tops w') := by
  unfold rootsL kidsOf
  refine ((h.flatMap_right _).append_left _).trans ?_
  refine pm fun a => ?_
  simp only [List.flatMap_cons, List.count_append, List.count_cons, List.count_nil]
  omega
/-- those that wait, and letters not linked -/
structure Ws (n : Nat) (kd : Nat → Option (Bool × Nat × Nat)) (w u : List Nat) : Prop where
  nod : w.Nodup
  comp : ∀ k, k ∈ w → k < n ∧ kd k ≠ none
  und : u.Nodup
  lets : ∀ x, x ∈ u → x < n ∧ kd x = none
theorem Ws.perm {n : Nat} {kd : Nat → Option (Bool × Nat × Nat)} {w w' u u' : List Nat} (h : Ws n kd w u) (p : w.Perm w') (q : u.Perm u') : Ws n kd w' u' :=
  ⟨p.nodup_iff.mp h.nod, fun k hk => h.comp k (p.mem_iff.mpr hk), q.nodup_iff.mp h.und, fun k hk => h.lets k (q.mem_iff.mpr hk)⟩
theorem Ws.tail {n : Nat} {kd : Nat → Option (Bool × Nat × Nat)} {w u : List Nat} {k : Nat} (h : Ws n kd (k :: w) u) : Ws n kd w u :=
  ⟨(List.nodup_cons.mp h.nod).2, fun x hx => h.comp x (List.mem_cons_of_mem _ hx), h.und, h.lets⟩
theorem Ws.tailU {n : Nat} {kd : Nat → Option (Bool × Nat × Nat)} {w u : List Nat} {k : Nat} (h : Ws n kd w (k :: u)) : Ws n kd w u :=
  ⟨h.nod, h.comp, (List.nodup_cons.mp h.und).2, fun x hx => h.lets x (List.mem_cons_of_mem _ hx)⟩
theorem Ws.fresh {n : Nat} {kd : Nat → Option (Bool × Nat × Nat)} {w u : List Nat} {k : Nat} (h : Ws n kd (k :: w) u) : k ∉ w ++ u := by
  intro hm
  rcases List.mem_append.mp hm with hm | hm
  · exact (List.nodup_cons.mp h.nod).1 hm
  · exact (h.comp k List.mem_cons_self).2 (h.lets k hm).2
theorem Ws.freshU {n : Nat} {kd : Nat → Option (Bool × Nat × Nat)} {w u : List Nat} {k : Nat} (h : Ws n kd w (k :: u)) : k ∉ w ++ u := by
  intro hm
  rcases List.mem_append.mp hm with hm | hm
  · exact (h.comp k hm).2 (h.lets k List.mem_cons_self).2
  · exact (List.nodup_cons.mp h.und).1 hm
theorem kd_eta {kd : Nat → Option (Bool × Nat × Nat)} {k : Nat} {w : Bool} {a b : Nat} (e : kd k = some (w, a, b)) : kda kd k = a ∧ kdb kd k = b := by
  unfold kda kdb
  rw [e]
  exact ⟨rfl, rfl⟩
def J (l : Links) (F : Nat → Form) (kd : Nat → Option (Bool × Nat × Nat)) (tops ns w u : List Nat) : Prop := ∀ c, c ∈ ns → JP l F (inP ns c (rootsL kd tops w)) (inP ns c (w ++ u))
section
variable {n m : Nat} {kd : Nat → Option (Bool × Nat × Nat)} {lt : Nat → Nat} {F : Nat → Form} {tops : List Nat} {l : Links}
theorem Shape.kids (S : Shape n m kd lt F tops) {k : Nat} (hk : k < n) (h : kd k ≠ none) : kda kd k < k ∧ kdb kd k < k ∧ kda kd k ≠ kdb kd k := by
  cases e : kd k with
  | none => exact (h e).elim
  | some v =>
    obtain ⟨w, a, b⟩ := v
    rw [(kd_eta e).1, (kd_eta e).2]
    exact S.kid_lt hk e
theorem Shape.roots_lt (S : Shape n m kd lt F tops) {w u : List Nat} (h : Ws n kd w u) : ∀ x, x ∈ rootsL kd tops w → x < n := by
  intro x hx
  rcases List.mem_append.mp hx with hx | hx
  · exact S.top_lt hx
  · obtain ⟨k, hk, hx⟩ := List.mem_flatMap.mp hx
    obtain ⟨h1, h2⟩ := h.comp k hk
    have := S.kids h1 h2
    simp only [List.mem_cons, List.not_mem_nil, or_false] at hx
    rcases hx with rfl | rfl <;> omega
theorem Ws.low {w u : List Nat} (h : Ws n kd w u) : ∀ x, x ∈ w ++ u → x < n := by
  intro x hx
  rcases List.mem_append.mp hx with hx | hx
  · exact (h.comp x hx).1
  · exact (h.lets x hx).1
theorem J.par (S : Shape n m kd lt F tops) {ns w w' u : List Nat} (N : Nm n ns) (W : Ws n kd w u) (h : J l F kd tops ns w u) {k : Nat} (hw : w.Perm (k :: w')) (e : ∃ a b, kd k = some (true, a, b))
    (e1 : nu ns (kda kd k) = nu ns (kdb kd k)) (e2 : nu ns (kda kd k) ≠ nu ns k) : J l F kd tops (joinN ns (kda kd k) k) w' u := by
  have W2 := W.perm hw (.refl u)
  have W3 := W2.tail
  obtain ⟨a, b, e⟩ := e
  have ea := (kd_eta e).1
  have eb := (kd_eta e).2
  have hk := (W2.comp k List.mem_cons_self).1
  have hl := S.kid_lt hk e
  have eF : ∃ j, F k = .with_ j (F a) (F b) := by
    rcases S.comp hk e with ⟨_, z⟩ | ⟨z, _⟩
    · exact z
    · cases z
  rw [ea, eb] at e1
  rw [ea] at e2 ⊢
  have ha : a < ns.length := by rw [N.len]; omega
  have hkl : k < ns.length := by rw [N.len]; omega
  have bR : ∀ x, x ∈ rootsL kd tops w' → x < ns.length := fun x hx => by rw [N.len]; exact S.roots_lt W3 x hx
  have bL : ∀ x, x ∈ w' ++ u → x < ns.length := fun x hx => by rw [N.len]; exact W3.low x hx
  have pR := rootsL_perm (kd := kd) (tops := tops) hw
  rw [ea, eb] at pR
  have pL : (w ++ u).Perm (k :: (w' ++ u)) := hw.append_right u
  intro c hc
  obtain ⟨hc1, hc2⟩ := (join_mem ha e2 c).mp hc
  by_cases hv : c = nu ns a
  · subst hv
    have q1 := (h _ hc1).perm (inP_perm pR) (inP_perm pL)
    rw [inP_cons rfl, inP_cons e1.symm, inP_skip (fun z => e2 z.symm)] at q1
    have q2 := (h _ (nu_mem hkl)).perm (inP_perm pR) (inP_perm pL)
    rw [inP_skip e2, inP_skip (by rw [← e1]; exact e2), inP_cons rfl] at q2
    exact (q1.par q2 eF (fun z => W2.fresh (inP_mem z))).perm (inP_join e2 _ bR).symm (inP_join e2 _ bL).symm
  · rw [inP_other hv hc2 _ bR, inP_other hv hc2 _ bL]
    have q := (h _ hc1).perm (inP_perm pR) (inP_perm pL)
    rw [inP_skip (fun z => hv z.symm), inP_skip (by rw [← e1]; exact fun z => hv z.symm), inP_skip (fun z => hc2 z.symm)] at q
    exact q
theorem J.star (S : Shape n m kd lt F tops) {ns w w' u : List Nat} (N : Nm n ns) (W : Ws n kd w u) (h : J l F kd tops ns w u) {k a b : Nat} (hw : w.Perm (k :: w')) (e : kd k = some (false, a, b))
    (e1 : nu ns k ≠ nu ns a) (e2 : nu ns k ≠ nu ns b) (e3 : nu ns a ≠ nu ns b) : J l F kd tops (joinN (joinN ns k a) k b) w' u := by
  have W2 := W.perm hw (.refl u)
  have W3 := W2.tail
  have ea := (kd_eta e).1
  have eb := (kd_eta e).2
  have hk := (W2.comp k List.mem_cons_self).1
  have hl := S.kid_lt hk e
  have eF : F k = .both (F a) (F b) := by
    rcases S.comp hk e with ⟨z, _⟩ | ⟨_, z⟩
    · cases z
    · exact z
  have hal : a < ns.length := by rw [N.len]; omega
  have hbl : b < ns.length := by rw [N.len]; omega
  have hkl : k < ns.length := by rw [N.len]; omega
  have n1k : nu (joinN ns k a) k = nu ns k := by rw [nu_join hkl, if_neg e1]
  have n1b : nu (joinN ns k a) b = nu ns b := by rw [nu_join hbl, if_neg (fun z => e3 z.symm)]
  have bR : ∀ x, x ∈ rootsL kd tops w' → x < ns.length := fun x hx => by rw [N.len]; exact S.roots_lt W3 x hx
  have bL : ∀ x, x ∈ w' ++ u → x < ns.length := fun x hx => by rw [N.len]; exact W3.low x hx
  have bR1 : ∀ x, x ∈ rootsL kd tops w' → x < (joinN ns k a).length := by rw [joinN_len]; exact bR
  have bL1 : ∀ x, x ∈ w' ++ u → x < (joinN ns k a).length := by rw [joinN_len]; exact bL
  have pR := rootsL_perm (kd := kd) (tops := tops) hw
  rw [ea, eb] at pR
  have pL : (w ++ u).Perm (k :: (w' ++ u)) := hw.append_right u
  have e2' : nu (joinN ns k a) k ≠ nu (joinN ns k a) b := by rw [n1k, n1b]; exact e2
  intro c hc
  obtain ⟨hc1, hc2⟩ := (join_mem (by rw [joinN_len]; exact hkl) e2' c).mp hc
  rw [n1b] at hc2
  obtain ⟨hc1, hc3⟩ := (join_mem hkl e1 c).mp hc1
  by_cases hv : c = nu ns k
  · subst hv
    have q1 := (h _ (nu_mem hal)).perm (inP_perm pR) (inP_perm pL)
    rw [inP_cons rfl, inP_skip (fun z => e3 z.symm), inP_skip e1] at q1
    have q2 := (h _ (nu_mem hbl)).perm (inP_perm pR) (inP_perm pL)
    rw [inP_skip e3, inP_cons rfl, inP_skip e2] at q2
    have q3 := (h _ (nu_mem hkl)).perm (inP_perm pR) (inP_perm pL)
    rw [inP_skip (fun z => e1 z.symm), inP_skip (fun z => e2 z.symm), inP_cons rfl] at q3
    have q := q1.star q2 q3 eF (fun z => W2.fresh (inP_mem z))
    have two : ∀ X : List Nat, (∀ x, x ∈ X → x < ns.length) → (inP ns (nu ns k) X ++ inP ns (nu ns a) X ++ inP ns (nu ns b) X).Perm (inP (joinN (joinN ns k a) k b) (nu ns k) X) := by
      intro X hX
      have j2 := inP_join e2' X (by rw [joinN_len]; exact hX)
      rw [n1k, n1b] at j2
      refine List.Perm.trans ?_ j2.symm
      have j1 := inP_join e1 X hX
      have j3 : inP (joinN ns k a) (nu ns b) X = inP ns (nu ns b) X := inP_other (fun z => e2 z.symm) (fun z => e3 z.symm) X hX
      rw [j3]
      exact j1.symm.append_right _
    exact q.perm (two _ bR) (two _ bL)
  · rw [inP_other (by rw [n1k]; exact hv) (by rw [n1b]; exact hc2) _ bR1, inP_other (by rw [n1k]; exact hv) (by rw [n1b]; exact hc2) _ bL1, inP_other hv hc3 _ bR, inP_other hv hc3 _ bL]
    have q := (h _ hc1).perm (inP_perm pR) (inP_perm pL)
    rw [inP_skip (fun z => hc3 z.symm), inP_skip (fun z => hc2 z.symm), inP_skip (fun z => hv z.symm)] at q
    exact q
theorem J.link (S : Shape n m kd lt F tops) {ns w u u' : List Nat} (N : Nm n ns) (W : Ws n kd w u) (h : J l F kd tops ns w u) {i j : Nat} (hu : u.Perm (i :: j :: u')) (hp : Proof l [F i, F j])
    (e : nu ns i ≠ nu ns j) : J l F kd tops (joinN ns i j) w u' := by
  have W2 := W.perm (.refl w) hu
  have W3 := W2.tailU
  have W4 := W3.tailU
  have hi : i < ns.length := by rw [N.len]; exact (W2.lets i List.mem_cons_self).1
  have hj : j < ns.length := by rw [N.len]; exact (W3.lets j List.mem_cons_self).1
  have bR : ∀ x, x ∈ rootsL kd tops w → x < ns.length := fun x hx => by rw [N.len]; exact S.roots_lt W x hx
  have bL : ∀ x, x ∈ w ++ u' → x < ns.length := fun x hx => by rw [N.len]; exact W4.low x hx
  have pL : (w ++ u).Perm (i :: j :: (w ++ u')) := by
    refine (hu.append_left w).trans (pm fun a => ?_)
    simp only [List.count_append, List.count_cons]
    omega
  have fi : i ∉ w ++ u' := fun z => W2.freshU (by
    rcases List.mem_append.mp z with z | z
    · exact List.mem_append.mpr (Or.inl z)
    · exact List.mem_append.mpr (Or.inr (List.mem_cons_of_mem _ z)))
  have fj : j ∉ w ++ u' := W3.freshU
  intro c hc
  obtain ⟨hc1, hc2⟩ := (join_mem hi e c).mp hc
  by_cases hv : c = nu ns i
  · subst hv
    have q1 := (h _ hc1).perm (.refl _) (inP_perm pL)
    rw [inP_cons rfl, inP_skip (fun z => e z.symm)] at q1
    have q2 := (h _ (nu_mem hj)).perm (.refl _) (inP_perm pL)
    rw [inP_skip e, inP_cons rfl] at q2
    exact (q1.link q2 hp (fun z => fi (inP_mem z)) (fun z => fj (inP_mem z))).perm (inP_join e _ bR).symm (inP_join e _ bL).symm
  · rw [inP_other hv hc2 _ bR, inP_other hv hc2 _ bL]
    have q := (h _ hc1).perm (.refl _) (inP_perm pL)
    rw [inP_skip (fun z => hv z.symm), inP_skip (fun z => hc2 z.symm)] at q
    exact q
/-- nothing waits, all is linked, all is one piece -/
theorem J.done (S : Shape n m kd lt F tops) {ns : List Nat} (N : Nm n ns) (h : J l F kd tops ns [] []) (hn : 0 < n) (hc : cls ns = 1) : Proof l (tops.map F) := by
  have h0 : 0 < ns.length := by rw [N.len]; exact hn
  have q := h _ (nu_mem h0) (fun _ => []) (fun x hx => (List.not_mem_nil hx).elim)
  have e : inP ns (nu ns 0) (rootsL kd tops []) = tops := by
    unfold inP rootsL kidsOf
    rw [List.flatMap_nil, List.append_nil, List.filter_eq_self]
    intro t ht
    rw [beq_iff_eq]
    exact (cls_one N hn).mp hc _ _ (S.top_lt ht) hn
  rw [e] at q
  have e2 : (inP ns (nu ns 0) (([] : List Nat) ++ [])).flatMap (fun _ => ([] : List Form)) = [] := rfl
  rw [e2, List.append_nil] at q
  exact q
end
end Lk
end
section
set_option maxHeartbeats 1000000
namespace Lk
open Md26
/-! ### the start: every both joined with its two -/
def isStar (kd : Nat → Option (Bool × Nat × Nat)) (k : Nat) : Bool := match kd k with
  | some (false, _, _) => true
  | _ => false
def isPar (kd : Nat → Option (Bool × Nat × Nat)) (k : Nat) : Bool := match kd k with
  | some (true, _, _) => true
  | _ => false
def stars (n : Nat) (kd : Nat → Option (Bool × Nat × Nat)) : Nat := (List.range n).countP (isStar kd)
def parsL (n : Nat) (kd : Nat → Option (Bool × Nat × Nat)) : List Nat := (List.range n).filter (isPar kd)
/-- not joined yet when t parts have been looked at -/
def pend (n : Nat) (kd : Nat → Option (Bool × Nat × Nat)) (t : Nat) : List Nat := (List.range n).filter fun k => (isPar kd k) || (isStar kd k && decide (t ≤ k))
theorem isPar_iff {kd : Nat → Option (Bool × Nat × Nat)} {k : Nat} : isPar kd k = true ↔ ∃ a b, kd k = some (true, a, b) := by
  unfold isPar
  constructor
  · intro h
    split at h
    · rename_i a b e
      exact ⟨a, b, e⟩
    · cases h
  · rintro ⟨a, b, e⟩
    rw [e]
theorem isStar_iff {kd : Nat → Option (Bool × Nat × Nat)} {k : Nat} : isStar kd k = true ↔ ∃ a b, kd k = some (false, a, b) := by
  unfold isStar
  constructor
  · intro h
    split at h
    · rename_i a b e
      exact ⟨a, b, e⟩
    · cases h
  · rintro ⟨a, b, e⟩
    rw [e]
theorem kd_kind (kd : Nat → Option (Bool × Nat × Nat)) (k : Nat) : (kd k = none ∧ isPar kd k = false ∧ isStar kd k = false) ∨ (isPar kd k = true ∧ isStar kd k = false ∧ kd k ≠ none) ∨ (isStar kd k = true ∧ isPar kd k = false ∧ kd k ≠ none) := by
  unfold isPar isStar
  rcases e : kd k with _ | ⟨_ | _, a, b⟩
  · exact Or.inl ⟨rfl, rfl, rfl⟩
  · exact Or.inr (Or.inr ⟨rfl, rfl, fun z => by cases z⟩)
  · exact Or.inr (Or.inl ⟨rfl, rfl, fun z => by cases z⟩)
theorem mem_pend {n : Nat} {kd : Nat → Option (Bool × Nat × Nat)} {t k : Nat} : k ∈ pend n kd t ↔ k < n ∧ (isPar kd k = true ∨ (isStar kd k = true ∧ t ≤ k)) := by
  unfold pend
  rw [List.mem_filter, List.mem_range, Bool.or_eq_true, Bool.and_eq_true, decide_eq_true_eq]
theorem mem_parsL {n : Nat} {kd : Nat → Option (Bool × Nat × Nat)} {k : Nat} : k ∈ parsL n kd ↔ k < n ∧ isPar kd k = true := by
  unfold parsL
  rw [List.mem_filter, List.mem_range]
theorem pend_nodup (n : Nat) (kd : Nat → Option (Bool × Nat × Nat)) (t : Nat) : (pend n kd t).Nodup := List.nodup_range.filter _
theorem parsL_nodup (n : Nat) (kd : Nat → Option (Bool × Nat × Nat)) : (parsL n kd).Nodup := List.nodup_range.filter _
theorem pend_last (n : Nat) (kd : Nat → Option (Bool × Nat × Nat)) : (pend n kd n).Perm (parsL n kd) := by
  refine perm_of_nodup (pend_nodup _ _ _) (parsL_nodup _ _) fun a => ?_
  rw [mem_pend, mem_parsL]
  constructor
  · rintro ⟨h1, h2 | h2⟩
    · exact ⟨h1, h2⟩
    · omega
  · rintro ⟨h1, h2⟩
    exact ⟨h1, Or.inl h2⟩
theorem pend_star {n : Nat} {kd : Nat → Option (Bool × Nat × Nat)} {t : Nat} (ht : t < n) (h : isStar kd t = true) : (pend n kd t).Perm (t :: pend n kd (t + 1)) := by
  have hp : isPar kd t = false := by
    rcases kd_kind kd t with ⟨_, a, b⟩ | ⟨_, b, _⟩ | ⟨_, b, _⟩
    · exact a
    · rw [b] at h
      cases h
    · exact b
  refine perm_of_nodup (pend_nodup _ _ _) (List.nodup_cons.mpr ⟨fun z => ?_, pend_nodup _ _ _⟩) fun a => ?_
  · rw [mem_pend] at z
    rcases z.2 with z | z
    · rw [hp] at z
      cases z
    · omega
  · rw [List.mem_cons, mem_pend, mem_pend]
    constructor
    · rintro ⟨h1, h2 | ⟨h2, h3⟩⟩
      · exact Or.inr ⟨h1, Or.inl h2⟩
      · by_cases e : a = t
        · exact Or.inl e
        · exact Or.inr ⟨h1, Or.inr ⟨h2, by omega⟩⟩
    · rintro (rfl | ⟨h1, h2 | ⟨h2, h3⟩⟩)
      · exact ⟨ht, Or.inr ⟨h, Nat.le_refl _⟩⟩
      · exact ⟨h1, Or.inl h2⟩
      · exact ⟨h1, Or.inr ⟨h2, by omega⟩⟩
theorem pend_skip {n : Nat} {kd : Nat → Option (Bool × Nat × Nat)} {t : Nat} (h : isStar kd t = false) : pend n kd t = pend n kd (t + 1) := by
  unfold pend
  refine List.filter_congr fun k _ => ?_
  by_cases e : k = t
  · subst e
    rw [h, Bool.false_and, Bool.false_and]
  · congr 2
    exact decide_eq_decide.mpr (by omega)
section
variable {X : List Nat} {n m : Nat} {kd : Nat → Option (Bool × Nat × Nat)} {lt : Nat → Nat} {F : Nat → Form} {tops : List Nat} {l : Links}
theorem Shape.lt_inj (S : Shape n m kd lt F tops) {p q : Nat} (hp : p < m) (hq : q < m) (e : lt p = lt q) : p = q := by
  have a := (S.letter hp).2.2
  have b := (S.letter hq).2.2
  rw [e, b] at a
  cases a
  rfl
theorem Shape.tops_nodup (S : Shape n m kd lt F tops) : tops.Nodup := by
  have : ∀ ts : List Nat, (pl (ts.map F)).Nodup → ts.Nodup := by
    intro ts
    induction ts with
    | nil => intro _; exact List.nodup_nil
    | cons a r ih =>
      intro hx
      rw [List.map_cons, pl_cons] at hx
      refine List.nodup_cons.mpr ⟨fun hm => ?_, ih (List.nodup_append.mp hx).2.1⟩
      obtain ⟨p, hp⟩ := places_ne (F a)
      exact nodup_two hx hp (mem_pl.mpr ⟨F a, List.mem_map.mpr ⟨a, hm, rfl⟩, hp⟩)
  exact this tops S.nd
def letsL (m : Nat) (lt : Nat → Nat) : List Nat := (List.range m).map lt
theorem Shape.lets_nodup (S : Shape n m kd lt F tops) : (letsL m lt).Nodup := by
  unfold letsL
  refine List.Pairwise.map _ (R := fun a b => a < b ∧ b < m) ?_ ?_
  · intro a b ⟨h1, h2⟩ e
    have := S.lt_inj (by omega) h2 e
    omega
  · refine List.Pairwise.imp_of_mem ?_ List.pairwise_lt_range
    intro a b _ hb hab
    exact ⟨hab, List.mem_range.mp hb⟩
theorem Shape.mem_lets (S : Shape n m kd lt F tops) {x : Nat} : x ∈ letsL m lt ↔ x < n ∧ kd x = none := by
  unfold letsL
  rw [List.mem_map]
  constructor
  · rintro ⟨p, hp, rfl⟩
    have := S.letter (List.mem_range.mp hp)
    exact ⟨this.1, this.2.1⟩
  · rintro ⟨h1, h2⟩
    obtain ⟨p, hp, e⟩ := S.leaf h1 h2
    exact ⟨p, List.mem_range.mpr hp, e.symm⟩
theorem mem_pend0 {k : Nat} : k ∈ pend n kd 0 ↔ k < n ∧ kd k ≠ none := by
  rw [mem_pend]
  rcases kd_kind kd k with ⟨a, b, c⟩ | ⟨a, b, c⟩ | ⟨a, b, c⟩
  · simp [a, b, c]
  · simp [a, c]
  · simp [a, c]
theorem Shape.parts_perm (S : Shape n m kd lt F tops) : (List.range n).Perm (pend n kd 0 ++ letsL m lt) := by
  refine perm_of_nodup List.nodup_range (List.nodup_append.mpr ⟨pend_nodup _ _ _, S.lets_nodup, fun x hx y hy e => ?_⟩) fun a => ?_
  · subst e
    exact (mem_pend0.mp hx).2 (S.mem_lets.mp hy).2
  · rw [List.mem_append, mem_pend0, S.mem_lets, List.mem_range]
    constructor
    · intro h
      by_cases e : kd a = none
      · exact Or.inr ⟨h, e⟩
      · exact Or.inl ⟨h, e⟩
    · rintro (h | h) <;> exact h.1
theorem mem_kids {w : List Nat} {x : Nat} (hw : ∀ k, k ∈ w → kd k ≠ none) : x ∈ kidsOf kd w ↔ ∃ k, k ∈ w ∧ KidI kd k x := by
  unfold kidsOf
  rw [List.mem_flatMap]
  constructor
  · rintro ⟨k, hk, hx⟩
    refine ⟨k, hk, ?_⟩
    cases e : kd k with
    | none => exact (hw k hk e).elim
    | some v =>
      obtain ⟨w, a, b⟩ := v
      rw [(kd_eta e).1, (kd_eta e).2] at hx
      exact ⟨w, a, b, e, by simpa using hx⟩
  · rintro ⟨k, hk, w, a, b, e, hx⟩
    refine ⟨k, hk, ?_⟩
    rw [(kd_eta e).1, (kd_eta e).2]
    simpa using hx
theorem Shape.kids_nodup (S : Shape n m kd lt F tops) : ∀ (w : List Nat), w.Nodup → (∀ k, k ∈ w → k < n ∧ kd k ≠ none) → (kidsOf kd w).Nodup
  | [], _, _ => List.nodup_nil
  | k :: w, hn, hw => by
    have h1 := hw k List.mem_cons_self
    have ih := S.kids_nodup w (List.nodup_cons.mp hn).2 fun x hx => hw x (List.mem_cons_of_mem _ hx)
    have kk := S.kids h1.1 h1.2
    show ([kda kd k, kdb kd k] ++ kidsOf kd w).Nodup
    refine List.nodup_append.mpr ⟨by simp [kk.2.2], ih, fun x hx y hy e => ?_⟩
    subst e
    obtain ⟨k', hk', q⟩ := (mem_kids fun z hz => (hw z (List.mem_cons_of_mem _ hz)).2).mp hy
    have q1 : KidI kd k x := by
      cases e : kd k with
      | none => exact (h1.2 e).elim
      | some v =>
        obtain ⟨w, a, b⟩ := v
        rw [(kd_eta e).1, (kd_eta e).2] at hx
        exact ⟨w, a, b, e, by simpa using hx⟩
    have := S.uniq h1.1 (hw k' (List.mem_cons_of_mem _ hk')).1 q1 q
    subst this
    exact (List.nodup_cons.mp hn).1 hk'
theorem Shape.roots_perm (S : Shape n m kd lt F tops) : (List.range n).Perm (rootsL kd tops (pend n kd 0)) := by
  have hc : ∀ k, k ∈ pend n kd 0 → k < n ∧ kd k ≠ none := fun k hk => mem_pend0.mp hk
  have hc2 : ∀ k, k ∈ pend n kd 0 → kd k ≠ none := fun k hk => (hc k hk).2
  refine perm_of_nodup List.nodup_range (List.nodup_append.mpr ⟨S.tops_nodup, S.kids_nodup _ (pend_nodup _ _ _) hc, fun x hx y hy e => ?_⟩) fun a => ?_
  · subst e
    obtain ⟨k, hk, q⟩ := (mem_kids hc2).mp hy
    exact S.topfree hx (hc k hk).1 q
  · show _ ↔ a ∈ tops ++ kidsOf kd (pend n kd 0)
    rw [List.mem_append, List.mem_range, mem_kids hc2]
    constructor
    · intro h
      rcases S.under h with h1 | ⟨k, h1, h2⟩
      · exact Or.inl h1
      · refine Or.inr ⟨k, mem_pend0.mpr ⟨h1, ?_⟩, h2⟩
        obtain ⟨w, a, b, e, _⟩ := h2
        rw [e]
        intro z
        cases z
    · rintro (h | ⟨k, hk, q⟩)
      · exact S.top_lt h
      · have := S.kid_n (hc k hk).1 q
        have := (hc k hk).1
        omega
theorem inP_range {c : Nat} (hc : c < n) {X : List Nat} (h : (List.range n).Perm X) : (inP (List.range n) c X).Perm [c] := by
  have e : ∀ x, x < n → nu (List.range n) x = x := by
    intro x hx
    have := nu_at (ns := List.range n) (k := x) (by rw [List.length_range]; exact hx)
    rw [List.getElem?_range hx] at this
    exact (Option.some.inj this).symm
  refine perm_of_nodup ((h.nodup_iff.mp List.nodup_range).filter _) (by simp) fun a => ?_
  unfold inP
  rw [List.mem_filter, ← h.mem_iff, List.mem_range, beq_iff_eq, List.mem_singleton]
  constructor
  · rintro ⟨h1, h2⟩
    rw [e a h1] at h2
    exact h2
  · rintro rfl
    exact ⟨hc, e a hc⟩
/-- at first each part is a piece -/
theorem J.zero (S : Shape n m kd lt F tops) {u : List Nat} (hu : (letsL m lt).Perm u) : J l F kd tops (List.range n) (pend n kd 0) u := by
  intro c hc
  have hc := List.mem_range.mp hc
  refine JP.perm (R := [c]) (L := [c]) ?_ (inP_range hc S.roots_perm).symm (inP_range hc (S.parts_perm.trans (hu.append_left _))).symm
  intro D hD
  have := hD c List.mem_cons_self
  simpa using this
/-- what holds when t parts have been looked at -/
structure Sta (l : Links) (n : Nat) (kd : Nat → Option (Bool × Nat × Nat)) (F : Nat → Form) (tops u : List Nat) (t : Nat) (ns : List Nat) : Prop where
  N : Nm n ns
  own : ∀ i, i < n → (∀ k, k < t → isStar kd k = true → ¬ KidI kd k i) → nu ns i = i
  j : J l F kd tops ns (pend n kd t) u
  cnt : cls ns + 2 * (List.range t).countP (isStar kd) = n
  star : ∀ k a b, k < t → kd k = some (false, a, b) → nu ns k = nu ns a ∧ nu ns k = nu ns b
theorem nm_range (n : Nat) : Nm n (List.range n) := ⟨List.length_range, fun x hx => List.mem_range.mp hx⟩
theorem nu_range {n x : Nat} (hx : x < n) : nu (List.range n) x = x := by
  have := nu_at (ns := List.range n) (k := x) (by rw [List.length_range]; exact hx)
  rw [List.getElem?_range hx] at this
  exact (Option.some.inj this).symm
theorem pend_ws (S : Shape n m kd lt F tops) {u : List Nat} (hu : (letsL m lt).Perm u) (t : Nat) : Ws n kd (pend n kd t) u := by
  refine ⟨pend_nodup _ _ _, fun k hk => ?_, hu.nodup_iff.mp S.lets_nodup, fun x hx => S.mem_lets.mp (hu.mem_iff.mpr hx)⟩
  have := mem_pend.mp hk
  refine ⟨this.1, fun e => ?_⟩
  rcases kd_kind kd k with ⟨a, b, c⟩ | ⟨a, b, c⟩ | ⟨a, b, c⟩
  · rw [b, c] at this
    simp at this
  · exact c e
  · exact c e
theorem Sta.step (S : Shape n m kd lt F tops) {u : List Nat} (hu : (letsL m lt).Perm u) {t : Nat} {ns : List Nat} (h : Sta l n kd F tops u t ns) (ht : t < n) : Sta l n kd F tops u (t + 1) (starStep kd ns t) := by
  have hl : ∀ {x}, x < n → x < ns.length := fun hx => by rw [h.N.len]; exact hx
  by_cases hs : isStar kd t = true
  · obtain ⟨a, b, e⟩ := isStar_iff.mp hs
    have kl := S.kid_lt ht e
    have es : starStep kd ns t = joinN (joinN ns t a) t b := by
      unfold starStep
      rw [e]
    rw [es]
    have kt : ∀ {x}, KidI kd t x ↔ x = a ∨ x = b := by
      intro x
      constructor
      · rintro ⟨w, a', b', e', hx⟩
        rw [e] at e'
        cases e'
        exact hx
      · intro hx
        exact ⟨false, a, b, e, hx⟩
    have free : ∀ x, x = a ∨ x = b → nu ns x = x := by
      intro x hx
      have hxn : x < n := by rcases hx with rfl | rfl <;> omega
      refine h.own x hxn fun k hk _ hx' => ?_
      have := S.uniq (show k < n by omega) ht hx' (kt.mpr hx)
      omega
    have ea := free a (Or.inl rfl)
    have eb := free b (Or.inr rfl)
    have et : nu ns t = t := h.own t ht fun k hk _ hx => by
      have := S.kid_n (show k < n by omega) hx
      omega
    have e1 : nu ns t ≠ nu ns a := by omega
    have e2 : nu ns t ≠ nu ns b := by omega
    have e3 : nu ns a ≠ nu ns b := by omega
    have N1 := h.N.join (i := t) (j := a) ht
    have N2 := N1.join (i := t) (j := b) ht
    have n1t : nu (joinN ns t a) t = nu ns t := by rw [nu_join (hl ht), if_neg e1]
    have n1b : nu (joinN ns t a) b = nu ns b := by rw [nu_join (hl (by omega)), if_neg (fun z => e3 z.symm)]
    refine ⟨N2, fun i hi hf => ?_, ?_, ?_, fun k a' b' hk e' => ?_⟩
    · have hi1 := h.own i hi fun k hk hs' => hf k (by omega) hs'
      have hna : i ≠ a ∧ i ≠ b := by
        have := hf t (by omega) hs
        rw [kt] at this
        omega
      have q1 : nu (joinN ns t a) i = i := by
        rw [nu_join (hl hi), if_neg (by omega), hi1]
      rw [nu_join (by rw [joinN_len]; exact hl hi), if_neg (by rw [q1, n1b]; omega), q1]
    · exact J.star S h.N (pend_ws S hu t) h.j (pend_star ht hs) e e1 e2 e3
    · have c1 := cls_join h.N (i := t) (j := a) ht (by omega) e1
      have c2 := cls_join N1 (i := t) (j := b) ht (by omega) (by rw [n1t, n1b]; exact e2)
      have := h.cnt
      rw [List.range_succ, List.countP_append, List.countP_singleton, if_pos hs]
      omega
    · have lj : ∀ {x}, x < n → x < (joinN ns t a).length := fun hx => by rw [joinN_len]; exact hl hx
      by_cases q : k = t
      · subst q
        rw [e] at e'
        cases e'
        refine ⟨join_mono (lj ht) (lj (by omega)) (join_ends (hl ht) (hl (by omega))), join_ends (lj ht) (lj (by omega))⟩
      · have x := h.star k a' b' (by omega) e'
        have kl' := S.kid_lt (show k < n by omega) e'
        exact ⟨join_mono (lj (by omega)) (lj (by omega)) (join_mono (hl (by omega)) (hl (by omega)) x.1), join_mono (lj (by omega)) (lj (by omega)) (join_mono (hl (by omega)) (hl (by omega)) x.2)⟩
  · have hs' : isStar kd t = false := by simpa using hs
    have es : starStep kd ns t = ns := by
      unfold starStep
      split
      · rename_i a b e
        exact (hs (isStar_iff.mpr ⟨a, b, e⟩)).elim
      · rfl
    rw [es]
    refine ⟨h.N, fun i hi hf => h.own i hi fun k hk hs' => hf k (by omega) hs', ?_, ?_, fun k a b hk e => ?_⟩
    · rw [← pend_skip hs']
      exact h.j
    · rw [List.range_succ, List.countP_append, List.countP_singleton, if_neg hs]
      exact h.cnt
    · by_cases q : k = t
      · subst q
        exact (hs (isStar_iff.mpr ⟨a, b, e⟩)).elim
      · exact h.star k a b (by omega) e
theorem Sta.all (S : Shape n m kd lt F tops) {u : List Nat} (hu : (letsL m lt).Perm u) : ∀ t, t ≤ n → Sta l n kd F tops u t ((List.range t).foldl (starStep kd) (List.range n))
  | 0, _ => ⟨nm_range n, fun i hi _ => nu_range hi, J.zero S hu, by simp [cls_range], fun k _ _ hk => by omega⟩
  | t + 1, h => by
    rw [List.range_succ, List.foldl_append]
    exact (Sta.all S hu t (by omega)).step S hu (by omega)
/-- how many parts there are -/
theorem Shape.many (S : Shape n m kd lt F tops) : n = m + stars n kd + (parsL n kd).length := by
  have h := S.parts_perm.length_eq
  rw [List.length_range, List.length_append] at h
  have e1 : (letsL m lt).length = m := by simp [letsL]
  have e2 : (pend n kd 0).length = stars n kd + (parsL n kd).length := by
    have : ∀ X : List Nat, (X.filter fun k => (isPar kd k) || (isStar kd k && decide (0 ≤ k))).length = X.countP (isStar kd) + (X.filter (isPar kd)).length := by
      intro X
      induction X with
      | nil => rfl
      | cons x X ih =>
        rw [List.countP_cons, List.filter_cons, List.filter_cons]
        simp only [Nat.zero_le, decide_true, Bool.and_true] at ih ⊢
        rcases kd_kind kd x with ⟨a, b, c⟩ | ⟨a, b, c⟩ | ⟨a, b, c⟩
        · simp [b, c, ih]
        · simp [a, b, ih]
          omega
        · simp [a, b, ih]
          omega
    exact this _
  omega
/-- what holds of pieces all the while: lk links joined, w waits -/
structure PS (X : List Nat) (n m : Nat) (kd : Nat → Option (Bool × Nat × Nat)) (lk : Nat) (ns w : List Nat) : Prop where
  N : Nm n ns
  nod : w.Nodup
  ones : ∀ k, k ∈ w → k < n ∧ isPar kd k = true
  star : ∀ k a b, k < n → kd k = some (false, a, b) → nu ns k = nu ns a ∧ nu ns k = nu ns b
  par : ∀ k a b, k < n → kd k = some (true, a, b) → k ∉ w → k ∉ X → nu ns k = nu ns a ∧ nu ns a = nu ns b
  cnt : X = [] → cls ns + stars n kd + lk = m + w.length
theorem PS.start (S : Shape n m kd lt F tops) {os : List Nat} (ho : (parsL n kd).Perm os) : PS X n m kd 0 (startN kd n) os := by
  have h : Sta [] n kd F tops (letsL m lt) n (startN kd n) := Sta.all S (.refl _) n (Nat.le_refl n)
  refine ⟨h.N, ho.nodup_iff.mp (parsL_nodup _ _), fun k hk => mem_parsL.mp (ho.mem_iff.mpr hk), h.star, fun k a b hk e hn _ => ?_, ?_⟩
  · exact (hn (ho.mem_iff.mp (mem_parsL.mpr ⟨hk, isPar_iff.mpr ⟨a, b, e⟩⟩))).elim
  · intro _
    have := h.cnt
    have := S.many
    have := ho.length_eq
    unfold stars at *
    omega
theorem J.start (S : Shape n m kd lt F tops) {os u : List Nat} (ho : (parsL n kd).Perm os) (hu : (letsL m lt).Perm u) : J l F kd tops (startN kd n) os u := by
  have h : Sta l n kd F tops u n (startN kd n) := Sta.all S hu n (Nat.le_refl n)
  have p := (pend_last n kd).trans ho
  intro c hc
  exact (h.j c hc).perm (inP_perm ((p.flatMap_right _).append_left _)) (inP_perm (p.append_right _))
end
end Lk
end
section
set_option maxHeartbeats 1000000
namespace Lk
open Md26
theorem sub_trans {x y : Form} : ∀ {f : Form}, Sub x y → Sub y f → Sub x f
  | .letter i, h, k => by
    have e : y = .letter i := k
    rw [e] at h
    exact h
  | .both f g, h, k => by
    rcases k with k | k | k
    · rw [k] at h
      exact h
    · exact Or.inr (Or.inl (sub_trans h k))
    · exact Or.inr (Or.inr (sub_trans h k))
  | .with_ j f g, h, k => by
    rcases k with k | k | k
    · rw [k] at h
      exact h
    · exact Or.inr (Or.inl (sub_trans h k))
    · exact Or.inr (Or.inr (sub_trans h k))
section
variable {X : List Nat} {n m : Nat} {kd : Nat → Option (Bool × Nat × Nat)} {lt : Nat → Nat} {F : Nat → Form} {tops : List Nat} {l : Links}
theorem Shape.letter_ix (S : Shape n m kd lt F tops) {x p : Nat} (hx : x < n) (e : F x = .letter p) : p < m ∧ x = lt p := by
  cases q : kd x with
  | none =>
    obtain ⟨p', hp, rfl⟩ := S.leaf hx q
    rw [(S.letter hp).2.2] at e
    cases e
    exact ⟨hp, rfl⟩
  | some v =>
    obtain ⟨w, a, b⟩ := v
    rcases S.comp hx q with ⟨_, j, z⟩ | ⟨_, z⟩
    · rw [z] at e
      cases e
    · rw [z] at e
      cases e
theorem Shape.with_ix (S : Shape n m kd lt F tops) {x j : Nat} {f g : Form} (hx : x < n) (e : F x = .with_ j f g) : ∃ a b, kd x = some (true, a, b) ∧ F a = f ∧ F b = g := by
  cases q : kd x with
  | none =>
    obtain ⟨p', hp, rfl⟩ := S.leaf hx q
    rw [(S.letter hp).2.2] at e
    cases e
  | some v =>
    obtain ⟨w, a, b⟩ := v
    rcases S.comp hx q with ⟨rfl, j, z⟩ | ⟨_, z⟩
    · rw [z] at e
      cases e
      exact ⟨a, b, rfl, rfl, rfl⟩
    · rw [z] at e
      cases e
theorem Shape.both_ix (S : Shape n m kd lt F tops) {x : Nat} {f g : Form} (hx : x < n) (e : F x = .both f g) : ∃ a b, kd x = some (false, a, b) ∧ F a = f ∧ F b = g := by
  cases q : kd x with
  | none =>
    obtain ⟨p', hp, rfl⟩ := S.leaf hx q
    rw [(S.letter hp).2.2] at e
    cases e
  | some v =>
    obtain ⟨w, a, b⟩ := v
    rcases S.comp hx q with ⟨_, j, z⟩ | ⟨rfl, z⟩
    · rw [z] at e
      cases e
    · rw [z] at e
      cases e
      exact ⟨a, b, rfl, rfl, rfl⟩
theorem Shape.kid_sub (S : Shape n m kd lt F tops) {k x : Nat} (hk : k < n) (h : KidI kd k x) : Sub (F x) (F k) := by
  obtain ⟨w, a, b, e, hx⟩ := h
  rcases S.comp hk e with ⟨_, j, z⟩ | ⟨_, z⟩
  · rw [z]
    rcases hx with rfl | rfl
    · exact Or.inr (Or.inl (sub_refl _))
    · exact Or.inr (Or.inr (sub_refl _))
  · rw [z]
    rcases hx with rfl | rfl
    · exact Or.inr (Or.inl (sub_refl _))
    · exact Or.inr (Or.inr (sub_refl _))
theorem Shape.all_in (S : Shape n m kd lt F tops) : ∀ d i, i < n → n - i ≤ d → In (F i) (tops.map F) := by
  intro d
  induction d with
  | zero => intro i hi hd; omega
  | succ d ih =>
    intro i hi hd
    rcases S.under hi with h | ⟨k, h1, h2⟩
    · exact ⟨F i, List.mem_map.mpr ⟨i, h, rfl⟩, sub_refl _⟩
    · have := S.kid_n h1 h2
      obtain ⟨f, hf, hs⟩ := ih k h1 (by omega)
      exact ⟨f, hf, sub_trans (S.kid_sub h1 h2) hs⟩
/-- whatever has a proof is of one piece -/
theorem proof_all (S : Shape n m kd lt F tops) {nf : Nat → Nat} (hst : ∀ k a b, k < n → kd k = some (false, a, b) → nf k = nf a ∧ nf k = nf b) (hpar : ∀ k a b, k < n → kd k = some (true, a, b) → nf a = nf b → nf k = nf a)
    (hl : ∀ p q, p < m → q < m → l[p]? = some q → nf (lt p) = nf (lt q)) {fs : List Form} (h : Proof l fs) : (∀ f, f ∈ fs → ∃ i, i < n ∧ F i = f) → ∃ c, ∀ i, i < n → In (F i) fs → nf i = c := by
  induction h with
  | linked i j e1 e2 e3 =>
    intro hf
    obtain ⟨x, hx, ex⟩ := hf (.letter i) (by simp)
    obtain ⟨y, hy, ey⟩ := hf (.letter j) (by simp)
    obtain ⟨hi, _⟩ := S.letter_ix hx ex
    obtain ⟨hj, _⟩ := S.letter_ix hy ey
    refine ⟨nf (lt i), fun z hz hin => ?_⟩
    obtain ⟨f, hf, hs⟩ := hin
    simp only [List.mem_cons, List.not_mem_nil, or_false] at hf
    rcases hf with rfl | rfl
    · rw [(S.letter_ix hz hs).2]
    · rw [(S.letter_ix hz hs).2]
      exact (hl i j hi hj e1).symm
  | with_ j f g r hp ih =>
    intro hf
    obtain ⟨k, hk, ek⟩ := hf _ List.mem_cons_self
    obtain ⟨a, b, e, rfl, rfl⟩ := S.with_ix hk ek
    have kl := S.kid_lt hk e
    obtain ⟨c, hc⟩ := ih fun z hz => by
      rcases List.mem_cons.mp hz with rfl | hz
      · exact ⟨a, by omega, rfl⟩
      · rcases List.mem_cons.mp hz with rfl | hz
        · exact ⟨b, by omega, rfl⟩
        · exact hf z (List.mem_cons_of_mem _ hz)
    refine ⟨c, fun i hi hin => ?_⟩
    obtain ⟨z, hz, hs⟩ := hin
    rcases List.mem_cons.mp hz with rfl | hz
    · rcases hs with hs | hs | hs
      · have : i = k := S.inj hi hk (hs.trans ek.symm)
        subst this
        have ca := hc a (by omega) ⟨_, List.mem_cons_self, sub_refl _⟩
        have cb := hc b (by omega) ⟨_, List.mem_cons_of_mem _ List.mem_cons_self, sub_refl _⟩
        rw [hpar _ a b hk e (ca.trans cb.symm)]
        exact ca
      · exact hc i hi ⟨_, List.mem_cons_self, hs⟩
      · exact hc i hi ⟨_, List.mem_cons_of_mem _ List.mem_cons_self, hs⟩
    · exact hc i hi ⟨z, List.mem_cons_of_mem _ (List.mem_cons_of_mem _ hz), hs⟩
  | both f g r s hp hq ih1 ih2 =>
    intro hf
    obtain ⟨k, hk, ek⟩ := hf _ List.mem_cons_self
    obtain ⟨a, b, e, rfl, rfl⟩ := S.both_ix hk ek
    have kl := S.kid_lt hk e
    obtain ⟨c1, hc1⟩ := ih1 fun z hz => by
      rcases List.mem_cons.mp hz with rfl | hz
      · exact ⟨a, by omega, rfl⟩
      · exact hf z (List.mem_cons_of_mem _ (List.mem_append.mpr (Or.inl hz)))
    obtain ⟨c2, hc2⟩ := ih2 fun z hz => by
      rcases List.mem_cons.mp hz with rfl | hz
      · exact ⟨b, by omega, rfl⟩
      · exact hf z (List.mem_cons_of_mem _ (List.mem_append.mpr (Or.inr hz)))
    have st := hst k a b hk e
    have ca := hc1 a (by omega) ⟨_, List.mem_cons_self, sub_refl _⟩
    have cb := hc2 b (by omega) ⟨_, List.mem_cons_self, sub_refl _⟩
    have ec : c2 = c1 := by omega
    subst ec
    refine ⟨c2, fun i hi hin => ?_⟩
    obtain ⟨z, hz, hs⟩ := hin
    rcases List.mem_cons.mp hz with rfl | hz
    · rcases hs with hs | hs | hs
      · have : i = k := S.inj hi hk (hs.trans ek.symm)
        subst this
        omega
      · exact hc1 i hi ⟨_, List.mem_cons_self, hs⟩
      · exact hc2 i hi ⟨_, List.mem_cons_self, hs⟩
    · rcases List.mem_append.mp hz with hz | hz
      · exact hc1 i hi ⟨z, List.mem_cons_of_mem _ hz, hs⟩
      · exact hc2 i hi ⟨z, List.mem_cons_of_mem _ hz, hs⟩
  | order r s hp _ ih =>
    intro hf
    obtain ⟨c, hc⟩ := ih fun f h => hf f (hp.mem_iff.mp h)
    exact ⟨c, fun i hi hin => hc i hi (in_perm hp.symm hin)⟩
/-! ### counting -/
theorem proof_sum {fs : List Form} (h : Proof l fs) : (pl fs).length = 2 * (fs.map boths).sum + 2 := by
  induction h with
  | linked i j _ _ _ => simp [pl, placesOf, boths]
  | with_ j f g r _ ih =>
    simp only [pl_cons, List.length_append, List.map_cons, List.sum_cons, placesOf, boths] at ih ⊢
    omega
  | both f g r s _ _ ih1 ih2 =>
    simp only [pl_cons, pl_app, List.length_append, List.map_cons, List.map_append, List.sum_cons, List.sum_append, placesOf, boths] at ih1 ih2 ⊢
    omega
  | order r s hp _ ih =>
    rw [← (pl_perm hp).length_eq, ih, (hp.map boths).sum_nat]
theorem Shape.boths_sum (S : Shape n m kd lt F tops) : ((tops.map F).map boths).sum = stars n kd := by
  have g : ∀ X : List Nat, (∀ k, k ∈ X → k < n ∧ kd k ≠ none) → (X.map fun k => boths (F k)).sum = X.countP (isStar kd) + ((kidsOf kd X).map fun k => boths (F k)).sum := by
    intro X
    induction X with
    | nil => intro _; rfl
    | cons k X ih =>
      intro h
      have ih := ih fun x hx => h x (List.mem_cons_of_mem _ hx)
      have hk := h k List.mem_cons_self
      have e0 : kidsOf kd (k :: X) = [kda kd k, kdb kd k] ++ kidsOf kd X := rfl
      rw [e0, List.map_append, List.sum_append, List.map_cons, List.sum_cons, List.countP_cons, ih]
      cases e : kd k with
      | none => exact (hk.2 e).elim
      | some v =>
        obtain ⟨w, a, b⟩ := v
        rw [(kd_eta e).1, (kd_eta e).2]
        rcases S.comp hk.1 e with ⟨rfl, j, z⟩ | ⟨rfl, z⟩
        · have : isStar kd k = false := by unfold isStar; rw [e]
          rw [z, this]
          simp [boths]
          omega
        · have : isStar kd k = true := by unfold isStar; rw [e]
          rw [z, this]
          simp [boths]
          omega
  have h1 := g (pend n kd 0) fun k hk => mem_pend0.mp hk
  have h2 := (S.roots_perm.map fun k => boths (F k)).sum_nat
  have h3 := (S.parts_perm.map fun k => boths (F k)).sum_nat
  have h4 := S.parts_perm.countP_eq (isStar kd)
  have z1 : ((letsL m lt).map fun k => boths (F k)).sum = 0 := by
    have : ∀ X : List Nat, (∀ x, x ∈ X → x < n ∧ kd x = none) → (X.map fun k => boths (F k)).sum = 0 := by
      intro X
      induction X with
      | nil => intro _; rfl
      | cons x X ih =>
        intro h
        obtain ⟨a, b⟩ := h x List.mem_cons_self
        obtain ⟨p, hp, rfl⟩ := S.leaf a b
        rw [List.map_cons, List.sum_cons, ih fun y hy => h y (List.mem_cons_of_mem _ hy), (S.letter hp).2.2]
        rfl
    exact this _ fun x hx => S.mem_lets.mp hx
  have z2 : (letsL m lt).countP (isStar kd) = 0 := by
    rw [List.countP_eq_zero]
    intro x hx
    have := (S.mem_lets.mp hx).2
    unfold isStar
    rw [this]
    simp
  unfold rootsL at h2
  rw [List.map_append, List.sum_append] at h2 h3
  rw [List.countP_append] at h4
  rw [List.map_map]
  unfold stars
  have e5 : (tops.map (boths ∘ F)).sum = (tops.map fun k => boths (F k)).sum := rfl
  omega
theorem Shape.proof_count (S : Shape n m kd lt F tops) (h : Proof l (tops.map F)) : m = 2 * stars n kd + 2 := by
  have := proof_sum h
  rw [S.places, S.boths_sum, List.length_range] at this
  exact this
/-! ### steps -/
theorem PS.perm {lk : Nat} {ns w w' : List Nat} (h : PS X n m kd lk ns w) (p : w.Perm w') : PS X n m kd lk ns w' :=
  ⟨h.N, p.nodup_iff.mp h.nod, fun k hk => h.ones k (p.mem_iff.mpr hk), h.star, fun k a b hk e hn hX => h.par k a b hk e (fun z => hn (p.mem_iff.mp z)) hX, fun hX => by rw [← p.length_eq]; exact h.cnt hX⟩
theorem PS.joinStep (S : Shape n m kd lt F tops) {lk : Nat} {ns w : List Nat} (h : PS X n m kd lk ns w) {i j : Nat} (hi : i < n) (hj : j < n) (e : nu ns i ≠ nu ns j) : PS X n m kd (lk + 1) (joinN ns i j) w := by
  have hl : ∀ {x}, x < n → x < ns.length := fun hx => by rw [h.N.len]; exact hx
  refine ⟨h.N.join hi, h.nod, h.ones, fun k a b hk e => ?_, fun k a b hk e hn hX => ?_, ?_⟩
  · have x := h.star k a b hk e
    have kl := S.kid_lt hk e
    exact ⟨join_mono (hl hk) (hl (by omega)) x.1, join_mono (hl hk) (hl (by omega)) x.2⟩
  · have x := h.par k a b hk e hn hX
    have kl := S.kid_lt hk e
    exact ⟨join_mono (hl hk) (hl (by omega)) x.1, join_mono (hl (by omega)) (hl (by omega)) x.2⟩
  · intro hX
    have := cls_join h.N hi hj e
    have := h.cnt hX
    omega
theorem PS.parStep (S : Shape n m kd lt F tops) {lk : Nat} {ns w w' : List Nat} {k : Nat} (h : PS X n m kd lk ns w) (hw : w.Perm (k :: w')) (e1 : nu ns (kda kd k) = nu ns (kdb kd k)) (e2 : nu ns (kda kd k) ≠ nu ns k) : PS X n m kd lk (joinN ns (kda kd k) k) w' := by
  have h2 := h.perm hw
  have hk := h2.ones k List.mem_cons_self
  obtain ⟨a, b, e⟩ := isPar_iff.mp hk.2
  have ea := (kd_eta e).1
  have eb := (kd_eta e).2
  have kl := S.kid_lt hk.1 e
  have hl : ∀ {x}, x < n → x < ns.length := fun hx => by rw [h.N.len]; exact hx
  rw [ea, eb] at e1
  rw [ea] at e2 ⊢
  refine ⟨h.N.join (by omega), (List.nodup_cons.mp h2.nod).2, fun x hx => h2.ones x (List.mem_cons_of_mem _ hx), fun k a b hk e => ?_, fun k' a' b' hk' e' hn hX => ?_, ?_⟩
  · have x := h.star k a b hk e
    have kl := S.kid_lt hk e
    exact ⟨join_mono (hl hk) (hl (by omega)) x.1, join_mono (hl hk) (hl (by omega)) x.2⟩
  · by_cases q : k' = k
    · subst q
      rw [e] at e'
      cases e'
      exact ⟨(join_ends (hl (by omega)) (hl hk')).symm, join_mono (hl (by omega)) (hl (by omega)) e1⟩
    · have x := h2.par k' a' b' hk' e' (fun z => by
        rcases List.mem_cons.mp z with z | z
        · exact q z
        · exact hn z) hX
      have kl' := S.kid_lt hk' e'
      exact ⟨join_mono (hl hk') (hl (by omega)) x.1, join_mono (hl (by omega)) (hl (by omega)) x.2⟩
  · intro hX
    have := cls_join h.N (show a < n by omega) hk.1 e2
    have := h2.cnt hX
    simp only [List.length_cons] at this
    omega
theorem PS.settled (S : Shape n m kd lt F tops) {lk : Nat} {ns w : List Nat} (h : PS X n m kd lk ns w) : PS X n m kd lk (settle kd ns w).1 (settle kd ns w).2 :=
  settle_keeps (PS X n m kd lk) (fun _ _ _ _ h hw e1 e2 => h.parStep S hw e1 e2) (fun _ _ _ p h => h.perm p) w.length ns w (Nat.le_refl _) h
theorem PS.ws {lk : Nat} {ns w u : List Nat} (h : PS X n m kd lk ns w) (hu : u.Nodup) (hl : ∀ x, x ∈ u → x < n ∧ kd x = none) : Ws n kd w u := by
  refine ⟨h.nod, fun k hk => ?_, hu, hl⟩
  have := h.ones k hk
  refine ⟨this.1, fun e => ?_⟩
  obtain ⟨a, b, e'⟩ := isPar_iff.mp this.2
  rw [e] at e'
  cases e'
theorem J.settled (S : Shape n m kd lt F tops) {lk : Nat} {ns w u : List Nat} (h : PS X n m kd lk ns w) (hu : u.Nodup) (hl : ∀ x, x ∈ u → x < n ∧ kd x = none) (hj : J l F kd tops ns w u) : J l F kd tops (settle kd ns w).1 (settle kd ns w).2 u :=
  (settle_keeps (fun ns w => PS X n m kd lk ns w ∧ J l F kd tops ns w u) (fun _ _ k _ h hw e1 e2 => ⟨h.1.parStep S hw e1 e2, J.par S h.1.N (h.1.ws hu hl) h.2 hw (isPar_iff.mp (h.1.ones k (hw.mem_iff.mpr List.mem_cons_self)).2) e1 e2⟩)
    (fun _ _ _ p h => ⟨h.1.perm p, fun c hc => (h.2 c hc).perm (inP_perm ((p.flatMap_right _).append_left _)) (inP_perm (p.append_right _))⟩) w.length ns w (Nat.le_refl _) ⟨h, hj⟩).2
def endsL (lt : Nat → Nat) (L : List (Nat × Nat)) : List Nat := L.flatMap fun p => [lt p.1, lt p.2]
/-- pieces that come out are a proof's -/
theorem link_sound (S : Shape n m kd lt F tops) : ∀ (L : List (Nat × Nat)) (ns w : List Nat) (lk : Nat), PS X n m kd lk ns w → J l F kd tops ns w (endsL lt L) → (endsL lt L).Nodup → (∀ p, p ∈ L → p.1 < m ∧ p.2 < m ∧ l[p.1]? = some p.2 ∧ l[p.2]? = some p.1 ∧ p.1 ≠ p.2) →
    ∀ ns' w', linkAll kd lt (some (ns, w)) L = some (ns', w') → PS X n m kd (lk + L.length) ns' w' ∧ J l F kd tops ns' w' []
  | [], ns, w, lk, hp, hj, _, _, ns', w', e => by
    cases e
    exact ⟨hp, hj⟩
  | (i, j) :: L, ns, w, lk, hp, hj, hn, hl, ns', w', e => by
    obtain ⟨q1, q2, q3, q4, q5⟩ := hl (i, j) List.mem_cons_self
    have si := S.letter q1
    have sj := S.letter q2
    have e0 : endsL lt ((i, j) :: L) = lt i :: lt j :: endsL lt L := rfl
    rw [e0] at hj hn
    have hn2 := List.nodup_cons.mp hn
    have hn3 := List.nodup_cons.mp hn2.2
    have e1 : linkAll kd lt (some (ns, w)) ((i, j) :: L) = linkAll kd lt (addLine kd (ns, w) (lt i) (lt j)) L := rfl
    rw [e1] at e
    unfold addLine at e
    split at e
    · cases L <;> cases e
    · rename_i hne
      have lets : ∀ x, x ∈ endsL lt L → x < n ∧ kd x = none := by
        intro x hx
        obtain ⟨p, hp, hx⟩ := List.mem_flatMap.mp hx
        have := hl p (List.mem_cons_of_mem _ hp)
        simp only [List.mem_cons, List.not_mem_nil, or_false] at hx
        rcases hx with rfl | rfl
        · exact ⟨(S.letter this.1).1, (S.letter this.1).2.1⟩
        · exact ⟨(S.letter this.2.1).1, (S.letter this.2.1).2.1⟩
      have lets2 : ∀ x, x ∈ lt i :: lt j :: endsL lt L → x < n ∧ kd x = none := by
        intro x hx
        rcases List.mem_cons.mp hx with rfl | hx
        · exact ⟨si.1, si.2.1⟩
        · rcases List.mem_cons.mp hx with rfl | hx
          · exact ⟨sj.1, sj.2.1⟩
          · exact lets x hx
      have pr : Proof l [F (lt i), F (lt j)] := by
        rw [si.2.2, sj.2.2]
        exact .linked _ _ q3 q4 q5
      have p1 := hp.joinStep S si.1 sj.1 hne
      have j1 := J.link S hp.N (hp.ws hn lets2) hj (.refl _) pr hne
      have p2 := p1.settled S
      have j2 := J.settled S p1 hn3.2 lets j1
      have := link_sound S L _ _ (lk + 1) p2 j2 hn3.2 (fun p h => hl p (List.mem_cons_of_mem _ h)) ns' w' e
      rw [List.length_cons, show lk + (L.length + 1) = lk + 1 + L.length by omega]
      exact this
/-- coarser pieces -/
def Coarser (n : Nat) (ns ns' : List Nat) : Prop := ∀ i j, i < n → j < n → nu ns i = nu ns j → nu ns' i = nu ns' j
theorem settle_coarser (S : Shape n m kd lt F tops) {lk : Nat} {ns w : List Nat} (h : PS X n m kd lk ns w) : Coarser n ns (settle kd ns w).1 :=
  (settle_keeps (fun ns' w' => PS X n m kd lk ns' w' ∧ Coarser n ns ns') (fun ns1 _ _ _ h hw e1 e2 => ⟨h.1.parStep S hw e1 e2, fun i j hi hj e => join_mono (by rw [h.1.N.len]; exact hi) (by rw [h.1.N.len]; exact hj) (h.2 i j hi hj e)⟩)
    (fun _ _ _ p h => ⟨h.1.perm p, h.2⟩) w.length ns w (Nat.le_refl _) ⟨h, fun _ _ _ _ e => e⟩).2
/-- all lines drawn, whether they make a ring or not -/
theorem finishT (S : Shape n m kd lt F tops) : ∀ (L : List (Nat × Nat)) (ns w : List Nat) (lk : Nat), PS X n m kd lk ns w → Calm kd ns w → (∀ p, p ∈ L → p.1 < m ∧ p.2 < m) →
    ∃ ns' w' lk', PS X n m kd lk' ns' w' ∧ Calm kd ns' w' ∧ Coarser n ns ns' ∧ (∀ p, p ∈ L → nu ns' (lt p.1) = nu ns' (lt p.2)) ∧ lk' ≤ lk + L.length
  | [], ns, w, lk, h, hc, _ => ⟨ns, w, lk, h, hc, fun _ _ _ _ e => e, fun p hp => (List.not_mem_nil hp).elim, Nat.le_refl _⟩
  | (i, j) :: L, ns, w, lk, h, hc, hL => by
    have hij := hL (i, j) List.mem_cons_self
    have li := (S.letter hij.1).1
    have lj := (S.letter hij.2).1
    by_cases e : nu ns (lt i) = nu ns (lt j)
    · obtain ⟨ns', w', lk', a1, a2, a3, a4, a5⟩ := finishT S L ns w lk h hc fun p hp => hL p (List.mem_cons_of_mem _ hp)
      refine ⟨ns', w', lk', a1, a2, a3, fun p hp => ?_, by rw [List.length_cons]; omega⟩
      rcases List.mem_cons.mp hp with rfl | hp
      · exact a3 _ _ li lj e
      · exact a4 p hp
    · have p1 := h.joinStep S li lj e
      have p2 := p1.settled S
      have co := settle_coarser S p1
      obtain ⟨ns', w', lk', a1, a2, a3, a4, a5⟩ := finishT S L _ _ (lk + 1) p2 (settle_calm kd _ _ _ (Nat.le_refl _)) fun p hp => hL p (List.mem_cons_of_mem _ hp)
      refine ⟨ns', w', lk', a1, a2, fun x y hx hy q => a3 _ _ hx hy (co _ _ hx hy (join_mono (by rw [h.N.len]; exact hx) (by rw [h.N.len]; exact hy) q)), fun p hp => ?_, by rw [List.length_cons]; omega⟩
      rcases List.mem_cons.mp hp with rfl | hp
      · exact a3 _ _ li lj (co _ _ li lj (join_ends (by rw [h.N.len]; exact li) (by rw [h.N.len]; exact lj)))
      · exact a4 p hp
theorem calm_one (S : Shape n m kd lt F tops) {ns w : List Nat} {lk : Nat} (h : PS [] n m kd lk ns w) (hc : Calm kd ns w) (hl : ∀ p q, p < m → q < m → l[p]? = some q → nu ns (lt p) = nu ns (lt q)) (hp : Proof l (tops.map F)) (hn : 0 < n) : cls ns = 1 := by
  obtain ⟨c, hc⟩ := proof_all S (nf := nu ns) h.star (fun k a b hk e q => by
    by_cases hw : k ∈ w
    · have := hc k hw
      rw [(kd_eta e).1, (kd_eta e).2] at this
      exact (this q).symm
    · exact (h.par k a b hk e hw (by simp)).1) hl hp (fun f hf => by
      obtain ⟨t, ht, rfl⟩ := List.mem_map.mp hf
      exact ⟨t, S.top_lt ht, rfl⟩)
  refine (cls_one h.N hn).mpr fun i j hi hj => ?_
  rw [hc i hi (S.all_in n i hi (by omega)), hc j hj (S.all_in n j hj (by omega))]
/-- a proof's links come out as one piece -/
theorem link_complete (S : Shape n m kd lt F tops) (hn : 0 < n) (hp : Proof l (tops.map F)) : ∀ (L : List (Nat × Nat)) (ns w : List Nat) (lk : Nat), PS [] n m kd lk ns w → Calm kd ns w → (∀ p, p ∈ L → p.1 < m ∧ p.2 < m) → 2 * (lk + L.length) = m →
    (∀ p q, p < m → q < m → l[p]? = some q → nu ns (lt p) = nu ns (lt q) ∨ (p, q) ∈ L ∨ (q, p) ∈ L) → isP (linkAll kd lt (some (ns, w)) L) = true
  | [], ns, w, lk, h, hc, _, hm, hl => by
    have c1 := calm_one S h hc (fun p q a b c => by
      rcases hl p q a b c with z | z | z
      · exact z
      · exact (List.not_mem_nil z).elim
      · exact (List.not_mem_nil z).elim) hp hn
    have c2 := S.proof_count hp
    have c3 := h.cnt rfl
    simp only [List.length_nil] at hm
    refine (isP_iff h.N hn).mpr ⟨List.length_eq_zero_iff.mp (by omega), c1⟩
  | (i, j) :: L, ns, w, lk, h, hc, hL, hm, hl => by
    have hij := hL (i, j) List.mem_cons_self
    have li := (S.letter hij.1).1
    have lj := (S.letter hij.2).1
    have e1 : linkAll kd lt (some (ns, w)) ((i, j) :: L) = linkAll kd lt (addLine kd (ns, w) (lt i) (lt j)) L := rfl
    rw [e1]
    unfold addLine
    by_cases e : nu ns (lt i) = nu ns (lt j)
    · exfalso
      obtain ⟨ns', w', lk', a1, a2, a3, a4, a5⟩ := finishT S L ns w lk h hc fun p hp => hL p (List.mem_cons_of_mem _ hp)
      have c1 := calm_one S a1 a2 (fun p q a b c => by
        rcases hl p q a b c with z | z | z
        · exact a3 _ _ (S.letter a).1 (S.letter b).1 z
        · rcases List.mem_cons.mp z with z | z
          · cases z
            exact a3 _ _ li lj e
          · exact a4 _ z
        · rcases List.mem_cons.mp z with z | z
          · cases z
            exact (a3 _ _ li lj e).symm
          · exact (a4 _ z).symm) hp hn
      have c2 := S.proof_count hp
      have c3 := a1.cnt rfl
      simp only [List.length_cons] at hm
      omega
    · rw [if_neg e]
      have p1 := h.joinStep S li lj e
      have p2 := p1.settled S
      have co := settle_coarser S p1
      refine link_complete S hn hp L _ _ (lk + 1) p2 (settle_calm kd _ _ _ (Nat.le_refl _)) (fun p hp => hL p (List.mem_cons_of_mem _ hp)) (by rw [List.length_cons] at hm; omega) fun p q a b c => ?_
      have lp := (S.letter a).1
      have lq := (S.letter b).1
      rcases hl p q a b c with z | z | z
      · exact Or.inl (co _ _ lp lq (join_mono (by rw [h.N.len]; exact lp) (by rw [h.N.len]; exact lq) z))
      · rcases List.mem_cons.mp z with z | z
        · cases z
          exact Or.inl (co _ _ li lj (join_ends (by rw [h.N.len]; exact li) (by rw [h.N.len]; exact lj)))
        · exact Or.inr (Or.inl z)
      · rcases List.mem_cons.mp z with z | z
        · cases z
          exact Or.inl (co _ _ li lj (join_ends (by rw [h.N.len]; exact li) (by rw [h.N.len]; exact lj))).symm
        · exact Or.inr (Or.inr z)
/-! ### the pairs of links -/
theorem filterMap_if {α β : Type} {p : α → Prop} [DecidablePred p] {g : α → β} : ∀ X : List α, (X.filterMap fun i => if p i then some (g i) else none) = (X.filter fun i => decide (p i)).map g
  | [] => rfl
  | x :: X => by
    by_cases h : p x
    · rw [List.filterMap_cons_some (b := g x) (by rw [if_pos h]), List.filter_cons_of_pos (by simpa using h), List.map_cons, filterMap_if X]
    · rw [List.filterMap_cons_none (by rw [if_neg h]), List.filter_cons_of_neg (by simpa using h), filterMap_if X]
theorem mem_pairs {p : Nat × Nat} : p ∈ pairs l ↔ p.1 < l.length ∧ p.1 < l.getD p.1 0 ∧ p.2 = l.getD p.1 0 := by
  unfold pairs
  rw [filterMap_if, List.mem_map]
  constructor
  · rintro ⟨i, hi, rfl⟩
    have := List.mem_filter.mp hi
    exact ⟨List.mem_range.mp this.1, of_decide_eq_true this.2, rfl⟩
  · rintro ⟨h1, h2, h3⟩
    refine ⟨p.1, List.mem_filter.mpr ⟨List.mem_range.mpr h1, decide_eq_true h2⟩, ?_⟩
    rw [← h3]
theorem Linked.flat (L : Linked m l) : ((pairs l).flatMap fun p => [p.1, p.2]).Perm (List.range m) := by
  have key : ∀ X : List Nat, X.Nodup → (∀ i, i ∈ X → i < m ∧ i < l.getD i 0) → (X.flatMap fun i => [i, l.getD i 0]).Nodup := by
    intro X
    induction X with
    | nil => intro _ _; exact List.nodup_nil
    | cons i X ih =>
      intro hn hx
      have h1 := hx i List.mem_cons_self
      have b1 := L.back h1.1
      rw [List.flatMap_cons]
      refine List.nodup_append.mpr ⟨List.nodup_cons.mpr ⟨fun z => by have := List.mem_singleton.mp z; omega, by simp⟩, ih (List.nodup_cons.mp hn).2 fun y hy => hx y (List.mem_cons_of_mem _ hy), fun a ha b hb e => ?_⟩
      subst e
      obtain ⟨k, hk, hb⟩ := List.mem_flatMap.mp hb
      have h2 := hx k (List.mem_cons_of_mem _ hk)
      have b2 := L.back h2.1
      have hne : k ≠ i := fun z => (List.nodup_cons.mp hn).1 (z ▸ hk)
      simp only [List.mem_cons, List.not_mem_nil, or_false] at ha hb
      rcases ha with rfl | rfl
      · rcases hb with q | q
        · exact hne q.symm
        · have := b2.2.2
          rw [← q] at this
          omega
      · rcases hb with q | q
        · have := b1.2.2
          rw [q] at this
          omega
        · have x1 := b1.2.2
          have x2 := b2.2.2
          rw [q] at x1
          omega
  have e : ((pairs l).flatMap fun p => [p.1, p.2]) = ((List.range l.length).filter fun i => decide (i < l.getD i 0)).flatMap fun i => [i, l.getD i 0] := by
    unfold pairs
    rw [filterMap_if, List.flatMap_map]
  rw [e]
  refine perm_of_nodup (key _ (List.nodup_range.filter _) fun i hi => ?_) List.nodup_range fun a => ?_
  · have := List.mem_filter.mp hi
    refine ⟨?_, of_decide_eq_true this.2⟩
    rw [← L.len]
    exact List.mem_range.mp this.1
  · rw [List.mem_flatMap, List.mem_range]
    constructor
    · rintro ⟨i, hi, ha⟩
      have h1 := List.mem_filter.mp hi
      have h2 := List.mem_range.mp h1.1
      rw [L.len] at h2
      have b := L.back h2
      simp only [List.mem_cons, List.not_mem_nil, or_false] at ha
      rcases ha with rfl | rfl
      · exact h2
      · exact b.1
    · intro ha
      have b := L.back ha
      by_cases q : a < l.getD a 0
      · exact ⟨a, List.mem_filter.mpr ⟨List.mem_range.mpr (by rw [L.len]; exact ha), decide_eq_true q⟩, by simp⟩
      · refine ⟨l.getD a 0, List.mem_filter.mpr ⟨List.mem_range.mpr (by rw [L.len]; exact b.1), decide_eq_true (by rw [b.2.2]; omega)⟩, ?_⟩
        rw [b.2.2]
        simp
theorem endsL_perm (L : Linked m l) : (letsL m lt).Perm (endsL lt (pairs l)) := by
  have h := (L.flat.map lt).symm
  unfold letsL endsL
  rw [List.map_flatMap] at h
  exact h
theorem Linked.half (L : Linked m l) : 2 * (pairs l).length = m := by
  have h := L.flat.length_eq
  rw [List.length_range] at h
  have : ∀ X : List (Nat × Nat), (X.flatMap fun p => [p.1, p.2]).length = 2 * X.length := by
    intro X
    induction X with
    | nil => rfl
    | cons p X ih =>
      rw [List.flatMap_cons, List.length_append, ih]
      simp
      omega
  rw [this] at h
  exact h
theorem start_calm (S : Shape n m kd lt F tops) {os : List Nat} (ho : (parsL n kd).Perm os) : Calm kd (startN kd n) os := by
  have h : Sta [] n kd F tops (letsL m lt) n (startN kd n) := Sta.all S (.refl _) n (Nat.le_refl n)
  intro k hk e
  obtain ⟨h1, h2⟩ := mem_parsL.mp (ho.mem_iff.mpr hk)
  obtain ⟨a, b, ek⟩ := isPar_iff.mp h2
  rw [(kd_eta ek).1, (kd_eta ek).2] at e
  have kl := S.kid_lt h1 ek
  have own : ∀ x, x = a ∨ x = b → nu (startN kd n) x = x := by
    intro x hx
    refine h.own x (by rcases hx with rfl | rfl <;> omega) fun k' hk' hs hx' => ?_
    have := S.uniq hk' h1 hx' ⟨true, a, b, ek, hx⟩
    subst this
    obtain ⟨a', b', e'⟩ := isStar_iff.mp hs
    rw [ek] at e'
    cases e'
  rw [own a (Or.inl rfl), own b (Or.inr rfl)] at e
  omega
/-- **the links are a proof just where all parts come to be one piece** -/
theorem pieces_main (S : Shape n m kd lt F tops) (hn : 0 < n) (L : Linked m l) {os : List Nat} (ho : (parsL n kd).Perm os) : isP (linkAll kd lt (some (startN kd n, os)) (pairs l)) = true ↔ Proof l (tops.map F) := by
  have hL : ∀ p, p ∈ pairs l → p.1 < m ∧ p.2 < m ∧ l[p.1]? = some p.2 ∧ l[p.2]? = some p.1 ∧ p.1 ≠ p.2 := by
    intro p hp
    obtain ⟨a, b, c⟩ := mem_pairs.mp hp
    rw [L.len] at a
    have x := L.back a
    rw [c]
    refine ⟨a, x.1, L.at_ a, ?_, by omega⟩
    rw [L.at_ x.1, x.2.2]
  have ps : PS [] n m kd 0 (startN kd n) os := PS.start S ho
  have nd : (endsL lt (pairs l)).Nodup := (endsL_perm L).nodup_iff.mp S.lets_nodup
  constructor
  · intro h
    cases e : linkAll kd lt (some (startN kd n, os)) (pairs l) with
    | none =>
      rw [e] at h
      cases h
    | some v =>
      obtain ⟨ns', w'⟩ := v
      rw [e] at h
      obtain ⟨a, b⟩ := link_sound S (pairs l) _ _ 0 ps (J.start S ho (endsL_perm L)) nd hL ns' w' e
      obtain ⟨h1, h2⟩ := (isP_iff a.N hn).mp h
      subst h1
      exact J.done S a.N b hn h2
  · intro h
    have hm := L.half
    refine link_complete S hn h (pairs l) _ _ 0 ps (start_calm S ho) (fun p hp => ⟨(hL p hp).1, (hL p hp).2.1⟩) (by omega) fun p q hp hq e => Or.inr ?_
    have x := L.back hp
    have e2 : q = l.getD p 0 := by
      rw [L.at_ hp] at e
      exact (Option.some.inj e).symm
    subst e2
    by_cases c : p < l.getD p 0
    · exact Or.inl (mem_pairs.mpr ⟨by rw [L.len]; exact hp, c, rfl⟩)
    · refine Or.inr (mem_pairs.mpr ⟨by rw [L.len]; exact hq, ?_, x.2.2.symm⟩)
      show l.getD p 0 < l.getD (l.getD p 0) 0
      rw [x.2.2]
      omega
end
end Lk
end
section
set_option maxHeartbeats 1000000
namespace Lk
open Md26
/-! ### trees: as many lines as pieces less one, and of one piece -/
section
variable {n : Nat} {ns : List Nat} {g g' : List (Nat × Nat)}
end
/-! ### choices -/
section
variable {X : List Nat} {n m : Nat} {kd : Nat → Option (Bool × Nat × Nat)} {lt : Nat → Nat} {F : Nat → Form} {tops : List Nat} {l : Links}
theorem PS.kids (S : Shape n m kd lt F tops) {lk : Nat} {ns w : List Nat} (h : PS X n m kd lk ns w) {k : Nat} (hk : k ∈ w) : k < n ∧ kda kd k < n ∧ kdb kd k < n := by
  obtain ⟨h1, h2⟩ := h.ones k hk
  obtain ⟨a, b, e⟩ := isPar_iff.mp h2
  have := S.kid_lt h1 e
  rw [(kd_eta e).1, (kd_eta e).2]
  omega
theorem linkAll_none (kd : Nat → Option (Bool × Nat × Nat)) (lt : Nat → Nat) (L : List (Nat × Nat)) : linkAll kd lt none L = none := by
  cases L <;> rfl
/-! ### where nothing can be joined, some choice's graph is no tree -/
open Classical in
end
end Lk
end
section
set_option maxHeartbeats 1000000
namespace Lk
open Md26
/-! ### the specification's trees -/
/-! ### parts by the specification's numbers -/
end Lk
end
section
set_option maxHeartbeats 1000000
namespace Lk
open Md26
section
variable {X : List Nat} {n m : Nat} {kd : Nat → Option (Bool × Nat × Nat)} {lt : Nat → Nat} {F : Nat → Form} {tops : List Nat} {l : Links}
/-! ### all lines of a choice's graph, by parts -/
end
end Lk
end
section
set_option maxHeartbeats 1000000
namespace Lk
open Md26
/-! ### the first choice whose graph is no tree -/
/-- the withs in their order -/
structure On (n : Nat) (F : Nat → Form) (os : List Nat) : Prop where
  at_ : ∀ j k, os[j]? = some k → k < n ∧ ∃ f g, F k = .with_ j f g
  all : ∀ k j f g, k < n → F k = .with_ j f g → os[j]? = some k
section
variable {X : List Nat} {n m : Nat} {kd : Nat → Option (Bool × Nat × Nat)} {lt : Nat → Nat} {F : Nat → Form} {tops : List Nat} {l : Links}
theorem On.nodup {os : List Nat} (O : On n F os) : os.Nodup := by
  refine List.pairwise_iff_getElem.mpr fun i j hi hj hij e => ?_
  obtain ⟨_, f, g, e1⟩ := O.at_ j os[j] (List.getElem?_eq_getElem hj)
  obtain ⟨_, f', g', e2⟩ := O.at_ i os[i] (List.getElem?_eq_getElem hi)
  rw [e, e1] at e2
  cases e2
  omega
theorem On.perm (S : Shape n m kd lt F tops) {os : List Nat} (O : On n F os) : (parsL n kd).Perm os := by
  refine perm_of_nodup (parsL_nodup _ _) O.nodup fun k => ?_
  rw [mem_parsL]
  constructor
  · rintro ⟨h1, h2⟩
    obtain ⟨a, b, e⟩ := isPar_iff.mp h2
    rcases S.comp h1 e with ⟨_, j, z⟩ | ⟨z, _⟩
    · exact List.mem_of_getElem? (O.all k j _ _ h1 z)
    · cases z
  · intro h
    obtain ⟨j, hj, e⟩ := List.getElem_of_mem h
    obtain ⟨h1, f, g, e1⟩ := O.at_ j k (by rw [List.getElem?_eq_getElem hj, e])
    obtain ⟨a, b, e2, _⟩ := S.with_ix h1 e1
    exact ⟨h1, isPar_iff.mpr ⟨a, b, e2⟩⟩
end
end Lk
end
section
set_option maxHeartbeats 1000000
namespace Lk
open Md26
/-! ### links -/
theorem links_iff (r : Row) (l : Links) : links r l = true ↔ l.length = r.letters.length ∧ ∀ i, i < l.length → l.getD i 0 < l.length ∧ l.getD i 0 ≠ i ∧ l.getD (l.getD i 0) 0 = i ∧ turned (r.letters.getD i 0) (r.letters.getD (l.getD i 0) 0) = true := by
  unfold links
  rw [Bool.and_eq_true, beq_iff_eq, List.all_eq_true]
  simp only [List.mem_range, Bool.and_eq_true, decide_eq_true_eq, bne_iff_ne, beq_iff_eq, ne_eq]
theorem links_linked {r : Row} {l : Links} (h : links r l = true) : Linked r.letters.length l := by
  obtain ⟨h1, h2⟩ := (links_iff r l).mp h
  refine ⟨h1, fun {p} hp => ?_⟩
  rw [← h1] at hp ⊢
  obtain ⟨a, b, c, _⟩ := h2 p hp
  exact ⟨a, b, c⟩
/-- the text is read as r, its parts are s, their formulas fl, its withs os -/
structure Good (r : Row) (s : RS) (fl : List Form) (os : List Nat) : Prop where
  rd : Rd s fl r.letters s.tops
  forms : s.tops.map (FOf fl) = r.forms
  ne : s.tops ≠ []
  few : r.letters.length ≤ 16
  places : pl r.forms = List.range r.letters.length
  ones : s.ones = os.map some
  on : On s.parts.length (FOf fl) os
  wl : r.withs = os.length
section
variable {r : Row} {s : RS} {fl : List Form} {os : List Nat}
theorem Good.shape (G : Good r s fl os) : Shape s.parts.length s.letters.length (kdOf s.parts) (ltOf s.letters) (FOf fl) s.tops :=
  G.rd.inv.shape (by rw [G.forms, G.places, G.rd.lls])
theorem Good.pos (G : Good r s fl os) : 0 < s.parts.length := by
  cases e : s.tops with
  | nil => exact (G.ne e).elim
  | cons t q =>
    have := G.shape.top_lt (show t ∈ s.tops by rw [e]; exact List.mem_cons_self)
    omega
end
theorem somes : ∀ (l : List (Option Nat)), (∀ j : Nat, l[j]? ≠ some none) → l = (l.filterMap id).map some
  | [], _ => rfl
  | none :: l, h => (h 0 rfl).elim
  | some x :: l, h => by
    show some x :: l = some x :: (l.filterMap id).map some
    rw [← somes l fun j => h (j + 1)]
theorem good_of (b : List Nat) : match Md26.read b with
    | none => ends s0 b = none
    | some r => ∃ s fl os, ends s0 b = some s ∧ Good r s fl os := by
  have h := read_ok b
  cases e : Md26.read b with
  | none =>
    rw [e] at h
    exact h
  | some r =>
    rw [e] at h
    obtain ⟨s, fl, a1, a2, o, br, a3, a4, a5, a6⟩ := h
    have e1 := somes s.ones fun j q => by
      have := (o.opn j).mp q
      rw [br] at this
      exact List.not_mem_nil this
    refine ⟨s, fl, s.ones.filterMap id, a1, a2, a3, a4, a5, a6, e1, ⟨fun j k q => ?_, fun k j f g hk q => ?_⟩, ?_⟩
    · have : s.ones[j]? = some (some k) := by
        rw [e1, List.getElem?_map, q]
        rfl
      have x := o.at_ j k this
      rw [a2.len] at x
      exact x
    · have := o.all k j f g (by rw [a2.len]; exact hk) q
      rw [e1, List.getElem?_map] at this
      cases z : (s.ones.filterMap id)[j]? with
      | none =>
        rw [z] at this
        cases this
      | some v =>
        rw [z] at this
        cases this
        rfl
    · have := congrArg List.length e1
      rw [List.length_map] at this
      rw [← this, o.len]
section
variable {r : Row} {s : RS} {fl : List Form} {os : List Nat}
/-- pieces of the text with these links -/
def piecesOf (s : RS) (os : List Nat) (l : Links) : Option (List Nat × List Nat) := linkAll (kdOf s.parts) (ltOf s.letters) (some (startN (kdOf s.parts) s.parts.length, os)) (pairs l)
theorem Good.linked (G : Good r s fl os) {l : Links} (L : links r l = true) : Linked s.letters.length l := by
  have := links_linked L
  rw [G.rd.lls] at this
  exact this
theorem Good.net (G : Good r s fl os) {l : Links} (L : links r l = true) : isP (piecesOf s os l) = proof l r.forms := by
  have h := pieces_main G.shape G.pos (G.linked L) (G.on.perm G.shape)
  rw [G.forms, ← proof_main] at h
  exact Bool.eq_iff_iff.mpr h
end
/-- what stands at a part -/
theorem Good.part {r : Row} {s : RS} {fl : List Form} {os : List Nat} (G : Good r s fl os) {k : Nat} (hk : k < s.parts.length) : (∃ c, s.parts[k]? = some (c, none) ∧ kdOf s.parts k = none) ∨ ∃ c a b, s.parts[k]? = some (c, some (a, b)) ∧ (c = 42 ∨ c = 124) ∧ kdOf s.parts k = some (c == 124, a, b) ∧ a < k ∧ b < k := by
  cases e : s.parts[k] with
  | mk c o =>
    have e1 : s.parts[k]? = some (c, o) := by rw [List.getElem?_eq_getElem hk, e]
    cases o with
    | none =>
      refine Or.inl ⟨c, e1, ?_⟩
      unfold kdOf
      rw [e1]
    | some v =>
      obtain ⟨a, b⟩ := v
      have e2 : kdOf s.parts k = some (c == 124, a, b) := by
        unfold kdOf
        rw [e1]
      have := G.shape.kid_lt hk e2
      exact Or.inr ⟨c, a, b, e1, G.rd.ops k c a b e1, e2, this.1, this.2.1⟩
end Lk
end
section
set_option maxHeartbeats 1000000
namespace Lk
open Md26
theorem run_app : ∀ (l m : List Nat) (s : RS), run s (l ++ m) = (run s l).bind fun s1 => run s1 m
  | [], m, s => rfl
  | c :: l, m, s => by
    show (match step s c with | none => none | some s1 => run s1 (l ++ m)) = ((match step s c with | none => none | some s1 => run s1 l)).bind fun s1 => run s1 m
    cases step s c with
    | none => rfl
    | some s1 => exact run_app l m s1
theorem take_snoc {α : Type} {l : List α} {i : Nat} {x : α} (h : l[i]? = some x) : l.take (i + 1) = l.take i ++ [x] := by
  rw [List.take_add_one, h]
  rfl
theorem run_one (s : RS) (c : Nat) : run s [c] = step s c := by
  show (match step s c with | none => none | some s1 => some s1) = _
  cases step s c <;> rfl
theorem run_take {bs : List Nat} {i c : Nat} {s : RS} (h : bs[i]? = some c) (e : run s0 (bs.take i) = some s) : run s0 (bs.take (i + 1)) = step s c := by
  rw [take_snoc h, run_app, e]
  exact run_one s c
theorem ends_bad {bs : List Nat} {i : Nat} (h : run s0 (bs.take i) = none) : ends s0 bs = none := by
  unfold ends
  have e : bs = bs.take i ++ bs.drop i := (List.take_append_drop i bs).symm
  rw [e, run_app, h]
  rfl
theorem ends_run {bs : List Nat} {s : RS} (h : run s0 bs = some s) : ends s0 bs = fin s := by
  unfold ends
  rw [h]
  rfl
/-- each byte lays one thing at most in a list -/
def Sm (s : RS) (k : Nat) : Prop := s.parts.length ≤ k ∧ s.letters.length ≤ k ∧ s.ones.length ≤ k ∧ s.brackets.length ≤ k
theorem sm_step {s s' : RS} {c k : Nat} (h : step s c = some s') (hs : Sm s k) : Sm s' (k + 1) := by
  obtain ⟨h1, h2, h3, h4⟩ := hs
  unfold step at h
  split at h
  · unfold begin_ at h
    split at h
    · split at h
      · cases h
        refine ⟨?_, ?_, ?_, ?_⟩ <;> simp <;> omega
      · cases h
    · split at h
      · split at h
        · cases h
          refine ⟨?_, ?_, ?_, ?_⟩ <;> simp <;> omega
        · cases h
      · cases h
  · unfold goOn at h
    split at h
    · split at h
      · cases h
        refine ⟨?_, ?_, ?_, ?_⟩ <;> simp <;> omega
      · cases h
    · split at h
      · cases h
        refine ⟨?_, ?_, ?_, ?_⟩
        · simp; omega
        · simp; omega
        · show (if c = 124 then s.ones ++ [none] else s.ones).length ≤ k + 1
          split <;> (try simp) <;> omega
        · simp; omega
      · cases h
    · rename_i o y z _
      split at h
      · cases h
        refine ⟨?_, ?_, ?_, ?_⟩
        · simp; omega
        · simp; omega
        · show (if o = 124 then s.ones.set z (some s.parts.length) else s.ones).length ≤ k + 1
          split <;> (try simp) <;> omega
        · simp; omega
      · cases h
/-- an open bracket with | knows a place of the ones -/
def BK (s : RS) : Prop := ∀ c x k, some (c, x, k) ∈ s.brackets → c = 124 → k < s.ones.length
theorem bk_zero : BK s0 := fun c x k h => by simp [s0] at h
theorem bk_step {s s' : RS} {c : Nat} (h : step s c = some s') (hs : BK s) : BK s' := by
  unfold step at h
  split at h
  · unfold begin_ at h
    split at h
    · split at h
      · cases h
        intro c' x k hm e
        have hm : some (c', x, k) ∈ s.brackets ++ [none] := hm
        rcases List.mem_append.mp hm with hm | hm
        · exact hs c' x k hm e
        · simp at hm
      · cases h
    · split at h
      · split at h
        · cases h
          exact hs
        · cases h
      · cases h
  · unfold goOn at h
    split at h
    · split at h
      · cases h
        exact hs
      · cases h
    · split at h
      · cases h
        intro c' x k hm e
        have hm : some (c', x, k) ∈ s.brackets.dropLast ++ [some (c, _, s.ones.length)] := hm
        have grow : s.ones.length ≤ (if c = 124 then s.ones ++ [none] else s.ones).length := by
          split <;> simp
        show k < (if c = 124 then s.ones ++ [none] else s.ones).length
        rcases List.mem_append.mp hm with hm | hm
        · have := hs c' x k (List.dropLast_subset _ hm) e
          omega
        · have := List.mem_singleton.mp hm
          cases this
          rw [if_pos e]
          simp
      · cases h
    · rename_i o y z _
      split at h
      · cases h
        intro c' x k hm e
        have hm : some (c', x, k) ∈ s.brackets.dropLast := hm
        show k < (if o = 124 then s.ones.set z (some s.parts.length) else s.ones).length
        have := hs c' x k (List.dropLast_subset _ hm) e
        split
        · rw [List.length_set]
          exact this
        · exact this
      · cases h
end Lk
end
section
set_option maxHeartbeats 1000000
namespace Lk
open Md26
/-! ### links from the left -/
def less (ps : List Nat) (q : Nat) : List Nat := ps.filter fun o => o != q
theorem less_len (ps : List Nat) (q : Nat) : (less ps q).length ≤ ps.length := List.length_filter_le _ _
theorem settle_eq (kd : Nat → Option (Bool × Nat × Nat)) (ns w : List Nat) : settle kd ns w = if (pass kd ns w).2.length < w.length then settle kd (pass kd ns w).1 (pass kd ns w).2 else pass kd ns w := by
  rw [settle]
  by_cases h : (pass kd ns w).2.length < w.length
  · rw [dif_pos h, if_pos h]
  · rw [dif_neg h, if_neg h]
/-- all ways of linking what is left: the first place with each that may be its own -/
def gen (tn : Nat → Nat → Bool) : List Nat → List (List (Nat × Nat))
  | [] => [[]]
  | p :: ps => (ps.filter (tn p)).flatMap fun q => (gen tn (less ps q)).map fun M => (p, q) :: M
termination_by ps => ps.length
decreasing_by
  have := less_len ps q
  simp only [List.length_cons]
  omega
theorem gen_nil (tn : Nat → Nat → Bool) : gen tn [] = [[]] := by
  rw [gen]
theorem gen_cons (tn : Nat → Nat → Bool) (p : Nat) (ps : List Nat) : gen tn (p :: ps) = (ps.filter (tn p)).flatMap fun q => (gen tn (less ps q)).map fun M => (p, q) :: M := by
  rw [gen]
def stepO (kd : Nat → Option (Bool × Nat × Nat)) (lt : Nat → Nat) (st : Option (List Nat × List Nat)) (p q : Nat) : Option (List Nat × List Nat) := st.bind fun s => addLine kd s (lt p) (lt q)
theorem linkAll_cons (kd : Nat → Option (Bool × Nat × Nat)) (lt : Nat → Nat) (st : Option (List Nat × List Nat)) (p q : Nat) (M : List (Nat × Nat)) : linkAll kd lt st ((p, q) :: M) = linkAll kd lt (stepO kd lt st p q) M := by
  cases st with
  | none => rw [linkAll_none]; exact (linkAll_none _ _ _).symm
  | some s => rfl
/-- how many ways come to a proof -/
def cnt (kd : Nat → Option (Bool × Nat × Nat)) (lt : Nat → Nat) (tn : Nat → Nat → Bool) (st : Option (List Nat × List Nat)) (ps : List Nat) : Nat := (gen tn ps).countP fun M => isP (linkAll kd lt st M)
/-- the first of them -/
def fnd (kd : Nat → Option (Bool × Nat × Nat)) (lt : Nat → Nat) (tn : Nat → Nat → Bool) (st : Option (List Nat × List Nat)) (ps : List Nat) : Option (List (Nat × Nat)) := (gen tn ps).find? fun M => isP (linkAll kd lt st M)
section
variable {kd : Nat → Option (Bool × Nat × Nat)} {lt : Nat → Nat} {tn : Nat → Nat → Bool}
theorem linkAll_nil (st : Option (List Nat × List Nat)) : linkAll kd lt st [] = st := by
  cases st <;> rfl
theorem cnt_nil (st : Option (List Nat × List Nat)) : cnt kd lt tn st [] = if isP st = true then 1 else 0 := by
  unfold cnt
  rw [gen_nil, List.countP_singleton, linkAll_nil]
theorem cnt_cons (st : Option (List Nat × List Nat)) (p : Nat) (ps : List Nat) : cnt kd lt tn st (p :: ps) = ((ps.filter (tn p)).map fun q => cnt kd lt tn (stepO kd lt st p q) (less ps q)).sum := by
  unfold cnt
  rw [gen_cons, List.countP_flatMap]
  congr 1
  refine List.map_congr_left fun q _ => ?_
  show List.countP _ ((gen tn (less ps q)).map fun M => (p, q) :: M) = _
  rw [List.countP_map]
  refine List.countP_congr fun M _ => ?_
  show isP (linkAll kd lt st ((p, q) :: M)) = true ↔ _
  rw [linkAll_cons]
theorem fnd_nil (st : Option (List Nat × List Nat)) : fnd kd lt tn st [] = if isP st = true then some [] else none := by
  unfold fnd
  rw [gen_nil]
  by_cases h : isP st = true
  · rw [List.find?_cons_of_pos (by rw [linkAll_nil]; exact h), if_pos h]
  · rw [List.find?_cons_of_neg (by rw [linkAll_nil]; exact h), if_neg h]
    rfl
theorem fnd_cons (st : Option (List Nat × List Nat)) (p : Nat) (ps : List Nat) : fnd kd lt tn st (p :: ps) = (ps.filter (tn p)).findSome? fun q => (fnd kd lt tn (stepO kd lt st p q) (less ps q)).map fun M => (p, q) :: M := by
  unfold fnd
  rw [gen_cons, List.find?_flatMap]
  congr 1
  funext q
  rw [List.find?_map]
  congr 1
  congr 1
  funext M
  show isP (linkAll kd lt st ((p, q) :: M)) = _
  rw [linkAll_cons]
theorem dead_none : ∀ M, isP (linkAll kd lt none M) = false := fun M => by
  rw [linkAll_none]
  rfl
end
/-! ### rings that no link can mend -/
def hasRing (kd : Nat → Option (Bool × Nat × Nat)) (ns w : List Nat) : Bool := w.any fun k => decide (nu ns k = nu ns (kda kd k)) || decide (nu ns k = nu ns (kdb kd k))
section
variable {X : List Nat} {n m : Nat} {kd : Nat → Option (Bool × Nat × Nat)} {lt : Nat → Nat} {F : Nat → Form} {tops : List Nat} {l : Links}
theorem ring_dead {k : Nat} (hk : k < n ∧ kda kd k < n ∧ kdb kd k < n) : ∀ (M : List (Nat × Nat)) (ns w : List Nat), Nm n ns → (∀ x, x ∈ w → kda kd x < n) → (∀ p, p ∈ M → lt p.1 < n) → k ∈ w → (nu ns k = nu ns (kda kd k) ∨ nu ns k = nu ns (kdb kd k)) → isP (linkAll kd lt (some (ns, w)) M) = false
  | [], ns, w, N, _, _, hw, _ => by
    show (w.isEmpty && _) = false
    cases w with
    | nil => exact (List.not_mem_nil hw).elim
    | cons a b => rfl
  | (i, j) :: M, ns, w, N, hW, hM, hw, h => by
    show isP (linkAll kd lt (addLine kd (ns, w) (lt i) (lt j)) M) = false
    unfold addLine
    split
    · rw [linkAll_none]
      rfl
    · have li := hM (i, j) List.mem_cons_self
      have mono : ∀ {ns : List Nat} {x y : Nat}, Nm n ns → (nu ns k = nu ns (kda kd k) ∨ nu ns k = nu ns (kdb kd k)) → (nu (joinN ns x y) k = nu (joinN ns x y) (kda kd k) ∨ nu (joinN ns x y) k = nu (joinN ns x y) (kdb kd k)) := by
        intro ns x y N h
        rcases h with h | h
        · exact Or.inl (join_mono (by rw [N.len]; exact hk.1) (by rw [N.len]; exact hk.2.1) h)
        · exact Or.inr (join_mono (by rw [N.len]; exact hk.1) (by rw [N.len]; exact hk.2.2) h)
      have key := settle_keeps (kd := kd) (fun ns w => Nm n ns ∧ (∀ x, x ∈ w → kda kd x < n) ∧ k ∈ w ∧ (nu ns k = nu ns (kda kd k) ∨ nu ns k = nu ns (kdb kd k))) (fun ns1 w1 k1 w2 h1 hp e1 e2 => by
          obtain ⟨a1, a2, a3, a4⟩ := h1
          refine ⟨a1.join (a2 k1 (hp.mem_iff.mpr List.mem_cons_self)), fun x hx => a2 x (hp.mem_iff.mpr (List.mem_cons_of_mem _ hx)), ?_, mono a1 a4⟩
          rcases List.mem_cons.mp (hp.mem_iff.mp a3) with q | q
          · subst q
            rcases a4 with a4 | a4
            · exact (e2 a4.symm).elim
            · rw [← e1] at a4
              exact (e2 a4.symm).elim
          · exact q) (fun _ _ _ p h1 => ⟨h1.1, fun x hx => h1.2.1 x (p.mem_iff.mpr hx), p.mem_iff.mp h1.2.2.1, h1.2.2.2⟩) w.length (joinN ns (lt i) (lt j)) w (Nat.le_refl _) ⟨N.join li, hW, hw, mono N h⟩
      exact ring_dead hk M _ _ key.1 key.2.1 (fun p hp => hM p (List.mem_cons_of_mem _ hp)) key.2.2.1 key.2.2.2
/-! ### states that go on in the same ways -/
def Sim (E : Nat → Prop) (ns ns' : List Nat) : Prop := ∀ e e', E e → E e' → (nu ns e = nu ns e' ↔ nu ns' e = nu ns' e')
theorem join_iff {ns : List Nat} {i j k k' : Nat} (hi : i < ns.length) (hj : j < ns.length) (hk : k < ns.length) (hk' : k' < ns.length) : nu (joinN ns i j) k = nu (joinN ns i j) k' ↔ nu ns k = nu ns k' ∨ (nu ns k = nu ns i ∧ nu ns k' = nu ns j) ∨ (nu ns k = nu ns j ∧ nu ns k' = nu ns i) := by
  constructor
  · exact join_inv hk hk'
  · rintro (h | ⟨h1, h2⟩ | ⟨h1, h2⟩)
    · exact join_mono hk hk' h
    · rw [join_mono hk hi h1, join_mono hk' hj h2, join_ends hi hj]
    · rw [join_mono hk hj h1, join_mono hk' hi h2, join_ends hi hj]
theorem Sim.join {E : Nat → Prop} {ns ns' : List Nat} (h : Sim E ns ns') (hE : ∀ e, E e → e < n) (N : Nm n ns) (N' : Nm n ns') {i j : Nat} (hi : E i) (hj : E j) : Sim E (joinN ns i j) (joinN ns' i j) := by
  intro e e' he he'
  have b : ∀ {x}, E x → x < ns.length := fun hx => by rw [N.len]; exact hE _ hx
  have b' : ∀ {x}, E x → x < ns'.length := fun hx => by rw [N'.len]; exact hE _ hx
  rw [join_iff (b hi) (b hj) (b he) (b he'), join_iff (b' hi) (b' hj) (b' he) (b' he'), h e e' he he', h e i he hi, h e' j he' hj, h e j he hj, h e' i he' hi]
theorem Sim.pass {E : Nat → Prop} (hE : ∀ e, E e → e < n) : ∀ (w ns ns' : List Nat), Sim E ns ns' → Nm n ns → Nm n ns' → (∀ k, k ∈ w → E k ∧ E (kda kd k) ∧ E (kdb kd k)) →
    (Lk.pass kd ns w).2 = (Lk.pass kd ns' w).2 ∧ Sim E (Lk.pass kd ns w).1 (Lk.pass kd ns' w).1 ∧ Nm n (Lk.pass kd ns w).1 ∧ Nm n (Lk.pass kd ns' w).1
  | [], ns, ns', h, N, N', _ => ⟨rfl, h, N, N'⟩
  | k :: w, ns, ns', h, N, N', hw => by
    obtain ⟨h1, h2, h3⟩ := hw k List.mem_cons_self
    have hw' : ∀ k, k ∈ w → E k ∧ E (kda kd k) ∧ E (kdb kd k) := fun x hx => hw x (List.mem_cons_of_mem _ hx)
    unfold Lk.pass
    by_cases c : nu ns (kda kd k) = nu ns (kdb kd k) ∧ nu ns (kda kd k) ≠ nu ns k
    · have c' : nu ns' (kda kd k) = nu ns' (kdb kd k) ∧ nu ns' (kda kd k) ≠ nu ns' k := by
        rw [ne_eq, ← h _ _ h2 h3, ← h _ _ h2 h1]
        exact c
      rw [if_pos c, if_pos c']
      exact Sim.pass hE w _ _ (h.join hE N N' h2 h1) (N.join (hE _ h2)) (N'.join (hE _ h2)) hw'
    · have c' : ¬ (nu ns' (kda kd k) = nu ns' (kdb kd k) ∧ nu ns' (kda kd k) ≠ nu ns' k) := by
        rw [ne_eq, ← h _ _ h2 h3, ← h _ _ h2 h1]
        exact c
      rw [if_neg c, if_neg c']
      obtain ⟨a, b⟩ := Sim.pass hE w ns ns' h N N' hw'
      exact ⟨by rw [a], b⟩
theorem pass_sub (kd : Nat → Option (Bool × Nat × Nat)) : ∀ (w ns : List Nat) (x : Nat), x ∈ (Lk.pass kd ns w).2 → x ∈ w
  | [], _, x, h => h
  | k :: w, ns, x, h => by
    unfold Lk.pass at h
    split at h
    · exact List.mem_cons_of_mem _ (pass_sub kd w _ x h)
    · rcases List.mem_cons.mp h with rfl | h
      · exact List.mem_cons_self
      · exact List.mem_cons_of_mem _ (pass_sub kd w _ x h)
theorem Sim.settle {E : Nat → Prop} (hE : ∀ e, E e → e < n) : ∀ (k : Nat) (w ns ns' : List Nat), w.length ≤ k → Sim E ns ns' → Nm n ns → Nm n ns' → (∀ k, k ∈ w → E k ∧ E (kda kd k) ∧ E (kdb kd k)) →
    (Lk.settle kd ns w).2 = (Lk.settle kd ns' w).2 ∧ Sim E (Lk.settle kd ns w).1 (Lk.settle kd ns' w).1 ∧ Nm n (Lk.settle kd ns w).1 ∧ Nm n (Lk.settle kd ns' w).1 ∧ ∀ x, x ∈ (Lk.settle kd ns w).2 → x ∈ w := by
  intro k
  induction k with
  | zero =>
    intro w ns ns' hk h N N' hw
    obtain ⟨a, b, c, d⟩ := Sim.pass hE w ns ns' h N N' hw
    rw [settle_eq kd ns w, if_neg (by omega), settle_eq kd ns' w, if_neg (by omega)]
    exact ⟨a, b, c, d, pass_sub kd w ns⟩
  | succ k ih =>
    intro w ns ns' hk h N N' hw
    obtain ⟨a, b, c, d⟩ := Sim.pass hE w ns ns' h N N' hw
    rw [settle_eq kd ns w, settle_eq kd ns' w]
    by_cases q : (Lk.pass kd ns w).2.length < w.length
    · rw [if_pos q, if_pos (by rw [← a]; exact q), ← a]
      obtain ⟨x1, x2, x3, x4, x5⟩ := ih _ _ _ (by omega) b c d fun x hx => hw x (pass_sub kd w ns x hx)
      exact ⟨x1, x2, x3, x4, fun x hx => pass_sub kd w ns x (x5 x hx)⟩
    · rw [if_neg q, if_neg (by rw [← a]; exact q)]
      exact ⟨a, b, c, d, pass_sub kd w ns⟩
/-- two states run alike -/
theorem sim_run (S : Shape n m kd lt F tops) {E : Nat → Prop} (hE : ∀ e, E e → e < n) : ∀ (M : List (Nat × Nat)) (ns ns' w : List Nat) (lk : Nat), Sim E ns ns' → PS [] n m kd lk ns w → PS [] n m kd lk ns' w → (∀ k, k ∈ w → E k ∧ E (kda kd k) ∧ E (kdb kd k)) →
    (∀ p, p ∈ M → p.1 < m ∧ p.2 < m ∧ E (lt p.1) ∧ E (lt p.2)) → 0 < n → isP (linkAll kd lt (some (ns, w)) M) = isP (linkAll kd lt (some (ns', w)) M)
  | [], ns, ns', w, lk, _, h, h', _, _, hn => by
    have e : cls ns = cls ns' := by
      have a := h.cnt rfl
      have b := h'.cnt rfl
      omega
    show isP (some (ns, w)) = isP (some (ns', w))
    rw [Bool.eq_iff_iff, isP_iff h.N hn, isP_iff h'.N hn, e]
  | (i, j) :: M, ns, ns', w, lk, s, h, h', hw, hM, hn => by
    obtain ⟨hi, hj, ei, ej⟩ := hM (i, j) List.mem_cons_self
    have li := (S.letter hi).1
    have lj := (S.letter hj).1
    show isP (linkAll kd lt (addLine kd (ns, w) (lt i) (lt j)) M) = isP (linkAll kd lt (addLine kd (ns', w) (lt i) (lt j)) M)
    unfold addLine
    by_cases c : nu ns (lt i) = nu ns (lt j)
    · rw [if_pos c, if_pos ((s _ _ ei ej).mp c)]
    · have c' : ¬ nu ns' (lt i) = nu ns' (lt j) := fun z => c ((s _ _ ei ej).mpr z)
      rw [if_neg c, if_neg c']
      have p1 := (h.joinStep S li lj c)
      have p2 := (h'.joinStep S li lj c')
      obtain ⟨x1, x2, x3, x4, x5⟩ := Sim.settle (kd := kd) hE w.length w _ _ (Nat.le_refl _) (s.join hE h.N h'.N ei ej) p1.N p2.N hw
      have q1 := p1.settled S
      have q2 := p2.settled S
      rw [← x1] at q2
      have := sim_run S hE M _ _ _ (lk + 1) x2 q1 q2 (fun k hk => hw k (x5 k hk)) (fun p hp => hM p (List.mem_cons_of_mem _ hp)) hn
      rw [show (Lk.settle kd (joinN ns (lt i) (lt j)) w) = ((Lk.settle kd (joinN ns (lt i) (lt j)) w).1, (Lk.settle kd (joinN ns (lt i) (lt j)) w).2) from rfl, this]
      rw [x1]
/-! ### keys -/
def endsK (kd : Nat → Option (Bool × Nat × Nat)) (lt : Nat → Nat) (ps w : List Nat) : List Nat := ps.map lt ++ w.flatMap fun k => [k, kda kd k, kdb kd k]
def firstE (ns E : List Nat) (e : Nat) : Nat := (E.find? fun x => nu ns x == nu ns e).getD 0
def keyL (kd : Nat → Option (Bool × Nat × Nat)) (lt : Nat → Nat) (ns ps w : List Nat) : List Nat := endsK kd lt ps w ++ (endsK kd lt ps w).map (firstE ns (endsK kd lt ps w))
theorem firstE_num {ns E : List Nat} {e : Nat} (h : e ∈ E) : nu ns (firstE ns E e) = nu ns e := by
  unfold firstE
  cases q : E.find? fun x => nu ns x == nu ns e with
  | none =>
    have := List.find?_eq_none.mp q e h
    simp at this
  | some v => simpa using List.find?_some q
theorem firstE_iff {ns E : List Nat} {e e' : Nat} (h : e ∈ E) (h' : e' ∈ E) : firstE ns E e = firstE ns E e' ↔ nu ns e = nu ns e' := by
  constructor
  · intro q
    rw [← firstE_num h, ← firstE_num h', q]
  · intro q
    unfold firstE
    rw [q]
theorem keyL_inj {ns ns' ps ps' w w' : List Nat} (hp : ∀ p, p ∈ ps → kd (lt p) = none) (hp' : ∀ p, p ∈ ps' → kd (lt p) = none) (hw : ∀ k, k ∈ w → kd k ≠ none) (hw' : ∀ k, k ∈ w' → kd k ≠ none) (hl : ∀ p q, p ∈ ps → q ∈ ps' → lt p = lt q → p = q)
    (h : keyL kd lt ns ps w = keyL kd lt ns' ps' w') : ps = ps' ∧ w = w' ∧ ∀ e e', e ∈ endsK kd lt ps w → e' ∈ endsK kd lt ps w → (nu ns e = nu ns e' ↔ nu ns' e = nu ns' e') := by
  have hlen : (endsK kd lt ps w).length = (endsK kd lt ps' w').length := by
    have := congrArg List.length h
    unfold keyL at this
    simp only [List.length_append, List.length_map] at this
    omega
  obtain ⟨e1, e2⟩ := List.append_inj h hlen
  have tw : ∀ (ps w : List Nat), (∀ p, p ∈ ps → kd (lt p) = none) → (∀ k, k ∈ w → kd k ≠ none) → (endsK kd lt ps w).takeWhile (fun x => (kd x).isNone) = ps.map lt := by
    intro ps w h1 h2
    unfold endsK
    rw [List.takeWhile_append_of_pos]
    · have : (w.flatMap fun k => [k, kda kd k, kdb kd k]).takeWhile (fun x => (kd x).isNone) = [] := by
        cases w with
        | nil => rfl
        | cons k w =>
          show (k :: _).takeWhile _ = []
          refine List.takeWhile_cons_of_neg ?_
          have := h2 k List.mem_cons_self
          cases q : kd k with
          | none => exact (this q).elim
          | some v => simp
      rw [this, List.append_nil]
    · intro x hx
      obtain ⟨p, hp, rfl⟩ := List.mem_map.mp hx
      rw [h1 p hp]
      rfl
  have e3 : ps.map lt = ps'.map lt := by
    rw [← tw ps w hp hw, ← tw ps' w' hp' hw', e1]
  have e4 : ps = ps' := by
    have : ∀ (a b : List Nat), (∀ p q, p ∈ a → q ∈ b → lt p = lt q → p = q) → a.map lt = b.map lt → a = b := by
      intro a
      induction a with
      | nil =>
        intro b _ q
        cases b with
        | nil => rfl
        | cons x b => cases q
      | cons x a ih =>
        intro b hh q
        cases b with
        | nil => cases q
        | cons y b =>
          rw [List.map_cons, List.map_cons] at q
          injection q with q1 q2
          rw [hh x y List.mem_cons_self List.mem_cons_self q1, ih b (fun p q hp hq => hh p q (List.mem_cons_of_mem _ hp) (List.mem_cons_of_mem _ hq)) q2]
    exact this ps ps' hl e3
  have e5 : w = w' := by
    unfold endsK at e1
    rw [e3] at e1
    have e1 := List.append_cancel_left e1
    have : ∀ (a b : List Nat), (a.flatMap fun k => [k, kda kd k, kdb kd k]) = (b.flatMap fun k => [k, kda kd k, kdb kd k]) → a = b := by
      intro a
      induction a with
      | nil =>
        intro b q
        cases b with
        | nil => rfl
        | cons x b => cases q
      | cons x a ih =>
        intro b q
        cases b with
        | nil => cases q
        | cons y b =>
          rw [List.flatMap_cons, List.flatMap_cons] at q
          injection q with q1 q2
          subst q1
          have q2 := List.append_cancel_left (as := [kda kd x, kdb kd x]) q2
          rw [ih b q2]
    exact this w w' e1
  subst e4
  subst e5
  refine ⟨rfl, rfl, fun e e' he he' => ?_⟩
  rw [← firstE_iff he he', ← firstE_iff (ns := ns') he he']
  have pt := List.map_inj_left.mp e2
  rw [pt e he, pt e' he']
/-- a state from which links go on: what is left, and what stands -/
structure Vs (n m : Nat) (kd : Nat → Option (Bool × Nat × Nat)) (lt : Nat → Nat) (ns w ps : List Nat) : Prop where
  st : ∃ lk, PS [] n m kd lk ns w ∧ 2 * lk + ps.length = m
  calm : Calm kd ns w
  lt_ : ∀ p, p ∈ ps → p < m
  nod : ps.Nodup
theorem gen_mem {tn : Nat → Nat → Bool} : ∀ (k : Nat) (ps : List Nat), ps.length ≤ k → ∀ M, M ∈ gen tn ps → ∀ p, p ∈ M → p.1 ∈ ps ∧ p.2 ∈ ps
  | _, [], _, M, h, p, hp => by
    rw [gen_nil] at h
    rw [List.mem_singleton.mp h] at hp
    exact (List.not_mem_nil hp).elim
  | 0, _ :: _, hk, _, _, _, _ => by simp at hk
  | k + 1, x :: ps, hk, M, h, p, hp => by
    rw [gen_cons] at h
    obtain ⟨q, hq, h⟩ := List.mem_flatMap.mp h
    obtain ⟨M', h', rfl⟩ := List.mem_map.mp h
    have hq := (List.mem_filter.mp hq).1
    rcases List.mem_cons.mp hp with rfl | hp
    · exact ⟨List.mem_cons_self, List.mem_cons_of_mem _ hq⟩
    · have hl := less_len ps q
      simp only [List.length_cons] at hk
      have := gen_mem k _ (by omega) M' h' p hp
      exact ⟨List.mem_cons_of_mem _ (List.mem_filter.mp this.1).1, List.mem_cons_of_mem _ (List.mem_filter.mp this.2).1⟩
/-- **the same key, the same ways on** -/
theorem key_same (S : Shape n m kd lt F tops) (hn : 0 < n) (tn : Nat → Nat → Bool) {ns ns' ps ps' w w' : List Nat} (V : Vs n m kd lt ns w ps) (V' : Vs n m kd lt ns' w' ps') (h : keyL kd lt ns ps w = keyL kd lt ns' ps' w') :
    cnt kd lt tn (some (ns, w)) ps = cnt kd lt tn (some (ns', w')) ps' ∧ fnd kd lt tn (some (ns, w)) ps = fnd kd lt tn (some (ns', w')) ps' := by
  obtain ⟨lk, p1, l1⟩ := V.st
  obtain ⟨lk', p2, l2⟩ := V'.st
  have hk : ∀ {lk : Nat} {ns w : List Nat}, PS [] n m kd lk ns w → ∀ k, k ∈ w → kd k ≠ none := by
    intro lk ns w p k hk e
    obtain ⟨a, b, q⟩ := isPar_iff.mp (p.ones k hk).2
    rw [e] at q
    cases q
  obtain ⟨e1, e2, e3⟩ := keyL_inj (fun p hp => (S.letter (V.lt_ p hp)).2.1) (fun p hp => (S.letter (V'.lt_ p hp)).2.1) (hk p1) (hk p2) (fun p q hp hq e => S.lt_inj (V.lt_ p hp) (V'.lt_ q hq) e) h
  subst e1
  subst e2
  have e4 : lk' = lk := by omega
  subst e4
  have hE : ∀ e, e ∈ endsK kd lt ps w → e < n := by
    intro e he
    rcases List.mem_append.mp he with he | he
    · obtain ⟨p, hp, rfl⟩ := List.mem_map.mp he
      exact (S.letter (V.lt_ p hp)).1
    · obtain ⟨k, hk, he⟩ := List.mem_flatMap.mp he
      have := p1.kids S hk
      simp only [List.mem_cons, List.not_mem_nil, or_false] at he
      rcases he with rfl | rfl | rfl
      · exact this.1
      · exact this.2.1
      · exact this.2.2
  have run : ∀ M, M ∈ gen tn ps → isP (linkAll kd lt (some (ns, w)) M) = isP (linkAll kd lt (some (ns', w)) M) := by
    intro M hM
    refine sim_run S (E := fun e => e ∈ endsK kd lt ps w) hE M ns ns' w lk' e3 p1 p2 (fun k hk => ?_) (fun p hp => ?_) hn
    · have : ∀ x, x ∈ [k, kda kd k, kdb kd k] → x ∈ endsK kd lt ps w := fun x hx => List.mem_append.mpr (Or.inr (List.mem_flatMap.mpr ⟨k, hk, hx⟩))
      exact ⟨this _ (by simp), this _ (by simp), this _ (by simp)⟩
    · obtain ⟨a, b⟩ := gen_mem ps.length ps (Nat.le_refl _) M hM p hp
      exact ⟨V.lt_ _ a, V.lt_ _ b, List.mem_append.mpr (Or.inl (List.mem_map.mpr ⟨_, a, rfl⟩)), List.mem_append.mpr (Or.inl (List.mem_map.mpr ⟨_, b, rfl⟩))⟩
  constructor
  · unfold cnt
    refine List.countP_congr fun M hM => ?_
    rw [run M hM]
  · unfold fnd
    have : ∀ X : List (List (Nat × Nat)), (∀ M, M ∈ X → isP (linkAll kd lt (some (ns, w)) M) = isP (linkAll kd lt (some (ns', w)) M)) → X.find? (fun M => isP (linkAll kd lt (some (ns, w)) M)) = X.find? (fun M => isP (linkAll kd lt (some (ns', w)) M)) := by
      intro X
      induction X with
      | nil => intro _; rfl
      | cons M X ih =>
        intro hX
        rw [List.find?_cons, List.find?_cons, hX M List.mem_cons_self, ih fun Y hY => hX Y (List.mem_cons_of_mem _ hY)]
    exact this _ run
end
end Lk
end
section
set_option maxHeartbeats 1000000
namespace Lk
open Md26
/-! ### rows of links, as the specification tells them -/
def mkL (base : List Nat) (M : List (Nat × Nat)) : List Nat := M.foldl (fun l p => (l.set p.1 p.2).set p.2 p.1) base
def unl (l : List Nat) : List Nat := (List.range l.length).filter fun i => l.getD i 0 == NONE
def tnR (r : Row) (i j : Nat) : Bool := turned (r.letters.getD i 0) (r.letters.getD j 0)
theorem unl_sorted (l : List Nat) : (unl l).Pairwise (· < ·) := List.pairwise_lt_range.filter _
theorem getD_set {l : List Nat} {i j a : Nat} (hi : i < l.length) : (l.set i a).getD j 0 = if i = j then a else l.getD j 0 := by
  rw [List.getD_eq_getElem?_getD, List.getD_eq_getElem?_getD, List.getElem?_set]
  by_cases h : i = j
  · rw [if_pos h, if_pos h, if_pos hi]
    rfl
  · rw [if_neg h, if_neg h]
theorem unl_set {l : List Nat} {p q : Nat} {ps : List Nat} (h : unl l = p :: ps) (hq : q ∈ ps) (hl : l.length ≤ 16) : unl ((l.set p q).set q p) = less ps q := by
  have mem : ∀ x, x ∈ p :: ps → x < l.length := fun x hx => by
    rw [← h] at hx
    exact List.mem_range.mp (List.mem_filter.mp hx).1
  have hp := mem p List.mem_cons_self
  have hq' := mem q (List.mem_cons_of_mem _ hq)
  have e1 : unl ((l.set p q).set q p) = (unl l).filter fun x => (x != p) && (x != q) := by
    unfold unl
    rw [List.filter_filter, List.length_set, List.length_set]
    refine List.filter_congr fun x _ => ?_
    rw [getD_set (by rw [List.length_set]; exact hq'), getD_set hp]
    by_cases a : q = x
    · subst a
      rw [if_pos rfl]
      have : (p == NONE) = false := by
        unfold NONE
        simp
        omega
      simp [this]
    · rw [if_neg a]
      by_cases b : p = x
      · subst b
        rw [if_pos rfl]
        have : (q == NONE) = false := by
          unfold NONE
          simp
          omega
        simp [this]
      · rw [if_neg b]
        have a' : x ≠ q := fun z => a z.symm
        have b' : x ≠ p := fun z => b z.symm
        simp [a', b']
  rw [e1, h]
  have srt := unl_sorted l
  rw [h] at srt
  have srt := List.pairwise_cons.mp srt
  rw [List.filter_cons_of_neg (by simp)]
  unfold less
  refine List.filter_congr fun x hx => ?_
  have := srt.1 x hx
  have : x ≠ p := by omega
  simp [this]
theorem links_gen (r : Row) : ∀ (k : Nat) (l : List Nat), l.length ≤ 16 → (unl l).length < k → linksFrom r k l = (gen (tnR r) (unl l)).map (mkL l) := by
  intro k
  induction k with
  | zero => intro l _ h; omega
  | succ k ih =>
    intro l hl hk
    have hf : (List.range l.length).find? (fun (i : Nat) => l.getD i 0 == NONE) = (unl l).head? := by
      unfold unl
      rw [List.head?_filter]
    unfold linksFrom
    rw [hf]
    cases h : unl l with
    | nil =>
      rw [gen_nil]
      rfl
    | cons p ps =>
      dsimp only [List.head?_cons]
      have srt := unl_sorted l
      rw [h] at srt
      have srt := List.pairwise_cons.mp srt
      have ej : ((List.range l.length).filter fun (j : Nat) => decide (p < j) && (l.getD j 0 == NONE && turned (r.letters.getD p 0) (r.letters.getD j 0))) = ps.filter (tnR r p) := by
        have e1 : ps = (unl l).filter fun j => decide (p < j) := by
          rw [h, List.filter_cons_of_neg (by simp), eq_comm, List.filter_eq_self]
          intro x hx
          exact decide_eq_true (srt.1 x hx)
        rw [e1]
        unfold unl
        rw [List.filter_filter, List.filter_filter]
        refine List.filter_congr fun j _ => ?_
        unfold tnR
        cases decide (p < j) <;> cases (l.getD j 0 == NONE) <;> cases turned (r.letters.getD p 0) (r.letters.getD j 0) <;> rfl
      rw [ej, gen_cons, List.map_flatMap]
      have : ∀ X : List Nat, (∀ q, q ∈ X → q ∈ ps) → (X.flatMap fun j => linksFrom r k ((l.set p j).set j p)) = X.flatMap fun q => ((gen (tnR r) (less ps q)).map fun M => (p, q) :: M).map (mkL l) := by
        intro X
        induction X with
        | nil => intro _; rfl
        | cons q X ihX =>
          intro hX
          rw [List.flatMap_cons, List.flatMap_cons, ihX fun y hy => hX y (List.mem_cons_of_mem _ hy)]
          congr 1
          have hq := hX q List.mem_cons_self
          have eu := unl_set h hq hl
          rw [ih _ (by rw [List.length_set, List.length_set]; exact hl) (by
            rw [eu]
            have := less_len ps q
            rw [h] at hk
            simp only [List.length_cons] at hk
            omega), eu, List.map_map]
          rfl
      exact this _ fun q hq => (List.mem_filter.mp hq).1
/-- a row of pairs that links all of ps -/
inductive Mt (tn : Nat → Nat → Bool) : List Nat → List (Nat × Nat) → Prop where
  | nil : Mt tn [] []
  | cons (p q : Nat) (ps : List Nat) (M : List (Nat × Nat)) : q ∈ ps → tn p q = true → Mt tn (less ps q) M → Mt tn (p :: ps) ((p, q) :: M)
theorem gen_mt {tn : Nat → Nat → Bool} : ∀ (k : Nat) (ps : List Nat), ps.length ≤ k → ∀ M, M ∈ gen tn ps → Mt tn ps M
  | _, [], _, M, h => by
    rw [gen_nil] at h
    rw [List.mem_singleton.mp h]
    exact .nil
  | 0, _ :: _, hk, _, _ => by simp at hk
  | k + 1, x :: ps, hk, M, h => by
    rw [gen_cons] at h
    obtain ⟨q, hq, h⟩ := List.mem_flatMap.mp h
    obtain ⟨M', h', rfl⟩ := List.mem_map.mp h
    have hq := List.mem_filter.mp hq
    have hl := less_len ps q
    simp only [List.length_cons] at hk
    exact .cons _ _ _ _ hq.1 hq.2 (gen_mt k _ (by omega) M' h')
theorem mem_less {ps : List Nat} {q x : Nat} : x ∈ less ps q ↔ x ∈ ps ∧ x ≠ q := by
  unfold less
  rw [List.mem_filter]
  simp
theorem Mt.facts {tn : Nat → Nat → Bool} {ps : List Nat} {M : List (Nat × Nat)} (h : Mt tn ps M) : ps.Pairwise (· < ·) →
    (∀ p, p ∈ M → p.1 ∈ ps ∧ p.2 ∈ ps ∧ p.1 < p.2 ∧ tn p.1 p.2 = true) ∧ (∀ x, x ∈ ps → ∃ p, p ∈ M ∧ (x = p.1 ∨ x = p.2)) ∧ M.Pairwise (fun a b => a.1 < b.1) ∧
    ∀ l : List Nat, (∀ x, x ∈ ps → x < l.length) → (mkL l M).length = l.length ∧ (∀ x, x ∉ ps → (mkL l M).getD x 0 = l.getD x 0) ∧ ∀ p, p ∈ M → (mkL l M).getD p.1 0 = p.2 ∧ (mkL l M).getD p.2 0 = p.1 := by
  induction h with
  | nil =>
    intro _
    exact ⟨fun p hp => (List.not_mem_nil hp).elim, fun x hx => (List.not_mem_nil hx).elim, .nil, fun l _ => ⟨rfl, fun _ _ => rfl, fun p hp => (List.not_mem_nil hp).elim⟩⟩
  | cons p q ps M hq ht hM ih =>
    intro srt
    have sc := List.pairwise_cons.mp srt
    obtain ⟨i1, i2, i3, i4⟩ := ih (sc.2.filter _)
    have hpq := sc.1 q hq
    refine ⟨?_, ?_, ?_, ?_⟩
    · intro e he
      rcases List.mem_cons.mp he with rfl | he
      · exact ⟨List.mem_cons_self, List.mem_cons_of_mem _ hq, hpq, ht⟩
      · obtain ⟨a, b, c, d⟩ := i1 e he
        exact ⟨List.mem_cons_of_mem _ (mem_less.mp a).1, List.mem_cons_of_mem _ (mem_less.mp b).1, c, d⟩
    · intro x hx
      rcases List.mem_cons.mp hx with rfl | hx
      · exact ⟨_, List.mem_cons_self, Or.inl rfl⟩
      · by_cases e : x = q
        · exact ⟨_, List.mem_cons_self, Or.inr e⟩
        · obtain ⟨y, hy, h⟩ := i2 x (mem_less.mpr ⟨hx, e⟩)
          exact ⟨y, List.mem_cons_of_mem _ hy, h⟩
    · refine List.pairwise_cons.mpr ⟨fun e he => ?_, i3⟩
      exact sc.1 _ (mem_less.mp (i1 e he).1).1
    · intro l hl
      have hp' := hl p List.mem_cons_self
      have hq' := hl q (List.mem_cons_of_mem _ hq)
      have hl' : ∀ x, x ∈ less ps q → x < ((l.set p q).set q p).length := fun x hx => by
        rw [List.length_set, List.length_set]
        exact hl x (List.mem_cons_of_mem _ (mem_less.mp hx).1)
      obtain ⟨j1, j2, j3⟩ := i4 _ hl'
      have e : mkL l ((p, q) :: M) = mkL ((l.set p q).set q p) M := rfl
      rw [e]
      have gs : ∀ x, ((l.set p q).set q p).getD x 0 = if q = x then p else if p = x then q else l.getD x 0 := fun x => by
        rw [getD_set (by rw [List.length_set]; exact hq'), getD_set hp']
      refine ⟨by rw [j1, List.length_set, List.length_set], fun x hx => ?_, fun y hy => ?_⟩
      · have n1 : q ≠ x := fun z => hx (by rw [← z]; exact List.mem_cons_of_mem _ hq)
        have n2 : p ≠ x := fun z => hx (by rw [← z]; exact List.mem_cons_self)
        rw [j2 x fun z => hx (List.mem_cons_of_mem _ (mem_less.mp z).1), gs, if_neg n1, if_neg n2]
      · rcases List.mem_cons.mp hy with rfl | hy
        · constructor
          · rw [j2 p fun z => by have := sc.1 p (mem_less.mp z).1; omega, gs, if_neg (by omega), if_pos rfl]
          · rw [j2 q fun z => (mem_less.mp z).2 rfl, gs, if_pos rfl]
        · exact j3 y hy
theorem sorted_eq : ∀ (a b : List (Nat × Nat)), a.Pairwise (fun x y => x.1 < y.1) → b.Pairwise (fun x y => x.1 < y.1) → (∀ x, x ∈ a ↔ x ∈ b) → a = b
  | [], [], _, _, _ => rfl
  | [], y :: b, _, _, h => (List.not_mem_nil ((h y).mpr List.mem_cons_self)).elim
  | x :: a, [], _, _, h => (List.not_mem_nil ((h x).mp List.mem_cons_self)).elim
  | x :: a, y :: b, ha, hb, h => by
    have ca := List.pairwise_cons.mp ha
    have cb := List.pairwise_cons.mp hb
    have e : x = y := by
      rcases List.mem_cons.mp ((h x).mp List.mem_cons_self) with q | q
      · exact q
      · rcases List.mem_cons.mp ((h y).mpr List.mem_cons_self) with r | r
        · exact r.symm
        · have := cb.1 x q
          have := ca.1 y r
          omega
    subst e
    rw [sorted_eq a b ca.2 cb.2 fun z => ?_]
    constructor
    · intro hz
      rcases List.mem_cons.mp ((h z).mp (List.mem_cons_of_mem _ hz)) with q | q
      · have := ca.1 z hz
        rw [q] at this
        omega
      · exact q
    · intro hz
      rcases List.mem_cons.mp ((h z).mpr (List.mem_cons_of_mem _ hz)) with q | q
      · have := cb.1 z hz
        rw [q] at this
        omega
      · exact q
theorem pairs_sorted (l : List Nat) : (pairs l).Pairwise (fun x y => x.1 < y.1) := by
  unfold pairs
  rw [filterMap_if]
  refine List.Pairwise.map _ (R := fun a b => a < b) (fun a b h => h) (List.pairwise_lt_range.filter _)
theorem turned_comm (a b : Nat) : turned a b = turned b a := by
  unfold turned
  rw [Bool.or_comm]
/-- links told so are links, and their pairs are those -/
theorem Mt.links {r : Row} {M : List (Nat × Nat)} (h : Mt (tnR r) (List.range r.letters.length) M) : links r (mkL (List.replicate r.letters.length NONE) M) = true ∧ pairs (mkL (List.replicate r.letters.length NONE) M) = M := by
  obtain ⟨i1, i2, i3, i4⟩ := h.facts List.pairwise_lt_range
  obtain ⟨j1, _, j3⟩ := i4 (List.replicate r.letters.length NONE) (fun x hx => by rw [List.length_replicate]; exact List.mem_range.mp hx)
  rw [List.length_replicate] at j1
  constructor
  · rw [links_iff]
    refine ⟨j1, fun i hi => ?_⟩
    rw [j1] at hi ⊢
    obtain ⟨p, hp, hx⟩ := i2 i (List.mem_range.mpr hi)
    obtain ⟨a, b, c, d⟩ := i1 p hp
    obtain ⟨e1, e2⟩ := j3 p hp
    have a := List.mem_range.mp a
    have b := List.mem_range.mp b
    rcases hx with rfl | rfl
    · rw [e1, e2]
      exact ⟨b, by omega, rfl, d⟩
    · rw [e2, e1]
      refine ⟨a, by omega, rfl, ?_⟩
      rw [turned_comm]
      exact d
  · refine sorted_eq _ _ (pairs_sorted _) i3 fun x => ?_
    rw [mem_pairs, j1]
    constructor
    · rintro ⟨h1, h2, h3⟩
      obtain ⟨p, hp, hx⟩ := i2 x.1 (List.mem_range.mpr h1)
      obtain ⟨e1, e2⟩ := j3 p hp
      have c := (i1 p hp).2.2.1
      rcases hx with hx | hx
      · have : x = p := by
          apply Prod.ext
          · exact hx
          · rw [h3, hx, e1]
        rw [this]
        exact hp
      · rw [hx, e2] at h2
        omega
    · intro hx
      obtain ⟨a, b, c, d⟩ := i1 x hx
      obtain ⟨e1, e2⟩ := j3 x hx
      exact ⟨List.mem_range.mp a, by rw [e1]; exact c, e1.symm⟩
/-! ### the first row -/
theorem before_gt : ∀ (p : Nat) (a b : List Nat) (u v : Nat), (∀ x, x < p → a[x]? = b[x]?) → a[p]? = some u → b[p]? = some v → u < v → before b a = false
  | p, [], b, u, v, _, h, _, _ => by simp at h
  | p, x :: a, [], u, v, _, _, h, _ => by simp at h
  | 0, x :: a, y :: b, u, v, _, h1, h2, h => by
    have e1 : x = u := by simpa using h1
    have e2 : y = v := by simpa using h2
    subst e1
    subst e2
    show (decide (y < x) || (y == x && before b a)) = false
    have n1 : decide (y < x) = false := decide_eq_false (by omega)
    have n2 : (y == x) = false := by simp; omega
    rw [n1, n2]
    rfl
  | p + 1, x :: a, y :: b, u, v, hx, h1, h2, h => by
    have e0 : x = y := by simpa using hx 0 (by omega)
    subst e0
    have ih := before_gt p a b u v (fun z hz => by simpa using hx (z + 1) (by omega)) (by simpa using h1) (by simpa using h2) h
    show (decide (x < x) || (x == x && before b a)) = false
    rw [ih]
    simp
theorem gen_sorted {tn : Nat → Nat → Bool} : ∀ (k : Nat) (ps l : List Nat), ps.length ≤ k → ps.Pairwise (· < ·) → (∀ x, x ∈ ps → x < l.length) → ((gen tn ps).map (mkL l)).Pairwise fun a b => before b a = false
  | _, [], l, _, _, _ => by
    rw [gen_nil]
    exact List.pairwise_singleton _ _
  | 0, _ :: _, _, hk, _, _ => by simp at hk
  | k + 1, p :: ps, l, hk, srt, hl => by
    have sc := List.pairwise_cons.mp srt
    simp only [List.length_cons] at hk
    rw [gen_cons, List.map_flatMap, List.pairwise_flatMap]
    have hp' := hl p List.mem_cons_self
    have blk : ∀ q, ((gen tn (less ps q)).map fun M => (p, q) :: M).map (mkL l) = (gen tn (less ps q)).map (mkL ((l.set p q).set q p)) := fun q => by
      rw [List.map_map]
      rfl
    have hl' : ∀ q x, x ∈ less ps q → x < ((l.set p q).set q p).length := fun q x hx => by
      rw [List.length_set, List.length_set]
      exact hl x (List.mem_cons_of_mem _ (mem_less.mp hx).1)
    constructor
    · intro q hq
      rw [blk]
      have := less_len ps q
      exact gen_sorted k _ _ (by omega) (sc.2.filter _) (hl' q)
    · have s2 : (ps.filter (tn p)).Pairwise (· < ·) := sc.2.filter _
      refine List.Pairwise.imp_of_mem ?_ s2
      intro q1 q2 m1 m2 hlt x hx y hy
      have m1 := (List.mem_filter.mp m1).1
      have m2 := (List.mem_filter.mp m2).1
      rw [blk] at hx hy
      obtain ⟨M1, g1, rfl⟩ := List.mem_map.mp hx
      obtain ⟨M2, g2, rfl⟩ := List.mem_map.mp hy
      have f1 := ((gen_mt _ _ (Nat.le_refl _) M1 g1).facts (sc.2.filter _)).2.2.2 _ (hl' q1)
      have f2 := ((gen_mt _ _ (Nat.le_refl _) M2 g2).facts (sc.2.filter _)).2.2.2 _ (hl' q2)
      have low : ∀ q, q ∈ ps → ∀ M, ((mkL ((l.set p q).set q p) M).length = ((l.set p q).set q p).length ∧ (∀ x, x ∉ less ps q → (mkL ((l.set p q).set q p) M).getD x 0 = ((l.set p q).set q p).getD x 0) ∧ ∀ p_1, p_1 ∈ M → (mkL ((l.set p q).set q p) M).getD p_1.1 0 = p_1.2 ∧ (mkL ((l.set p q).set q p) M).getD p_1.2 0 = p_1.1) →
          (∀ x, x < p → (mkL ((l.set p q).set q p) M)[x]? = some (l.getD x 0)) ∧ (mkL ((l.set p q).set q p) M)[p]? = some q := by
        intro q hq M f
        have hq' := hl q (List.mem_cons_of_mem _ hq)
        have hpq := sc.1 q hq
        have len : (mkL ((l.set p q).set q p) M).length = l.length := by rw [f.1, List.length_set, List.length_set]
        have at_ : ∀ x, x < l.length → (mkL ((l.set p q).set q p) M)[x]? = some ((mkL ((l.set p q).set q p) M).getD x 0) := fun x hx => by
          rw [List.getD_eq_getElem?_getD, List.getElem?_eq_getElem (by rw [len]; exact hx)]
          rfl
        have gs : ∀ x, ((l.set p q).set q p).getD x 0 = if q = x then p else if p = x then q else l.getD x 0 := fun x => by
          rw [getD_set (by rw [List.length_set]; exact hq'), getD_set hp']
        constructor
        · intro x hx
          rw [at_ x (by omega), f.2.1 x fun z => by have := sc.1 x (mem_less.mp z).1; omega, gs, if_neg (by omega), if_neg (by omega)]
        · rw [at_ p hp', f.2.1 p fun z => by have := sc.1 p (mem_less.mp z).1; omega, gs, if_neg (by omega), if_pos rfl]
      obtain ⟨a1, a2⟩ := low q1 m1 M1 f1
      obtain ⟨b1, b2⟩ := low q2 m2 M2 f2
      exact before_gt p _ _ q1 q2 (fun x hx => by rw [a1 x hx, b1 x hx]) a2 b2 hlt
theorem first_head : ∀ (L : List (List Nat)), L.Pairwise (fun a b => before b a = false) → firstOf L = L.head?
  | [], _ => rfl
  | l :: L, h => by
    have hc := (List.pairwise_cons.mp h).1
    show some (L.foldl (fun (a b : Links) => if before b a = true then b else a) l) = some l
    congr 1
    have : ∀ X : List (List Nat), (∀ b, b ∈ X → before b l = false) → X.foldl (fun (a b : Links) => if before b a = true then b else a) l = l := by
      intro X
      induction X with
      | nil => intro _; rfl
      | cons x X ih =>
        intro hX
        rw [List.foldl_cons, hX x List.mem_cons_self, if_neg (by simp)]
        exact ih fun b hb => hX b (List.mem_cons_of_mem _ hb)
    exact this L hc
section
variable {r : Row} {s : RS} {fl : List Form} {os : List Nat}
def st0 (s : RS) (os : List Nat) : Option (List Nat × List Nat) := some (startN (kdOf s.parts) s.parts.length, os)
theorem unl_rep (m : Nat) : unl (List.replicate m NONE) = List.range m := by
  unfold unl
  rw [List.length_replicate, List.filter_eq_self]
  intro x hx
  rw [List.getD_eq_getElem?_getD, List.getElem?_replicate, if_pos (List.mem_range.mp hx)]
  rfl
theorem Good.proofs (G : Good r s fl os) : proofs r = ((gen (tnR r) (List.range r.letters.length)).filter fun M => isP (linkAll (kdOf s.parts) (ltOf s.letters) (st0 s os) M)).map (mkL (List.replicate r.letters.length NONE)) := by
  unfold Md26.proofs linksOf
  rw [links_gen r _ _ (by rw [List.length_replicate]; exact G.few) (by rw [unl_rep, List.length_range]; omega), unl_rep, List.filter_map]
  congr 1
  refine List.filter_congr fun M hM => ?_
  obtain ⟨a, b⟩ := (gen_mt _ _ (Nat.le_refl _) M hM).links
  show Md26.net r _ = _
  unfold Md26.net
  rw [a, Bool.true_and, ← G.net a]
  unfold piecesOf
  rw [b]
  rfl
theorem Good.first (G : Good r s fl os) : firstOf (Md26.proofs r) = (fnd (kdOf s.parts) (ltOf s.letters) (tnR r) (st0 s os) (List.range r.letters.length)).map (mkL (List.replicate r.letters.length NONE)) := by
  have srt : (Md26.proofs r).Pairwise fun a b => before b a = false := by
    unfold Md26.proofs linksOf
    rw [links_gen r _ _ (by rw [List.length_replicate]; exact G.few) (by rw [unl_rep, List.length_range]; omega), unl_rep]
    refine List.Pairwise.filter _ (gen_sorted _ _ _ (Nat.le_refl _) List.pairwise_lt_range fun x hx => ?_)
    rw [List.length_replicate]
    exact List.mem_range.mp hx
  rw [first_head _ srt, G.proofs, List.head?_map, List.head?_filter]
  rfl
/-! ### where there can be no proof -/
def canB (signs : List Nat) (m : Nat) : Bool := ((List.range 8).all fun i => signs.count (97 + i) == signs.count (65 + i)) && (2 * signs.count 42 + 2 == m)
theorem Good.signs_perm (G : Good r s fl os) : ∃ C : List Nat, (s.parts.map (·.1)).Perm (C ++ r.letters) ∧ (∀ c, c ∈ C → c = 42 ∨ c = 124) ∧ C.count 42 = stars s.parts.length (kdOf s.parts) := by
  have S := G.shape
  let sg : Nat → Nat := fun k => (s.parts.getD k (0, none)).1
  have e0 : s.parts.map (·.1) = (List.range s.parts.length).map sg := by
    refine List.ext_getElem? fun i => ?_
    rw [List.getElem?_map, List.getElem?_map]
    by_cases h : i < s.parts.length
    · rw [List.getElem?_range h, List.getElem?_eq_getElem h]
      show some _ = some (s.parts.getD i (0, none)).1
      rw [List.getD_eq_getElem?_getD, List.getElem?_eq_getElem h]
      rfl
    · rw [List.getElem?_eq_none_iff.mpr (by omega), List.getElem?_eq_none_iff.mpr (by rw [List.length_range]; omega)]
      rfl
  have e1 : (letsL s.letters.length (ltOf s.letters)).map sg = r.letters := by
    unfold letsL
    rw [List.map_map]
    refine List.ext_getElem? fun i => ?_
    rw [List.getElem?_map]
    by_cases h : i < s.letters.length
    · have hi : i < r.letters.length := by rw [G.rd.lls]; exact h
      rw [List.getElem?_range h, List.getElem?_eq_getElem hi]
      have q := (G.rd.sign i r.letters[i] (List.getElem?_eq_getElem hi)).2
      show some (s.parts.getD (ltOf s.letters i) (0, none)).1 = _
      rw [List.getD_eq_getElem?_getD, q]
      rfl
    · rw [List.getElem?_eq_none_iff.mpr (by rw [List.length_range]; omega), List.getElem?_eq_none_iff.mpr (by rw [G.rd.lls]; omega)]
      rfl
  have kinds : ∀ k, k ∈ pend s.parts.length (kdOf s.parts) 0 → (sg k = 42 ∨ sg k = 124) ∧ (isStar (kdOf s.parts) k = true ↔ sg k = 42) := by
    intro k hk
    obtain ⟨h1, h2⟩ := mem_pend0.mp hk
    rcases G.part h1 with ⟨c, _, h⟩ | ⟨c, a, b, e, hc, ek, _⟩
    · exact (h2 h).elim
    · have es : sg k = c := by
        show (s.parts.getD k (0, none)).1 = c
        rw [List.getD_eq_getElem?_getD, e]
        rfl
      rw [es]
      refine ⟨hc, ?_⟩
      rw [isStar_iff, ek]
      rcases hc with rfl | rfl
      · exact ⟨fun _ => rfl, fun _ => ⟨a, b, rfl⟩⟩
      · constructor
        · rintro ⟨a', b', q⟩
          cases q
        · intro q
          cases q
  refine ⟨(pend s.parts.length (kdOf s.parts) 0).map sg, ?_, fun c hc => ?_, ?_⟩
  · rw [e0, ← e1, ← List.map_append]
    exact S.parts_perm.map _
  · obtain ⟨k, hk, rfl⟩ := List.mem_map.mp hc
    exact (kinds k hk).1
  · have e2 : stars s.parts.length (kdOf s.parts) = (pend s.parts.length (kdOf s.parts) 0).countP (isStar (kdOf s.parts)) := by
      unfold stars
      rw [S.parts_perm.countP_eq, List.countP_append]
      have : (letsL s.letters.length (ltOf s.letters)).countP (isStar (kdOf s.parts)) = 0 := by
        rw [List.countP_eq_zero]
        intro x hx
        unfold isStar
        rw [(S.mem_lets.mp hx).2]
        simp
      omega
    rw [e2, List.count_eq_countP, List.countP_map]
    refine List.countP_congr fun k hk => ?_
    show ((sg k == 42) = true) ↔ _
    rw [beq_iff_eq]
    exact (kinds k hk).2.symm
theorem Good.lets_is (G : Good r s fl os) : ∀ c, c ∈ r.letters → isLet c := by
  intro c hc
  obtain ⟨i, hi, e⟩ := List.getElem_of_mem hc
  exact (G.rd.sign i c (by rw [List.getElem?_eq_getElem hi, e])).1
/-- as many of each letter as of it turned -/
theorem Good.even (G : Good r s fl os) {l : Links} (L : links r l = true) {c : Nat} (h1 : 97 ≤ c) (h2 : c ≤ 104) : r.letters.count c = r.letters.count (c - 32) := by
  have Lk := links_linked L
  have hp := (Lk.flat.map fun i => r.letters.getD i 0).symm
  have e0 : (List.range r.letters.length).map (fun i => r.letters.getD i 0) = r.letters := by
    refine List.ext_getElem? fun i => ?_
    rw [List.getElem?_map]
    by_cases h : i < r.letters.length
    · rw [List.getElem?_range h]
      show some (r.letters.getD i 0) = _
      rw [List.getD_eq_getElem?_getD, List.getElem?_eq_getElem h]
      rfl
    · rw [List.getElem?_eq_none_iff.mpr (by rw [List.length_range]; omega), List.getElem?_eq_none_iff.mpr (by omega)]
      rfl
  rw [e0] at hp
  rw [hp.count_eq, hp.count_eq]
  have hl := ((links_iff r l).mp L).2
  have len := ((links_iff r l).mp L).1
  have : ∀ X : List (Nat × Nat), (∀ p, p ∈ X → p ∈ pairs l) → ((X.flatMap fun p => [p.1, p.2]).map fun i => r.letters.getD i 0).count c = ((X.flatMap fun p => [p.1, p.2]).map fun i => r.letters.getD i 0).count (c - 32) := by
    intro X
    induction X with
    | nil => intro _; rfl
    | cons p X ih =>
      intro hX
      have ih := ih fun y hy => hX y (List.mem_cons_of_mem _ hy)
      obtain ⟨a, b, e⟩ := mem_pairs.mp (hX p List.mem_cons_self)
      obtain ⟨q1, q2, q3, q4⟩ := hl p.1 a
      rw [← e] at q1 q4
      have isl : ∀ i, i < r.letters.length → isLet (r.letters.getD i 0) := fun i hi => by
        rw [List.getD_eq_getElem?_getD, List.getElem?_eq_getElem hi]
        exact G.lets_is _ (List.getElem_mem hi)
      have i1 := isl p.1 (by omega)
      have i2 := isl p.2 (by omega)
      rw [List.flatMap_cons, List.map_append, List.count_append, List.count_append, ih]
      congr 1
      show [r.letters.getD p.1 0, r.letters.getD p.2 0].count c = [r.letters.getD p.1 0, r.letters.getD p.2 0].count (c - 32)
      generalize r.letters.getD p.1 0 = x at q4 i1 ⊢
      generalize r.letters.getD p.2 0 = y at q4 i2 ⊢
      unfold turned at q4
      unfold isLet at i1 i2
      simp only [Bool.or_eq_true, beq_iff_eq] at q4
      simp only [List.count_cons, List.count_nil, beq_iff_eq]
      split <;> split <;> split <;> split <;> omega
  exact this _ fun p hp => hp
theorem Good.cannot (G : Good r s fl os) (h : canB (s.parts.map (·.1)) s.letters.length = false) : Md26.proofs r = [] := by
  refine List.eq_nil_iff_forall_not_mem.mpr fun l hl => ?_
  have hn := (List.mem_filter.mp hl).2
  unfold Md26.net at hn
  rw [Bool.and_eq_true] at hn
  obtain ⟨L, P⟩ := hn
  obtain ⟨C, pm, hC, c42⟩ := G.signs_perm
  have cl : ∀ c, 65 ≤ c → c ≤ 104 → (s.parts.map (·.1)).count c = r.letters.count c := by
    intro c h1 h2
    rw [pm.count_eq, List.count_append]
    have : C.count c = 0 := List.count_eq_zero.mpr fun z => by
      have := hC c z
      omega
    omega
  have hc : canB (s.parts.map (·.1)) s.letters.length = true := by
    unfold canB
    rw [Bool.and_eq_true, List.all_eq_true, beq_iff_eq]
    constructor
    · intro i hi
      have hi := List.mem_range.mp hi
      rw [beq_iff_eq, cl _ (by omega) (by omega), cl _ (by omega) (by omega), G.even L (by omega) (by omega)]
      congr 1
      omega
    · have e : (s.parts.map (·.1)).count 42 = stars s.parts.length (kdOf s.parts) := by
        rw [pm.count_eq, List.count_append, c42]
        have : r.letters.count 42 = 0 := List.count_eq_zero.mpr fun z => by
          have := G.lets_is 42 z
          unfold isLet at this
          omega
        omega
      rw [e]
      have x := G.shape.proof_count (l := l) (by rw [G.forms]; exact (proof_main _ _).mp P)
      omega
  rw [h] at hc
  cases hc
end
end Lk
end
section
namespace Nt
open PySem PySem.Spec PyProof.Rows L2
/-! ### the text by places -/
def top (i : Nat) : Stmt := PySem.Challenge.pw_linkgrounds_s03_first.main.body.getD i (.Pass ⟨0, 0, 0, 0⟩)
abbrev sPart : Stmt := inClass (top 7) 0
abbrev sRding : Stmt := inClass (top 8) 0
abbrev sIsLetter : Stmt := top 9
abbrev sFinish : Stmt := top 10
abbrev sBegin : Stmt := top 11
abbrev sOutside : Stmt := top 12
abbrev sSecond : Stmt := top 13
abbrev sClose : Stmt := top 14
abbrev sByte : Stmt := top 15
abbrev sText : Stmt := top 16
abbrev sTurned : Stmt := top 17
abbrev sRefT : Stmt := top 18
abbrev sPieces : Stmt := inClass (top 19) 0
abbrev sJoin : Stmt := top 20
abbrev sSettle : Stmt := top 21
abbrev sAdd : Stmt := top 22
abbrev sStart : Stmt := top 23
abbrev sIsProof : Stmt := top 24
abbrev sLinking : Stmt := inClass (top 25) 0
abbrev sLk0 : Stmt := top 26
abbrev sCan : Stmt := top 27
abbrev sRing : Stmt := top 28
abbrev sAddLink : Stmt := top 29
abbrev sFurther : Stmt := top 30
abbrev sKey : Stmt := top 31
abbrev sFind : Stmt := top 32
abbrev sFst : Stmt := top 33
end Nt
end
section
set_option Elab.async false
set_option linter.all false
set_option maxRecDepth 100000
set_option maxHeartbeats 4000000
namespace Nt
open PySem PySem.Spec PyProof.Rows L2
open PySem.W (Codec)
/-! ### the data -/
abbrev nV (n : Nat) : V := .int (n : Int)
def oV : Option Nat → V
  | none => .non
  | some n => nV n
theorem putF_putF (f : Str) (v w : V) : ∀ fs : List (Str × V), putF f w (putF f v fs) = putF f w fs
  | [] => by
    show (if f = f then [(f, w)] else _) = [(f, w)]
    rw [if_pos rfl]
  | (k, x) :: r => by
    have ih := putF_putF f v w r
    rw [show putF f v ((k, x) :: r) = (if k = f then (k, v) :: r else (k, x) :: putF f v r) from rfl, show putF f w ((k, x) :: r) = (if k = f then (k, w) :: r else (k, x) :: putF f w r) from rfl]
    by_cases hk : k = f
    · rw [if_pos hk, if_pos hk]
      show (if k = f then (k, w) :: r else _) = _
      rw [if_pos hk]
    · rw [if_neg hk, if_neg hk]
      show (if k = f then _ else (k, x) :: putF f w (putF f v r)) = _
      rw [if_neg hk, ih]
theorem len_put {f : Str} {v : V} {fs : List (Str × V)} {n : Nat} (h : fs.length ≤ n) : (putF f v fs).length ≤ n + 1 := by
  have := length_putF f v fs
  omega
def pf (x y z : V) : List (Str × V) := putF "right" z (putF "left" y (putF "sign" x []))
theorem pf_sign (x y z : V) : (pf x y z).lookup ("sign" : Str) = some x := by
  unfold pf
  rw [lookup_putF, if_neg (by decide +kernel), lookup_putF, if_neg (by decide +kernel), lookup_putF, if_pos rfl]
theorem pf_left (x y z : V) : (pf x y z).lookup ("left" : Str) = some y := by
  unfold pf
  rw [lookup_putF, if_neg (by decide +kernel), lookup_putF, if_pos rfl]
theorem pf_right (x y z : V) : (pf x y z).lookup ("right" : Str) = some z := by
  unfold pf
  rw [lookup_putF, if_pos rfl]
def rf (pa la ta ba : Addr) (v : V) : List (Str × V) := putF "latest" v (putF "brackets" (.ref ba) (putF "ones" (.ref ta) (putF "letters" (.ref la) (putF "parts" (.ref pa) []))))
theorem rf_latest (pa la ta ba : Addr) (v : V) : (rf pa la ta ba v).lookup ("latest" : Str) = some v := by
  unfold rf
  rw [lookup_putF, if_pos rfl]
theorem rf_brackets (pa la ta ba : Addr) (v : V) : (rf pa la ta ba v).lookup ("brackets" : Str) = some (.ref ba) := by
  unfold rf
  rw [lookup_putF, if_neg (by decide +kernel), lookup_putF, if_pos rfl]
theorem rf_ones (pa la ta ba : Addr) (v : V) : (rf pa la ta ba v).lookup ("ones" : Str) = some (.ref ta) := by
  unfold rf
  rw [lookup_putF, if_neg (by decide +kernel), lookup_putF, if_neg (by decide +kernel), lookup_putF, if_pos rfl]
theorem rf_letters (pa la ta ba : Addr) (v : V) : (rf pa la ta ba v).lookup ("letters" : Str) = some (.ref la) := by
  unfold rf
  rw [lookup_putF, if_neg (by decide +kernel), lookup_putF, if_neg (by decide +kernel), lookup_putF, if_neg (by decide +kernel), lookup_putF, if_pos rfl]
theorem rf_parts (pa la ta ba : Addr) (v : V) : (rf pa la ta ba v).lookup ("parts" : Str) = some (.ref pa) := by
  unfold rf
  rw [lookup_putF, if_neg (by decide +kernel), lookup_putF, if_neg (by decide +kernel), lookup_putF, if_neg (by decide +kernel), lookup_putF, if_neg (by decide +kernel), lookup_putF, if_pos rfl]
theorem rf_put (pa la ta ba : Addr) (v w : V) : putF "latest" w (rf pa la ta ba v) = rf pa la ta ba w := putF_putF _ _ _ _
theorem rf_len (pa la ta ba : Addr) (v : V) : (rf pa la ta ba v).length < 1000 := by
  have : (rf pa la ta ba v).length ≤ 5 := len_put (len_put (len_put (len_put (len_put (Nat.zero_le 0)))))
  omega
theorem rf_pf {pa la ta ba : Addr} {v x y z : V} : rf pa la ta ba v ≠ pf x y z := by
  intro e
  have h := rf_parts pa la ta ba v
  rw [e] at h
  unfold pf at h
  rw [lookup_putF, if_neg (by decide +kernel), lookup_putF, if_neg (by decide +kernel), lookup_putF, if_neg (by decide +kernel)] at h
  cases h
/-- a Part stands at q -/
def PartAt (C : Addr) (H : Hp) (q : Addr) (p : Nat × Option (Nat × Nat)) : Prop := ∃ dx, H q = some (.ins C dx (pf (nV p.1) (oV (p.2.map (·.1))) (oV (p.2.map (·.2)))))
/-- an item of the open brackets -/
def BrAt (H : Hp) (v : V) : Option (Nat × Nat × Nat) → Prop
  | none => v = .non
  | some (c, x, k) => ∃ t, v = .ref t ∧ H t = some (.tup [nV c, nV x, nV k])
/-- a Reading stands at a, its lists at pa, la, ta, ba -/
structure RdX (CP CR : Addr) (H : Hp) (a : Addr) (s : Lk.RS) (dx pa la ta ba : Addr) (pas : List Addr) (bvs : List V) : Prop where
  obj : H a = some (.ins CR dx (rf pa la ta ba (oV s.latest)))
  hp : H pa = some (.lst (pas.map V.ref))
  hl : H la = some (.lst (s.letters.map nV))
  ht : H ta = some (.lst (s.ones.map oV))
  hb : H ba = some (.lst bvs)
  pl : pa ≠ la
  pt : pa ≠ ta
  pb : pa ≠ ba
  lt : la ≠ ta
  lb : la ≠ ba
  tb : ta ≠ ba
  plen : pas.length = s.parts.length
  part : ∀ (i : Nat) (q : Addr) (p : Nat × Option (Nat × Nat)), pas[i]? = some q → s.parts[i]? = some p → PartAt CP H q p
  blen : bvs.length = s.brackets.length
  brk : ∀ (i : Nat) (v : V) (o : Option (Nat × Nat × Nat)), bvs[i]? = some v → s.brackets[i]? = some o → BrAt H v o
def RdAt (CP CR : Addr) (H : Hp) (a : Addr) (s : Lk.RS) : Prop := ∃ dx pa la ta ba pas bvs, RdX CP CR H a s dx pa la ta ba pas bvs
/-- what was handed in stays -/
def Fz (H H' : Hp) : Prop := ∀ b o u, H b = some (.frz o u) → H' b = some (.frz o u)
theorem Fz.refl (H : Hp) : Fz H H := fun _ _ _ h => h
theorem Fz.trans {H H1 H2 : Hp} (a : Fz H H1) (b : Fz H1 H2) : Fz H H2 := fun c o u h => b c o u (a c o u h)
theorem Fz.of_same {H H' : Hp} (h : Same H H') : Fz H H' := fun b o u e => h b _ e
theorem Fz.upd {H : Hp} {a : Addr} {o : HO} (h : ∀ p u, H a ≠ some (.frz p u)) : Fz H (upd H a o) := fun b p u e => by
  rw [upd_ne]
  · exact e
  · intro z
    subst z
    exact h p u e
theorem Fz.upd_lst {H : Hp} {a : Addr} {o : HO} {xs : List V} (h : H a = some (.lst xs)) : Fz H (L2.upd H a o) := Fz.upd fun p u e => by rw [h] at e; cases e
theorem Fz.upd_ins {H : Hp} {a C dx : Addr} {o : HO} {fs : List (Str × V)} (h : H a = some (.ins C dx fs)) : Fz H (L2.upd H a o) := Fz.upd fun p u e => by rw [h] at e; cases e
theorem Fz.upd_new {H : Hp} {a : Addr} {o : HO} (h : H a = Option.none) : Fz H (L2.upd H a o) := Fz.upd fun p u e => by rw [h] at e; cases e
/-- a list that was handed in: frozen, or the module's own -/
def ArgL (K : PySem.W.Frag) (H : Hp) (a : Addr) (xs : List V) : Prop := (∃ o, H a = some (.frz o (.lst xs))) ∨
    ∃ (o : Obj) (its : Array Value) (n : Nat), K.lookup a = some o ∧ o.cls = .type "list" ∧ o.dict = none ∧ o.data = .seq its n ∧ its.size ≤ sizeLine ∧ Vals xs its.toList
theorem ArgL.sq {K : PySem.W.Frag} {H : Hp} {a : Addr} {xs : List V} (h : ArgL K H a xs) : SqL K H a xs := by
  rcases h with ⟨o, h⟩ | h
  · exact .inl (.inr ⟨o, h⟩)
  · exact .inr h
theorem ArgL.fz {K : PySem.W.Frag} {H H' : Hp} {a : Addr} {xs : List V} (h : ArgL K H a xs) (f : Fz H H') : ArgL K H' a xs := by
  rcases h with ⟨o, h⟩ | h
  · exact .inl ⟨o, f _ _ _ h⟩
  · exact .inr h
/-- nothing of it is written -/
theorem RdX.same {CP CR : Addr} {H H' : Hp} {a : Addr} {s : Lk.RS} {dx pa la ta ba : Addr} {pas : List Addr} {bvs : List V} (h : RdX CP CR H a s dx pa la ta ba pas bvs) (k : Same H H') : RdX CP CR H' a s dx pa la ta ba pas bvs where
  obj := k _ _ h.obj
  hp := k _ _ h.hp
  hl := k _ _ h.hl
  ht := k _ _ h.ht
  hb := k _ _ h.hb
  pl := h.pl
  pt := h.pt
  pb := h.pb
  lt := h.lt
  lb := h.lb
  tb := h.tb
  plen := h.plen
  part := fun i q p a b => by
    obtain ⟨dx, e⟩ := h.part i q p a b
    exact ⟨dx, k _ _ e⟩
  blen := h.blen
  brk := fun i v o a b => by
    have e := h.brk i v o a b
    cases o with
    | none => exact e
    | some x =>
      obtain ⟨c, y, z⟩ := x
      obtain ⟨t, e1, e2⟩ := e
      exact ⟨t, e1, k _ _ e2⟩
/-- what is only told, not kept -/
theorem RdX.ghost {CP CR : Addr} {H : Hp} {a : Addr} {s : Lk.RS} {dx pa la ta ba : Addr} {pas : List Addr} {bvs : List V} (h : RdX CP CR H a s dx pa la ta ba pas bvs) (ts : List Nat) : RdX CP CR H a { s with tops := ts } dx pa la ta ba pas bvs :=
  ⟨h.obj, h.hp, h.hl, h.ht, h.hb, h.pl, h.pt, h.pb, h.lt, h.lb, h.tb, h.plen, h.part, h.blen, h.brk⟩
theorem RdAt.same {CP CR : Addr} {H H' : Hp} {a : Addr} {s : Lk.RS} (h : RdAt CP CR H a s) (k : Same H H') : RdAt CP CR H' a s := by
  obtain ⟨dx, pa, la, ta, ba, pas, bvs, h⟩ := h
  exact ⟨dx, pa, la, ta, ba, pas, bvs, h.same k⟩
theorem same_new {H : Hp} {a : Addr} {o : HO} (h : H a = Option.none) : Same H (upd H a o) := fun b u e => by
  rw [upd_ne (ne_of_none e h)]
  exact e
/-- the lists aren't too long -/
structure Small (s : Lk.RS) (k : Nat) : Prop where
  p : s.parts.length ≤ k
  l : s.letters.length ≤ k
  t : s.ones.length ≤ k
  b : s.brackets.length ≤ k
theorem lineOk {n k : Nat} (h : n ≤ k) (hk : k ≤ 1000) : n < sizeLine := small1000 (Nat.le_trans h hk)
/-! ### what of the text is used -/
structure Txt (K : PySem.W.Frag) (mg : Str → Option Value) (CP CR : Addr) : Prop where
  clP : Cls K CP
  clR : Cls K CR
  nS : NoAttr K CP "sign"
  nL : NoAttr K CP "left"
  nR : NoAttr K CP "right"
  rP : NoAttr K CR "parts"
  rL : NoAttr K CR "letters"
  rT : NoAttr K CR "ones"
  rB : NoAttr K CR "brackets"
  rX : NoAttr K CR "latest"
  mgP : mg "Part" = some (.ref CP)
  mgR : mg "Reading" = some (.ref CR)
  len : mg "len" = none
  ord : mg "ord" = none
  rng : mg "range" = none
  enm : mg "enumerate" = none
  abs : mg "abs" = none
  list : mg "list" = none
  zip : mg "zip" = none
  tuple : mg "tuple" = none
  sum : mg "sum" = none
  cMB : ∃ t, mg "MOST_BYTES" = some (Value.int 256 t)
  cMT : ∃ t, mg "MOST_LETTERS" = some (Value.int 16 t)
  cMR : ∃ t, mg "MOST_BRACKETS" = some (Value.int 16 t)
  cN1 : ∃ t, mg "NO_LENGTH" = some (Value.int (-1) t)
  cN2 : ∃ t, mg "NO_TEXT" = some (Value.int (-2) t)
end Nt
end
section
set_option Elab.async false
set_option linter.all false
set_option maxRecDepth 100000
set_option maxHeartbeats 4000000
namespace Nt
open PySem PySem.Spec PyProof.Rows L2
open PySem.W (Codec)
section
variable {X : Cx}
/-- ord of a written letter -/
theorem pe_ordc (n : Nat) {x : Str} {j p pos pos'} (hg : Gl X "ord") (hm : X.mg "ord" = none) (h1 : x.length = 1) (h2 : x.cps.getD 0 0 = n) : PE X (.Call (.Name "ord" p) [.Constant (.str x) j pos'] [] pos) (tC (nV n)) := by
  intro pins s σ H Q I h
  have p := pe_callB (X := X) (p := p) (pos := pos) call_ord hg hm boot_ord (pa_cons (pe_str (x := x) (j := j) (pos := pos')) pa_nil)
  refine p pins s σ H Q I ⟨x, rfl, h1, ?_⟩
  rw [h2]
  exact h
end
section
variable {P : Program} {w : World} {K : PySem.W.Frag} {mg : Str → Option Value} {base : Heap} {CP CR : Addr}
/-! ### is_letter -/
def spIsLetter : Sp := fun vs H Q _ => ∃ c : Nat, vs = [nV c] ∧ Q (.bl (decide (Lk.isLet c))) H
theorem scIsLetter : FnScope ["byte"] ["byte"] (defScope sIsLetter) := ⟨rfl, rfl, rfl, by decide +kernel, rfl, by decide +kernel, by decide +kernel⟩
theorem ok_isLetter {f : Addr} {fd : FuncData} (F : Fun K "is_letter" "is_letter" sIsLetter f fd) (T : Txt K mg CP CR) : FnOk P w K mg base CX0 1 f fd ["byte"] spIsLetter := by
  refine F.ok scIsLetter (fun vs H Q E h => ?_) (fun cdv A outer s H vs Q E hr h => ?_)
  · obtain ⟨c, rfl, _⟩ := h
    rfl
  · obtain ⟨c, rfl, k⟩ := h
    refine ⟨_, pss_one (ps_ret (pe_or (pe_chain op_le op_le (pe_ordc 97 rfl T.ord (by decide +kernel) (by decide +kernel)) (pv 0) (pe_ordc 104 rfl T.ord (by decide +kernel) (by decide +kernel)))
      (pe_one (pe_chain op_le op_le (pe_ordc 65 rfl T.ord (by decide +kernel) (by decide +kernel)) (pv 0) (pe_ordc 72 rfl T.ord (by decide +kernel) (by decide +kernel)))))), ?_⟩
    have two : ∀ b : Bool, b = decide (Lk.isLet c) → Q (.bl b) H := fun b e => by rw [e]; exact k
    have second : (¬ (97 ≤ c ∧ c ≤ 104)) → tChain (rI0 fun i j => V.bl (decide (i ≤ j))) (rI0 fun i j => V.bl (decide (i ≤ j))) (tC (nV 65)) (tVar 0) (tC (nV 72)) (L2.start ["byte"] [nV c]) H Q := by
      intro hn
      refine ⟨_, rfl, _, _, rfl, rfl, _, rfl, ite2 (fun h1 => ?_) (fun h1 => ?_)⟩
      · refine ⟨_, _, rfl, rfl, two _ ?_⟩
        have h1 := of_decide_eq_true h1
        refine decide_eq_decide.mpr ?_
        unfold Lk.isLet
        omega
      · refine two _ ?_
        have h1 : ¬ ((65 : Nat) : Int) ≤ (c : Int) := fun z => h1 (decide_eq_true z)
        symm
        refine decide_eq_false ?_
        unfold Lk.isLet
        omega
    refine ⟨_, rfl, _, _, rfl, rfl, _, rfl, ite2 (fun h1 => ?_) (fun h1 => ?_)⟩
    · have h1 := of_decide_eq_true h1
      refine ⟨_, _, rfl, rfl, _, rfl, ite2 (fun h2 => ?_) (fun h2 => ?_)⟩
      · have h2 := of_decide_eq_true h2
        refine two _ ?_
        symm
        refine decide_eq_true ?_
        unfold Lk.isLet
        omega
      · have h2 : ¬ (c : Int) ≤ ((104 : Nat) : Int) := fun z => h2 (decide_eq_true z)
        exact second (by omega)
    · have h1 : ¬ ((97 : Nat) : Int) ≤ (c : Int) := fun z => h1 (decide_eq_true z)
      exact ⟨_, rfl, iteF (second (by omega))⟩
/-! ### Part(sign, left, right) -/
def spPart (C : Addr) : Sp := fun vs H Q _ => ∃ (p dx : Addr) (x y z : V), vs = [.ref p, x, y, z] ∧ H p = some (.ins C dx []) ∧
  ∀ H' : Hp, (∃ dx, H' p = some (.ins C dx (pf x y z))) → (∀ b o, H b = some o → b ≠ p → H' b = some o) → Q .non H'
theorem scPart : FnScope ["self", "sign", "left", "right"] ["self", "sign", "left", "right"] (defScope sPart) := ⟨rfl, rfl, rfl, by decide +kernel, rfl, by decide +kernel, by decide +kernel⟩
theorem ok_part {f : Addr} {fd : FuncData} (F : Fun K "__init__" "Part.__init__" sPart f fd) (T : Txt K mg CP CR) : FnOk P w K mg base CX0 1 f fd ["self", "sign", "left", "right"] (spPart CP) := by
  refine F.ok scPart (fun vs H Q E h => ?_) (fun cdv A outer s H vs Q E hr h => ?_)
  · obtain ⟨p, dx, x, y, z, rfl, _⟩ := h
    rfl
  · obtain ⟨p, dx, x, y, z, rfl, hp, k⟩ := h
    refine ⟨_, pss_cons (ps_fld (pv 0) (pv 1) rfl) (pss_cons (ps_fld (pv 0) (pv 2) rfl) (pss_one (ps_fld (pv 0) (pv 3) rfl))), ?_⟩
    refine ⟨_, rfl, _, rfl, p, CP, dx, [], rfl, hp, T.clP, T.nS, (by show 0 < 1000; decide), ?_⟩
    refine ⟨_, rfl, _, rfl, p, CP, dx, _, rfl, upd_same, T.clP, T.nL, Nat.lt_of_le_of_lt (len_put (Nat.zero_le 0)) (by decide), ?_⟩
    refine ⟨_, rfl, _, rfl, p, CP, dx, _, rfl, upd_same, T.clP, T.nR, Nat.lt_of_le_of_lt (len_put (len_put (Nat.zero_le 0))) (by decide), ?_⟩
    exact k _ ⟨dx, upd_same⟩ fun b o e hb => by rw [upd_ne hb, upd_ne hb, upd_ne hb]; exact e
/-! ### Reading() -/
def spRding (CP CR : Addr) : Sp := fun vs H Q _ => ∃ (p dx : Addr), vs = [.ref p] ∧ H p = some (.ins CR dx []) ∧
  ∀ H' : Hp, RdAt CP CR H' p Lk.s0 → (∀ b o, H b = some o → b ≠ p → H' b = some o) → Q .non H'
theorem scRding : FnScope ["self"] ["self"] (defScope sRding) := ⟨rfl, rfl, rfl, by decide +kernel, rfl, by decide +kernel, by decide +kernel⟩
theorem ok_rding {f : Addr} {fd : FuncData} (F : Fun K "__init__" "Reading.__init__" sRding f fd) (T : Txt K mg CP CR) : FnOk P w K mg base CX0 1 f fd ["self"] (spRding CP CR) := by
  refine F.ok scRding (fun vs H Q E h => ?_) (fun cdv A outer s H vs Q E hr h => ?_)
  · obtain ⟨p, dx, rfl, _⟩ := h
    rfl
  · obtain ⟨p, dx, rfl, hp, k⟩ := h
    refine ⟨_, pss_cons (ps_fld (pv 0) (pe_lst pa_nil) rfl) (pss_cons (ps_fld (pv 0) (pe_lst pa_nil) rfl) (pss_cons (ps_fld (pv 0) (pe_lst pa_nil) rfl) (pss_cons (ps_fld (pv 0) (pe_lst pa_nil) rfl) (pss_one (ps_fld (pv 0) pe_non rfl))))), ?_⟩
    -- a list more, kept under a name
    have stp : ∀ {G : Hp} {l : Addr} {fs : List (Str × V)} {f : Str}, G p = some (.ins CR dx fs) → G l = Option.none →
        (upd G l (.lst [])) p = some (.ins CR dx fs) ∧ (∀ o, (upd (upd G l (.lst [])) p o) l = some (.lst [])) ∧ (∀ o b u, G b = some u → b ≠ p → (upd (upd G l (.lst [])) p o) b = some u) := by
      intro G l fs f g1 g2
      have np := ne_of_none g1 g2
      refine ⟨by rw [upd_ne np]; exact g1, fun o => by rw [upd_ne np.symm, upd_same], fun o b u g3 g4 => ?_⟩
      rw [upd_ne g4, upd_ne (ne_of_none g3 g2)]
      exact g3
    refine ⟨Nat.zero_le _, fun pa ha => ?_⟩
    obtain ⟨a1, a2, a3⟩ := stp (f := "parts") hp ha
    have npa := ne_of_none hp ha
    refine ⟨_, rfl, p, CR, dx, [], rfl, a1, T.clR, T.rP, (by show 0 < 1000; decide), ?_⟩
    have l1 := a2 (.ins CR dx (putF "parts" (.ref pa) []))
    have k1 := a3 (.ins CR dx (putF "parts" (.ref pa) []))
    generalize hH1 : upd (upd H pa (.lst [])) p (.ins CR dx (putF "parts" (.ref pa) [])) = H1 at l1 k1
    have p1 : H1 p = some (.ins CR dx (putF "parts" (.ref pa) [])) := by rw [← hH1, upd_same]
    refine ⟨Nat.zero_le _, fun la hla => ?_⟩
    obtain ⟨b1, b2, b3⟩ := stp (f := "letters") p1 hla
    have npl := ne_of_none l1 hla
    refine ⟨_, rfl, p, CR, dx, _, rfl, b1, T.clR, T.rL, Nat.lt_of_le_of_lt (len_put (Nat.zero_le 0)) (by decide), ?_⟩
    have l2 := b2 (.ins CR dx (putF "letters" (.ref la) (putF "parts" (.ref pa) [])))
    have k2 := b3 (.ins CR dx (putF "letters" (.ref la) (putF "parts" (.ref pa) [])))
    generalize hH2 : upd (upd H1 la (.lst [])) p (.ins CR dx (putF "letters" (.ref la) (putF "parts" (.ref pa) []))) = H2 at l2 k2
    have p2 : H2 p = some (.ins CR dx (putF "letters" (.ref la) (putF "parts" (.ref pa) []))) := by rw [← hH2, upd_same]
    have l1 := k2 _ _ l1 npa.symm
    refine ⟨Nat.zero_le _, fun ta hta => ?_⟩
    obtain ⟨c1, c2, c3⟩ := stp (f := "ones") p2 hta
    have npt := ne_of_none l1 hta
    have nlt := ne_of_none l2 hta
    have npla := ne_of_none p1 hla
    have npta := ne_of_none p2 hta
    refine ⟨_, rfl, p, CR, dx, _, rfl, c1, T.clR, T.rT, Nat.lt_of_le_of_lt (len_put (len_put (Nat.zero_le 0))) (by decide), ?_⟩
    have l3 := c2 (.ins CR dx (putF "ones" (.ref ta) (putF "letters" (.ref la) (putF "parts" (.ref pa) []))))
    have k3 := c3 (.ins CR dx (putF "ones" (.ref ta) (putF "letters" (.ref la) (putF "parts" (.ref pa) []))))
    generalize hH3 : upd (upd H2 ta (.lst [])) p (.ins CR dx (putF "ones" (.ref ta) (putF "letters" (.ref la) (putF "parts" (.ref pa) [])))) = H3 at l3 k3
    have p3 : H3 p = some (.ins CR dx (putF "ones" (.ref ta) (putF "letters" (.ref la) (putF "parts" (.ref pa) [])))) := by rw [← hH3, upd_same]
    have l1 := k3 _ _ l1 npa.symm
    have l2 := k3 _ _ l2 npla.symm
    refine ⟨Nat.zero_le _, fun ba hba => ?_⟩
    obtain ⟨d1, d2, d3⟩ := stp (f := "brackets") p3 hba
    have npb := ne_of_none l1 hba
    have nlb := ne_of_none l2 hba
    have ntb := ne_of_none l3 hba
    have npba := ne_of_none p3 hba
    refine ⟨_, rfl, p, CR, dx, _, rfl, d1, T.clR, T.rB, Nat.lt_of_le_of_lt (len_put (len_put (len_put (Nat.zero_le 0)))) (by decide), ?_⟩
    have l4 := d2 (.ins CR dx (putF "brackets" (.ref ba) (putF "ones" (.ref ta) (putF "letters" (.ref la) (putF "parts" (.ref pa) [])))))
    have k4 := d3 (.ins CR dx (putF "brackets" (.ref ba) (putF "ones" (.ref ta) (putF "letters" (.ref la) (putF "parts" (.ref pa) [])))))
    generalize hH4 : upd (upd H3 ba (.lst [])) p (.ins CR dx (putF "brackets" (.ref ba) (putF "ones" (.ref ta) (putF "letters" (.ref la) (putF "parts" (.ref pa) []))))) = H4 at l4 k4
    have p4 : H4 p = some (.ins CR dx (putF "brackets" (.ref ba) (putF "ones" (.ref ta) (putF "letters" (.ref la) (putF "parts" (.ref pa) []))))) := by rw [← hH4, upd_same]
    have l1 := k4 _ _ l1 npa.symm
    have l2 := k4 _ _ l2 npla.symm
    have l3 := k4 _ _ l3 npta.symm
    refine ⟨_, rfl, p, CR, dx, _, rfl, p4, T.clR, T.rX, Nat.lt_of_le_of_lt (len_put (len_put (len_put (len_put (Nat.zero_le 0))))) (by decide), ?_⟩
    refine k _ ⟨dx, pa, la, ta, ba, [], [], ?_⟩ ?_
    · refine ⟨upd_same, ?_, ?_, ?_, ?_, npl, npt, npb, nlt, nlb, ntb, rfl, fun i q p h => by simp at h, rfl, fun i v o h => by simp at h⟩
      · rw [upd_ne npa.symm]; exact l1
      · rw [upd_ne npla.symm]; exact l2
      · rw [upd_ne npta.symm]; exact l3
      · rw [upd_ne npba.symm]; exact l4
    · intro b o e hb
      rw [upd_ne hb]
      exact k4 _ _ (k3 _ _ (k2 _ _ (k1 _ _ e hb) hb) hb) hb
/-! ### finish_part(reading, part) -/
def spFinish (CP CR : Addr) : Sp := fun vs H Q _ => ∃ (a q : Addr) (s : Lk.RS) (p : Nat × Option (Nat × Nat)), vs = [.ref a, .ref q] ∧ RdAt CP CR H a s ∧ PartAt CP H q p ∧ s.parts.length ≤ 1000 ∧
  ∀ H' : Hp, RdAt CP CR H' a { s with parts := s.parts ++ [p], latest := some s.parts.length } → Fz H H' → (∀ t xs, H t = some (.tup xs) → H' t = some (.tup xs)) → Q .non H'
theorem scFinish : FnScope ["reading", "part"] ["reading", "part"] (defScope sFinish) := ⟨rfl, rfl, rfl, by decide +kernel, rfl, by decide +kernel, by decide +kernel⟩
/-- a list and an instance, both written -/
theorem part_ne {H : Hp} {q : Addr} {C : Addr} {p : Nat × Option (Nat × Nat)} {l : Addr} {xs : List V} (h : PartAt C H q p) (h' : H l = some (.lst xs)) : q ≠ l := by
  obtain ⟨dx, e⟩ := h
  exact ne_of e h' (by intro z; cases z)
theorem part_ne' {H : Hp} {q a : Addr} {C C' dx pa la ta ba : Addr} {v : V} {p : Nat × Option (Nat × Nat)} (h : PartAt C H q p) (h' : H a = some (.ins C' dx (rf pa la ta ba v))) : q ≠ a := by
  obtain ⟨dx', e⟩ := h
  exact ne_of e h' (by intro z; injection z with _ _ z3; exact rf_pf z3.symm)
theorem PartAt.keep {H H' : Hp} {q : Addr} {C : Addr} {p : Nat × Option (Nat × Nat)} (h : PartAt C H q p) (k : H' q = H q) : PartAt C H' q p := by
  obtain ⟨dx, e⟩ := h
  exact ⟨dx, k.trans e⟩
theorem BrAt.keep {H H' : Hp} {v : V} {o : Option (Nat × Nat × Nat)} (h : BrAt H v o) (k : ∀ t xs, H t = some (.tup xs) → H' t = some (.tup xs)) : BrAt H' v o := by
  cases o with
  | none => exact h
  | some x =>
    obtain ⟨c, y, z⟩ := x
    obtain ⟨t, e1, e2⟩ := h
    exact ⟨t, e1, k _ _ e2⟩
theorem tup_ne {H : Hp} {t l : Addr} {xs ys : List V} (h : H t = some (.tup xs)) (h' : H l = some (.lst ys)) : t ≠ l := ne_of h h' (by intro z; cases z)
theorem tup_ne' {H : Hp} {t l C dx : Addr} {fs : List (Str × V)} {xs : List V} (h : H t = some (.tup xs)) (h' : H l = some (.ins C dx fs)) : t ≠ l := ne_of h h' (by intro z; cases z)
theorem lst_ne {H : Hp} {t l C dx : Addr} {fs : List (Str × V)} {xs : List V} (h : H t = some (.lst xs)) (h' : H l = some (.ins C dx fs)) : t ≠ l := ne_of h h' (by intro z; cases z)
theorem get_snoc {α : Type} {l : List α} {x y : α} {i : Nat} (h : (l ++ [x])[i]? = some y) : (i < l.length ∧ l[i]? = some y) ∨ (i = l.length ∧ y = x) := by
  by_cases e : i < l.length
  · rw [List.getElem?_append_left e] at h
    exact Or.inl ⟨e, h⟩
  · have hl := (List.getElem?_eq_some_iff.mp h).1
    have e2 : i = l.length := by
      simp at hl
      omega
    subst e2
    rw [List.getElem?_concat_length] at h
    exact Or.inr ⟨rfl, (Option.some.inj h).symm⟩
theorem ok_finish {f : Addr} {fd : FuncData} (F : Fun K "finish_part" "finish_part" sFinish f fd) (T : Txt K mg CP CR) : FnOk P w K mg base CX0 1 f fd ["reading", "part"] (spFinish CP CR) := by
  refine F.ok scFinish (fun vs H Q E h => ?_) (fun cdv A outer s H vs Q E hr h => ?_)
  · obtain ⟨a, q, s, p, rfl, _⟩ := h
    rfl
  · obtain ⟨a, q, s, p, rfl, ⟨dx, pa, la, ta, ba, pas, bvs, R⟩, hq, hlen, k⟩ := h
    refine ⟨_, pss_cons (ps_fld (pv 0) (pe_callB call_len_seq (by rfl) T.len PySem.boot_len (pa_cons (pe_fld (pv 0) rfl) pa_nil)) rfl)
      (pss_one (ps_expr (pe_bm PySem.F.plainAttrs_list PySem.F.slot_list_append PySem.F.type_list_append mt_append (pe_fld (pv 0) rfl) (pa_cons (pv 1) pa_nil)))), ?_⟩
    refine ⟨_, rfl, a, CR, dx, _, _, rfl, R.obj, T.clR, T.rP, rf_parts _ _ _ _ _, pa, _, rfl, .inl (SqL.of R.hp), _, rfl, a, CR, dx, _, rfl, R.obj, T.clR, T.rX, rf_len _ _ _ _ _, ?_⟩
    rw [rf_put]
    have na : pa ≠ a := lst_ne R.hp R.obj
    have hp1' := R.hp
    have hp1 : (upd H a (.ins CR dx (rf pa la ta ba (V.int ((pas.map V.ref).length : Nat))))) pa = some (.lst (pas.map V.ref)) := by rw [upd_ne na]; exact R.hp
    refine ⟨_, rfl, a, CR, dx, _, _, rfl, upd_same, T.clR, T.rP, rf_parts _ _ _ _ _, .inl ⟨rfl, _, SqL.of hp1⟩, _, rfl, pa, _, _, rfl, rfl, hp1, (by rw [List.length_map, R.plen]; exact small1000 hlen), ?_⟩
    refine k _ ⟨dx, pa, la, ta, ba, pas ++ [q], bvs, ?_⟩ ?_ (fun t xs e => by rw [upd_ne (tup_ne e hp1'), upd_ne (tup_ne' e R.obj)]; exact e)
    · have nl : la ≠ a := lst_ne R.hl R.obj
      have nt : ta ≠ a := lst_ne R.ht R.obj
      have nb : ba ≠ a := lst_ne R.hb R.obj
      have prt : ∀ {q' : Addr} {p' : Nat × Option (Nat × Nat)}, PartAt CP H q' p' → PartAt CP (upd (upd H a (.ins CR dx (rf pa la ta ba (V.int ((pas.map V.ref).length : Nat))))) pa (.lst (pas.map V.ref ++ [V.ref q]))) q' p' := fun h => h.keep (by rw [upd_ne (part_ne h R.hp), upd_ne (part_ne' h R.obj)])
      constructor
      case obj =>
        rw [upd_ne na.symm, upd_same, List.length_map, R.plen]
        rfl
      case hp =>
        rw [upd_same, List.map_append]
        rfl
      case hl => rw [upd_ne R.pl.symm, upd_ne nl]; exact R.hl
      case ht => rw [upd_ne R.pt.symm, upd_ne nt]; exact R.ht
      case hb => rw [upd_ne R.pb.symm, upd_ne nb]; exact R.hb
      case pl => exact R.pl
      case pt => exact R.pt
      case pb => exact R.pb
      case lt => exact R.lt
      case lb => exact R.lb
      case tb => exact R.tb
      case plen => simp [R.plen]
      case part =>
        intro i q' p' h1 h2
        rcases get_snoc h1 with ⟨e1, h1⟩ | ⟨e1, rfl⟩
        · rcases get_snoc h2 with ⟨e2, h2⟩ | ⟨e2, rfl⟩
          · exact prt (R.part i q' p' h1 h2)
          · have := R.plen
            omega
        · rcases get_snoc h2 with ⟨e2, h2⟩ | ⟨e2, rfl⟩
          · have := R.plen
            omega
          · exact prt hq
      case blen => exact R.blen
      case brk =>
        intro i v o h1 h2
        refine (R.brk i v o h1 h2).keep fun t xs e => ?_
        rw [upd_ne (tup_ne e R.hp), upd_ne (tup_ne' e R.obj)]
        exact e
    · exact (Fz.upd_ins R.obj).trans (Fz.upd_lst hp1)
end
end Nt
end
section
set_option Elab.async false
set_option linter.all false
set_option maxRecDepth 100000
set_option maxHeartbeats 4000000
namespace Nt
open PySem PySem.Spec PyProof.Rows L2
open PySem.W (Codec)
section
variable {CP CR : Addr} {H : Hp} {a : Addr} {s : Lk.RS} {dx pa la ta ba : Addr} {pas : List Addr} {bvs : List V}
/-- the open brackets are written -/
theorem RdX.br (R : RdX CP CR H a s dx pa la ta ba pas bvs) {bvs' : List V} {bs : List (Option (Nat × Nat × Nat))} (hl : bvs'.length = bs.length) (h : ∀ (i : Nat) (v : V) (o : Option (Nat × Nat × Nat)), bvs'[i]? = some v → bs[i]? = some o → BrAt H v o) :
    RdX CP CR (upd H ba (.lst bvs')) a { s with brackets := bs } dx pa la ta ba pas bvs' where
  obj := by rw [upd_ne (lst_ne R.hb R.obj).symm]; exact R.obj
  hp := by rw [upd_ne R.pb]; exact R.hp
  hl := by rw [upd_ne R.lb]; exact R.hl
  ht := by rw [upd_ne R.tb]; exact R.ht
  hb := upd_same
  pl := R.pl
  pt := R.pt
  pb := R.pb
  lt := R.lt
  lb := R.lb
  tb := R.tb
  plen := R.plen
  part := fun i q p h1 h2 => (R.part i q p h1 h2).keep (by rw [upd_ne (part_ne (R.part i q p h1 h2) R.hb)])
  blen := hl
  brk := fun i v o h1 h2 => (h i v o h1 h2).keep fun t xs e => by rw [upd_ne (tup_ne e R.hb)]; exact e
/-- the latest is written -/
theorem RdX.lat (R : RdX CP CR H a s dx pa la ta ba pas bvs) {o : Option Nat} {v : V} (hv : v = oV o) : RdX CP CR (upd H a (.ins CR dx (rf pa la ta ba v))) a { s with latest := o } dx pa la ta ba pas bvs where
  obj := by rw [upd_same, hv]
  hp := by rw [upd_ne (lst_ne R.hp R.obj)]; exact R.hp
  hl := by rw [upd_ne (lst_ne R.hl R.obj)]; exact R.hl
  ht := by rw [upd_ne (lst_ne R.ht R.obj)]; exact R.ht
  hb := by rw [upd_ne (lst_ne R.hb R.obj)]; exact R.hb
  pl := R.pl
  pt := R.pt
  pb := R.pb
  lt := R.lt
  lb := R.lb
  tb := R.tb
  plen := R.plen
  part := fun i q p h1 h2 => (R.part i q p h1 h2).keep (by rw [upd_ne (part_ne' (R.part i q p h1 h2) R.obj)])
  blen := R.blen
  brk := fun i v o h1 h2 => (R.brk i v o h1 h2).keep fun t xs e => by rw [upd_ne (tup_ne' e R.obj)]; exact e
/-- the letters are written -/
theorem RdX.let_ (R : RdX CP CR H a s dx pa la ta ba pas bvs) {ls : List Nat} {vs : List V} (hv : vs = ls.map nV) : RdX CP CR (upd H la (.lst vs)) a { s with letters := ls } dx pa la ta ba pas bvs where
  obj := by rw [upd_ne (lst_ne R.hl R.obj).symm]; exact R.obj
  hp := by rw [upd_ne R.pl]; exact R.hp
  hl := by rw [upd_same, hv]
  ht := by rw [upd_ne R.lt.symm]; exact R.ht
  hb := by rw [upd_ne R.lb.symm]; exact R.hb
  pl := R.pl
  pt := R.pt
  pb := R.pb
  lt := R.lt
  lb := R.lb
  tb := R.tb
  plen := R.plen
  part := fun i q p h1 h2 => (R.part i q p h1 h2).keep (by rw [upd_ne (part_ne (R.part i q p h1 h2) R.hl)])
  blen := R.blen
  brk := fun i v o h1 h2 => (R.brk i v o h1 h2).keep fun t xs e => by rw [upd_ne (tup_ne e R.hl)]; exact e
/-- the ones are written -/
theorem RdX.ones (R : RdX CP CR H a s dx pa la ta ba pas bvs) {ls : List (Option Nat)} {vs : List V} (hv : vs = ls.map oV) : RdX CP CR (upd H ta (.lst vs)) a { s with ones := ls } dx pa la ta ba pas bvs where
  obj := by rw [upd_ne (lst_ne R.ht R.obj).symm]; exact R.obj
  hp := by rw [upd_ne R.pt]; exact R.hp
  hl := by rw [upd_ne R.lt]; exact R.hl
  ht := by rw [upd_same, hv]
  hb := by rw [upd_ne R.tb.symm]; exact R.hb
  pl := R.pl
  pt := R.pt
  pb := R.pb
  lt := R.lt
  lb := R.lb
  tb := R.tb
  plen := R.plen
  part := fun i q p h1 h2 => (R.part i q p h1 h2).keep (by rw [upd_ne (part_ne (R.part i q p h1 h2) R.ht)])
  blen := R.blen
  brk := fun i v o h1 h2 => (R.brk i v o h1 h2).keep fun t xs e => by rw [upd_ne (tup_ne e R.ht)]; exact e
end
section
variable {P : Program} {w : World} {K : PySem.W.Frag} {mg : Str → Option Value} {base : Heap} {CP CR : Addr}
/-- what a reader of one byte promises -/
def spStep (CP CR : Addr) (ok : Lk.RS → Prop) (g : Lk.RS → Nat → Option Lk.RS) : Sp := fun vs H Q _ => ∃ (a : Addr) (c : Nat) (s : Lk.RS), vs = [.ref a, nV c] ∧ RdAt CP CR H a s ∧ ok s ∧ Small s 900 ∧
  ∀ H' : Hp, Fz H H' → (g s c = none → Q (.bl false) H') ∧ (∀ s', g s c = some s' → RdAt CP CR H' a s' → Q (.bl true) H')
/-! ### begin_formula(reading, byte) -/
abbrev spBegin (CP CR : Addr) : Sp := spStep CP CR (fun s => s.latest = none) Lk.begin_
theorem scBegin : FnScope ["reading", "byte"] ["reading", "byte"] (defScope sBegin) := ⟨rfl, rfl, rfl, by decide +kernel, rfl, by decide +kernel, by decide +kernel⟩
theorem ok_begin {f fI fF fP : Addr} {fd fdI fdF fdP : FuncData} (F : Fun K "begin_formula" "begin_formula" sBegin f fd) (T : Txt K mg CP CR)
    (FI : Fun K "is_letter" "is_letter" sIsLetter fI fdI) (bI : Binds K fdI ["byte"] []) (mI : mg "is_letter" = some (.ref fI))
    (FF : Fun K "finish_part" "finish_part" sFinish fF fdF) (bF : Binds K fdF ["reading", "part"] []) (mF : mg "finish_part" = some (.ref fF))
    (FP : Fun K "__init__" "Part.__init__" sPart fP fdP) (bP : Binds K fdP ["self", "sign", "left", "right"] []) (M : Mk K CP fP) :
    FnOk P w K mg base CX0 3 f fd ["reading", "byte"] (spBegin CP CR) := by
  have GI : FnOk P w K mg base CX0 1 fI fdI ["byte"] spIsLetter := ok_isLetter FI T
  have GF : FnOk P w K mg base CX0 1 fF fdF ["reading", "part"] (spFinish CP CR) := ok_finish FF T
  have GP : FnOk P w K mg base CX0 1 fP fdP ["self", "sign", "left", "right"] (spPart CP) := ok_part FP T
  refine F.ok scBegin (fun vs H Q E h => ?_) (fun cdv A outer s H vs Q E hr h => ?_)
  · obtain ⟨a, c, s, rfl, _⟩ := h
    rfl
  · obtain ⟨a, c, s, rfl, ⟨dx, pa, la, ta, ba, pas, bvs, R⟩, hlt, hsm, k⟩ := h
    have hr1 : Room 1 _ := hr.mono (by decide)
    obtain ⟨t1, hMR⟩ := T.cMR
    obtain ⟨t2, hMT⟩ := T.cMT
    refine ⟨_, pss_cons (ps_if (pt_cmpR op_eq (pv 1) (pe_ordc 40 rfl T.ord (by decide +kernel) (by decide +kernel)) (nomark _))
        (pss_cons (ps_expr (pe_bm PySem.F.plainAttrs_list PySem.F.slot_list_append PySem.F.type_list_append mt_append (pe_fld (pv 0) rfl) (pa_cons pe_non pa_nil)))
          (pss_one (ps_ret (pe_cmpR op_le (pe_callB call_len_seq (by rfl) T.len PySem.boot_len (pa_cons (pe_fld (pv 0) rfl) pa_nil)) (pe_glob (v := .int 16) rfl hMR ⟨_, rfl⟩) (nomark _))))) pss_nil)
      (pss_cons (ps_if (pt_not (pt_val (pe_call GI hr1 rfl mI FI.kp bI .nil pass0 (pa_cons (pv 1) pa_nil)))) (pss_one (ps_ret pe_bl)) pss_nil)
      (pss_cons (ps_expr (pe_call GF hr1 rfl mF FF.kp bF .nil pass0 (pa_cons (pv 0) (pa_cons (pe_make M GP hr rfl T.mgP bP .nil pass0 (pa_cons (pv 1) (pa_cons pe_non (pa_cons pe_non pa_nil)))) pa_nil))))
      (pss_cons (ps_expr (pe_bm PySem.F.plainAttrs_list PySem.F.slot_list_append PySem.F.type_list_append mt_append (pe_fld (pv 0) rfl) (pa_cons (pe_fld (pv 0) rfl) pa_nil)))
      (pss_one (ps_ret (pe_cmpR op_le (pe_callB call_len_seq (by rfl) T.len PySem.boot_len (pa_cons (pe_fld (pv 0) rfl) pa_nil)) (pe_glob (v := .int 16) rfl hMT ⟨_, rfl⟩) (nomark _))))))), ?_⟩
    refine ⟨_, rfl, rfl, _, rfl, ite2 (fun h40 => ?_) (fun h40 => ?_)⟩
    · have h40 : c = 40 := by
        have := of_decide_eq_true h40
        injection this with this
        exact Int.ofNat.inj this
      have R1 := R.br (bvs' := bvs ++ [.non]) (bs := s.brackets ++ [none]) (by simp [R.blen]) (fun i v o h1 h2 => by
        rcases get_snoc h1 with ⟨e1, h1⟩ | ⟨e1, rfl⟩
        · rcases get_snoc h2 with ⟨e2, h2⟩ | ⟨e2, rfl⟩
          · exact R.brk i v o h1 h2
          · have := R.blen
            omega
        · rcases get_snoc h2 with ⟨e2, h2⟩ | ⟨e2, rfl⟩
          · have := R.blen
            omega
          · rfl)
      refine ⟨_, rfl, a, CR, dx, _, _, rfl, R.obj, T.clR, T.rB, rf_brackets _ _ _ _ _, .inl ⟨rfl, _, SqL.of R.hb⟩, ba, bvs, _, rfl, rfl, R.hb, (by rw [R.blen]; exact lineOk hsm.b (by decide)), ?_⟩
      refine ⟨_, rfl, a, CR, dx, _, _, rfl, R1.obj, T.clR, T.rB, rf_brackets _ _ _ _ _, ba, _, rfl, .inl (SqL.of R1.hb), _, _, rfl, rfl, ?_⟩
      have K := k _ (Fz.upd_lst R.hb (o := .lst (bvs ++ [.non])))
      have hlen : (bvs ++ [V.non]).length = s.brackets.length + 1 := by simp [R.blen]
      rw [hlen]
      show Q (.bl (decide (((s.brackets.length + 1 : Nat) : Int) ≤ 16))) _
      subst h40
      by_cases hle : s.brackets.length + 1 ≤ 16
      · have e : decide (((s.brackets.length + 1 : Nat) : Int) ≤ 16) = true := decide_eq_true (by omega)
        rw [e]
        refine K.2 { s with brackets := s.brackets ++ [none] } ?_ ⟨dx, pa, la, ta, ba, pas, _, R1⟩
        unfold Lk.begin_
        rw [if_pos rfl, if_pos hle]
      · have e : decide (((s.brackets.length + 1 : Nat) : Int) ≤ 16) = false := decide_eq_false (by omega)
        rw [e]
        refine K.1 ?_
        unfold Lk.begin_
        rw [if_pos rfl, if_neg hle]
    · have h40 : c ≠ 40 := fun z => h40 (by subst z; rfl)
      refine ⟨_, rfl, c, rfl, _, rfl, ite2 (fun hn => ?_) (fun hn => ?_)⟩
      · have hn : ¬ Lk.isLet c := by
          intro z
          rw [decide_eq_true z] at hn
          cases hn
        refine (k H (Fz.refl H)).1 ?_
        unfold Lk.begin_
        rw [if_neg h40, if_neg hn]
      · have hn : Lk.isLet c := by
          by_cases z : Lk.isLet c
          · exact z
          · rw [decide_eq_false z] at hn
            exact (hn rfl).elim
        refine ⟨_, rfl, _, rfl, ?_⟩
        intro x dp nx nd ne
        refine ⟨x, dp, _, _, _, rfl, upd_same, fun H1 ⟨d1, e1⟩ k1 => ⟨rfl, ?_⟩⟩
        have s1 : Same H H1 := Same.made nx nd k1
        refine ⟨a, x, s, (c, none), rfl, ⟨dx, pa, la, ta, ba, pas, bvs, R.same s1⟩, ⟨d1, e1⟩, Nat.le_trans hsm.p (by decide), fun H2 R2 f2 _ => ?_⟩
        obtain ⟨dx, pa, la, ta, ba, pas, bvs, R2⟩ := R2
        have R3 := R2.let_ (ls := s.letters ++ [s.parts.length]) (vs := s.letters.map nV ++ [nV s.parts.length]) (by rw [List.map_append]; rfl)
        refine ⟨_, rfl, a, CR, dx, _, _, rfl, R2.obj, T.clR, T.rL, rf_letters _ _ _ _ _, .inl ⟨rfl, _, SqL.of R2.hl⟩, _, rfl, a, CR, dx, _, _, rfl, R2.obj, T.clR, T.rX, rf_latest _ _ _ _ _, la, _, _, rfl, rfl, R2.hl, (by rw [List.length_map]; exact lineOk hsm.l (by decide)), ?_⟩
        refine ⟨_, rfl, a, CR, dx, _, _, rfl, R3.obj, T.clR, T.rL, rf_letters _ _ _ _ _, la, _, rfl, .inl (SqL.of R3.hl), _, _, rfl, rfl, ?_⟩
        have K := k _ (((Fz.of_same s1).trans f2).trans (Fz.upd_lst R2.hl (o := .lst (s.letters.map nV ++ [nV s.parts.length]))))
        have hlen : ((s.letters ++ [s.parts.length]).map nV).length = s.letters.length + 1 := by simp
        rw [hlen]
        show Q (.bl (decide (((s.letters.length + 1 : Nat) : Int) ≤ 16))) _
        by_cases hle : s.letters.length + 1 ≤ 16
        · have e : decide (((s.letters.length + 1 : Nat) : Int) ≤ 16) = true := decide_eq_true (by omega)
          rw [e]
          refine K.2 { s with parts := s.parts ++ [(c, none)], letters := s.letters ++ [s.parts.length], latest := some s.parts.length } ?_ ⟨dx, pa, la, ta, ba, pas, bvs, R3⟩
          unfold Lk.begin_
          rw [if_neg h40, if_pos hn, if_pos hle]
        · have e : decide (((s.letters.length + 1 : Nat) : Int) ≤ 16) = false := decide_eq_false (by omega)
          rw [e]
          refine K.1 ?_
          unfold Lk.begin_
          rw [if_neg h40, if_pos hn, if_neg hle]
end
end Nt
end
section
set_option Elab.async false
set_option linter.all false
set_option maxRecDepth 100000
set_option maxHeartbeats 4000000
namespace Nt
open PySem PySem.Spec PyProof.Rows L2
open PySem.W (Codec)
theorem int_inj {c d : Nat} (h : nV c = nV d) : c = d := by
  injection h with h
  exact Int.ofNat.inj h
theorem neT {c d : Nat} (h : (!decide (nV c = nV d)) = true) : c ≠ d := by
  intro z
  subst z
  simp at h
theorem neF {c d : Nat} (h : ¬ (!decide (nV c = nV d)) = true) : c = d := by
  by_cases z : nV c = nV d
  · exact int_inj z
  · exact (h (by rw [decide_eq_false z]; rfl)).elim
section
variable {P : Program} {w : World} {K : PySem.W.Frag} {mg : Str → Option Value} {base : Heap} {CP CR : Addr}
/-! ### go_on_outside_brackets(reading, byte) -/
abbrev spOutside (CP CR : Addr) : Sp := spStep CP CR (fun s => ∃ x, s.latest = some x ∧ s.brackets = []) Lk.step
theorem scOutside : FnScope ["reading", "byte"] ["reading", "byte"] (defScope sOutside) := ⟨rfl, rfl, rfl, by decide +kernel, rfl, by decide +kernel, by decide +kernel⟩
theorem ok_outside {f : Addr} {fd : FuncData} (F : Fun K "go_on_outside_brackets" "go_on_outside_brackets" sOutside f fd) (T : Txt K mg CP CR) : FnOk P w K mg base CX0 1 f fd ["reading", "byte"] (spOutside CP CR) := by
  refine F.ok scOutside (fun vs H Q E h => ?_) (fun cdv A outer s H vs Q E hr h => ?_)
  · obtain ⟨a, c, s, rfl, _⟩ := h
    rfl
  · obtain ⟨a, c, s, rfl, ⟨dx, pa, la, ta, ba, pas, bvs, R⟩, ⟨x, hx, hb⟩, hsm, k⟩ := h
    refine ⟨_, pss_cons (ps_if (pt_cmpR op_ne (pv 1) (pe_ordc 44 rfl T.ord (by decide +kernel) (by decide +kernel)) (nomark _)) (pss_one (ps_ret pe_bl)) pss_nil)
      (pss_cons (ps_fld (pv 0) pe_non rfl) (pss_one (ps_ret pe_bl))), ?_⟩
    have est : Lk.step s c = if c = 44 then some { s with tops := s.tops ++ [x], latest := none } else none := by
      unfold Lk.step
      rw [hx]
      exact Lk.goOn_top hb c
    refine ⟨_, rfl, rfl, _, rfl, ite2 (fun h44 => ?_) (fun h44 => ?_)⟩
    · have h44 := neT h44
      exact (k H (Fz.refl H)).1 (by rw [est, if_neg h44])
    · have h44 := neF h44
      rw [if_pos h44] at est
      have R2 := (R.ghost (s.tops ++ [x])).lat (o := none) (v := .non) rfl
      refine ⟨_, rfl, a, CR, dx, _, rfl, R.obj, T.clR, T.rX, rf_len _ _ _ _ _, ?_⟩
      rw [rf_put]
      exact (k _ (Fz.upd_ins R.obj)).2 _ est ⟨dx, pa, la, ta, ba, pas, bvs, R2⟩
/-! ### go_on_to_second(reading, byte) -/
abbrev spSecond (CP CR : Addr) : Sp := spStep CP CR (fun s => ∃ x bs, s.latest = some x ∧ s.brackets = bs ++ [none]) Lk.step
theorem scSecond : FnScope ["reading", "byte"] ["reading", "byte"] (defScope sSecond) := ⟨rfl, rfl, rfl, by decide +kernel, rfl, by decide +kernel, by decide +kernel⟩
theorem ixN_last (n : Nat) : ixN (n + 1) (-1) = some n := by
  unfold ixN
  rw [if_neg (by decide), if_pos (by omega)]
  congr 1
  omega
theorem ixN_at {n k : Nat} (h : k < n) : ixN n (k : Int) = some k := by
  unfold ixN
  simp
  omega
theorem set_last {α : Type} (l : List α) (x y : α) : (l ++ [x]).set l.length y = l ++ [y] := by
  rw [List.set_append_right _ _ (Nat.le_refl _), Nat.sub_self]
  rfl
theorem snoc_of {α : Type} {l : List α} {n : Nat} (h : l.length = n + 1) : ∃ l' x, l = l' ++ [x] ∧ l'.length = n := by
  have hne : l ≠ [] := by
    intro z
    rw [z] at h
    cases h
  refine ⟨l.dropLast, l.getLast hne, (List.dropLast_concat_getLast hne).symm, ?_⟩
  rw [List.length_dropLast, h]
  rfl
theorem ok_second {f : Addr} {fd : FuncData} (F : Fun K "go_on_to_second" "go_on_to_second" sSecond f fd) (T : Txt K mg CP CR) : FnOk P w K mg base CX0 1 f fd ["reading", "byte"] (spSecond CP CR) := by
  refine F.ok scSecond (fun vs H Q E h => ?_) (fun cdv A outer s H vs Q E hr h => ?_)
  · obtain ⟨a, c, s, rfl, _⟩ := h
    rfl
  · obtain ⟨a, c, s, rfl, ⟨dx, pa, la, ta, ba, pas, bvs, R⟩, ⟨x, bs, hx, hb⟩, hsm, k⟩ := h
    refine ⟨_, pss_cons (ps_if (PW.pt (pw_and (pt_cmpR op_ne (pv 1) (pe_ordc 42 rfl T.ord (by decide +kernel) (by decide +kernel)) (nomark _)) (pw_and1 (pt_cmpR op_ne (pv 1) (pe_ordc 124 rfl T.ord (by decide +kernel) (by decide +kernel)) (nomark _))))) (pss_one (ps_ret pe_bl)) pss_nil)
      (pss_cons (ps_asg (pe_tup (pa_cons (pv 1) (pa_cons (pe_fld (pv 0) rfl) (pa_cons (pe_callB call_len_seq (by rfl) T.len PySem.boot_len (pa_cons (pe_fld (pv 0) rfl) pa_nil)) pa_nil)))) (pg_sub (pe_fld (pv 0) rfl) (pe_un un_neg pe_int) set_list))
      (pss_cons (ps_fld (pv 0) pe_non rfl)
      (pss_cons (ps_if (pt_cmpR op_eq (pv 1) (pe_ordc 124 rfl T.ord (by decide +kernel) (by decide +kernel)) (nomark _)) (pss_one (ps_expr (pe_bm PySem.F.plainAttrs_list PySem.F.slot_list_append PySem.F.type_list_append mt_append (pe_fld (pv 0) rfl) (pa_cons pe_non pa_nil)))) pss_nil)
      (pss_one (ps_ret pe_bl))))), ?_⟩
    have est : Lk.step s c = if c = 42 ∨ c = 124 then some { s with brackets := bs ++ [some (c, x, s.ones.length)], latest := none, ones := if c = 124 then s.ones ++ [none] else s.ones } else none := by
      unfold Lk.step
      rw [hx]
      show Lk.goOn s x c = _
      unfold Lk.goOn
      rw [hb, Lk.getLast_snoc, List.dropLast_concat]
    have hlen : bvs.length = bs.length + 1 := by rw [R.blen, hb]; simp
    obtain ⟨b0, v0, e0, l0⟩ := snoc_of hlen
    have R2 : ∀ t, H t = Option.none → RdX CP CR (upd (upd H t (.tup [nV c, oV s.latest, V.int ((s.ones.map oV).length : Nat)])) ba (.lst (b0 ++ [.ref t]))) a { s with brackets := bs ++ [some (c, x, s.ones.length)] } dx pa la ta ba pas (b0 ++ [.ref t]) := by
      intro t ht
      have st : Same H (upd H t (.tup [nV c, oV s.latest, V.int ((s.ones.map oV).length : Nat)])) := same_new ht
      have R1 := R.same st
      exact R1.br (bvs' := b0 ++ [.ref t]) (bs := bs ++ [some (c, x, s.ones.length)]) (by simp [l0]) (fun i v o h1 h2 => by
        rcases get_snoc h1 with ⟨e1, h1⟩ | ⟨e1, rfl⟩
        · rcases get_snoc h2 with ⟨e2, h2⟩ | ⟨e2, rfl⟩
          · refine R1.brk i v o ?_ ?_
            · rw [e0, List.getElem?_append_left e1]
              exact h1
            · rw [hb, List.getElem?_append_left e2]
              exact h2
          · omega
        · rcases get_snoc h2 with ⟨e2, h2⟩ | ⟨e2, rfl⟩
          · omega
          · exact ⟨t, rfl, by rw [upd_same, hx, List.length_map]; rfl⟩)
    refine ⟨_, rfl, rfl, _, rfl, ite2 (fun h1 => ?_) (fun h1 => ?_)⟩
    · have h1 := neT h1
      refine ⟨_, rfl, rfl, _, rfl, ite2 (fun h2 => ?_) (fun h2 => ?_)⟩
      · have h2 := neT h2
        exact (k H (Fz.refl H)).1 (by rw [est, if_neg (by omega)])
      · have h2 := neF h2
        subst h2
        rw [if_pos (Or.inr rfl), if_pos rfl] at est
        refine ⟨_, rfl, _, rfl, a, CR, dx, _, _, rfl, R.obj, T.clR, T.rX, rf_latest _ _ _ _ _, _, rfl, a, CR, dx, _, _, rfl, R.obj, T.clR, T.rT, rf_ones _ _ _ _ _, ta, _, rfl, .inl (SqL.of R.ht), (by show 3 ≤ sizeLine; decide), fun t ht => ?_⟩
        have st : Same H (upd H t (.tup [nV 124, oV s.latest, V.int ((s.ones.map oV).length : Nat)])) := same_new ht
        have R1 := R.same st
        have R2' := R2 t ht
        have R3 := R2'.lat (o := none) (v := .non) rfl
        have R4 := R3.ones (ls := s.ones ++ [none]) (vs := s.ones.map oV ++ [.non]) (by rw [List.map_append]; rfl)
        refine ⟨_, rfl, a, CR, dx, _, _, rfl, R1.obj, T.clR, T.rB, rf_brackets _ _ _ _ _, 1, rfl, ba, bvs, -1, b0.length, rfl, rfl, R1.hb, (by rw [e0, List.length_append]; exact ixN_last _), ?_⟩
        rw [e0, set_last]
        refine ⟨_, rfl, a, CR, dx, _, rfl, R2'.obj, T.clR, T.rX, rf_len _ _ _ _ _, ?_⟩
        rw [rf_put]
        refine ⟨_, rfl, rfl, _, rfl, iteT ?_⟩
        refine ⟨_, rfl, a, CR, dx, _, _, rfl, R3.obj, T.clR, T.rT, rf_ones _ _ _ _ _, .inl ⟨rfl, _, SqL.of R3.ht⟩, ta, _, _, rfl, rfl, R3.ht, (by rw [List.length_map]; exact lineOk hsm.t (by decide)), ?_⟩
        exact (k _ ((((Fz.of_same st).trans (Fz.upd_lst R1.hb)).trans (Fz.upd_ins R2'.obj)).trans (Fz.upd_lst R3.ht))).2 _ est ⟨dx, pa, la, ta, ba, pas, _, R4⟩
    · have h1 := neF h1
      subst h1
      rw [if_pos (Or.inl rfl), if_neg (by decide)] at est
      refine iteF ?_
      refine ⟨_, rfl, _, rfl, a, CR, dx, _, _, rfl, R.obj, T.clR, T.rX, rf_latest _ _ _ _ _, _, rfl, a, CR, dx, _, _, rfl, R.obj, T.clR, T.rT, rf_ones _ _ _ _ _, ta, _, rfl, .inl (SqL.of R.ht), (by show 3 ≤ sizeLine; decide), fun t ht => ?_⟩
      have st : Same H (upd H t (.tup [nV 42, oV s.latest, V.int ((s.ones.map oV).length : Nat)])) := same_new ht
      have R1 := R.same st
      have R2' := R2 t ht
      have R3 := R2'.lat (o := none) (v := .non) rfl
      refine ⟨_, rfl, a, CR, dx, _, _, rfl, R1.obj, T.clR, T.rB, rf_brackets _ _ _ _ _, 1, rfl, ba, bvs, -1, b0.length, rfl, rfl, R1.hb, (by rw [e0, List.length_append]; exact ixN_last _), ?_⟩
      rw [e0, set_last]
      refine ⟨_, rfl, a, CR, dx, _, rfl, R2'.obj, T.clR, T.rX, rf_len _ _ _ _ _, ?_⟩
      rw [rf_put]
      refine ⟨_, rfl, rfl, _, rfl, iteF ?_⟩
      exact (k _ (((Fz.of_same st).trans (Fz.upd_lst R1.hb)).trans (Fz.upd_ins R2'.obj))).2 _ est ⟨dx, pa, la, ta, ba, pas, _, R3⟩
/-! ### close_bracket(reading, byte) -/
abbrev spClose (CP CR : Addr) : Sp := spStep CP CR (fun s => ∃ x bs o y z, s.latest = some x ∧ s.brackets = bs ++ [some (o, y, z)] ∧ (o = 124 → z < s.ones.length)) Lk.step
theorem scClose : FnScope ["reading", "byte", "half"] ["reading", "byte"] (defScope sClose) := ⟨rfl, rfl, rfl, by decide +kernel, rfl, by decide +kernel, by decide +kernel⟩
theorem ok_close {f fF fP : Addr} {fd fdF fdP : FuncData} (F : Fun K "close_bracket" "close_bracket" sClose f fd) (T : Txt K mg CP CR)
    (FF : Fun K "finish_part" "finish_part" sFinish fF fdF) (bF : Binds K fdF ["reading", "part"] []) (mF : mg "finish_part" = some (.ref fF))
    (FP : Fun K "__init__" "Part.__init__" sPart fP fdP) (bP : Binds K fdP ["self", "sign", "left", "right"] []) (M : Mk K CP fP) : FnOk P w K mg base CX0 3 f fd ["reading", "byte"] (spClose CP CR) := by
  have GF : FnOk P w K mg base CX0 1 fF fdF ["reading", "part"] (spFinish CP CR) := ok_finish FF T
  have GP : FnOk P w K mg base CX0 1 fP fdP ["self", "sign", "left", "right"] (spPart CP) := ok_part FP T
  refine F.ok scClose (fun vs H Q E h => ?_) (fun cdv A outer s H vs Q E hr h => ?_)
  · obtain ⟨a, c, s, rfl, _⟩ := h
    rfl
  · obtain ⟨a, c, s, rfl, ⟨dx, pa, la, ta, ba, pas, bvs, R⟩, ⟨x, bs, o, y, z, hx, hb, hz⟩, hsm, k⟩ := h
    have hr1 : Room 1 _ := hr.mono (by decide)
    refine ⟨_, pss_cons (ps_if (pt_cmpR op_ne (pv 1) (pe_ordc 41 rfl T.ord (by decide +kernel) (by decide +kernel)) (nomark _)) (pss_one (ps_ret pe_bl)) pss_nil)
      (pss_cons (ps_set (i := 2) scClose.nd rfl (Or.inl rfl) (pe_bm0 PySem.F.plainAttrs_list PySem.F.slot_list_pop PySem.F.type_list_pop mt_pop (pe_fld (pv 0) rfl)))
      (pss_cons (ps_expr (pe_call GF hr1 rfl mF FF.kp bF .nil pass0 (pa_cons (pv 0) (pa_cons (pe_make M GP hr rfl T.mgP bP .nil pass0 (pa_cons (pe_ix ix_tup (pv 2) pe_int (fun _ _ => rfl)) (pa_cons (pe_ix ix_tup (pv 2) pe_int (fun _ _ => rfl)) (pa_cons (pe_fld (pv 0) rfl) pa_nil)))) pa_nil))))
      (pss_cons (ps_if (pt_cmpR op_eq (pe_ix ix_tup (pv 2) pe_int (fun _ _ => rfl)) (pe_ordc 124 rfl T.ord (by decide +kernel) (by decide +kernel)) (nomark _)) (pss_one (ps_asg (pe_fld (pv 0) rfl) (pg_sub (pe_fld (pv 0) rfl) (pe_ix ix_tup (pv 2) pe_int (fun _ _ => rfl)) set_list))) pss_nil)
      (pss_one (ps_ret pe_bl))))), ?_⟩
    have est : Lk.step s c = if c = 41 then some { s with parts := s.parts ++ [(o, some (y, x))], brackets := bs, latest := some s.parts.length, ones := if o = 124 then s.ones.set z (some s.parts.length) else s.ones } else none := by
      unfold Lk.step
      rw [hx]
      show Lk.goOn s x c = _
      unfold Lk.goOn
      rw [hb, Lk.getLast_snoc, List.dropLast_concat]
    refine ⟨_, rfl, rfl, _, rfl, ite2 (fun h41 => ?_) (fun h41 => ?_)⟩
    · have h41 := neT h41
      exact (k H (Fz.refl H)).1 (by rw [est, if_neg h41])
    · have h41 := neF h41
      have hlen : bvs.length = bs.length + 1 := by rw [R.blen, hb]; simp
      obtain ⟨b0, v0, e0, l0⟩ := snoc_of hlen
      have hv0 : BrAt H v0 (some (o, y, z)) := R.brk bs.length v0 (some (o, y, z)) (by rw [e0, ← l0, List.getElem?_concat_length]) (by rw [hb, List.getElem?_concat_length])
      obtain ⟨t, rfl, ht⟩ := hv0
      have R1 := R.br (bvs' := b0) (bs := bs) l0 (fun i v o' h1 h2 => by
        have i1 := (List.getElem?_eq_some_iff.mp h1).1
        have i2 := (List.getElem?_eq_some_iff.mp h2).1
        refine R.brk i v o' ?_ ?_
        · rw [e0, List.getElem?_append_left i1]
          exact h1
        · rw [hb, List.getElem?_append_left i2]
          exact h2)
      have ht1 : (upd H ba (.lst b0)) t = some (.tup [nV o, nV y, nV z]) := by rw [upd_ne (tup_ne ht R.hb)]; exact ht
      refine ⟨_, rfl, a, CR, dx, _, _, rfl, R.obj, T.clR, T.rB, rf_brackets _ _ _ _ _, .inl ⟨rfl, _, SqL.of R.hb⟩, ba, bvs, .ref t, rfl, rfl, R.hb, (by rw [hlen, e0, Nat.add_sub_cancel, ← l0, List.getElem?_concat_length]), ?_⟩
      have ed : bvs.dropLast = b0 := by rw [e0, List.dropLast_concat]
      rw [ed]
      refine ⟨_, rfl, _, rfl, t, _, 0, _, rfl, rfl, SqT.of ht1, rfl, _, rfl, t, _, 1, _, rfl, rfl, SqT.of ht1, rfl, _, rfl, a, CR, dx, _, _, rfl, R1.obj, T.clR, T.rX, rf_latest _ _ _ _ _, ?_⟩
      intro q dz nx nd ne
      refine ⟨q, dz, _, _, _, rfl, upd_same, fun H1 ⟨d1, e1⟩ k1 => ⟨rfl, ?_⟩⟩
      have s1 : Same (upd H ba (.lst b0)) H1 := Same.made nx nd k1
      refine ⟨a, q, _, (o, some (y, x)), rfl, ⟨dx, pa, la, ta, ba, pas, b0, R1.same s1⟩, ⟨d1, ?_⟩, Nat.le_trans hsm.p (by decide), fun H2 RA2 f2 tk2 => ?_⟩
      · rw [e1]
        show some (HO.ins CP d1 (pf (nV o) (nV y) (oV s.latest))) = _
        rw [hx]
        rfl
      · have ht2 := tk2 _ _ (s1 _ _ ht1)
        obtain ⟨dx2, pa2, la2, ta2, ba2, pas2, bvs2, R2⟩ := RA2
        have fz := ((Fz.upd_lst R.hb (o := .lst b0)).trans (Fz.of_same s1)).trans f2
        refine ⟨_, rfl, t, _, 0, _, rfl, rfl, SqT.of ht2, rfl, rfl, _, rfl, ite2 (fun h1 => ?_) (fun h1 => ?_)⟩
        · have h1 : o = 124 := int_inj (of_decide_eq_true h1)
          rw [if_pos h1] at est
          have hz' : z < (s.ones.map oV).length := by rw [List.length_map]; exact hz h1
          have R3 := R2.ones (ls := s.ones.set z (some s.parts.length)) (vs := (s.ones.map oV).set z (nV s.parts.length)) (by rw [List.map_set]; rfl)
          refine ⟨_, rfl, a, CR, dx2, _, _, rfl, R2.obj, T.clR, T.rX, rf_latest _ _ _ _ _, _, rfl, a, CR, dx2, _, _, rfl, R2.obj, T.clR, T.rT, rf_ones _ _ _ _ _, _, rfl, t, _, 2, _, rfl, rfl, SqT.of ht2, rfl, ta2, _, _, z, rfl, rfl, R2.ht, ixN_at hz', ?_⟩
          exact (k _ (fz.trans (Fz.upd_lst R2.ht))).2 _ (by rw [est, if_pos h41]) ⟨dx2, pa2, la2, ta2, ba2, pas2, bvs2, R3⟩
        · have h1 : ¬ o = 124 := fun e => h1 (decide_eq_true (by rw [e]))
          rw [if_neg h1] at est
          exact (k _ fz).2 _ (by rw [est, if_pos h41]) ⟨dx2, pa2, la2, ta2, ba2, pas2, bvs2, R2⟩
/-! ### read_byte(reading, byte) -/
abbrev spByte (CP CR : Addr) : Sp := spStep CP CR Lk.BK Lk.step
theorem scByte : FnScope ["reading", "byte"] ["reading", "byte"] (defScope sByte) := ⟨rfl, rfl, rfl, by decide +kernel, rfl, by decide +kernel, by decide +kernel⟩
theorem spStep.mono {g g' : Lk.RS → Nat → Option Lk.RS} {ok : Lk.RS → Prop} {a : Addr} {c : Nat} {s : Lk.RS} {H : Hp} {Q : VK} (R : RdAt CP CR H a s) (hok : ok s) (hsm : Small s 900) (e : g s c = g' s c)
    (k : ∀ H' : Hp, Fz H H' → (g' s c = none → Q (.bl false) H') ∧ (∀ s', g' s c = some s' → RdAt CP CR H' a s' → Q (.bl true) H')) : spStep CP CR ok g [.ref a, nV c] H Q E0 :=
  ⟨a, c, s, rfl, R, hok, hsm, fun H' f => ⟨fun z => (k H' f).1 (e ▸ z), fun s' z => (k H' f).2 s' (e ▸ z)⟩⟩
theorem ok_byte {f f1 f2 f3 f4 : Addr} {fd fd1 fd2 fd3 fd4 : FuncData} (F : Fun K "read_byte" "read_byte" sByte f fd) (T : Txt K mg CP CR)
    (G1 : FnOk P w K mg base CX0 3 f1 fd1 ["reading", "byte"] (spBegin CP CR)) (k1 : PySem.W.keepIn K (.ref f1) = true) (b1 : Binds K fd1 ["reading", "byte"] []) (m1 : mg "begin_formula" = some (.ref f1))
    (G2 : FnOk P w K mg base CX0 1 f2 fd2 ["reading", "byte"] (spOutside CP CR)) (k2 : PySem.W.keepIn K (.ref f2) = true) (b2 : Binds K fd2 ["reading", "byte"] []) (m2 : mg "go_on_outside_brackets" = some (.ref f2))
    (G3 : FnOk P w K mg base CX0 1 f3 fd3 ["reading", "byte"] (spSecond CP CR)) (k3 : PySem.W.keepIn K (.ref f3) = true) (b3 : Binds K fd3 ["reading", "byte"] []) (m3 : mg "go_on_to_second" = some (.ref f3))
    (G4 : FnOk P w K mg base CX0 3 f4 fd4 ["reading", "byte"] (spClose CP CR)) (k4 : PySem.W.keepIn K (.ref f4) = true) (b4 : Binds K fd4 ["reading", "byte"] []) (m4 : mg "close_bracket" = some (.ref f4)) :
    FnOk P w K mg base CX0 4 f fd ["reading", "byte"] (spByte CP CR) := by
  refine F.ok scByte (fun vs H Q E h => ?_) (fun cdv A outer s H vs Q E hr h => ?_)
  · obtain ⟨a, c, s, rfl, _⟩ := h
    rfl
  · obtain ⟨a, c, s, rfl, RA, hbk, hsm, k⟩ := h
    have RA' := RA
    obtain ⟨dx, pa, la, ta, ba, pas, bvs, R⟩ := RA'
    have hr1 : Room 1 _ := hr.mono (by decide)
    refine ⟨_, pss_cons (ps_if (pt_cmpR op_isN (pe_fld (pv 0) rfl) pe_non (nomark _)) (pss_one (ps_ret (pe_call G1 hr rfl m1 k1 b1 .nil pass0 (pa_cons (pv 0) (pa_cons (pv 1) pa_nil))))) pss_nil)
      (pss_cons (ps_if (pt_not (pt_truth (pe_fld (pv 0) rfl) (fun _ => rfl))) (pss_one (ps_ret (pe_call G2 hr1 rfl m2 k2 b2 .nil pass0 (pa_cons (pv 0) (pa_cons (pv 1) pa_nil))))) pss_nil)
      (pss_cons (ps_if (pt_cmpR op_isN (pe_ix ix_list (pe_fld (pv 0) rfl) (pe_un un_neg pe_int) (fun _ _ => rfl)) pe_non (nomark _)) (pss_one (ps_ret (pe_call G3 hr1 rfl m3 k3 b3 .nil pass0 (pa_cons (pv 0) (pa_cons (pv 1) pa_nil))))) pss_nil)
      (pss_one (ps_ret (pe_call G4 hr rfl m4 k4 b4 .nil pass0 (pa_cons (pv 0) (pa_cons (pv 1) pa_nil))))))), ?_⟩
    refine ⟨_, rfl, a, CR, dx, _, _, rfl, R.obj, T.clR, T.rX, rf_latest _ _ _ _ _, rfl, _, rfl, ite2 (fun h1 => ?_) (fun h1 => ?_)⟩
    · have h1 : s.latest = none := by
        have z := of_decide_eq_true h1
        cases q : s.latest with
        | none => rfl
        | some x =>
          rw [q] at z
          cases z
      exact ⟨_, rfl, _, rfl, spStep.mono RA h1 hsm (by unfold Lk.step; rw [h1]) k⟩
    · obtain ⟨x, hx⟩ : ∃ x, s.latest = some x := by
        cases q : s.latest with
        | none => exact (h1 (by rw [q]; rfl)).elim
        | some x => exact ⟨x, rfl⟩
      refine ⟨_, rfl, a, CR, dx, _, _, rfl, R.obj, T.clR, T.rB, rf_brackets _ _ _ _ _, _, .inl ⟨_, SqL.of R.hb, rfl⟩, ite2 (fun h2 => ?_) (fun h2 => ?_)⟩
      · have h2 : s.brackets = [] := by
          have z : bvs = [] := by simpa using h2
          have l := R.blen
          rw [z] at l
          exact List.length_eq_zero_iff.mp l.symm
        exact ⟨_, rfl, _, rfl, spStep.mono RA ⟨x, hx, h2⟩ hsm rfl k⟩
      · have hne : bvs ≠ [] := fun z => h2 (by rw [z]; rfl)
        have l := R.blen
        obtain ⟨n, hn⟩ : ∃ n, bvs.length = n + 1 := by
          cases bvs with
          | nil => exact (hne rfl).elim
          | cons v r => exact ⟨r.length, rfl⟩
        obtain ⟨b0, v0, e0, l0⟩ := snoc_of hn
        obtain ⟨c0, o0, e1, l1⟩ := snoc_of (l.symm.trans hn)
        have hv0 : BrAt H v0 o0 := R.brk n v0 o0 (by rw [e0, ← l0, List.getElem?_concat_length]) (by rw [e1, ← l1, List.getElem?_concat_length])
        refine ⟨_, rfl, a, CR, dx, _, _, rfl, R.obj, T.clR, T.rB, rf_brackets _ _ _ _ _, 1, rfl, ba, bvs, -1, v0, rfl, rfl, SqL.of R.hb, (by rw [e0]; exact atI_last _ _), rfl, _, rfl, ite2 (fun h3 => ?_) (fun h3 => ?_)⟩
        · have h3 := of_decide_eq_true h3
          have h3 : o0 = none := by
            cases o0 with
            | none => rfl
            | some z =>
              obtain ⟨z1, z2, z3⟩ := z
              obtain ⟨t, q, _⟩ := hv0
              rw [q] at h3
              cases h3
          subst h3
          exact ⟨_, rfl, _, rfl, spStep.mono RA ⟨x, c0, hx, e1⟩ hsm rfl k⟩
        · cases o0 with
          | none => exact (h3 (decide_eq_true hv0)).elim
          | some z =>
            obtain ⟨z1, z2, z3⟩ := z
            exact ⟨_, rfl, _, rfl, spStep.mono RA ⟨x, c0, z1, z2, z3, hx, e1, fun e => hbk z1 z2 z3 (by rw [e1]; simp) e⟩ hsm rfl k⟩
end
end Nt
end
section
set_option Elab.async false
set_option linter.all false
set_option maxRecDepth 100000
set_option maxHeartbeats 4000000
namespace Nt
open PySem PySem.Spec PyProof.Rows L2
open PySem.W (Codec)
theorem Small.of {s : Lk.RS} {k n : Nat} (h : Lk.Sm s k) (hn : k ≤ n) : Small s n := ⟨Nat.le_trans h.1 hn, Nat.le_trans h.2.1 hn, Nat.le_trans h.2.2.1 hn, Nat.le_trans h.2.2.2 hn⟩
section
variable {P : Program} {w : World} {K : PySem.W.Frag} {mg : Str → Option Value} {base : Heap} {CP CR : Addr}
/-! ### read_text(text) -/
/-- what was read of bs -/
def ReadAt (CP CR : Addr) (H : Hp) (bs : List Nat) (v : V) : Prop := (v = .non ∧ Lk.ends Lk.s0 bs = none) ∨ ∃ s a, v = .ref a ∧ Lk.ends Lk.s0 bs = some s ∧ RdAt CP CR H a s ∧ Small s 900
def spText (K : PySem.W.Frag) (CP CR : Addr) : Sp := fun vs H Q _ => ∃ (t : Addr) (bs : List Nat), vs = [.ref t] ∧ ArgL K H t (bs.map nV) ∧ bs.length ≤ 256 ∧
  ∀ (H' : Hp) (v : V), Fz H H' → ReadAt CP CR H' bs v → Q v H'
theorem scText : FnScope ["text", "reading", "byte"] ["text"] (defScope sText) := ⟨rfl, rfl, rfl, by decide +kernel, rfl, by decide +kernel, by decide +kernel⟩
theorem ok_text {f fR fB : Addr} {fd fdR fdB : FuncData} (F : Fun K "read_text" "read_text" sText f fd) (T : Txt K mg CP CR)
    (FR : Fun K "__init__" "Reading.__init__" sRding fR fdR) (bR : Binds K fdR ["self"] []) (M : Mk K CR fR)
    (GB : FnOk P w K mg base CX0 4 fB fdB ["reading", "byte"] (spByte CP CR)) (kB : PySem.W.keepIn K (.ref fB) = true) (bB : Binds K fdB ["reading", "byte"] []) (mB : mg "read_byte" = some (.ref fB)) :
    FnOk P w K mg base CX0 5 f fd ["text"] (spText K CP CR) := by
  have GR : FnOk P w K mg base CX0 1 fR fdR ["self"] (spRding CP CR) := ok_rding FR T
  refine F.ok scText (fun vs H Q E h => ?_) (fun cdv A outer s H vs Q E hr h => ?_)
  · obtain ⟨t, bs, rfl, _⟩ := h
    rfl
  · obtain ⟨t, bs, rfl, hA, hlen, k⟩ := h
    have hr2 : Room 2 _ := hr.mono (by decide)
    refine ⟨_, pss_cons (ps_set (i := 1) scText.nd rfl (Or.inl rfl) (pe_make0 M GR hr2 rfl T.mgR bR .nil pass0))
      (pss_cons (ps_for PassesOwn.never rfl (pi_list (pv 0)) (pg_name (i := 2) scText.nd rfl (Or.inl rfl))
        (pss_one (ps_if (pt_not (pt_val (pe_call GB hr rfl mB kB bB .nil pass0 (pa_cons (pv 1) (pa_cons (pv 2) pa_nil))))) (pss_one (ps_ret pe_non)) pss_nil)))
      (pss_cons (ps_if (PW.pt (pw_or (pt_cmpR op_isN (pe_fld (pv 1) rfl) pe_non (nomark _)) (pw_or1 (pt_truth (pe_fld (pv 1) rfl) (fun _ => rfl))))) (pss_one (ps_ret pe_non)) pss_nil)
      (pss_one (ps_ret (pv 1))))), ?_⟩
    intro a da na nd ne
    refine ⟨a, da, rfl, upd_same, fun H1 R0 k1 => ⟨rfl, ?_⟩⟩
    have s1 : Same H H1 := Same.made na nd k1
    have f1 : Fz H H1 := Fz.of_same s1
    refine ⟨_, rfl, t, rfl, ⟨_, (hA.fz f1).sq⟩, for_list (K := K) (a := t) (xs := bs.map nV) (fun i σ H' => ∃ (v : Option V) (s : Lk.RS), σ = [some (.ref t), some (.ref a), v] ∧ Fz H H' ∧ RdAt CP CR H' a s ∧ Lk.run Lk.s0 (bs.take i) = some s ∧ Lk.Sm s i ∧ Lk.BK s)
      ⟨none, Lk.s0, rfl, f1, R0, rfl, ⟨Nat.zero_le _, Nat.zero_le _, Nat.zero_le _, Nat.zero_le _⟩, Lk.bk_zero⟩ (fun i σ H' _ ⟨_, _, _, f2, _⟩ => (hA.fz f2).sq) ?_ ?_⟩
    · rintro i y σ H' hi ⟨v, s, rfl, f2, R, er, hs, hbk⟩
      obtain ⟨c, hc, rfl⟩ : ∃ c, bs[i]? = some c ∧ y = nV c := by
        rw [List.getElem?_map] at hi
        cases e : bs[i]? with
        | none =>
          rw [e] at hi
          cases hi
        | some c =>
          rw [e] at hi
          exact ⟨c, rfl, (Option.some.inj hi).symm⟩
      have hil : i < bs.length := (List.getElem?_eq_some_iff.mp hc).1
      refine ⟨_, rfl, _, rfl, a, c, s, rfl, R, hbk, Small.of hs (by omega), fun H2 f3 => ⟨fun hn => ⟨_, rfl, iteT ?_⟩, fun s' hn R2 => ⟨_, rfl, iteF ?_⟩⟩⟩
      · exact k H2 _ (f2.trans f3) (.inl ⟨rfl, Lk.ends_bad (i := i + 1) (by rw [Lk.run_take hc er]; exact hn)⟩)
      · exact ⟨_, s', rfl, f2.trans f3, R2, by rw [Lk.run_take hc er]; exact hn, Lk.sm_step hn hs, Lk.bk_step hn hbk⟩
    · rintro σ H' ⟨v, s, rfl, f2, RA, er, hs, _⟩
      have el : (bs.map nV).length = bs.length := by simp
      rw [el] at er hs
      rw [List.take_length] at er
      have RA' := RA
      obtain ⟨dx, pa, la, ta, ba, pas, bvs, R⟩ := RA'
      have ee := Lk.ends_run er
      have bad : Lk.fin s = none → Q .non H' := fun z => k H' _ f2 (.inl ⟨rfl, ee.trans z⟩)
      refine ⟨_, rfl, a, CR, dx, _, _, rfl, R.obj, T.clR, T.rX, rf_latest _ _ _ _ _, rfl, _, rfl, ite2 (fun h1 => ?_) (fun h1 => ?_)⟩
      · refine iteT (bad ?_)
        have z := of_decide_eq_true h1
        unfold Lk.fin
        cases q : s.latest with
        | none => rfl
        | some x =>
          rw [q] at z
          cases z
      · obtain ⟨x, hx⟩ : ∃ x, s.latest = some x := by
          cases q : s.latest with
          | none => exact (h1 (by rw [q]; rfl)).elim
          | some x => exact ⟨x, rfl⟩
        refine ⟨_, rfl, a, CR, dx, _, _, rfl, R.obj, T.clR, T.rB, rf_brackets _ _ _ _ _, _, .inl ⟨_, SqL.of R.hb, rfl⟩, ite2 (fun h2 => ?_) (fun h2 => ?_)⟩
        · refine bad ?_
          unfold Lk.fin
          rw [hx]
          cases q : s.brackets with
          | nil =>
            have l := R.blen
            rw [q] at l
            have z : bvs = [] := List.length_eq_zero_iff.mp l
            rw [z] at h2
            cases h2
          | cons o r => rfl
        · have hb : s.brackets = [] := by
            have z : bvs = [] := by
              cases bvs with
              | nil => rfl
              | cons v r => exact (h2 rfl).elim
            have l := R.blen
            rw [z] at l
            exact List.length_eq_zero_iff.mp l.symm
          refine ⟨_, rfl, k _ _ f2 (.inr ⟨{ s with tops := s.tops ++ [x] }, a, rfl, ?_, ⟨dx, pa, la, ta, ba, pas, bvs, R.ghost _⟩, ?_, ?_, ?_, ?_⟩)⟩
          · rw [ee]
            unfold Lk.fin
            rw [hx, hb]
          · exact Nat.le_trans hs.1 (by omega)
          · exact Nat.le_trans hs.2.1 (by omega)
          · exact Nat.le_trans hs.2.2.1 (by omega)
          · exact Nat.le_trans hs.2.2.2 (by omega)
end
end Nt
end
section
set_option Elab.async false
set_option linter.all false
set_option maxRecDepth 100000
set_option maxHeartbeats 4000000
namespace Nt
open PySem PySem.Spec PyProof.Rows L2
open PySem.W (Codec)
/-- for i, x in enumerate(xs), the list left as it is -/
theorem for_enum {K : PySem.W.Frag} {a : Addr} {xs : List V} {i1 i2 : Nat} {tb : TS} {D : Ends} {σ : L2.St} {H : Hp} (Pv : Nat → L2.St → Hp → Prop) (h0 : Pv 0 σ H) (hl : ∀ i σ H, i ≤ xs.length → Pv i σ H → SqL K H a xs)
    (hs : ∀ i x σ H t, xs[i]? = some x → Pv i σ H → H t = Option.none → tb { D with nx := Pv (i + 1), ct := Pv (i + 1), bk := D.nx } ((σ.set i1 (some (nV i))).set i2 (some x)) (upd H t (.tup [nV i, x]))) (hd : ∀ σ H, Pv xs.length σ H → D.nx σ H) :
    ∃ W : Nat → Nat → L2.St → Hp → Prop, (∃ m, W 0 m σ H) ∧ ∀ i m σ H, W i m σ H →
      ((Ite K a).stop i H ∧ D.nx σ H) ∨ ((Ite K a).go i H ∧ ∃ N : L2.St → Hp → Prop, (∀ σ' H', N σ' H' → ∃ m', m' < m ∧ W (i + 1) m' σ' H') ∧ ∀ x H', (Ite K a).yld i H x H' → gTup K 2 (gCons (gName i1) (gCons (gName i2) gNil)) x σ H' fun σ2 H2 => tb { D with nx := N, ct := N, bk := D.nx } σ2 H2) := by
  refine ⟨fun i m σ H => m = xs.length - i ∧ i ≤ xs.length ∧ Pv i σ H, ⟨xs.length, by simp, Nat.zero_le _, h0⟩, ?_⟩
  rintro i m σ H ⟨rfl, hi, p⟩
  have q := hl i σ H hi p
  by_cases hlt : i < xs.length
  · refine .inr ⟨⟨xs, xs[i], q, by simp [hlt]⟩, Pv (i + 1), fun σ' H' p' => ⟨xs.length - (i + 1), by omega, rfl, hlt, p'⟩, fun x H' y => ?_⟩
    obtain ⟨t, x, rfl, ht, rfl, y⟩ := y
    exact ⟨t, _, rfl, SqT.of upd_same, rfl, _, _, rfl, _, _, rfl, rfl, hs i x σ H t (y xs q) p ht⟩
  · have e : i = xs.length := by omega
    subst e
    exact .inl ⟨⟨xs, q, Nat.le_refl _⟩, hd σ H p⟩
theorem get_map {α β : Type} {l : List α} {g : α → β} {i : Nat} {y : β} (h : (l.map g)[i]? = some y) : ∃ x, l[i]? = some x ∧ y = g x := by
  rw [List.getElem?_map] at h
  cases e : l[i]? with
  | none =>
    rw [e] at h
    cases h
  | some x =>
    rw [e] at h
    exact ⟨x, rfl, (Option.some.inj h).symm⟩
theorem map_get {α β : Type} {l : List α} {g : α → β} {i : Nat} {x : α} (h : l[i]? = some x) : (l.map g)[i]? = some (g x) := by
  rw [List.getElem?_map, h]
  rfl
theorem getD_of {l : List Nat} {i x : Nat} (h : l[i]? = some x) : l.getD i 0 = x := by
  rw [List.getD_eq_getElem?_getD, h]
  rfl
theorem get_of {l : List Nat} {i : Nat} (h : i < l.length) : l[i]? = some (l.getD i 0) := by
  rw [List.getD_eq_getElem?_getD, List.getElem?_eq_getElem h]
  rfl
section
variable {P : Program} {w : World} {K : PySem.W.Frag} {mg : Str → Option Value} {base : Heap} {CP CR : Addr}
/-! ### is_turned_other(one, other) -/
def spTurned : Sp := fun vs H Q _ => ∃ c d : Nat, vs = [nV c, nV d] ∧ Q (.bl (Md26.turned c d)) H
theorem scTurned : FnScope ["one", "other"] ["one", "other"] (defScope sTurned) := ⟨rfl, rfl, rfl, by decide +kernel, rfl, by decide +kernel, by decide +kernel⟩
theorem turned_eq (c d : Nat) : decide (V.int (if (c : Int) - (d : Int) < 0 then -((c : Int) - (d : Int)) else (c : Int) - (d : Int)) = V.int (((97 : Nat) : Int) - ((65 : Nat) : Int))) = Md26.turned c d := by
  rw [Bool.eq_iff_iff]
  unfold Md26.turned
  simp only [decide_eq_true_eq, V.int.injEq, Bool.or_eq_true, beq_iff_eq]
  by_cases h : (c : Int) - (d : Int) < 0
  · rw [if_pos h]
    omega
  · rw [if_neg h]
    omega
theorem ok_turned {f : Addr} {fd : FuncData} (F : Fun K "is_turned_other" "is_turned_other" sTurned f fd) (T : Txt K mg CP CR) : FnOk P w K mg base CX0 1 f fd ["one", "other"] spTurned := by
  refine F.ok scTurned (fun vs H Q E h => ?_) (fun cdv A outer s H vs Q E hr h => ?_)
  · obtain ⟨c, d, rfl, _⟩ := h
    rfl
  · obtain ⟨c, d, rfl, k⟩ := h
    refine ⟨_, pss_one (ps_ret (pe_cmpR op_eq (pe_callB call_abs (by rfl) T.abs boot_abs (pa_cons (pe_op op_sub (pv 0) (pv 1)) pa_nil))
      (pe_op op_sub (pe_ordc 97 rfl T.ord (by decide +kernel) (by decide +kernel)) (pe_ordc 65 rfl T.ord (by decide +kernel) (by decide +kernel))) (nomark _))), ?_⟩
    refine ⟨_, rfl, _, rfl, _, _, rfl, rfl, _, rfl, _, _, rfl, rfl, rfl, ?_⟩
    show Q (.bl (decide (V.int _ = V.int _))) H
    rw [turned_eq]
    exact k
/-! ### refusal_of_text(text, reading) -/
def spRefT (K : PySem.W.Frag) : Sp := fun vs H Q _ => ∃ (t : Addr) (bs : List Nat) (v : V), vs = [.ref t, v] ∧ ArgL K H t (bs.map nV) ∧ bs.length ≤ 256 ∧ (v = .non → Q (.int (-2)) H) ∧ (v ≠ .non → Q .non H)
theorem scRefT : FnScope ["text", "reading"] ["text", "reading"] (defScope sRefT) := ⟨rfl, rfl, rfl, by decide +kernel, rfl, by decide +kernel, by decide +kernel⟩
theorem ok_refT {f : Addr} {fd : FuncData} (F : Fun K "refusal_of_text" "refusal_of_text" sRefT f fd) (T : Txt K mg CP CR) : FnOk P w K mg base CX0 1 f fd ["text", "reading"] (spRefT K) := by
  refine F.ok scRefT (fun vs H Q E h => ?_) (fun cdv A outer s H vs Q E hr h => ?_)
  · obtain ⟨t, bs, v, rfl, _⟩ := h
    rfl
  · obtain ⟨t, bs, v, rfl, hT, hbl, k1, k2⟩ := h
    obtain ⟨t1, c1⟩ := T.cMB
    obtain ⟨t3, c3⟩ := T.cN1
    obtain ⟨t4, c4⟩ := T.cN2
    refine ⟨_, pss_cons (ps_if (pt_cmpR op_gt (pe_callB call_len_seq (by rfl) T.len PySem.boot_len (pa_cons (pv 0) pa_nil)) (pe_glob (v := .int 256) rfl c1 ⟨_, rfl⟩) (nomark _)) (pss_one (ps_ret (pe_glob (v := .int (-1)) rfl c3 ⟨_, rfl⟩))) pss_nil)
      (pss_cons (ps_if (pt_cmpR op_isN (pv 1) pe_non (nomark _)) (pss_one (ps_ret (pe_glob (v := .int (-2)) rfl c4 ⟨_, rfl⟩))) pss_nil)
      (pss_one (ps_ret pe_non))), ?_⟩
    refine ⟨_, rfl, t, _, rfl, .inl hT.sq, _, _, rfl, rfl, _, rfl, ?_⟩
    rw [List.length_map, decide_eq_false (show ¬ (256 : Int) < ((bs.length : Nat) : Int) by omega)]
    refine iteF ⟨_, rfl, rfl, _, rfl, ite2 (fun h1 => ?_) (fun h1 => ?_)⟩
    · exact k1 (of_decide_eq_true h1)
    · exact k2 fun z => h1 (decide_eq_true z)
end
end Nt
end
section
set_option Elab.async false
set_option linter.all false
set_option maxRecDepth 100000
set_option maxHeartbeats 4000000
namespace Nt
open PySem PySem.Spec PyProof.Rows L2
open PySem.W (Codec)
theorem vals_get : ∀ (xs : List V) (us : List Value), xs.length = us.length → (∀ (j : Nat) (x : V) (u : Value), xs[j]? = some x → us[j]? = some u → RelV x u) → Vals xs us
  | [], [], _, _ => .nil
  | [], _ :: _, h, _ => by simp at h
  | _ :: _, [], h, _ => by simp at h
  | x :: xs, u :: us, h, g => .cons (g 0 x u rfl rfl) (vals_get xs us (by simpa using h) fun j x' u' a b => g (j + 1) x' u' (by simpa using a) (by simpa using b))
section
variable {X : Cx}
/-- xs.count(k) of a list of ints -/
theorem mt_countL : MtR X "list.count" (fun x xs H Q => ∃ (a : Addr) (ns : List Int) (k : Int), x = .ref a ∧ xs = [.int k] ∧ SqL X.K H a (ns.map V.int) ∧ Q (.int (ns.count k : Nat)) H) := by
  intro pins s σ H x xs v us Q I rx rxs h
  obtain ⟨a, ns, k, rfl, rfl, hs, q⟩ := h
  cases rx
  obtain ⟨u, rfl, t, rfl⟩ := vals1 rxs
  obtain ⟨its, rv, hl, _⟩ := I.list hs
  exact count_list_ints hl.isList rv.ints ⟨.int _, H, I.tok _, ⟨_, rfl⟩, q⟩
/-- list(range(n)) -/
def tLR (ta : TA) : TE := fun σ H Q => ta σ H fun vs H1 => ∃ n : Nat, vs = [nV n] ∧ n ≤ 1000 ∧ ∀ l, H1 l = Option.none → Q (.ref l) (upd H1 l (.lst ((List.range n).map nV)))
theorem pe_listRange {a : Expr} {ta : TA} {p p' pos pos' : Pos} (hgl : Gl X "list") (hml : X.mg "list" = none) (hg : Gl X "range") (hm : X.mg "range" = none) (hc : X.calm = true) (ha : PA X [a] ta)
    (hs : starEach [a] X.env = [(false, eval a X.env)] := by rfl)
    (he : starEach [.Call (.Name "range" p') [a] [] pos'] X.env = (false, eval (.Call (.Name "range" p') [a] [] pos') X.env) :: starEach [] X.env := by rfl) :
    PE X (.Call (.Name "list" p) [.Call (.Name "range" p') [a] [] pos'] [] pos) (tLR ta) := by
  intro pins s σ H Q I h
  refine wpAny_Call_Name_kw (ld_blt I hgl hml PyProof.Rows.boot_list ?_ (by decide) (by decide))
  refine PyProof.Rows.callWith_type1 ?_ he rfl
  rw [he]
  show wpAny _ _ (spliced ((false, eval (.Call (.Name "range" p') [a] [] pos') X.env) :: backTo pos (starEach [] X.env))) _ _ s
  refine Calls.spliced_cons ?_
  refine wpAny_Call_Name_kw (ld_blt I hg hm boot_range ?_ (by decide) (by decide))
  refine PyProof.Rows.callWith_type1 (thn (ha pos' pins s σ H _ I h) fun us s1 ⟨vs, H1, I1, r1, n, e, hn, q⟩ => ?_) hs rfl
  subst e
  obtain ⟨u, rfl, t, rfl⟩ := vals1 r1
  refine call_range_1 (Calls.spliced_nil ?_)
  have I2 : Inv X pins σ H1 { s1 with heap := s1.heap.push { cls := .type "range", data := .fields #[.int 0 s1.toks, .int (n : Int) t, .int 1 (s1.toks + 1)] }, toks := s1.toks + 1 + 1 } := I1.kept fun b o e => Heap.get?_push_of_some _ e
  refine PySem.call_list_range (n := n) (I2.ok.hd hc) (IsRange.new ..) (small_one (by omega) (by omega) (by omega) (by omega)) (by rw [rangeSize_nat]; congr 1) (by omega) fun h' tk acc' c' hk hS' hacc => ?_
  refine ⟨.ref _, _, I2.laid (t' := tk) hk (Nat.le_refl _) (show ObjOk X.prog X.w _ h' _ (.lst ((List.range n).map nV)) from ⟨?_, acc'.toList, c', ?_, ?_⟩), rfl, q _ (I2.hok.fresh (Nat.le_refl _))⟩
  · rw [List.length_map, List.length_range]
    exact Nat.le_of_lt (small1000 hn)
  · refine vals_get _ _ (by rw [List.length_map, List.length_range, Array.length_toList, hacc.1]) fun j x u h1 h2 => ?_
    obtain ⟨i, hi, rfl⟩ := get_map h1
    have hij : i = j := by
      have hl := (List.getElem?_eq_some_iff.mp hi).1
      rw [List.length_range] at hl
      rw [List.getElem?_range hl] at hi
      exact (Option.some.inj hi).symm
    subst hij
    obtain ⟨t', e⟩ := hacc.2 i u (by simpa using h2)
    exact ⟨t', by rw [e]; congr 1; omega⟩
  · simpa using hS'
end
end Nt
end
section
set_option Elab.async false
set_option linter.all false
set_option maxRecDepth 100000
set_option maxHeartbeats 4000000
namespace Nt
open PySem PySem.Spec PyProof.Rows L2
open PySem.W (Codec)
/-! ### pieces on the heap -/
def pcf (x y : V) : List (Str × V) := putF "waiting" y (putF "numbers" x [])
theorem pcf_numbers (x y : V) : (pcf x y).lookup ("numbers" : Str) = some x := by
  unfold pcf
  rw [lookup_putF, if_neg (by decide +kernel), lookup_putF, if_pos rfl]
theorem pcf_waiting (x y : V) : (pcf x y).lookup ("waiting" : Str) = some y := by
  unfold pcf
  rw [lookup_putF, if_pos rfl]
structure TxtP (K : PySem.W.Frag) (mg : Str → Option Value) (CC : Addr) : Prop where
  cl : Cls K CC
  nN : NoAttr K CC "numbers"
  nW : NoAttr K CC "waiting"
  mgC : mg "Pieces" = some (.ref CC)
/-- a Pieces stands at q -/
def PcX (CC : Addr) (H : Hp) (q : Addr) (ns w : List Nat) (dx na wa : Addr) : Prop := H q = some (.ins CC dx (pcf (.ref na) (.ref wa))) ∧ H na = some (.lst (ns.map nV)) ∧ H wa = some (.lst (w.map nV))
def PcAt (CC : Addr) (H : Hp) (q : Addr) (ns w : List Nat) : Prop := ∃ dx na wa, PcX CC H q ns w dx na wa
theorem PcX.same {CC : Addr} {H H' : Hp} {q : Addr} {ns w : List Nat} {dx na wa : Addr} (h : PcX CC H q ns w dx na wa) (s : Same H H') : PcX CC H' q ns w dx na wa := ⟨s _ _ h.1, s _ _ h.2.1, s _ _ h.2.2⟩
theorem PcAt.same {CC : Addr} {H H' : Hp} {q : Addr} {ns w : List Nat} (h : PcAt CC H q ns w) (s : Same H H') : PcAt CC H' q ns w := by
  obtain ⟨dx, na, wa, h⟩ := h
  exact ⟨dx, na, wa, h.same s⟩
/-- or None -/
def PoAt (CC : Addr) (H : Hp) (v : V) : Option (List Nat × List Nat) → Prop
  | none => v = .non
  | some p => ∃ q, v = .ref q ∧ PcAt CC H q p.1 p.2
theorem PoAt.same {CC : Addr} {H H' : Hp} {v : V} {o : Option (List Nat × List Nat)} (h : PoAt CC H v o) (s : Same H H') : PoAt CC H' v o := by
  cases o with
  | none => exact h
  | some p =>
    obtain ⟨q, e, h⟩ := h
    exact ⟨q, e, h.same s⟩
/-- a new one -/
def PoF (CC : Addr) (H H' : Hp) (v : V) : Option (List Nat × List Nat) → Prop
  | none => v = .non
  | some p => ∃ q dx na wa, v = .ref q ∧ PcX CC H' q p.1 p.2 dx na wa ∧ H q = Option.none ∧ H na = Option.none ∧ H wa = Option.none
theorem PoF.at_ {CC : Addr} {H H' : Hp} {v : V} {o : Option (List Nat × List Nat)} (h : PoF CC H H' v o) : PoAt CC H' v o := by
  cases o with
  | none => exact h
  | some p =>
    obtain ⟨q, dx, na, wa, e, h, _⟩ := h
    exact ⟨q, e, dx, na, wa, h⟩
theorem none_of {H H' : Hp} (s : Same H H') {x : Addr} (h : H' x = Option.none) : H x = Option.none := by
  cases e : H x with
  | none => rfl
  | some o =>
    rw [s _ _ e] at h
    cases h
/-- what waits are withs of the text -/
def Wok (s : Lk.RS) (w : List Nat) : Prop := ∀ k, k ∈ w → ∃ x y, s.parts[k]? = some (124, some (x, y)) ∧ x < s.parts.length ∧ y < s.parts.length
theorem Wok.kd {s : Lk.RS} {k c x y : Nat} (h : s.parts[k]? = some (c, some (x, y))) : Lk.kda (Lk.kdOf s.parts) k = x ∧ Lk.kdb (Lk.kdOf s.parts) k = y := by
  have e : Lk.kdOf s.parts k = some (c == 124, x, y) := by
    unfold Lk.kdOf
    rw [h]
  exact Lk.kd_eta e
theorem nu_map {ns : List Nat} {k : Nat} (h : k < ns.length) : (ns.map nV)[k]? = some (nV (Lk.nu ns k)) := map_get (Lk.nu_at h)
theorem nV_eq (x y : Nat) : decide (nV x = nV y) = decide (x = y) := decide_eq_decide.mpr ⟨int_inj, fun h => by rw [h]⟩
section
variable {P : Program} {w : World} {K : PySem.W.Frag} {mg : Str → Option Value} {base : Heap} {CP CR CC : Addr}
/-! ### Pieces(numbers, waiting) -/
def spPc (C : Addr) : Sp := fun vs H Q _ => ∃ (p dx : Addr) (x y : V), vs = [.ref p, x, y] ∧ H p = some (.ins C dx []) ∧
  ∀ H' : Hp, (∃ dx, H' p = some (.ins C dx (pcf x y))) → (∀ b o, H b = some o → b ≠ p → H' b = some o) → Q .non H'
theorem scPc : FnScope ["self", "numbers", "waiting"] ["self", "numbers", "waiting"] (defScope sPieces) := ⟨rfl, rfl, rfl, by decide +kernel, rfl, by decide +kernel, by decide +kernel⟩
theorem ok_pc {f : Addr} {fd : FuncData} (F : Fun K "__init__" "Pieces.__init__" sPieces f fd) (T : TxtP K mg CC) : FnOk P w K mg base CX0 1 f fd ["self", "numbers", "waiting"] (spPc CC) := by
  refine F.ok scPc (fun vs H Q E h => ?_) (fun cdv A outer s H vs Q E hr h => ?_)
  · obtain ⟨p, dx, x, y, rfl, _⟩ := h
    rfl
  · obtain ⟨p, dx, x, y, rfl, hp, k⟩ := h
    refine ⟨_, pss_cons (ps_fld (pv 0) (pv 1) rfl) (pss_one (ps_fld (pv 0) (pv 2) rfl)), ?_⟩
    refine ⟨_, rfl, _, rfl, p, CC, dx, [], rfl, hp, T.cl, T.nN, (by show 0 < 1000; decide), ?_⟩
    refine ⟨_, rfl, _, rfl, p, CC, dx, _, rfl, upd_same, T.cl, T.nW, Nat.lt_of_le_of_lt (len_put (Nat.zero_le 0)) (by decide), ?_⟩
    exact k _ ⟨dx, upd_same⟩ fun b o e hb => by rw [upd_ne hb, upd_ne hb]; exact e
/-! ### join_pieces(numbers, one, other) -/
def spJoin : Sp := fun vs H Q _ => ∃ (p : Addr) (i j : Nat) (ns : List Nat), vs = [.ref p, nV i, nV j] ∧ H p = some (.lst (ns.map nV)) ∧ i < ns.length ∧ j < ns.length ∧ ns.length ≤ 900 ∧
  ∀ (H' : Hp) (q : Addr), H q = Option.none → Same H H' → H' q = some (.lst ((Lk.joinN ns i j).map nV)) → Q (.ref q) H'
theorem scJoin : FnScope ["numbers", "one", "other", "kept", "joined", "number"] ["numbers", "one", "other"] (defScope sJoin) := ⟨rfl, rfl, rfl, by decide +kernel, rfl, by decide +kernel, by decide +kernel⟩
theorem ok_join {f : Addr} {fd : FuncData} (F : Fun K "join_pieces" "join_pieces" sJoin f fd) (T : Txt K mg CP CR) : FnOk P w K mg base CX0 1 f fd ["numbers", "one", "other"] spJoin := by
  refine F.ok scJoin (fun vs H Q E h => ?_) (fun cdv A outer s H vs Q E hr h => ?_)
  · obtain ⟨p, i, j, ns, rfl, _⟩ := h
    rfl
  · obtain ⟨p, i, j, ns, rfl, hp, hi, hj, hsm, k⟩ := h
    refine ⟨_, pss_cons (ps_set (i := 3) scJoin.nd rfl (Or.inr rfl) (pe_ix ix_list (pv 0) (pv 1) (fun _ _ => rfl)))
      (pss_cons (ps_set (i := 4) scJoin.nd rfl (Or.inr rfl) (pe_ix ix_list (pv 0) (pv 2) (fun _ _ => rfl)))
      (pss_one (ps_ret (pe_lc (own := [("number", 5)]) (te := tIf (tTest (tOp rEq (tVar 5) (tVar 4))) (tVar 3) (tVar 5)) rfl scJoin.nd (pi_list (pv 0)) (blkOk_by (N := ["numbers", "one", "other", "kept", "joined", "number"]) (sc := defScope sJoin) (by decide +kernel))
        (fun _ _ _ _ _ => pg_name (i := 5) scJoin.nd rfl (Or.inl rfl)) (fun _ _ _ _ _ => pts_nil) (fun _ _ _ _ _ => pe_ifExp (pt_cmpR op_eq (pv 5) (pv 4) (nomark _)) (pv 3) (pv 5)))))), ?_⟩
    refine ⟨_, rfl, _, rfl, p, _, _, _, rfl, rfl, SqL.of hp, atI_nat (nu_map hi), _, rfl, _, rfl, p, _, _, _, rfl, rfl, SqL.of hp, atI_nat (nu_map hj), ?_⟩
    refine ⟨_, rfl, p, rfl, ⟨_, SqL.of hp⟩, fun D hD => lc_list (K := K) (a := p) (xs := ns.map nV) (fun t H' => Same H H' ∧ H' D = some (.lst (((Lk.joinN ns i j).take t).map nV))) ⟨same_new hD, upd_same⟩ (fun t H' _ ⟨s1, _⟩ => SqL.of (s1 _ _ hp)) ?_ ?_⟩
    · rintro t x H' hx ⟨s1, hD1⟩
      obtain ⟨y, hy, rfl⟩ := get_map hx
      have hl : t < ns.length := (List.getElem?_eq_some_iff.mp hy).1
      have e1 : (Lk.joinN ns i j)[t]? = some (if y = Lk.nu ns j then Lk.nu ns i else y) := by
        unfold Lk.joinN
        rw [List.getElem?_map, hy]
        rfl
      have fin : ∀ z, z = (if y = Lk.nu ns j then Lk.nu ns i else y) → ∃ acc, H' D = some (.lst acc) ∧ acc.length < sizeLine ∧ Same H (upd H' D (.lst (acc ++ [nV z]))) ∧ (upd H' D (.lst (acc ++ [nV z]))) D = some (.lst (((Lk.joinN ns i j).take (t + 1)).map nV)) := by
        intro z ez
        refine ⟨_, hD1, ?_, ?_, ?_⟩
        · rw [List.length_map, List.length_take]
          exact small1000 (by omega)
        · intro b o e
          rw [upd_ne (ne_of_none e hD)]
          exact s1 b o e
        · rw [upd_same, Lk.take_snoc e1, List.map_append, ez]
          rfl
      refine ⟨rfl, ?_⟩
      unfold tYes
      refine iteT ?_
      refine ⟨_, rfl, _, rfl, rfl, _, rfl, ite2 (fun h1 => ?_) (fun h1 => ?_)⟩
      · have h1 : y = Lk.nu ns j := int_inj (of_decide_eq_true h1)
        exact ⟨_, rfl, fin _ (by rw [if_pos h1])⟩
      · have h1 : ¬ y = Lk.nu ns j := fun z => h1 (decide_eq_true (by rw [z]))
        exact ⟨_, rfl, fin _ (by rw [if_neg h1])⟩
    · rintro H1 ⟨s1, hD1⟩
      rw [List.length_map, ← Lk.joinN_len ns i j, List.take_length] at hD1
      exact k H1 D hD s1 hD1
/-! ### settle_waiting(reading, numbers, waiting) -/
def spSettle (CP CR CC : Addr) : Sp := fun vs H Q _ => ∃ (a na wa : Addr) (s : Lk.RS) (ns ws : List Nat), vs = [.ref a, .ref na, .ref wa] ∧ RdAt CP CR H a s ∧ H na = some (.lst (ns.map nV)) ∧ H wa = some (.lst (ws.map nV)) ∧ ns.length = s.parts.length ∧ Wok s ws ∧ s.parts.length ≤ 900 ∧ ws.length ≤ 900 ∧
  ∀ (H' : Hp) (q dx na' wa' : Addr), Same H H' → PcX CC H' q (Lk.settle (Lk.kdOf s.parts) ns ws).1 (Lk.settle (Lk.kdOf s.parts) ns ws).2 dx na' wa' → H q = Option.none → (na' = na ∨ H na' = Option.none) → H wa' = Option.none → Q (.ref q) H'
theorem scSettle : FnScope ["reading", "numbers", "waiting", "going_on", "still", "index", "part", "piece"] ["reading", "numbers", "waiting"] (defScope sSettle) := ⟨rfl, rfl, rfl, by decide +kernel, rfl, by decide +kernel, by decide +kernel⟩
theorem ok_settle {f fJ fC : Addr} {fd fdJ fdC : FuncData} (F : Fun K "settle_waiting" "settle_waiting" sSettle f fd) (T : Txt K mg CP CR) (TP : TxtP K mg CC)
    (FJ : Fun K "join_pieces" "join_pieces" sJoin fJ fdJ) (bJ : Binds K fdJ ["numbers", "one", "other"] []) (mJ : mg "join_pieces" = some (.ref fJ))
    (FC : Fun K "__init__" "Pieces.__init__" sPieces fC fdC) (bC : Binds K fdC ["self", "numbers", "waiting"] []) (M : Mk K CC fC) :
    FnOk P w K mg base CX0 3 f fd ["reading", "numbers", "waiting"] (spSettle CP CR CC) := by
  have GJ : FnOk P w K mg base CX0 1 fJ fdJ ["numbers", "one", "other"] spJoin := ok_join FJ T
  have GC : FnOk P w K mg base CX0 1 fC fdC ["self", "numbers", "waiting"] (spPc CC) := ok_pc FC TP
  refine F.ok scSettle (fun vs H Q E h => ?_) (fun cdv A outer s H vs Q E hr h => ?_)
  · obtain ⟨a, na, wa, s, ns, ws, rfl, _⟩ := h
    rfl
  · obtain ⟨a, na, wa, s, ns, ws, rfl, ⟨dx, pa, la, ta, ba, pas, bvs, R⟩, hna, hwa, hlen, hW, hsm, hwl, k⟩ := h
    have hr1 : Room 1 _ := hr.mono (by decide)
    have hr2 : Room 2 _ := hr.mono (by decide)
    refine ⟨_, pss_cons (ps_set (i := 3) scSettle.nd rfl (Or.inl rfl) pe_bl)
      (pss_cons (ps_while PassesOwn.never (pt_val (pv 3))
        (pss_cons (ps_set (i := 4) scSettle.nd rfl (Or.inl rfl) (pe_lst pa_nil))
        (pss_cons (ps_for PassesOwn.never rfl (pi_list (pv 2)) (pg_name (i := 5) scSettle.nd rfl (Or.inl rfl))
          (pss_cons (ps_set (i := 6) scSettle.nd rfl (Or.inl rfl) (pe_ix ix_list (pe_fld (pv 0) rfl) (pv 5) (fun _ _ => rfl)))
          (pss_cons (ps_set (i := 7) scSettle.nd rfl (Or.inl rfl) (pe_ix ix_list (pv 1) (pe_fld (pv 6) rfl) (fun _ _ => rfl)))
          (pss_one (ps_if (PW.pt (pw_and (pt_cmpR op_eq (pv 7) (pe_ix ix_list (pv 1) (pe_fld (pv 6) rfl) (fun _ _ => rfl)) (nomark _)) (pw_and1 (pt_cmpR op_ne (pv 7) (pe_ix ix_list (pv 1) (pv 5) (fun _ _ => rfl)) (nomark _)))))
            (pss_one (ps_set (i := 1) scSettle.nd rfl (Or.inl rfl) (pe_call GJ hr1 rfl mJ FJ.kp bJ .nil pass0 (pa_cons (pv 1) (pa_cons (pe_fld (pv 6) rfl) (pa_cons (pv 5) pa_nil))))))
            (pss_one (ps_expr (pe_bm PySem.F.plainAttrs_list PySem.F.slot_list_append PySem.F.type_list_append mt_append (pv 4) (pa_cons (pv 5) pa_nil)))))))))
        (pss_cons (ps_set (i := 3) scSettle.nd rfl (Or.inl rfl) (pe_cmpR op_lt (pe_callB call_len_seq (by rfl) T.len PySem.boot_len (pa_cons (pv 4) pa_nil)) (pe_callB call_len_seq (by rfl) T.len PySem.boot_len (pa_cons (pv 2) pa_nil)) (nomark _)))
        (pss_one (ps_set (i := 2) scSettle.nd rfl (Or.inl rfl) (pv 4)))))))
      (pss_one (ps_ret (pe_make M GC hr2 rfl TP.mgC bC .nil pass0 (pa_cons (pv 1) (pa_cons (pv 2) pa_nil)))))), ?_⟩
    generalize hkd : Lk.kdOf s.parts = kd at k
    refine ⟨fun m σ H' => ∃ (b : Bool) (na' wa' : Addr) (ns' ws' : List Nat) (v4 v5 v6 v7 : Option V), σ = [some (.ref a), some (.ref na'), some (.ref wa'), some (.bl b), v4, v5, v6, v7] ∧ Same H H' ∧ H' na' = some (.lst (ns'.map nV)) ∧ H' wa' = some (.lst (ws'.map nV)) ∧
        ns'.length = s.parts.length ∧ Wok s ws' ∧ ws'.length ≤ 900 ∧ (b = true → Lk.settle kd ns ws = Lk.settle kd ns' ws') ∧ (b = false → Lk.settle kd ns ws = (ns', ws')) ∧ (na' = na ∨ H na' = Option.none) ∧ (b = false → H wa' = Option.none) ∧ m = (if b = true then ws'.length + 1 else 0),
      ⟨_, true, na, wa, ns, ws, none, none, none, none, rfl, Same.refl H, hna, hwa, hlen, hW, hwl, fun _ => rfl, fun z => (by cases z), .inl rfl, fun z => (by cases z), rfl⟩, ?_⟩
    rintro m σ H2 ⟨b, na2, wa2, ns2, ws2, v4, v5, v6, v7, rfl, s2, hna2, hwa2, hlen2, hW2, hwl2, hb1, hb2, hf1, hf2, hm⟩
    refine ⟨_, rfl, _, rfl, ?_⟩
    cases b with
    | true =>
      rw [if_pos rfl] at hm
      have hb1 := hb1 rfl
      refine iteT ⟨fun σ' H' => ∃ (b : Bool) (na' wa' : Addr) (ns' ws' : List Nat) (v4 v5 v6 v7 : Option V), σ' = [some (.ref a), some (.ref na'), some (.ref wa'), some (.bl b), v4, v5, v6, v7] ∧ Same H H' ∧ H' na' = some (.lst (ns'.map nV)) ∧ H' wa' = some (.lst (ws'.map nV)) ∧
        ns'.length = s.parts.length ∧ Wok s ws' ∧ ws'.length ≤ 900 ∧ (b = true → Lk.settle kd ns ws = Lk.settle kd ns' ws') ∧ (b = false → Lk.settle kd ns ws = (ns', ws')) ∧ (na' = na ∨ H na' = Option.none) ∧ (b = false → H wa' = Option.none) ∧ (b = true → ws'.length < ws2.length), ?_, ?_⟩
      · rintro σ' H' ⟨b, na3, wa3, ns3, ws3, u4, u5, u6, u7, rfl, s3, hna3, hwa3, hlen3, hW3, hwl3, hc1, hc2, hc4, hc5, hc3⟩
        refine ⟨_, ?_, b, na3, wa3, ns3, ws3, u4, u5, u6, u7, rfl, s3, hna3, hwa3, hlen3, hW3, hwl3, hc1, hc2, hc4, hc5, rfl⟩
        cases b with
        | true =>
          have := hc3 rfl
          rw [if_pos rfl]
          omega
        | false =>
          rw [if_neg (by intro z; cases z)]
          omega
      · refine ⟨Nat.zero_le _, fun D hD => ?_⟩
        have s3 : Same H2 (upd H2 D (.lst [])) := same_new hD
        have hDn : H D = Option.none := by
          cases e : H D with
          | none => rfl
          | some o =>
            rw [s2 _ _ e] at hD
            cases hD
        refine ⟨_, rfl, wa2, rfl, ⟨_, SqL.of (s3 _ _ hwa2)⟩, for_list (K := K) (a := wa2) (xs := ws2.map nV) (fun i σ H' => ∃ (na' : Addr) (ns' st : List Nat) (v5 v6 v7 : Option V), σ = [some (.ref a), some (.ref na'), some (.ref wa2), some (.bl true), some (.ref D), v5, v6, v7] ∧ Same H2 H' ∧ (na' = na ∨ H na' = Option.none) ∧ na' ≠ D ∧
            H' na' = some (.lst (ns'.map nV)) ∧ H' D = some (.lst (st.map nV)) ∧ ns'.length = s.parts.length ∧ st.length ≤ i ∧ (∀ x, x ∈ st → x ∈ ws2) ∧ Lk.pass kd ns2 ws2 = ((Lk.pass kd ns' (ws2.drop i)).1, st ++ (Lk.pass kd ns' (ws2.drop i)).2))
          ⟨na2, ns2, [], _, _, _, rfl, s3, hf1, ne_of_none hna2 hD, s3 _ _ hna2, upd_same, hlen2, Nat.le_refl _, fun x hx => (List.not_mem_nil hx).elim, by simp⟩ (fun i σ H' _ ⟨_, _, _, _, _, _, _, s4, _⟩ => SqL.of (s4 _ _ hwa2)) ?_ ?_⟩
        · rintro i x σ H' hx ⟨na3, ns3, st, u5, u6, u7, rfl, s4, hf3, nD, hna3, hD3, hlen3, hst, hsub, hps⟩
          obtain ⟨k0, hk0, rfl⟩ := get_map hx
          have hil : i < ws2.length := (List.getElem?_eq_some_iff.mp hk0).1
          have hkm : k0 ∈ ws2 := List.mem_of_getElem? hk0
          obtain ⟨x0, y0, hp0, hx0, hy0⟩ := hW2 k0 hkm
          obtain ⟨ka, kb⟩ := Wok.kd hp0
          rw [hkd] at ka kb
          have hkl : k0 < s.parts.length := (List.getElem?_eq_some_iff.mp hp0).1
          obtain ⟨q, hq⟩ : ∃ q, pas[k0]? = some q := ⟨_, List.getElem?_eq_getElem (by rw [R.plen]; exact hkl)⟩
          obtain ⟨dq, hpq⟩ := R.part k0 q _ hq hp0
          have sA : Same H H' := s2.trans s4
          have hdrop : ws2.drop i = k0 :: ws2.drop (i + 1) := by
            rw [List.drop_eq_getElem_cons hil]
            congr 1
            rw [List.getElem?_eq_getElem hil] at hk0
            exact Option.some.inj hk0
          have ep : Lk.pass kd ns3 (k0 :: ws2.drop (i + 1)) = if Lk.nu ns3 x0 = Lk.nu ns3 y0 ∧ Lk.nu ns3 x0 ≠ Lk.nu ns3 k0 then Lk.pass kd (Lk.joinN ns3 x0 k0) (ws2.drop (i + 1)) else ((Lk.pass kd ns3 (ws2.drop (i + 1))).1, k0 :: (Lk.pass kd ns3 (ws2.drop (i + 1))).2) := by
            rw [Lk.pass, ka, kb]
          rw [hdrop, ep] at hps
          have nx : ∀ z, z < s.parts.length → (ns3.map nV)[z]? = some (nV (Lk.nu ns3 z)) := fun z hz => nu_map (by rw [hlen3]; exact hz)
          -- not joined: it waits on
          have stay : ¬ (Lk.nu ns3 x0 = Lk.nu ns3 y0 ∧ Lk.nu ns3 x0 ≠ Lk.nu ns3 k0) → ∃ (na' : Addr) (ns' st' : List Nat) (v5 v6 v7 : Option V), [some (V.ref a), some (.ref na3), some (.ref wa2), some (.bl true), some (.ref D), some (nV k0), some (.ref q), some (nV (Lk.nu ns3 x0))] = [some (V.ref a), some (.ref na'), some (.ref wa2), some (.bl true), some (.ref D), v5, v6, v7] ∧ Same H2 (upd H' D (.lst (st.map nV ++ [nV k0]))) ∧ (na' = na ∨ H na' = Option.none) ∧ na' ≠ D ∧
              (upd H' D (.lst (st.map nV ++ [nV k0]))) na' = some (.lst (ns'.map nV)) ∧ (upd H' D (.lst (st.map nV ++ [nV k0]))) D = some (.lst (st'.map nV)) ∧ ns'.length = s.parts.length ∧ st'.length ≤ i + 1 ∧ (∀ x, x ∈ st' → x ∈ ws2) ∧ Lk.pass kd ns2 ws2 = ((Lk.pass kd ns' (ws2.drop (i + 1))).1, st' ++ (Lk.pass kd ns' (ws2.drop (i + 1))).2) := by
            intro hn
            rw [if_neg hn] at hps
            refine ⟨na3, ns3, st ++ [k0], _, _, _, rfl, ?_, hf3, nD, by rw [upd_ne nD]; exact hna3, by rw [upd_same, List.map_append]; rfl, hlen3, by simp; omega, fun x hx => ?_, by rw [hps]; simp⟩
            · intro b o e
              rw [upd_ne (ne_of_none e hD)]
              exact s4 b o e
            · rcases List.mem_append.mp hx with hx | hx
              · exact hsub x hx
              · rw [List.mem_singleton.mp hx]
                exact hkm
          refine ⟨_, rfl, a, CR, dx, _, _, rfl, sA _ _ R.obj, T.clR, T.rP, rf_parts _ _ _ _ _, _, rfl, pa, _, _, _, rfl, rfl, SqL.of (sA _ _ R.hp), atI_nat (map_get hq), ?_⟩
          refine ⟨_, rfl, _, rfl, q, CP, dq, _, _, rfl, sA _ _ hpq, T.clP, T.nL, pf_left _ _ _, na3, _, (x0 : Int), _, rfl, rfl, SqL.of hna3, atI_nat (nx x0 hx0), ?_⟩
          refine ⟨_, rfl, _, rfl, _, rfl, q, CP, dq, _, _, rfl, sA _ _ hpq, T.clP, T.nR, pf_right _ _ _, na3, _, (y0 : Int), _, rfl, rfl, SqL.of hna3, atI_nat (nx y0 hy0), rfl, _, rfl, ite2 (fun h1 => ?_) (fun h1 => ?_)⟩
          · have h1 : Lk.nu ns3 x0 = Lk.nu ns3 y0 := int_inj (of_decide_eq_true h1)
            refine ⟨_, rfl, _, rfl, _, rfl, na3, _, _, _, rfl, rfl, SqL.of hna3, atI_nat (nx k0 hkl), rfl, _, rfl, ite2 (fun h2 => ?_) (fun h2 => ?_)⟩
            · have h2 := neT h2
              rw [if_pos ⟨h1, h2⟩] at hps
              refine ⟨_, rfl, _, rfl, q, CP, dq, _, _, rfl, sA _ _ hpq, T.clP, T.nL, pf_left _ _ _, _, rfl, na3, x0, k0, ns3, rfl, hna3, by rw [hlen3]; exact hx0, by rw [hlen3]; exact hkl, by rw [hlen3]; exact hsm, fun H4 q4 hq4 s5 hj => ?_⟩
              refine ⟨q4, Lk.joinN ns3 x0 k0, st, _, _, _, rfl, s4.trans s5, .inr (none_of (s2.trans s4) hq4), ?_, hj, s5 _ _ hD3, by rw [Lk.joinN_len]; exact hlen3, by omega, hsub, hps⟩
              intro z
              rw [z, hD3] at hq4
              cases hq4
            · have h2 := neF h2
              refine ⟨_, rfl, .inl ⟨rfl, _, SqL.of hD3⟩, _, rfl, D, _, _, rfl, rfl, hD3, (by rw [List.length_map]; exact small1000 (by omega)), ?_⟩
              exact stay fun z => z.2 h2
          · have h1 : ¬ Lk.nu ns3 x0 = Lk.nu ns3 y0 := fun z => h1 (decide_eq_true (by rw [z]))
            refine iteF ⟨_, rfl, .inl ⟨rfl, _, SqL.of hD3⟩, _, rfl, D, _, _, rfl, rfl, hD3, (by rw [List.length_map]; exact small1000 (by omega)), ?_⟩
            exact stay fun z => h1 z.1
        · rintro σ H' ⟨na3, ns3, st, u5, u6, u7, rfl, s4, hf3, nD, hna3, hD3, hlen3, hst, hsub, hps⟩
          rw [List.length_map, List.drop_length] at hps
          have hps : Lk.pass kd ns2 ws2 = (ns3, st) := by rw [hps]; simp [Lk.pass]
          refine ⟨_, rfl, D, _, rfl, .inl (SqL.of hD3), _, rfl, wa2, _, rfl, .inl (SqL.of (s4 _ _ hwa2)), _, _, rfl, rfl, ?_⟩
          rw [List.length_map, List.length_map]
          refine ⟨_, rfl, decide ((st.length : Int) < (ws2.length : Int)), na3, D, ns3, st, _, _, _, _, rfl, s2.trans s4, hna3, hD3, hlen3, fun x hx => hW2 x (hsub x hx), ?_, fun hb => ?_, fun hb => ?_, hf3, fun _ => hDn, fun hb => ?_⟩
          · have := hst
            rw [List.length_map] at this
            omega
          · have hb := of_decide_eq_true hb
            rw [hb1, Lk.settle_eq, hps, if_pos (by show st.length < ws2.length; omega)]
          · have hb := of_decide_eq_false hb
            rw [hb1, Lk.settle_eq, hps, if_neg (by show ¬ st.length < ws2.length; omega)]
          · have hb := of_decide_eq_true hb
            omega
    | false =>
      refine iteF ⟨_, rfl, _, rfl, ?_⟩
      intro q dz nx nd ne
      refine ⟨q, dz, _, _, rfl, upd_same, fun H1 ⟨d1, e1⟩ k1 => ⟨rfl, ?_⟩⟩
      have s1 : Same H2 H1 := Same.made nx nd k1
      refine k H1 q d1 na2 wa2 (s2.trans s1) ?_ (none_of s2 nx) hf1 (hf2 rfl)
      rw [hb2 rfl]
      exact ⟨e1, s1 _ _ hna2, s1 _ _ hwa2⟩
end
end Nt
end
section
set_option Elab.async false
set_option linter.all false
set_option maxRecDepth 100000
set_option maxHeartbeats 4000000
namespace Nt
open PySem PySem.Spec PyProof.Rows L2
open PySem.W (Codec)
theorem settle_sub (kd : Nat → Option (Bool × Nat × Nat)) (ns w : List Nat) : (∀ x, x ∈ (Lk.settle kd ns w).2 → x ∈ w) ∧ (Lk.settle kd ns w).2.length ≤ w.length ∧ (Lk.settle kd ns w).1.length = ns.length := by
  have := Lk.settle_keeps (kd := kd) (fun ns1 w1 => (∀ x, x ∈ w1 → x ∈ w) ∧ w1.length ≤ w.length ∧ ns1.length = ns.length) (fun _ _ _ _ h hw _ _ => ⟨fun y hy => h.1 y (hw.mem_iff.mpr (List.mem_cons_of_mem _ hy)), by have := hw.length_eq; have := h.2.1; simp only [List.length_cons] at *; omega, by rw [Lk.joinN_len]; exact h.2.2⟩)
    (fun _ _ _ p h => ⟨fun y hy => h.1 y (p.mem_iff.mpr hy), by rw [← p.length_eq]; exact h.2.1, h.2.2⟩) w.length ns w (Nat.le_refl _) ⟨fun x hx => hx, Nat.le_refl _, rfl⟩
  exact this
/-- what pieces are like all the while -/
structure Pok (s : Lk.RS) (p : List Nat × List Nat) : Prop where
  len : p.1.length = s.parts.length
  wok : Wok s p.2
  few : p.2.length ≤ 900
theorem Pok.add {s : Lk.RS} {p p' : List Nat × List Nat} (h : Pok s p) {i j : Nat} (e : Lk.addLine (Lk.kdOf s.parts) p i j = some p') : Pok s p' := by
  unfold Lk.addLine at e
  split at e
  · cases e
  · have e := Option.some.inj e
    obtain ⟨a, b, c⟩ := settle_sub (Lk.kdOf s.parts) (Lk.joinN p.1 i j) p.2
    rw [e] at a b c
    refine ⟨by rw [c, Lk.joinN_len]; exact h.len, fun k hk => h.wok k (a k hk), ?_⟩
    have := h.few
    omega
section
variable {P : Program} {w : World} {K : PySem.W.Frag} {mg : Str → Option Value} {base : Heap} {CP CR CC : Addr}
/-! ### add_line(reading, pieces, one, other) -/
def spAdd (CP CR CC : Addr) : Sp := fun vs H Q _ => ∃ (a q : Addr) (i j : Nat) (s : Lk.RS) (p : List Nat × List Nat), vs = [.ref a, .ref q, nV i, nV j] ∧ RdAt CP CR H a s ∧ PcAt CC H q p.1 p.2 ∧ Pok s p ∧ i < s.parts.length ∧ j < s.parts.length ∧ s.parts.length ≤ 900 ∧
  ∀ (H' : Hp) (v : V), Same H H' → PoF CC H H' v (Lk.addLine (Lk.kdOf s.parts) p i j) → Q v H'
theorem scAdd : FnScope ["reading", "pieces", "one", "other"] ["reading", "pieces", "one", "other"] (defScope sAdd) := ⟨rfl, rfl, rfl, by decide +kernel, rfl, by decide +kernel, by decide +kernel⟩
theorem ok_add {f fJ fS : Addr} {fd fdJ fdS : FuncData} (F : Fun K "add_line" "add_line" sAdd f fd) (T : Txt K mg CP CR) (TP : TxtP K mg CC)
    (FJ : Fun K "join_pieces" "join_pieces" sJoin fJ fdJ) (bJ : Binds K fdJ ["numbers", "one", "other"] []) (mJ : mg "join_pieces" = some (.ref fJ))
    (GS : FnOk P w K mg base CX0 3 fS fdS ["reading", "numbers", "waiting"] (spSettle CP CR CC)) (kS : PySem.W.keepIn K (.ref fS) = true) (bS : Binds K fdS ["reading", "numbers", "waiting"] []) (mS : mg "settle_waiting" = some (.ref fS)) :
    FnOk P w K mg base CX0 4 f fd ["reading", "pieces", "one", "other"] (spAdd CP CR CC) := by
  have GJ : FnOk P w K mg base CX0 1 fJ fdJ ["numbers", "one", "other"] spJoin := ok_join FJ T
  refine F.ok scAdd (fun vs H Q E h => ?_) (fun cdv A outer s H vs Q E hr h => ?_)
  · obtain ⟨a, q, i, j, s, p, rfl, _⟩ := h
    rfl
  · obtain ⟨a, q, i, j, s, ⟨ns, ws⟩, rfl, RA, ⟨dx, na, wa, hq, hna, hwa⟩, ok, hi, hj, hsm, k⟩ := h
    have hr1 : Room 1 _ := hr.mono (by decide)
    refine ⟨_, pss_cons (ps_if (pt_cmpR op_eq (pe_ix ix_list (pe_fld (pv 1) rfl) (pv 2) (fun _ _ => rfl)) (pe_ix ix_list (pe_fld (pv 1) rfl) (pv 3) (fun _ _ => rfl)) (nomark _)) (pss_one (ps_ret pe_non)) pss_nil)
      (pss_one (ps_ret (pe_call GS hr rfl mS kS bS .nil pass0 (pa_cons (pv 0) (pa_cons (pe_call GJ hr1 rfl mJ FJ.kp bJ .nil pass0 (pa_cons (pe_fld (pv 1) rfl) (pa_cons (pv 2) (pa_cons (pv 3) pa_nil)))) (pa_cons (pe_fld (pv 1) rfl) pa_nil)))))), ?_⟩
    have hl := ok.len
    refine ⟨_, rfl, q, CC, dx, _, _, rfl, hq, TP.cl, TP.nN, pcf_numbers _ _, _, rfl, na, _, _, _, rfl, rfl, SqL.of hna, atI_nat (nu_map (by rw [hl]; exact hi)), _, rfl, q, CC, dx, _, _, rfl, hq, TP.cl, TP.nN, pcf_numbers _ _, _, rfl, na, _, _, _, rfl, rfl, SqL.of hna, atI_nat (nu_map (by rw [hl]; exact hj)), rfl, _, rfl, ite2 (fun h1 => ?_) (fun h1 => ?_)⟩
    · have h1 : Lk.nu ns i = Lk.nu ns j := int_inj (of_decide_eq_true h1)
      refine k H .non (Same.refl H) ?_
      unfold Lk.addLine
      rw [if_pos h1]
      rfl
    · have h1 : ¬ Lk.nu ns i = Lk.nu ns j := fun z => h1 (decide_eq_true (by rw [z]))
      refine ⟨_, rfl, _, rfl, q, CC, dx, _, _, rfl, hq, TP.cl, TP.nN, pcf_numbers _ _, _, rfl, _, rfl, na, i, j, ns, rfl, hna, by rw [hl]; exact hi, by rw [hl]; exact hj, by rw [hl]; exact hsm, fun H1 q1 hq1 s1 hj1 => ?_⟩
      refine ⟨_, rfl, q, CC, dx, _, _, rfl, s1 _ _ hq, TP.cl, TP.nW, pcf_waiting _ _, a, q1, wa, s, Lk.joinN ns i j, ws, rfl, RA.same s1, hj1, s1 _ _ hwa, by rw [Lk.joinN_len]; exact hl, ok.wok, hsm, ok.few, fun H2 q2 d2 na2 wa2 s2 h2 f1 f2 f3 => ?_⟩
      refine k H2 (.ref q2) (s1.trans s2) ?_
      unfold Lk.addLine
      rw [if_neg h1]
      refine ⟨q2, d2, na2, wa2, rfl, h2, none_of s1 f1, ?_, none_of s1 f3⟩
      rcases f2 with e | e
      · rw [e]
        exact hq1
      · exact none_of s1 e
/-! ### pieces_without_links(reading) -/
def spStart (CP CR CC : Addr) : Sp := fun vs H Q _ => ∃ (a : Addr) (s : Lk.RS) (r : Md26.Row) (fl : List Md26.Form) (os : List Nat), vs = [.ref a] ∧ RdAt CP CR H a s ∧ Lk.Good r s fl os ∧ s.parts.length ≤ 900 ∧
  ∀ (H' : Hp) (q : Addr), Same H H' → PcAt CC H' q (Lk.startN (Lk.kdOf s.parts) s.parts.length) os → Q (.ref q) H'
theorem scStart : FnScope ["reading", "numbers", "index", "part"] ["reading"] (defScope sStart) := ⟨rfl, rfl, rfl, by decide +kernel, rfl, by decide +kernel, by decide +kernel⟩
theorem ok_start {f fJ fC : Addr} {fd fdJ fdC : FuncData} (F : Fun K "pieces_without_links" "pieces_without_links" sStart f fd) (T : Txt K mg CP CR) (TP : TxtP K mg CC)
    (FJ : Fun K "join_pieces" "join_pieces" sJoin fJ fdJ) (bJ : Binds K fdJ ["numbers", "one", "other"] []) (mJ : mg "join_pieces" = some (.ref fJ))
    (FC : Fun K "__init__" "Pieces.__init__" sPieces fC fdC) (bC : Binds K fdC ["self", "numbers", "waiting"] []) (M : Mk K CC fC) :
    FnOk P w K mg base CX0 3 f fd ["reading"] (spStart CP CR CC) := by
  have GJ : FnOk P w K mg base CX0 1 fJ fdJ ["numbers", "one", "other"] spJoin := ok_join FJ T
  have GC : FnOk P w K mg base CX0 1 fC fdC ["self", "numbers", "waiting"] (spPc CC) := ok_pc FC TP
  refine F.ok scStart (fun vs H Q E h => ?_) (fun cdv A outer s H vs Q E hr h => ?_)
  · obtain ⟨a, s, r, fl, os, rfl, _⟩ := h
    rfl
  · obtain ⟨a, s, r, fl, os, rfl, ⟨dx, pa, la, ta, ba, pas, bvs, R⟩, G, hsm, k⟩ := h
    have hr1 : Room 1 _ := hr.mono (by decide)
    have hr2 : Room 2 _ := hr.mono (by decide)
    refine ⟨_, pss_cons (ps_set (i := 1) scStart.nd rfl (Or.inl rfl) (pe_listRange (by rfl) T.list rfl T.rng rfl (pa_cons (pe_callB call_len_seq (by rfl) T.len PySem.boot_len (pa_cons (pe_fld (pv 0) rfl) pa_nil)) pa_nil)))
      (pss_cons (ps_for PassesOwn.never rfl (pi_enum rfl T.enm (pa_cons (pe_fld (pv 0) rfl) pa_nil)) (pg_tup rfl (pgs_cons (pg_name (i := 2) scStart.nd rfl (Or.inl rfl)) (pgs_cons (pg_name (i := 3) scStart.nd rfl (Or.inl rfl)) pgs_nil)))
        (pss_one (ps_if (pt_cmpR op_eq (pe_fld (pv 3) rfl) (pe_ordc 42 rfl T.ord (by decide +kernel) (by decide +kernel)) (nomark _))
          (pss_one (ps_set (i := 1) scStart.nd rfl (Or.inl rfl) (pe_call GJ hr1 rfl mJ FJ.kp bJ .nil pass0 (pa_cons (pe_call GJ hr1 rfl mJ FJ.kp bJ .nil pass0 (pa_cons (pv 1) (pa_cons (pv 2) (pa_cons (pe_fld (pv 3) rfl) pa_nil)))) (pa_cons (pv 2) (pa_cons (pe_fld (pv 3) rfl) pa_nil)))))) pss_nil)))
      (pss_one (ps_ret (pe_make M GC hr2 rfl TP.mgC bC .nil pass0 (pa_cons (pv 1) (pa_cons (pe_fld (pv 0) rfl) pa_nil)))))), ?_⟩
    have S := G.shape
    refine ⟨_, rfl, a, CR, dx, _, _, rfl, R.obj, T.clR, T.rP, rf_parts _ _ _ _ _, pa, _, rfl, .inl (SqL.of R.hp), s.parts.length, (by rw [List.length_map, R.plen]), by omega, fun l hl => ?_⟩
    have s1 : Same H (upd H l (.lst ((List.range s.parts.length).map nV))) := same_new hl
    generalize hkd : Lk.kdOf s.parts = kd at k
    have R1 := R.same s1
    refine ⟨_, rfl, a, CR, dx, _, _, rfl, R1.obj, T.clR, T.rP, rf_parts _ _ _ _ _, pa, _, rfl, SqL.of R1.hp, for_enum (K := K) (a := pa) (xs := pas.map V.ref) (fun i σ H' => ∃ (na : Addr) (v2 v3 : Option V), σ = [some (.ref a), some (.ref na), v2, v3] ∧ Same H H' ∧ H' na = some (.lst (((List.range i).foldl (Lk.starStep kd) (List.range s.parts.length)).map nV)))
      ⟨l, none, none, rfl, s1, upd_same⟩ (fun i σ H' _ ⟨_, _, _, _, s2, _⟩ => SqL.of (s2 _ _ R.hp)) ?_ ?_⟩
    · rintro i x σ H' t hx ⟨na, v2, v3, rfl, s2, hna⟩ ht
      obtain ⟨q, hq, rfl⟩ := get_map hx
      have hi0 : i < pas.length := (List.getElem?_eq_some_iff.mp hq).1
      have hi : i < s.parts.length := by rw [← R.plen]; exact hi0
      have st : Lk.Sta [] s.parts.length kd (Lk.FOf fl) s.tops (Lk.letsL s.letters.length (Lk.ltOf s.letters)) i ((List.range i).foldl (Lk.starStep kd) (List.range s.parts.length)) := by
        rw [← hkd]
        exact Lk.Sta.all S (.refl _) i (by omega)
      have hlen := st.N.len
      have s3 : Same H (upd H' t (.tup [nV i, .ref q])) := s2.trans (same_new ht)
      have hna3 : (upd H' t (.tup [nV i, .ref q])) na = some (.lst (((List.range i).foldl (Lk.starStep kd) (List.range s.parts.length)).map nV)) := by rw [upd_ne (ne_of_none hna ht)]; exact hna
      generalize upd H' t (.tup [nV i, .ref q]) = H2 at s3 hna3
      have nxt : (List.range (i + 1)).foldl (Lk.starStep kd) (List.range s.parts.length) = Lk.starStep kd ((List.range i).foldl (Lk.starStep kd) (List.range s.parts.length)) i := by
        rw [List.range_succ, List.foldl_append]
        rfl
      generalize (List.range i).foldl (Lk.starStep kd) (List.range s.parts.length) = ns at hlen hna3 nxt
      have skip : Lk.starStep kd ns i = ns → ∃ (na' : Addr) (v2 v3 : Option V), [some (V.ref a), some (.ref na), some (nV i), some (.ref q)] = [some (V.ref a), some (.ref na'), v2, v3] ∧ Same H H2 ∧ H2 na' = some (.lst (((List.range (i + 1)).foldl (Lk.starStep kd) (List.range s.parts.length)).map nV)) := fun e => ⟨na, _, _, rfl, s3, by rw [nxt, e]; exact hna3⟩
      rcases G.part hi with ⟨c, e1, e2⟩ | ⟨c, x, y, e1, hc, e2, hx, hy⟩
      · obtain ⟨dq, hpq⟩ := R.part i q _ hq e1
        rw [hkd] at e2
        refine ⟨_, rfl, q, CP, dq, _, _, rfl, s3 _ _ hpq, T.clP, T.nS, pf_sign _ _ _, rfl, _, rfl, ite2 (fun h1 => ?_) (fun h1 => ?_)⟩
        · exfalso
          have h1 : c = 42 := int_inj (of_decide_eq_true h1)
          obtain ⟨p, hp, rfl⟩ := S.leaf hi (by rw [hkd]; exact e2)
          have hp2 : p < r.letters.length := by rw [G.rd.lls]; exact hp
          have z := G.rd.sign p _ (List.getElem?_eq_getElem hp2)
          rw [e1] at z
          have := z.1
          have e3 := Option.some.inj z.2
          injection e3 with e3 _
          rw [← e3, h1] at this
          unfold Lk.isLet at this
          omega
        · exact skip (by unfold Lk.starStep; rw [e2])
      · obtain ⟨dq, hpq⟩ := R.part i q _ hq e1
        rw [hkd] at e2
        refine ⟨_, rfl, q, CP, dq, _, _, rfl, s3 _ _ hpq, T.clP, T.nS, pf_sign _ _ _, rfl, _, rfl, ite2 (fun h1 => ?_) (fun h1 => ?_)⟩
        · have h1 : c = 42 := int_inj (of_decide_eq_true h1)
          subst h1
          have es : Lk.starStep kd ns i = Lk.joinN (Lk.joinN ns i x) i y := by
            unfold Lk.starStep
            rw [e2]
            rfl
          refine ⟨_, rfl, _, rfl, _, rfl, q, CP, dq, _, _, rfl, s3 _ _ hpq, T.clP, T.nL, pf_left _ _ _, na, i, x, ns, rfl, hna3, by omega, by omega, by omega, fun H4 q4 hq4 s4 hj4 => ?_⟩
          refine ⟨_, rfl, _, rfl, q, CP, dq, _, _, rfl, s4 _ _ (s3 _ _ hpq), T.clP, T.nR, pf_right _ _ _, q4, i, y, Lk.joinN ns i x, rfl, hj4, by rw [Lk.joinN_len]; omega, by rw [Lk.joinN_len]; omega, by rw [Lk.joinN_len]; omega, fun H5 q5 hq5 s5 hj5 => ?_⟩
          exact ⟨q5, _, _, rfl, (s3.trans s4).trans s5, by rw [nxt, es]; exact hj5⟩
        · have h1 : ¬ c = 42 := fun z => h1 (decide_eq_true (by rw [z]))
          have h2 : c = 124 := by omega
          subst h2
          exact skip (by unfold Lk.starStep; rw [e2]; rfl)
    · rintro σ H' ⟨na, v2, v3, rfl, s2, hna⟩
      rw [List.length_map, R.plen] at hna
      refine ⟨_, rfl, _, rfl, a, CR, dx, _, _, rfl, s2 _ _ R.obj, T.clR, T.rT, rf_ones _ _ _ _ _, ?_⟩
      intro q dz nx nd ne
      refine ⟨q, dz, _, _, rfl, upd_same, fun H1 ⟨d1, e1⟩ k1 => ⟨rfl, ?_⟩⟩
      have s4 : Same H' H1 := Same.made nx nd k1
      refine k H1 q (s2.trans s4) ⟨d1, na, ta, e1, s4 _ _ hna, ?_⟩
      have := s4 _ _ (s2 _ _ R.ht)
      rw [G.ones, List.map_map] at this
      exact this
/-! ### is_proof(pieces) -/
def spIsProof (CC : Addr) : Sp := fun vs H Q _ => ∃ (v : V) (o : Option (List Nat × List Nat)), vs = [v] ∧ PoAt CC H v o ∧ (∀ p, o = some p → 0 < p.1.length) ∧ Q (.bl (Lk.isP o)) H
theorem scIsProof : FnScope ["pieces"] ["pieces"] (defScope sIsProof) := ⟨rfl, rfl, rfl, by decide +kernel, rfl, by decide +kernel, by decide +kernel⟩
theorem count_nat (ns : List Nat) (k : Nat) : (ns.map fun n : Nat => (n : Int)).count (k : Int) = ns.count k := by
  rw [List.count_eq_countP, List.count_eq_countP, List.countP_map]
  refine List.countP_congr fun x _ => ?_
  simp only [Function.comp, beq_iff_eq]
  omega
theorem ok_isProof {f : Addr} {fd : FuncData} (F : Fun K "is_proof" "is_proof" sIsProof f fd) (T : Txt K mg CP CR) (TP : TxtP K mg CC) : FnOk P w K mg base CX0 1 f fd ["pieces"] (spIsProof CC) := by
  refine F.ok scIsProof (fun vs H Q E h => ?_) (fun cdv A outer s H vs Q E hr h => ?_)
  · obtain ⟨v, o, rfl, _⟩ := h
    rfl
  · obtain ⟨v, o, rfl, hv, hn, k⟩ := h
    refine ⟨_, pss_cons (ps_if (PW.pt (pw_or (pt_cmpR op_isN (pv 0) pe_non (nomark _)) (pw_or1 (pt_truth (pe_fld (pv 0) rfl) (fun _ => rfl))))) (pss_one (ps_ret pe_bl)) pss_nil)
      (pss_one (ps_ret (pe_cmpR op_eq (pe_bm PySem.F.plainAttrs_list PySem.F.slot_list_count PySem.F.type_list_count mt_countL (pe_fld (pv 0) rfl) (pa_cons (pe_ix ix_list (pe_fld (pv 0) rfl) pe_int (fun _ _ => rfl)) pa_nil))
        (pe_callB call_len_seq (by rfl) T.len PySem.boot_len (pa_cons (pe_fld (pv 0) rfl) pa_nil)) (nomark _)))), ?_⟩
    refine ⟨_, rfl, rfl, _, rfl, ite2 (fun h1 => ?_) (fun h1 => ?_)⟩
    · have h1 := of_decide_eq_true h1
      cases o with
      | none => exact iteT k
      | some p =>
        obtain ⟨q, e, _⟩ := hv
        rw [h1] at e
        cases e
    · cases o with
      | none => exact (h1 (decide_eq_true hv)).elim
      | some p =>
        obtain ⟨ns, ws⟩ := p
        obtain ⟨q, rfl, dx, na, wa, hq, hna, hwa⟩ := hv
        refine ⟨_, rfl, q, CC, dx, _, _, rfl, hq, TP.cl, TP.nW, pcf_waiting _ _, _, .inl ⟨_, SqL.of hwa, rfl⟩, ?_⟩
        cases ws with
        | cons x ws =>
          have e : Lk.isP (some (ns, x :: ws)) = false := rfl
          rw [e] at k
          exact iteT k
        | nil =>
          refine iteF ?_
          have h0 := hn _ rfl
          have e0 : (ns.map nV) = (ns.map fun n : Nat => (n : Int)).map V.int := by rw [List.map_map]; rfl
          refine ⟨_, rfl, q, CC, dx, _, _, rfl, hq, TP.cl, TP.nN, pcf_numbers _ _, .inl ⟨rfl, _, SqL.of hna⟩, _, rfl, q, CC, dx, _, _, rfl, hq, TP.cl, TP.nN, pcf_numbers _ _, na, _, _, _, rfl, rfl, SqL.of hna, at_of (j := 0) rfl (nu_map h0), ?_⟩
          refine ⟨na, _, _, rfl, rfl, (by rw [← e0]; exact SqL.of hna), _, rfl, q, CC, dx, _, _, rfl, hq, TP.cl, TP.nN, pcf_numbers _ _, na, _, rfl, .inl (SqL.of hna), rfl, ?_⟩
          rw [count_nat, List.length_map]
          have e : Lk.isP (some (ns, [])) = decide (nV (ns.count (Lk.nu ns 0)) = nV ns.length) := by
            rw [nV_eq]
            show (true && ns.count (Lk.nu ns 0) == ns.length) = _
            rw [Bool.true_and]
            exact Bool.eq_iff_iff.mpr (by simp)
          rw [e] at k
          exact k
end
end Nt
end
section
set_option Elab.async false
set_option linter.all false
set_option maxRecDepth 100000
set_option maxHeartbeats 4000000
namespace Nt
open PySem PySem.Spec PyProof.Rows L2
open PySem.W (Codec)
/-! ### zip of two texts (plain signs) -/
section
variable {prog : Program} {w : World} {A : Around} {E : Value → Shared → Prop} {s : Shared}
/-- a text's walker -/
abbrev Sit (h : Heap) (it : Addr) (x : Str) (t : Tok) (i : Nat) : Prop := h.IsStrIter it "str_ascii_iterator" x t i
theorem Sit.but {h h' : Heap} {it z : Addr} {x : Str} {t : Tok} {i : Nat} (st : Sit h it x t i) (k : Heap.ExtBut z h h') (n : it ≠ z) : Sit h' it x t i := by
  obtain ⟨o, ho, r⟩ := st
  exact ⟨o, k _ _ n ho, r⟩
theorem Sit.at' {h h' : Heap} {it : Addr} {x : Str} {t : Tok} {i : Nat} (st : Sit h it x t i) (k : ∀ o, h.get? it = some o → h'.get? it = some o) : Sit h' it x t i := by
  obtain ⟨o, ho, r⟩ := st
  exact ⟨o, k _ ho, r⟩
/-- the five things of a zip lie apart -/
structure ZA (z TI TO i1 i2 : Addr) : Prop where
  TIz : TI ≠ z
  TOz : TO ≠ z
  i1z : i1 ≠ z
  i2z : i2 ≠ z
  TITO : TI ≠ TO
  TIi1 : TI ≠ i1
  TIi2 : TI ≠ i2
  TOi1 : TO ≠ i1
  TOi2 : TO ≠ i2
  i12 : i1 ≠ i2
theorem za_new (n : Addr) : ZA (n + 4) (n + 2) (n + 3) n (n + 1) := by
  constructor <;> (intro h; exact absurd (show (_ : Nat) = _ from h) (by omega))
theorem zs_item {z TI TO i1 i2 : Addr} {x y : Str} {t1 t2 : Tok} {k c d : Nat} {a b : Value} {Q : Value → Shared → Prop} (D : ZA z TI TO i1 i2)
    (hz : IsZip s.heap z TI TO .none) (hTI : IsPair s.heap TI (.ref i1) (.ref i2)) (hTO : IsPair s.heap TO a b)
    (h1 : Sit s.heap i1 x t1 k) (h2 : Sit s.heap i2 y t2 k) (hx : x.cps[k]? = some c) (hy : y.cps[k]? = some d)
    (hQ : ∀ h' tk u v, IsZip h' z TI TO (rawInt s.heap.objs.size) → IsPair h' TO (.str ⟨#[c]⟩ u) (.str ⟨#[d]⟩ v) → Sit h' i1 x t1 (k + 1) → Sit h' i2 y t2 (k + 1) → IsPair h' s.heap.objs.size (.str ⟨#[c]⟩ u) (.str ⟨#[d]⟩ v) →
      (∀ e o, e ≠ z → e ≠ TO → e ≠ i1 → e ≠ i2 → s.heap.get? e = some o → h'.get? e = some o) → Q (.ref s.heap.objs.size) { s with heap := h', toks := tk }) :
    wpAny (model prog w) A (Builtin.«zip.__next__» ⟨[.ref z], []⟩) (fun fin s' => ∃ v, fin = .done (.ret v) ∧ Q v s') E s := by
  show wpAny _ _ (field (.ref z) 2 >>= _) _ _ _
  refine wpAny_bind (wpAny_field hz rfl (x := .bool false) rfl ?_)
  show wpAny _ _ (field (.ref z) 3 >>= _) _ _ _
  refine wpAny_bind (wpAny_field hz rfl (x := .ref TI) rfl ?_)
  refine wpAny_bind (wpAny_seqItems hTI rfl ?_)
  show wpAny _ _ (Builtin.SmallTypes.ownedTupleIsFree (.ref z) >>= _) _ _ _
  refine wpAny_bind ?_
  unfold Builtin.SmallTypes.ownedTupleIsFree
  refine wpAny_bind (wpAny_field hz rfl (x := .none) rfl (wpAny_pure ?_))
  simp only [if_true]
  refine wpAny_bind (wpAny_rule ?_)
  refine wpAny_bind (wpAny_field hz rfl (x := .ref TO) rfl ?_)
  refine wpAny_bind (wpAny_setField_rec hz (by simp) fun g1 z1 b1 => ?_)
  replace z1 : IsZip g1 z TI TO .ellipsis := z1
  refine wpAny_bind ?_
  simp only [List.zipIdx_cons, List.zipIdx_nil, List.forIn_cons, List.forIn_nil]
  refine wpAny_bind (wpAny_bind (wpAny_onRaise ?_))
  show wpAny _ _ (Builtin.SmallTypes.nextOf (.ref i1) >>= _) _ _ _
  refine wpAny_bind (wpAny_nextOf_ascii_item (h1.but b1.extBut D.i1z) hx fun g2 p2 b2 => wpAny_pure ?_)
  have o2 : IsPair g2 TO a b := b2.extBut _ _ D.TOi1 (b1.extBut _ _ D.TOz hTO)
  refine wpAny_bind (wpAny_seqItems o2 rfl ?_)
  refine wpAny_bind (wpAny_updateSeq_pair o2 fun g3 o3 b3 => ?_)
  replace o3 : IsPair g3 TO (.str ⟨#[c]⟩ s.toks) b := o3
  refine wpAny_bind (wpAny_letGo (wpAny_pure ?_))
  refine wpAny_bind (wpAny_bind (wpAny_onRaise ?_))
  show wpAny _ _ (Builtin.SmallTypes.nextOf (.ref i2) >>= _) _ _ _
  refine wpAny_bind (wpAny_nextOf_ascii_item (((h2.but b1.extBut D.i2z).but b2.extBut D.i12.symm).but b3.extBut D.TOi2.symm) hy fun g4 p4 b4 => wpAny_pure ?_)
  have o4 : IsPair g4 TO (.str ⟨#[c]⟩ s.toks) b := b4.extBut _ _ D.TOi2 o3
  refine wpAny_bind (wpAny_seqItems o4 rfl ?_)
  refine wpAny_bind (wpAny_updateSeq_pair o4 fun g5 o5 b5 => ?_)
  replace o5 : IsPair g5 TO (.str ⟨#[c]⟩ s.toks) (.str ⟨#[d]⟩ (s.toks + 1)) := o5
  refine wpAny_bind (wpAny_letGo (wpAny_pure (wpAny_pure ?_)))
  refine wpAny_bind (wpAny_seqItems o5 rfl ?_)
  refine wpAny_bind (wpAny_newTuple ?_)
  have sz : g5.objs.size = s.heap.objs.size := by rw [b5.1, b4.1, b3.1, b2.1, b1.1]
  have z5 : IsZip g5 z TI TO .ellipsis := b5.extBut _ _ D.TOz.symm (b4.extBut _ _ D.i2z.symm (b3.extBut _ _ D.TOz.symm (b2.extBut _ _ D.i1z.symm z1)))
  have k5 : ∀ e o, e ≠ z → e ≠ TO → e ≠ i1 → e ≠ i2 → s.heap.get? e = some o → g5.get? e = some o := fun e o c1 c2 c3 c4 q =>
    b5.extBut _ _ c2 (b4.extBut _ _ c4 (b3.extBut _ _ c2 (b2.extBut _ _ c3 (b1.extBut _ _ c1 q))))
  have s1 : Sit g5 i1 x t1 (k + 1) := Sit.but (Sit.but (Sit.but p2 b3.extBut D.TOi1.symm) b4.extBut D.i12) b5.extBut D.TOi1.symm
  have s2 : Sit g5 i2 y t2 (k + 1) := Sit.but p4 b5.extBut D.TOi2.symm
  have lz : z < g5.objs.size := Heap.lt_size z5
  show wpAny _ _ (Builtin.SmallTypes.ownedTupleHandOut (.ref z) (.ref g5.objs.size) >>= _) _ _ _
  refine wpAny_bind ?_
  unfold Builtin.SmallTypes.ownedTupleHandOut
  have z6 : IsZip (g5.push { cls := .type "tuple", data := .seq #[.str ⟨#[c]⟩ s.toks, .str ⟨#[d]⟩ (s.toks + 1)] }) z TI TO .ellipsis := Heap.get?_push_of_some _ z5
  refine wpAny_bind (wpAny_setField_rec z6 (by simp) fun g7 z7 b7 => ?_)
  replace z7 : IsZip g7 z TI TO (rawInt g5.objs.size) := z7
  refine wpAny_setField_rec z7 (by simp) fun g8 z8 b8 => ?_
  replace z8 : IsZip g8 z TI TO (rawInt g5.objs.size) := z8
  have up : ∀ e o, e ≠ z → g5.get? e = some o → g8.get? e = some o := fun e o c1 q => b8.extBut _ _ c1 (b7.extBut _ _ c1 (Heap.get?_push_of_some _ q))
  have t8 : IsPair g8 g5.objs.size (.str ⟨#[c]⟩ s.toks) (.str ⟨#[d]⟩ (s.toks + 1)) := b8.extBut _ _ (Nat.ne_of_gt lz) (b7.extBut _ _ (Nat.ne_of_gt lz) (Heap.get?_push_size _ rfl))
  rw [sz] at z8 t8
  refine wpAny_pure ⟨_, rfl, ?_⟩
  show Q (.ref g5.objs.size) _
  rw [sz]
  exact hQ g8 _ _ _ z8 (up _ _ D.TOz o5) (s1.at' fun o q => up _ o D.i1z q) (s2.at' fun o q => up _ o D.i2z q) t8 fun e o c1 c2 c3 c4 q => up e o c1 (k5 e o c1 c2 c3 c4 q)
/-- both texts end together -/
theorem zs_end {z TI TO i1 i2 : Addr} {x y : Str} {t1 t2 : Tok} {k : Nat} {a b : Value} {Q : Fin → Shared → Prop} (hh : A.handled = none) (D : ZA z TI TO i1 i2)
    (hz : IsZip s.heap z TI TO .none) (hTI : IsPair s.heap TI (.ref i1) (.ref i2)) (hTO : IsPair s.heap TO a b)
    (h1 : Sit s.heap i1 x t1 k) (hx : x.cps[k]? = none)
    (hE : ∀ h' e, (∀ c o, c ≠ z → c ≠ TO → c ≠ i1 → c ≠ i2 → s.heap.get? c = some o → h'.get? c = some o) → (∃ o, h'.get? e = some o ∧ o.cls = .type "StopIteration") → E (.ref e) { s with heap := h' }) :
    wpAny (model prog w) A (Builtin.«zip.__next__» ⟨[.ref z], []⟩) Q E s := by
  show wpAny _ _ (field (.ref z) 2 >>= _) _ _ _
  refine wpAny_bind (wpAny_field hz rfl (x := .bool false) rfl ?_)
  show wpAny _ _ (field (.ref z) 3 >>= _) _ _ _
  refine wpAny_bind (wpAny_field hz rfl (x := .ref TI) rfl ?_)
  refine wpAny_bind (wpAny_seqItems hTI rfl ?_)
  show wpAny _ _ (Builtin.SmallTypes.ownedTupleIsFree (.ref z) >>= _) _ _ _
  refine wpAny_bind ?_
  unfold Builtin.SmallTypes.ownedTupleIsFree
  refine wpAny_bind (wpAny_field hz rfl (x := .none) rfl (wpAny_pure ?_))
  simp only [if_true]
  refine wpAny_bind (wpAny_rule ?_)
  refine wpAny_bind (wpAny_field hz rfl (x := .ref TO) rfl ?_)
  refine wpAny_bind (wpAny_setField_rec hz (by simp) fun g1 z1 b1 => ?_)
  replace z1 : IsZip g1 z TI TO .ellipsis := z1
  refine wpAny_bind ?_
  simp only [List.zipIdx_cons, List.zipIdx_nil, List.forIn_cons, List.forIn_nil]
  refine wpAny_bind (wpAny_bind (wpAny_onRaise ?_))
  show wpAny _ _ (Builtin.SmallTypes.nextOf (.ref i1) >>= _) _ _ _
  refine wpAny_bind (wpAny_nextOf_ascii_end hh (h1.but b1.extBut D.i1z) hx fun g2 e b2 he => ?_)
  obtain ⟨oe, hoe, hce⟩ := he
  have z2 : IsZip g2 z TI TO .ellipsis := b2 _ _ D.i1z.symm z1
  have ez : e ≠ z := fun q => by subst q; rw [z2] at hoe; cases hoe; simp at hce
  refine wpAny_setField_rec z2 (by simp) fun g3 _ b3 => hE g3 e (fun c o c1 _ c3 _ q => b3.extBut _ _ c1 (b2 _ _ c3 (b1.extBut _ _ c1 q))) ⟨oe, b3.extBut _ _ ez hoe, hce⟩
theorem zs_next {z TI TO i1 i2 : Addr} {x y : Str} {t1 t2 : Tok} {k c d : Nat} {a b : Value} {Q : Option Value → Shared → Prop} (D : ZA z TI TO i1 i2)
    (hz : IsZip s.heap z TI TO .none) (hTI : IsPair s.heap TI (.ref i1) (.ref i2)) (hTO : IsPair s.heap TO a b)
    (h1 : Sit s.heap i1 x t1 k) (h2 : Sit s.heap i2 y t2 k) (hx : x.cps[k]? = some c) (hy : y.cps[k]? = some d)
    (hQ : ∀ h' tk u v, IsZip h' z TI TO (rawInt s.heap.objs.size) → IsPair h' TO (.str ⟨#[c]⟩ u) (.str ⟨#[d]⟩ v) → Sit h' i1 x t1 (k + 1) → Sit h' i2 y t2 (k + 1) → IsPair h' s.heap.objs.size (.str ⟨#[c]⟩ u) (.str ⟨#[d]⟩ v) →
      (∀ e o, e ≠ z → e ≠ TO → e ≠ i1 → e ≠ i2 → s.heap.get? e = some o → h'.get? e = some o) → Q (some (.ref s.heap.objs.size)) { s with heap := h', toks := tk }) :
    wpAny (model prog w) A (pyNext (.ref z)) Q E s := by
  have hT : s.TypeIs (.ref z) "zip" := ⟨_, hz, rfl⟩
  unfold pyNext
  exact wpAny_bind (wpAny_attempt (wpAny_callSpecial?_slot (name := Str.ofString "__next__") hT F.slot_zip_next
    (wpAny_call_entry F.slot_zip_next hT F.entry_zip_next
      (zs_item D hz hTI hTO h1 h2 hx hy fun h' tk u v a1 a2 a3 a4 a5 a6 => wpAny_pure (hQ h' tk u v a1 a2 a3 a4 a5 a6)) (F.args_zip_next_1 _))))
theorem zs_stop {z TI TO i1 i2 : Addr} {x : Str} {t1 : Tok} {k : Nat} {a b : Value} {Q : Option Value → Shared → Prop} (hh : A.handled = none) (D : ZA z TI TO i1 i2)
    (hz : IsZip s.heap z TI TO .none) (hTI : IsPair s.heap TI (.ref i1) (.ref i2)) (hTO : IsPair s.heap TO a b) (h1 : Sit s.heap i1 x t1 k) (hx : x.cps[k]? = none)
    (hQ : ∀ h', (∀ c o, c ≠ z → c ≠ TO → c ≠ i1 → c ≠ i2 → s.heap.get? c = some o → h'.get? c = some o) → Q none { s with heap := h' }) : wpAny (model prog w) A (pyNext (.ref z)) Q E s := by
  have hT : s.TypeIs (.ref z) "zip" := ⟨_, hz, rfl⟩
  unfold pyNext
  refine wpAny_bind (wpAny_attempt (wpAny_callSpecial?_slot (name := Str.ofString "__next__") hT F.slot_zip_next
    (wpAny_call_entry F.slot_zip_next hT F.entry_zip_next (zs_end (y := x) (t2 := t1) hh D hz hTI hTO h1 hx fun h' e hk he => ?_) (F.args_zip_next_1 _))))
  obtain ⟨o, ho, hc⟩ := he
  refine wpAny_bind (wpAny_isInstance (T := "StopIteration") (b := true) ⟨o, ho, hc⟩ isSubtype_stop ?_)
  exact wpAny_pure (hQ _ hk)
abbrev zq1 (h : Heap) (x : Str) (t : Tok) : Heap := h.push { cls := .type "str_ascii_iterator", data := .fields #[.str x t, .int 0 0] }
abbrev zq2 (h : Heap) (x y : Str) (t u : Tok) : Heap := (zq1 h x t).push { cls := .type "str_ascii_iterator", data := .fields #[.str y u, .int 0 0] }
abbrev zq3 (h : Heap) (x y : Str) (t u : Tok) : Heap := (zq2 h x y t u).push { cls := .type "tuple", data := .seq #[.ref h.objs.size, .ref (zq1 h x t).objs.size] }
abbrev zq4 (h : Heap) (x y : Str) (t u : Tok) : Heap := (zq3 h x y t u).push { cls := .type "tuple", data := .seq #[.none, .none] }
abbrev zq5 (h : Heap) (x y : Str) (t u : Tok) : Heap := (zq4 h x y t u).push { cls := .type "zip", data := .fields #[.none, .bool false, .bool false, .ref (zq2 h x y t u).objs.size, .ref (zq3 h x y t u).objs.size] }
theorem zs_new (x y : Str) (t u : Tok) (hx : x.cps.all (· < 128) = true) (hy : y.cps.all (· < 128) = true) :
    Meets (Builtin.«zip.__new__» ⟨[.type "zip", .str x t, .str y u], []⟩) (fun _ R s => R (.ok (.ret (.ref (zq4 s.heap x y t u).objs.size))) { s with heap := zq5 s.heap x y t u }) :=
  .of_wp fun prog w A R s h => by
    obtain ⟨hp, g, d, tk, os⟩ := s
    have hsub := sub_zip
    wp_walk using wpAny_pyIter_ascii hx, wpAny_pyIter_ascii hy
    exact ⟨_, rfl, h⟩
theorem zs_call {x y : Str} {t u : Tok} {Q : Value → Shared → Prop} (hx : x.cps.all (· < 128) = true) (hy : y.cps.all (· < 128) = true)
    (h : ∀ h', IsZip h' (s.heap.objs.size + 4) (s.heap.objs.size + 2) (s.heap.objs.size + 3) .none → IsPair h' (s.heap.objs.size + 2) (.ref s.heap.objs.size) (.ref (s.heap.objs.size + 1)) →
      IsPair h' (s.heap.objs.size + 3) .none .none → Sit h' s.heap.objs.size x t 0 → Sit h' (s.heap.objs.size + 1) y u 0 →
      (∀ c o, s.heap.get? c = some o → h'.get? c = some o) → Q (.ref (s.heap.objs.size + 4)) { s with heap := h' }) :
    wpAny (model prog w) A (call (.type "zip") [.str x t, .str y u]) Q E s := by
  refine callType_new F.called_zip (by decide) (F.typeCall_zip_2 _ _) (F.newCall_zip_2 _ _) (fun obj => F.args_object_init_3 obj _ _) F.entry_zip_new (zs_new x y t u hx hy) ?_
  have z1 : (zq1 s.heap x t).objs.size = s.heap.objs.size + 1 := Heap.size_push ..
  have z2 : (zq2 s.heap x y t u).objs.size = s.heap.objs.size + 2 := by rw [Heap.size_push, z1]
  have z3 : (zq3 s.heap x y t u).objs.size = s.heap.objs.size + 3 := by rw [Heap.size_push, z2]
  have z4 : (zq4 s.heap x y t u).objs.size = s.heap.objs.size + 4 := by rw [Heap.size_push, z3]
  have g5 : (zq5 s.heap x y t u).get? (zq4 s.heap x y t u).objs.size = some _ := Heap.get?_push_size _ rfl
  have g4 : (zq5 s.heap x y t u).get? (zq3 s.heap x y t u).objs.size = some _ := Heap.get?_push_of_some _ (Heap.get?_push_size _ rfl)
  have g3 : (zq5 s.heap x y t u).get? (zq2 s.heap x y t u).objs.size = some _ := Heap.get?_push_of_some _ (Heap.get?_push_of_some _ (Heap.get?_push_size _ rfl))
  have g2 : (zq5 s.heap x y t u).get? (zq1 s.heap x t).objs.size = some _ := Heap.get?_push_of_some _ (Heap.get?_push_of_some _ (Heap.get?_push_of_some _ (Heap.get?_push_size _ rfl)))
  have g1 : (zq5 s.heap x y t u).get? s.heap.objs.size = some _ := Heap.get?_push_of_some _ (Heap.get?_push_of_some _ (Heap.get?_push_of_some _ (Heap.get?_push_of_some _ (Heap.get?_push_size _ rfl))))
  show _ ∧ _
  rw [z2, z3, z4] at g5
  rw [z1, z2] at g3
  rw [z3] at g4
  rw [z1] at g2
  rw [z4]
  exact ⟨⟨_, g5, rfl⟩, h _ g5 g3 g4 ⟨_, g1, rfl, rfl⟩ ⟨_, g2, rfl, rfl⟩ fun c o q =>
    Heap.get?_push_of_some _ (Heap.get?_push_of_some _ (Heap.get?_push_of_some _ (Heap.get?_push_of_some _ (Heap.get?_push_of_some _ q))))⟩
end
/-- the signs of x and y, in new pairs -/
def Itq (x y : Str) : It :=
  ⟨fun i _ => i < x.cps.size, fun i H v H' => ∃ T c d, v = .ref T ∧ H T = none ∧ H' = upd H T (.tup [.str ⟨#[c]⟩, .str ⟨#[d]⟩]) ∧ x.cps[i]? = some c ∧ y.cps[i]? = some d, fun i _ => x.cps.size ≤ i⟩
theorem turn_zipS {P : Program} {w : World} {K : PySem.W.Frag} {elts : List Expr} {kk : Nat} {tpos : Pos} {x y : Str} {t u : Tok} {z TI TO i1 i2 : Addr} (D : ZA z TI TO i1 i2) (hxy : x.cps.size = y.cps.size) :
    Turn P w K (.Tuple elts kk tpos) (Itq x y) [z, TI, TO, i1, i2] z (fun i h => IsZip h z TI TO .none ∧ IsPair h TI (.ref i1) (.ref i2) ∧ (∃ a b, IsPair h TO a b) ∧ Sit h i1 x t i ∧ Sit h i2 y u i) where
  mem := by simp
  obj := fun i h st c hc => by
    obtain ⟨hz, hTI, ⟨a, b, hTO⟩, ⟨o1, e1, _, d1⟩, ⟨o2, e2, _, d2⟩⟩ := st
    have e' : c = z ∨ c = TI ∨ c = TO ∨ c = i1 ∨ c = i2 := by simpa using hc
    rcases e' with q | q | q | q | q
    · rw [q]; exact ⟨_, hz, fun v q => nomatch q⟩
    · rw [q]; exact ⟨_, hTI, fun v q => nomatch q⟩
    · rw [q]; exact ⟨_, hTO, fun v q => nomatch q⟩
    · rw [q]; exact ⟨o1, e1, fun v q => by rw [d1] at q; cases q⟩
    · rw [q]; exact ⟨o2, e2, fun v q => by rw [d2] at q; cases q⟩
  keep := fun i h h' st k => by
    obtain ⟨hz, hTI, ⟨a, b, hTO⟩, h1, h2⟩ := st
    exact ⟨k z (by simp) _ hz, k TI (by simp) _ hTI, ⟨a, b, k TO (by simp) _ hTO⟩, h1.at' fun o q => k i1 (by simp) o q, h2.at' fun o q => k i2 (by simp) o q⟩
  item := by
    intro X hP hw hK hc i pins s σ H E I hf st hg
    subst hP hw hK
    obtain ⟨hz, hTI, ⟨x0, y0, hTO⟩, h1, h2⟩ := st
    have hg : i < x.cps.size := hg
    have hx : x.cps[i]? = some x.cps[i] := Array.getElem?_eq_getElem hg
    have hy : y.cps[i]? = some (y.cps[i]'(by omega)) := Array.getElem?_eq_getElem (by omega)
    generalize x.cps[i] = c at hx
    generalize y.cps[i]'(by omega) = d at hy
    have hzl : z < s.heap.objs.size := Heap.lt_size hz
    refine zs_next D hz hTI hTO h1 h2 hx hy fun h' tk u1 u2 z' TO' h1' h2' hT hk => ?_
    refine ⟨_, rfl, wpAny_letOwnedTupleGo_zip (s := { s with heap := h', toks := tk }) z' fun h'' z'' sb => ?_⟩
    have hT2 : h''.get? s.heap.objs.size = some { cls := .type "tuple", data := .seq #[.str ⟨#[c]⟩ u1, .str ⟨#[d]⟩ u2] } := (sb.2 _ (Nat.ne_of_gt hzl)).trans hT
    have new : ObjOk X.prog X.w (upd H s.heap.objs.size (.tup [.str ⟨#[c]⟩, .str ⟨#[d]⟩])) h'' s.heap.objs.size (.tup [.str ⟨#[c]⟩, .str ⟨#[d]⟩]) :=
      ⟨by show 2 ≤ sizeLine; decide, [.str ⟨#[c]⟩ u1, .str ⟨#[d]⟩ u2], .cons ⟨_, rfl⟩ (.cons ⟨_, rfl⟩ .nil), ⟨_, hT2, rfl, _, rfl⟩⟩
    have I1 : Inv X pins σ (upd H s.heap.objs.size (.tup [.str ⟨#[c]⟩, .str ⟨#[d]⟩])) { s with heap := h'', toks := tk } :=
      I.turnedNew (t' := tk) (ch := [z, TI, TO, i1, i2]) (fun c o hb q => (sb.2 c (fun q' => hb (by simp [q']))).trans (hk c o (fun q' => hb (by simp [q'])) (fun q' => hb (by simp [q'])) (fun q' => hb (by simp [q'])) (fun q' => hb (by simp [q'])) q)) hf (Nat.le_refl _) new
    refine ⟨.ref s.heap.objs.size, _, I1, rfl, ⟨_, c, d, rfl, I.hok.fresh (Nat.le_refl _), rfl, hx, hy⟩, ⟨z'', ?_, ⟨.str ⟨#[c]⟩ u1, .str ⟨#[d]⟩ u2, ?_⟩, ?_, ?_⟩, fun e hcm => ?_⟩
    · exact (sb.2 _ D.TIz).trans (hk _ _ D.TIz D.TITO D.TIi1 D.TIi2 hTI)
    · exact (sb.2 _ D.TOz).trans TO'
    · exact h1'.at' fun o q => (sb.2 _ D.i1z).trans q
    · exact h2'.at' fun o q => (sb.2 _ D.i2z).trans q
    · have hlt : e < s.heap.objs.size := by
        have e' : e = z ∨ e = TI ∨ e = TO ∨ e = i1 ∨ e = i2 := by simpa using hcm
        rcases e' with q | q | q | q | q
        · rw [q]; exact hzl
        · rw [q]; exact Heap.lt_size hTI
        · rw [q]; exact Heap.lt_size hTO
        · rw [q]; obtain ⟨_, e1, _⟩ := h1; exact Heap.lt_size e1
        · rw [q]; obtain ⟨_, e2, _⟩ := h2; exact Heap.lt_size e2
      rw [upd_ne (Nat.ne_of_lt hlt)]
      exact (hf e hcm).1
  done := by
    intro X hP hw hK hc i pins s σ H E I hf st hg
    subst hP hw hK
    obtain ⟨hz, hTI, ⟨x0, y0, hTO⟩, h1, h2⟩ := st
    have hx : x.cps[i]? = none := Array.getElem?_eq_none hg
    exact zs_stop (I.ok.hd hc) D hz hTI hTO h1 hx fun h' hk => ⟨rfl, I.turnedL (t' := s.toks) (ch := [z, TI, TO, i1, i2]) (fun c o hb q =>
      hk c o (fun q' => hb (by simp [q'])) (fun q' => hb (by simp [q'])) (fun q' => hb (by simp [q'])) (fun q' => hb (by simp [q'])) q) hf⟩
  self := fun A i s Q E st h => wpAny_pyIter_zip st.1 h
def iZipS (ta : TA) : TI := fun σ H R => ta σ H fun vs H1 => ∃ x y : Str, vs = [.str x, .str y] ∧ x.cps.all (· < 128) = true ∧ y.cps.all (· < 128) = true ∧ x.cps.size = y.cps.size ∧ R (Itq x y) H1
theorem pi_zipS {X : Cx} {e e2 : Expr} {ta : TA} {p pos tpos : Pos} {elts : List Expr} {kk : Nat} (hg : Gl X "zip") (hm : X.mg "zip" = none) (ha : PA X [e, e2] ta)
    (hs : starEach [e, e2] X.env = (false, eval e X.env) :: starEach [e2] X.env := by rfl) (hpl : (backTo pos (starEach [e2] X.env)).any (·.1) = false := by rfl) :
    PI X (.Tuple elts kk tpos) (.Call (.Name "zip" p) [e, e2] [] pos) (iZipS ta) := by
  intro pins s σ H R I h
  refine Call_ (ld_blt I hg hm boot_zip5 (PyProof.Rows.callWith_type1 (thn (ha pos pins s σ H _ I h) fun us s1 ⟨vs, H1, I1, r1, q1⟩ => ?_) hs hpl))
  obtain ⟨x, y, ex, hx, hy, hxy, q⟩ := q1
  subst ex
  obtain ⟨u1, u2, rfl, ⟨t, rfl⟩, ⟨u, rfl⟩⟩ := vals2 r1
  refine zs_call hx hy fun h' hz hTI hTO h1 h2 hk => wpAny_pyIter_zip hz ?_
  have I2 : Inv X pins σ H1 { s1 with heap := h' } := I1.kept (t' := s1.toks) hk
  refine ⟨s1.heap.objs.size + 4, [s1.heap.objs.size + 4, s1.heap.objs.size + 2, s1.heap.objs.size + 3, s1.heap.objs.size, s1.heap.objs.size + 1], _, _, H1, rfl, I2, turn_zipS (za_new s1.heap.objs.size) hxy, ⟨hz, hTI, ⟨_, _, hTO⟩, h1, h2⟩, fun c hcm => ?_, q⟩
  have e' : c = s1.heap.objs.size + 4 ∨ c = s1.heap.objs.size + 2 ∨ c = s1.heap.objs.size + 3 ∨ c = s1.heap.objs.size ∨ c = s1.heap.objs.size + 1 := by simpa using hcm
  have hle : s1.heap.objs.size ≤ c := by
    rcases e' with z | z | z | z | z
    · rw [z]; exact Nat.le_add_right _ _
    · rw [z]; exact Nat.le_add_right _ _
    · rw [z]; exact Nat.le_add_right _ _
    · rw [z]; exact Nat.le_refl _
    · rw [z]; exact Nat.le_add_right _ _
  exact I1.fpOk hle (I1.hok.fresh hle)
end Nt
end
section
set_option Elab.async false
set_option linter.all false
set_option maxRecDepth 100000
set_option maxHeartbeats 4000000
namespace Nt
open PySem PySem.Spec PyProof.Rows L2
open PySem.W (Codec)
section
variable {X : Cx} {pins : List (Addr × Obj)} {σ : L2.St} {H : Hp} {s : Shared} {a : Addr} {kvs : List (Key × V)} {k : Key} {z : V} {u r : Value} {A : Around} {E : Value → Shared → Prop}
/-- d.setdefault(k, z) -/
theorem d_setdef {Q : Value → Shared → Prop} (I : Inv X pins σ H s) (e : H a = some (.dK kvs)) (ry : RelV (kV k) u) (rz : RelV z r) (l : kvs.length < sizeLine)
    (h1 : ∀ v w' s', valV kvs k = some v → Inv X pins σ H s' → RelV v w' → Q w' s') (h2 : ∀ s', valV kvs k = none → Inv X pins σ (upd H a (.dK (putK kvs k z))) s' → Q r s') :
    wpAny (model X.prog X.w) A (call (.builtin "dict.setdefault") [.ref a, u, r]) Q E s := by
  obtain ⟨hz, hd, vs, rel, dd⟩ := dk_of I.hok e
  have hl : (putK kvs k z).length ≤ sizeLine := by have := length_putK kvs k z; omega
  have rv := rel.val k
  refine call_meetsIn PySem.F.slot_dict_setdefault dd.typeIs PySem.F.entry_dict_setdefault (PySem.F.args_dict_setdefault_3 _ _ _) (kt_meets_setdefault (mixKind X.prog X.w) a (kV_is ry) hd r)
    ⟨vs, dd, by rw [← rel.length]; exact hz, fun v hv => ?_, fun hn h' dd' hs => ?_⟩
  · rw [hv] at rv
    cases q : valV kvs k with
    | none =>
      rw [q] at rv
      exact rv.elim
    | some x =>
      rw [q] at rv
      exact h1 x v _ q (I.tok _) rv
  · rw [hn] at rv
    cases q : valV kvs k with
    | some x =>
      rw [q] at rv
      exact rv.elim
    | none =>
      have he : ∃ q, h'.get? a = some q := let ⟨q, _, _, hq, _⟩ := dd'; ⟨q, hq⟩
      exact h2 _ q (d_write I (by rw [e]; exact True.intro) hs he (dk_new hl hd (rel.put k rz) dd'))
end
def tDSd (td ty tx : TE) : TE := fun σ H Q => td σ H fun x H1 => ∃ a, x = .ref a ∧ IsD H1 a ∧ ty σ H1 fun y H2 => tx σ H2 fun z H3 => ∃ kvs k, H3 a = some (.dK kvs) ∧ y = kV k ∧ kvs.length < sizeLine ∧
  (∀ v, valV kvs k = some v → Q v H3) ∧ (valV kvs k = none → Q z (upd H3 a (.dK (putK kvs k z))))
section
variable {X : Cx} {o e f : Expr} {apos cpos : Pos} {td ty tx : TE}
theorem pe_dsd (ho : PE X o td) (he : PE X e ty) (hf : PE X f tx) (m : M2 X o "setdefault" apos e f cpos) : PE X (.Call (.Attribute o "setdefault" apos) [e, f] [] cpos) (tDSd td ty tx) := by
  intro pins s σ H Q I h
  refine wpAny_Call_method m.base m.few m.line PySem.F.plainAttrs_dict PySem.F.slot_dict_setdefault PySem.F.type_dict_setdefault (thn (ho pins s σ H _ I h) fun u s1 ⟨x, H1, I1, rx, a, ex, d, q1⟩ => ?_)
  subst ex
  obtain rfl : u = Value.ref a := rx
  obtain ⟨t1, t2, _⟩ := isD_at I1 d
  refine ⟨t1, t2, ?_⟩
  rw [m.trees]
  refine Calls.callWith_builtin rfl (Calls.evalArgs_plain (Calls.spliced_cons (thn (he pins s1 σ H1 _ I1 q1) fun iv s2 ⟨y, H2, I2, ry, q2⟩ =>
    Calls.spliced_cons (thn (hf pins s2 σ H2 _ I2 q2) fun fv s3 ⟨z, H3, I3, rz, kvs, k, ea, ey, hl, q3, q4⟩ => Calls.spliced_nil ?_))))
  subst ey
  exact d_setdef I3 ea ry rz hl (fun v w' s4 l I4 rw' => ⟨v, H3, I4, rw', q3 v l⟩) (fun s4 l I4 => ⟨z, _, I4, rz, q4 l⟩)
end
end Nt
end
section
set_option Elab.async false
set_option linter.all false
set_option maxRecDepth 100000
set_option maxHeartbeats 4000000
namespace Nt
open PySem PySem.Spec PyProof.Rows L2
open PySem.W (Codec)
theorem good_pok {r : Md26.Row} {s : Lk.RS} {fl : List Md26.Form} {os : List Nat} (G : Lk.Good r s fl os) (hs : Small s 900) : Pok s (Lk.startN (Lk.kdOf s.parts) s.parts.length, os) := by
  have S := G.shape
  refine ⟨?_, fun k hk => ?_, ?_⟩
  · exact (Lk.Sta.all (l := []) S (.refl _) s.parts.length (Nat.le_refl _)).N.len
  · obtain ⟨j, hj, e⟩ := List.getElem_of_mem hk
    obtain ⟨h1, f, g, e1⟩ := G.on.at_ j k (by rw [List.getElem?_eq_getElem hj, e])
    obtain ⟨a, b, e2, _⟩ := S.with_ix h1 e1
    have kl := S.kid_lt h1 e2
    rcases G.part h1 with ⟨c, e3, e4⟩ | ⟨c, x, y, e3, hc, e4, hx, hy⟩
    · rw [e2] at e4
      cases e4
    · rw [e2] at e4
      have e4 := Option.some.inj e4
      injection e4 with e5 e6
      have hc2 : c = 124 := by
        rcases hc with rfl | rfl
        · cases e5
        · rfl
      rw [hc2] at e3
      exact ⟨x, y, e3, by omega, by omega⟩
  · have := hs.t
    rw [G.ones, List.length_map] at this
    exact this
/-! ### linkings on the heap -/
def lkf (x y z : V) : List (Str × V) := putF "pieces" z (putF "places" y (putF "links" x []))
theorem lkf_links (x y z : V) : (lkf x y z).lookup ("links" : Str) = some x := by
  unfold lkf
  rw [lookup_putF, if_neg (by decide +kernel), lookup_putF, if_neg (by decide +kernel), lookup_putF, if_pos rfl]
theorem lkf_places (x y z : V) : (lkf x y z).lookup ("places" : Str) = some y := by
  unfold lkf
  rw [lookup_putF, if_neg (by decide +kernel), lookup_putF, if_pos rfl]
theorem lkf_pieces (x y z : V) : (lkf x y z).lookup ("pieces" : Str) = some z := by
  unfold lkf
  rw [lookup_putF, if_pos rfl]
structure TxtL (K : PySem.W.Frag) (mg : Str → Option Value) (CL : Addr) : Prop where
  cl : Cls K CL
  nL : NoAttr K CL "links"
  nP : NoAttr K CL "places"
  nC : NoAttr K CL "pieces"
  mgL : mg "Linking" = some (.ref CL)
/-- links so far, places left, pieces -/
structure LK where
  lo : List (Option Nat)
  ps : List Nat
  p : List Nat × List Nat
def LkX (CC CL : Addr) (H : Hp) (q : Addr) (k : LK) (dx la pa qa : Addr) : Prop := H q = some (.ins CL dx (lkf (.ref la) (.ref pa) (.ref qa))) ∧ H la = some (.lst (k.lo.map oV)) ∧ H pa = some (.lst (k.ps.map nV)) ∧ PcAt CC H qa k.p.1 k.p.2
def LkAt (CC CL : Addr) (H : Hp) (q : Addr) (k : LK) : Prop := ∃ dx la pa qa, LkX CC CL H q k dx la pa qa
theorem LkX.same {CC CL : Addr} {H H' : Hp} {q : Addr} {k : LK} {dx la pa qa : Addr} (h : LkX CC CL H q k dx la pa qa) (s : Same H H') : LkX CC CL H' q k dx la pa qa := ⟨s _ _ h.1, s _ _ h.2.1, s _ _ h.2.2.1, h.2.2.2.same s⟩
theorem LkAt.same {CC CL : Addr} {H H' : Hp} {q : Addr} {k : LK} (h : LkAt CC CL H q k) (s : Same H H') : LkAt CC CL H' q k := by
  obtain ⟨dx, la, pa, qa, h⟩ := h
  exact ⟨dx, la, pa, qa, h.same s⟩
/-- a linking of the text -/
structure Lok (s : Lk.RS) (k : LK) : Prop where
  vs : Lk.Vs s.parts.length s.letters.length (Lk.kdOf s.parts) (Lk.ltOf s.letters) k.p.1 k.p.2 k.ps
  pok : Pok s k.p
  srt : k.ps.Pairwise (· < ·)
  len : k.lo.length = s.letters.length
  non : ∀ x, x ∈ k.ps → k.lo[x]? = some none
/-- a link more -/
def addLk (s : Lk.RS) (k : LK) (i j : Nat) : Option LK := match Lk.addLine (Lk.kdOf s.parts) k.p (Lk.ltOf s.letters i) (Lk.ltOf s.letters j) with
  | none => none
  | some p => if Lk.hasRing (Lk.kdOf s.parts) p.1 p.2 = true then none else some ⟨(k.lo.set i (some j)).set j (some i), k.ps.filter fun x => x != i && x != j, p⟩
theorem Lok.add {r : Md26.Row} {s : Lk.RS} {fl : List Md26.Form} {os : List Nat} (G : Lk.Good r s fl os) {k k' : LK} (h : Lok s k) {i j : Nat} (hi : i ∈ k.ps) (hj : j ∈ k.ps) (hij : i ≠ j) (e : addLk s k i j = some k') : Lok s k' ∧ k'.ps.length + 2 = k.ps.length := by
  have S := G.shape
  obtain ⟨⟨lk, ps, hlk⟩, hc, hlt, hnd⟩ := h.vs
  unfold addLk at e
  cases q : Lk.addLine (Lk.kdOf s.parts) k.p (Lk.ltOf s.letters i) (Lk.ltOf s.letters j) with
  | none =>
    rw [q] at e
    cases e
  | some p =>
    rw [q] at e
    dsimp only at e
    split at e
    · cases e
    · cases e
      have pk := h.pok.add q
      have hp : k.ps.Perm (i :: j :: (k.ps.filter fun x => x != i && x != j)) := by
        refine Lk.perm_of_nodup hnd (List.nodup_cons.mpr ⟨fun z => ?_, List.nodup_cons.mpr ⟨fun z => ?_, hnd.filter _⟩⟩) fun a => ?_
        · rcases List.mem_cons.mp z with z | z
          · exact hij z
          · have := (List.mem_filter.mp z).2
            simp at this
        · have := (List.mem_filter.mp z).2
          simp at this
        · rw [List.mem_cons, List.mem_cons, List.mem_filter]
          constructor
          · intro ha
            by_cases e1 : a = i
            · exact Or.inl e1
            · by_cases e2 : a = j
              · exact Or.inr (Or.inl e2)
              · exact Or.inr (Or.inr ⟨ha, by simp [e1, e2]⟩)
          · rintro (rfl | rfl | ha)
            · exact hi
            · exact hj
            · exact ha.1
      have hl := hp.length_eq
      simp only [List.length_cons] at hl
      have li := (S.letter (hlt i hi)).1
      have lj := (S.letter (hlt j hj)).1
      refine ⟨⟨⟨⟨lk + 1, ?_, ?_⟩, ?_, fun x hx => hlt x (List.mem_filter.mp hx).1, hnd.filter _⟩, pk, h.srt.filter _, by simp [h.len], fun x hx => ?_⟩, by show (k.ps.filter fun x => x != i && x != j).length + 2 = _; omega⟩
      · unfold Lk.addLine at q
        split at q
        · cases q
        · rename_i hne
          cases q
          exact (ps.joinStep S li lj hne).settled S
      · show 2 * (lk + 1) + (k.ps.filter fun x => x != i && x != j).length = _
        omega
      · unfold Lk.addLine at q
        split at q
        · cases q
        · cases q
          exact Lk.settle_calm _ _ _ _ (Nat.le_refl _)
      · have hm := List.mem_filter.mp hx
        have hx2 := h.non x hm.1
        have hne : x ≠ i ∧ x ≠ j := by simpa using hm.2
        show ((k.lo.set i (some j)).set j (some i))[x]? = some none
        rw [List.getElem?_set_ne (fun z => hne.2 z.symm), List.getElem?_set_ne (fun z => hne.1 z.symm)]
        exact hx2
section
variable {P : Program} {w : World} {K : PySem.W.Frag} {mg : Str → Option Value} {base : Heap} {CP CR CC CL : Addr}
/-! ### Linking(links, places, pieces) -/
def spLkI (C : Addr) : Sp := fun vs H Q _ => ∃ (p dx : Addr) (x y z : V), vs = [.ref p, x, y, z] ∧ H p = some (.ins C dx []) ∧
  ∀ H' : Hp, (∃ dx, H' p = some (.ins C dx (lkf x y z))) → (∀ b o, H b = some o → b ≠ p → H' b = some o) → Q .non H'
theorem scLkI : FnScope ["self", "links", "places", "pieces"] ["self", "links", "places", "pieces"] (defScope sLinking) := ⟨rfl, rfl, rfl, by decide +kernel, rfl, by decide +kernel, by decide +kernel⟩
theorem ok_lkI {f : Addr} {fd : FuncData} (F : Fun K "__init__" "Linking.__init__" sLinking f fd) (T : TxtL K mg CL) : FnOk P w K mg base CX0 1 f fd ["self", "links", "places", "pieces"] (spLkI CL) := by
  refine F.ok scLkI (fun vs H Q E h => ?_) (fun cdv A outer s H vs Q E hr h => ?_)
  · obtain ⟨p, dx, x, y, z, rfl, _⟩ := h
    rfl
  · obtain ⟨p, dx, x, y, z, rfl, hp, k⟩ := h
    refine ⟨_, pss_cons (ps_fld (pv 0) (pv 1) rfl) (pss_cons (ps_fld (pv 0) (pv 2) rfl) (pss_one (ps_fld (pv 0) (pv 3) rfl))), ?_⟩
    refine ⟨_, rfl, _, rfl, p, CL, dx, [], rfl, hp, T.cl, T.nL, (by show 0 < 1000; decide), ?_⟩
    refine ⟨_, rfl, _, rfl, p, CL, dx, _, rfl, upd_same, T.cl, T.nP, Nat.lt_of_le_of_lt (len_put (Nat.zero_le 0)) (by decide), ?_⟩
    refine ⟨_, rfl, _, rfl, p, CL, dx, _, rfl, upd_same, T.cl, T.nC, Nat.lt_of_le_of_lt (len_put (len_put (Nat.zero_le 0))) (by decide), ?_⟩
    exact k _ ⟨dx, upd_same⟩ fun b o e hb => by rw [upd_ne hb, upd_ne hb, upd_ne hb]; exact e
/-! ### linking_without_links(reading) -/
def lk0 (s : Lk.RS) (os : List Nat) : LK := ⟨List.replicate s.letters.length none, List.range s.letters.length, (Lk.startN (Lk.kdOf s.parts) s.parts.length, os)⟩
def spLk0 (CP CR CC CL : Addr) : Sp := fun vs H Q _ => ∃ (a : Addr) (s : Lk.RS) (r : Md26.Row) (fl : List Md26.Form) (os : List Nat), vs = [.ref a] ∧ RdAt CP CR H a s ∧ Lk.Good r s fl os ∧ Small s 900 ∧
  ∀ (H' : Hp) (q : Addr), Same H H' → LkAt CC CL H' q (lk0 s os) → Q (.ref q) H'
theorem scLk0 : FnScope ["reading", "places", "place"] ["reading"] (defScope sLk0) := ⟨rfl, rfl, rfl, by decide +kernel, rfl, by decide +kernel, by decide +kernel⟩
theorem ok_lk0 {f fL fW : Addr} {fd fdL fdW : FuncData} (F : Fun K "linking_without_links" "linking_without_links" sLk0 f fd) (T : Txt K mg CP CR) (TL : TxtL K mg CL)
    (FL : Fun K "__init__" "Linking.__init__" sLinking fL fdL) (bL : Binds K fdL ["self", "links", "places", "pieces"] []) (M : Mk K CL fL)
    (GW : FnOk P w K mg base CX0 3 fW fdW ["reading"] (spStart CP CR CC)) (kW : PySem.W.keepIn K (.ref fW) = true) (bW : Binds K fdW ["reading"] []) (mW : mg "pieces_without_links" = some (.ref fW)) :
    FnOk P w K mg base CX0 4 f fd ["reading"] (spLk0 CP CR CC CL) := by
  have GL : FnOk P w K mg base CX0 1 fL fdL ["self", "links", "places", "pieces"] (spLkI CL) := ok_lkI FL TL
  refine F.ok scLk0 (fun vs H Q E h => ?_) (fun cdv A outer s H vs Q E hr h => ?_)
  · obtain ⟨a, s, r, fl, os, rfl, _⟩ := h
    rfl
  · obtain ⟨a, s, r, fl, os, rfl, RA, G, hsm, k⟩ := h
    have hr2 : Room 2 _ := hr.mono (by decide)
    refine ⟨_, pss_cons (ps_set (i := 1) scLk0.nd rfl (Or.inl rfl) (pe_listRange (by rfl) T.list rfl T.rng rfl (pa_cons (pe_callB call_len_seq (by rfl) T.len PySem.boot_len (pa_cons (pe_fld (pv 0) rfl) pa_nil)) pa_nil)))
      (pss_one (ps_ret (pe_make M GL hr2 rfl TL.mgL bL .nil pass0 (pa_cons
        (pe_lc (own := [("place", 2)]) (te := tC .non) rfl scLk0.nd (pi_list (pv 1)) (blkOk_by (N := ["reading", "places", "place"]) (sc := defScope sLk0) (by decide +kernel))
          (fun _ _ _ _ _ => pg_name (i := 2) scLk0.nd rfl (Or.inl rfl)) (fun _ _ _ _ _ => pts_nil) (fun _ _ _ _ _ => pe_non))
        (pa_cons (pv 1) (pa_cons (pe_call GW hr rfl mW kW bW .nil pass0 (pa_cons (pv 0) pa_nil)) pa_nil)))))), ?_⟩
    have RA0 := RA
    obtain ⟨dx, pa, la, ta, ba, pas, bvs, R⟩ := RA0
    have hll := hsm.l
    refine ⟨_, rfl, a, CR, dx, _, _, rfl, R.obj, T.clR, T.rL, rf_letters _ _ _ _ _, la, _, rfl, .inl (SqL.of R.hl), s.letters.length, (by rw [List.length_map]), by omega, fun l hl => ?_⟩
    have s1 : Same H (upd H l (.lst ((List.range s.letters.length).map nV))) := same_new hl
    have hl1 : (upd H l (.lst ((List.range s.letters.length).map nV))) l = some (.lst ((List.range s.letters.length).map nV)) := upd_same
    generalize upd H l (.lst ((List.range s.letters.length).map nV)) = H1 at s1 hl1
    refine ⟨_, rfl, l, rfl, ⟨_, SqL.of hl1⟩, fun D hD => lc_list (K := K) (a := l) (xs := (List.range s.letters.length).map nV) (fun t H' => Same H1 H' ∧ H' D = some (.lst ((List.replicate t (none : Option Nat)).map oV))) ⟨same_new hD, upd_same⟩ (fun t H' _ ⟨s2, _⟩ => SqL.of (s2 _ _ hl1)) ?_ ?_⟩
    · rintro t x H' hx ⟨s2, hD1⟩
      have htl : t < s.letters.length := by
        have := (List.getElem?_eq_some_iff.mp hx).1
        rw [List.length_map, List.length_range] at this
        exact this
      refine ⟨rfl, ?_⟩
      unfold tYes
      refine iteT ?_
      refine ⟨_, hD1, ?_, ?_, ?_⟩
      · rw [List.length_map, List.length_replicate]
        exact small1000 (by omega)
      · intro b o e
        rw [upd_ne (ne_of_none e hD)]
        exact s2 b o e
      · rw [upd_same, List.replicate_succ', List.map_append]
        rfl
    · rintro H2 ⟨s2, hD1⟩
      rw [List.length_map, List.length_range] at hD1
      refine ⟨_, rfl, _, rfl, a, s, r, fl, os, rfl, (RA.same s1).same s2, G, hsm.p, fun H3 q3 s3 h3 => ?_⟩
      intro q dz nx nd ne
      refine ⟨q, dz, _, _, _, rfl, upd_same, fun H4 ⟨d4, e4⟩ k4 => ⟨rfl, ?_⟩⟩
      have s4 : Same H3 H4 := Same.made nx nd k4
      exact k H4 q (((s1.trans s2).trans s3).trans s4) ⟨d4, D, l, q3, e4, s4 _ _ (s3 _ _ hD1), s4 _ _ (s3 _ _ (s2 _ _ hl1)), h3.same s4⟩
/-! ### has_ring(reading, pieces) -/
def spRing (CP CR CC : Addr) : Sp := fun vs H Q _ => ∃ (a q : Addr) (s : Lk.RS) (p : List Nat × List Nat), vs = [.ref a, .ref q] ∧ RdAt CP CR H a s ∧ PcAt CC H q p.1 p.2 ∧ Pok s p ∧ Q (.bl (Lk.hasRing (Lk.kdOf s.parts) p.1 p.2)) H
theorem scRing : FnScope ["reading", "pieces", "numbers", "index", "part"] ["reading", "pieces"] (defScope sRing) := ⟨rfl, rfl, rfl, by decide +kernel, rfl, by decide +kernel, by decide +kernel⟩
theorem ok_ring {f : Addr} {fd : FuncData} (F : Fun K "has_ring" "has_ring" sRing f fd) (T : Txt K mg CP CR) (TP : TxtP K mg CC) : FnOk P w K mg base CX0 1 f fd ["reading", "pieces"] (spRing CP CR CC) := by
  refine F.ok scRing (fun vs H Q E h => ?_) (fun cdv A outer s H vs Q E hr h => ?_)
  · obtain ⟨a, q, s, p, rfl, _⟩ := h
    rfl
  · obtain ⟨a, q, s, ⟨ns, ws⟩, rfl, ⟨dx, pa, la, ta, ba, pas, bvs, R⟩, ⟨dq, na, wa, hq, hna, hwa⟩, ok, k⟩ := h
    refine ⟨_, pss_cons (ps_set (i := 2) scRing.nd rfl (Or.inl rfl) (pe_fld (pv 1) rfl))
      (pss_cons (ps_for PassesOwn.never rfl (pi_list (pe_fld (pv 1) rfl)) (pg_name (i := 3) scRing.nd rfl (Or.inl rfl))
        (pss_cons (ps_set (i := 4) scRing.nd rfl (Or.inl rfl) (pe_ix ix_list (pe_fld (pv 0) rfl) (pv 3) (fun _ _ => rfl)))
        (pss_one (ps_if (PW.pt (pw_or (pt_cmpR op_eq (pe_ix ix_list (pv 2) (pv 3) (fun _ _ => rfl)) (pe_ix ix_list (pv 2) (pe_fld (pv 4) rfl) (fun _ _ => rfl)) (nomark _))
          (pw_or1 (pt_cmpR op_eq (pe_ix ix_list (pv 2) (pv 3) (fun _ _ => rfl)) (pe_ix ix_list (pv 2) (pe_fld (pv 4) rfl) (fun _ _ => rfl)) (nomark _))))) (pss_one (ps_ret pe_bl)) pss_nil))))
      (pss_one (ps_ret pe_bl))), ?_⟩
    have hl := ok.len
    have hl : ns.length = s.parts.length := ok.len
    generalize hkd : Lk.kdOf s.parts = kd at k
    refine ⟨_, rfl, q, CC, dq, _, _, rfl, hq, TP.cl, TP.nN, pcf_numbers _ _, _, rfl, q, CC, dq, _, _, rfl, hq, TP.cl, TP.nW, pcf_waiting _ _, wa, rfl, ⟨_, SqL.of hwa⟩, for_list (K := K) (a := wa) (xs := ws.map nV) (fun i σ H' => ∃ v3 v4 : Option V, σ = [some (.ref a), some (.ref q), some (.ref na), v3, v4] ∧ H' = H ∧ Lk.hasRing kd ns (ws.take i) = false)
      ⟨none, none, rfl, rfl, rfl⟩ (fun i σ H' _ ⟨_, _, _, e, _⟩ => by rw [e]; exact SqL.of hwa) ?_ ?_⟩
    · rintro i x σ H' hx ⟨v3, v4, rfl, rfl, hno⟩
      obtain ⟨k0, hk0, rfl⟩ := get_map hx
      obtain ⟨x0, y0, hp0, hx0, hy0⟩ := ok.wok k0 (List.mem_of_getElem? hk0)
      obtain ⟨ka, kb⟩ := Wok.kd hp0
      rw [hkd] at ka kb
      have hkl : k0 < s.parts.length := (List.getElem?_eq_some_iff.mp hp0).1
      obtain ⟨q0, hq0⟩ : ∃ q, pas[k0]? = some q := ⟨_, List.getElem?_eq_getElem (by rw [R.plen]; exact hkl)⟩
      obtain ⟨dq0, hpq⟩ := R.part k0 q0 _ hq0 hp0
      have nx : ∀ z, z < s.parts.length → (ns.map nV)[z]? = some (nV (Lk.nu ns z)) := fun z hz => nu_map (by rw [hl]; exact hz)
      have yes : (Lk.nu ns k0 = Lk.nu ns x0 ∨ Lk.nu ns k0 = Lk.nu ns y0) → Lk.hasRing kd ns ws = true := by
        intro h
        unfold Lk.hasRing
        rw [List.any_eq_true]
        refine ⟨k0, List.mem_of_getElem? hk0, ?_⟩
        rw [ka, kb, Bool.or_eq_true, decide_eq_true_eq, decide_eq_true_eq]
        exact h
      have yesQ : Lk.hasRing kd ns ws = true → Q (.bl true) H' := fun e => by
        have k' : Q (.bl (Lk.hasRing kd ns ws)) H' := k
        rw [e] at k'
        exact k'
      refine ⟨_, rfl, a, CR, dx, _, _, rfl, R.obj, T.clR, T.rP, rf_parts _ _ _ _ _, _, rfl, pa, _, _, _, rfl, rfl, SqL.of R.hp, atI_nat (map_get hq0), ?_⟩
      refine ⟨_, rfl, _, rfl, na, _, _, _, rfl, rfl, SqL.of hna, atI_nat (nx k0 hkl), _, rfl, _, rfl, q0, CP, dq0, _, _, rfl, hpq, T.clP, T.nL, pf_left _ _ _, na, _, (x0 : Int), _, rfl, rfl, SqL.of hna, atI_nat (nx x0 hx0), rfl, _, rfl, ite2 (fun h1 => ?_) (fun h1 => ?_)⟩
      · exact iteT (yesQ (yes (Or.inl (int_inj (of_decide_eq_true h1)))))
      · have h1 : ¬ Lk.nu ns k0 = Lk.nu ns x0 := fun z => h1 (decide_eq_true (by rw [z]))
        refine ⟨_, rfl, _, rfl, na, _, _, _, rfl, rfl, SqL.of hna, atI_nat (nx k0 hkl), _, rfl, _, rfl, q0, CP, dq0, _, _, rfl, hpq, T.clP, T.nR, pf_right _ _ _, na, _, (y0 : Int), _, rfl, rfl, SqL.of hna, atI_nat (nx y0 hy0), rfl, _, rfl, ite2 (fun h2 => ?_) (fun h2 => ?_)⟩
        · exact yesQ (yes (Or.inr (int_inj (of_decide_eq_true h2))))
        · have h2 : ¬ Lk.nu ns k0 = Lk.nu ns y0 := fun z => h2 (decide_eq_true (by rw [z]))
          refine ⟨_, _, rfl, rfl, ?_⟩
          unfold Lk.hasRing at hno ⊢
          rw [Lk.take_snoc hk0, List.any_append, hno]
          simp [ka, kb, h1, h2]
    · rintro σ H' ⟨v3, v4, rfl, rfl, hno⟩
      rw [List.length_map, List.take_length] at hno
      have k' : Q (.bl (Lk.hasRing kd ns ws)) H' := k
      rw [hno] at k'
      exact k'
end
end Nt
end
section
set_option Elab.async false
set_option linter.all false
set_option maxRecDepth 100000
set_option maxHeartbeats 4000000
namespace Nt
open PySem PySem.Spec PyProof.Rows L2
open PySem.W (Codec)
/-- for a, b in zip(x, y), two texts -/
theorem for_zipS {K : PySem.W.Frag} {x y : Str} {i1 i2 : Nat} {tb : TS} {D : Ends} {σ : L2.St} {H : Hp} (Pv : Nat → L2.St → Hp → Prop) (h0 : Pv 0 σ H)
    (hs : ∀ i c d σ H t, x.cps[i]? = some c → y.cps[i]? = some d → Pv i σ H → H t = Option.none → tb { D with nx := Pv (i + 1), ct := Pv (i + 1), bk := D.nx } ((σ.set i1 (some (.str ⟨#[c]⟩))).set i2 (some (.str ⟨#[d]⟩))) (upd H t (.tup [.str ⟨#[c]⟩, .str ⟨#[d]⟩]))) (hd : ∀ σ H, Pv x.cps.size σ H → D.nx σ H) :
    ∃ W : Nat → Nat → L2.St → Hp → Prop, (∃ m, W 0 m σ H) ∧ ∀ i m σ H, W i m σ H →
      ((Itq x y).stop i H ∧ D.nx σ H) ∨ ((Itq x y).go i H ∧ ∃ N : L2.St → Hp → Prop, (∀ σ' H', N σ' H' → ∃ m', m' < m ∧ W (i + 1) m' σ' H') ∧ ∀ v H', (Itq x y).yld i H v H' → gTup K 2 (gCons (gName i1) (gCons (gName i2) gNil)) v σ H' fun σ2 H2 => tb { D with nx := N, ct := N, bk := D.nx } σ2 H2) := by
  refine ⟨fun i m σ H => m = x.cps.size - i ∧ i ≤ x.cps.size ∧ Pv i σ H, ⟨x.cps.size, by simp, Nat.zero_le _, h0⟩, ?_⟩
  rintro i m σ H ⟨rfl, hi, p⟩
  by_cases hlt : i < x.cps.size
  · refine .inr ⟨hlt, Pv (i + 1), fun σ' H' p' => ⟨x.cps.size - (i + 1), by omega, rfl, hlt, p'⟩, fun v H' q => ?_⟩
    obtain ⟨t, c, d, rfl, ht, rfl, hx, hy⟩ := q
    exact ⟨t, _, rfl, SqT.of upd_same, rfl, _, _, rfl, _, _, rfl, rfl, hs i c d σ H t hx hy p ht⟩
  · have e : i = x.cps.size := by omega
    subst e
    exact .inl ⟨Nat.le_refl _, hd σ H p⟩
section
variable {P : Program} {w : World} {K : PySem.W.Frag} {mg : Str → Option Value} {base : Heap} {CP CR CC CL : Addr}
/-! ### can_have_proof(reading) -/
def spCan (CP CR : Addr) : Sp := fun vs H Q _ => ∃ (a : Addr) (s : Lk.RS) (r : Md26.Row) (fl : List Md26.Form) (os : List Nat), vs = [.ref a] ∧ RdAt CP CR H a s ∧ Lk.Good r s fl os ∧ Small s 900 ∧
  ∀ H' : Hp, Same H H' → Q (.bl (Lk.canB (s.parts.map (·.1)) s.letters.length)) H'
theorem scCan : FnScope ["reading", "signs", "plain", "turned", "part"] ["reading"] (defScope sCan) := ⟨rfl, rfl, rfl, by decide +kernel, rfl, by decide +kernel, by decide +kernel⟩
theorem nats_ints (l : List Nat) : l.map nV = (l.map fun n : Nat => (n : Int)).map V.int := by
  rw [List.map_map]
  rfl
theorem ok_can {f : Addr} {fd : FuncData} (F : Fun K "can_have_proof" "can_have_proof" sCan f fd) (T : Txt K mg CP CR) : FnOk P w K mg base CX0 1 f fd ["reading"] (spCan CP CR) := by
  refine F.ok scCan (fun vs H Q E h => ?_) (fun cdv A outer s H vs Q E hr h => ?_)
  · obtain ⟨a, s, r, fl, os, rfl, _⟩ := h
    rfl
  · obtain ⟨a, s, r, fl, os, rfl, ⟨dx, pa, la, ta, ba, pas, bvs, R⟩, G, hsm, k⟩ := h
    refine ⟨_, pss_cons (ps_setLc (i := 1) (own := [("part", 4)]) (te := tFld K (tVar 4) "sign") rfl scCan.nd rfl rfl (sw_true rfl rfl rfl (by decide +kernel)) (pi_list (pe_fld (pv 0) rfl)) (blkOk_by (N := ["reading", "signs", "plain", "turned", "part"]) (sc := defScope sCan) (by decide +kernel))
        (fun _ _ _ _ _ => pg_name (i := 4) scCan.nd rfl (Or.inl rfl)) (fun _ _ _ _ _ => pts_nil) (fun _ _ _ _ _ => pe_fld (pv 4) rfl))
      (pss_cons (ps_for PassesOwn.never rfl (pi_zipS (by rfl) T.zip (pa_cons pe_str (pa_cons pe_str pa_nil))) (pg_tup rfl (pgs_cons (pg_name (i := 2) scCan.nd rfl (Or.inl rfl)) (pgs_cons (pg_name (i := 3) scCan.nd rfl (Or.inl rfl)) pgs_nil)))
        (pss_one (ps_if (pt_cmpR op_ne (pe_bm PySem.F.plainAttrs_list PySem.F.slot_list_count PySem.F.type_list_count mt_countL (pv 1) (pa_cons (pe_callB call_ord (by rfl) T.ord boot_ord (pa_cons (pv 2) pa_nil)) pa_nil))
          (pe_bm PySem.F.plainAttrs_list PySem.F.slot_list_count PySem.F.type_list_count mt_countL (pv 1) (pa_cons (pe_callB call_ord (by rfl) T.ord boot_ord (pa_cons (pv 3) pa_nil)) pa_nil)) (nomark _)) (pss_one (ps_ret pe_bl)) pss_nil)))
      (pss_one (ps_ret (pe_cmpR op_eq (pe_op op_add (pe_op op_mul pe_int (pe_bm PySem.F.plainAttrs_list PySem.F.slot_list_count PySem.F.type_list_count mt_countL (pv 1) (pa_cons (pe_ordc 42 rfl T.ord (by decide +kernel) (by decide +kernel)) pa_nil))) pe_int)
        (pe_callB call_len_seq (by rfl) T.len PySem.boot_len (pa_cons (pe_fld (pv 0) rfl) pa_nil)) (nomark _))))), ?_⟩
    refine ⟨_, rfl, a, CR, dx, _, _, rfl, R.obj, T.clR, T.rP, rf_parts _ _ _ _ _, pa, rfl, ⟨_, SqL.of R.hp⟩, fun D hD => lc_list (K := K) (a := pa) (xs := pas.map V.ref) (fun t H' => Same H H' ∧ H' D = some (.lst (((s.parts.take t).map (·.1)).map nV))) ⟨same_new hD, upd_same⟩ (fun t H' _ ⟨s2, _⟩ => SqL.of (s2 _ _ R.hp)) ?_ ?_⟩
    · rintro t x H' hx ⟨s1, hD1⟩
      obtain ⟨q, hq, rfl⟩ := get_map hx
      have htl : t < s.parts.length := by
        have := (List.getElem?_eq_some_iff.mp hq).1
        rw [R.plen] at this
        exact this
      have e1 : s.parts[t]? = some s.parts[t] := List.getElem?_eq_getElem htl
      obtain ⟨dq, hpq⟩ := R.part t q _ hq e1
      have := hsm.p
      refine ⟨rfl, ?_⟩
      unfold tYes
      refine iteT ?_
      refine ⟨_, rfl, q, CP, dq, _, _, rfl, s1 _ _ hpq, T.clP, T.nS, pf_sign _ _ _, _, hD1, ?_, ?_, ?_⟩
      · rw [List.length_map, List.length_map, List.length_take]
        exact small1000 (by omega)
      · intro b o e
        rw [upd_ne (ne_of_none e hD)]
        exact s1 b o e
      · rw [upd_same, Lk.take_snoc e1, List.map_append, List.map_append]
        rfl
    · rintro H1 ⟨s1, hD1⟩
      rw [List.length_map, R.plen, List.take_length] at hD1
      generalize hsg : s.parts.map (·.1) = sg at hD1 k
      have hsl : sg.length ≤ 900 := by rw [← hsg, List.length_map]; exact hsm.p
      have cq : ∀ (H' : Hp), H' D = some (.lst (sg.map nV)) → SqL K H' D ((sg.map fun n : Nat => (n : Int)).map V.int) := fun H' h => by rw [← nats_ints]; exact SqL.of h
      refine ⟨_, _, rfl, by decide +kernel, by decide +kernel, by decide +kernel, for_zipS (K := K) (fun i σ H' => ∃ v2 v3 : Option V, σ = [some (.ref a), some (.ref D), v2, v3, none] ∧ Same H1 H' ∧ ∀ j, j < i → sg.count (97 + j) = sg.count (65 + j)) ⟨none, none, rfl, Same.refl _, fun j hj => by omega⟩ ?_ ?_⟩
      · rintro i c d σ H' t hc hd ⟨v2, v3, rfl, s2, hok⟩ ht
        have hi : i < 8 := by
          have := (Array.getElem?_eq_some_iff.mp hc).1
          exact Nat.lt_of_lt_of_le this (by decide +kernel)
        have hcd : c = 97 + i ∧ d = 65 + i := by
          have e1 : ∀ i, i < 8 → (Str.ofString "abcdefgh").cps[i]? = some (97 + i) := by decide +kernel
          have e2 : ∀ i, i < 8 → (Str.ofString "ABCDEFGH").cps[i]? = some (65 + i) := by decide +kernel
          have x1 := e1 i hi
          have x2 := e2 i hi
          exact ⟨Option.some.inj (hc.symm.trans x1), Option.some.inj (hd.symm.trans x2)⟩
        obtain ⟨rfl, rfl⟩ := hcd
        have s3 : Same H1 (upd H' t (.tup [.str ⟨#[97 + i]⟩, .str ⟨#[65 + i]⟩])) := s2.trans (same_new ht)
        generalize upd H' t (.tup [.str ⟨#[97 + i]⟩, .str ⟨#[65 + i]⟩]) = H2 at s3
        have hD2 := s3 _ _ hD1
        refine ⟨_, rfl, .inl ⟨rfl, _, SqL.of hD2⟩, _, rfl, _, rfl, rfl, D, _, _, rfl, rfl, cq _ hD2, ?_⟩
        refine ⟨_, rfl, .inl ⟨rfl, _, SqL.of hD2⟩, _, rfl, _, rfl, rfl, D, _, _, rfl, rfl, cq _ hD2, rfl, _, rfl, ?_⟩
        show if (!decide (V.int ((sg.map fun n : Nat => (n : Int)).count (((97 + i : Nat)) : Int) : Nat) = V.int ((sg.map fun n : Nat => (n : Int)).count (((65 + i : Nat)) : Int) : Nat))) = true then _ else _
        rw [count_nat, count_nat]
        refine ite2 (fun h1 => ?_) (fun h1 => ?_)
        · have h1 := neT h1
          have z := k H2 (s1.trans s3)
          have e : Lk.canB sg s.letters.length = false := by
            rw [Bool.eq_false_iff]
            intro e
            unfold Lk.canB at e
            rw [Bool.and_eq_true, List.all_eq_true] at e
            exact h1 (beq_iff_eq.mp (e.1 i (List.mem_range.mpr hi)))
          rw [e] at z
          exact z
        · have h1 := neF h1
          refine ⟨_, _, rfl, s3, fun j hj => ?_⟩
          by_cases hji : j = i
          · rw [hji]
            exact h1
          · exact hok j (by omega)
      · rintro σ H' ⟨v2, v3, rfl, s2, hok⟩
        have e8 : (Str.ofString "abcdefgh").cps.size = 8 := by decide +kernel
        have hok : ∀ j, j < 8 → sg.count (97 + j) = sg.count (65 + j) := fun j hj => hok j (by rw [← e8] at hj; exact hj)
        have hD2 := s2 _ _ hD1
        have sA := s1.trans s2
        refine ⟨_, rfl, .inl ⟨rfl, _, SqL.of hD2⟩, D, _, _, rfl, rfl, cq _ hD2, _, _, rfl, rfl, .inl ⟨by decide, by decide⟩, _, _, rfl, rfl, _, rfl, a, CR, dx, _, _, rfl, sA _ _ R.obj, T.clR, T.rL, rf_letters _ _ _ _ _, la, _, rfl, .inl (SqL.of (sA _ _ R.hl)), rfl, ?_⟩
        have z := k H' sA
        have e : Lk.canB sg s.letters.length = decide (V.int (2 * (((sg.map fun n : Nat => (n : Int)).count ((42 : Nat) : Int) : Nat) : Int) + 2) = V.int (((s.letters.map nV).length : Nat) : Int)) := by
          rw [count_nat, List.length_map, Bool.eq_iff_iff, decide_eq_true_eq]
          unfold Lk.canB
          rw [Bool.and_eq_true, List.all_eq_true, beq_iff_eq]
          constructor
          · rintro ⟨_, h⟩
            congr 1
            omega
          · intro h
            injection h with h
            exact ⟨fun j hj => beq_iff_eq.mpr (hok j (List.mem_range.mp hj)), by omega⟩
        rw [e] at z
        exact z
end
end Nt
end
section
set_option Elab.async false
set_option linter.all false
set_option maxRecDepth 100000
set_option maxHeartbeats 4000000
namespace Nt
open PySem PySem.Spec PyProof.Rows L2
open PySem.W (Codec)
/-- all but what stands at p stays -/
def Oth (p : Addr) (H H' : Hp) : Prop := ∀ b o, H b = some o → b ≠ p → H' b = some o
theorem Oth.refl (p : Addr) (H : Hp) : Oth p H H := fun _ _ h _ => h
theorem Oth.trans {p : Addr} {H H1 H2 : Hp} (a : Oth p H H1) (b : Oth p H1 H2) : Oth p H H2 := fun c o h n => b c o (a c o h n) n
theorem Oth.of_same {p : Addr} {H H' : Hp} (h : Same H H') : Oth p H H' := fun b o e _ => h b o e
theorem Oth.upd {p : Addr} {H : Hp} {o : HO} : Oth p H (upd H p o) := fun b u e n => by
  rw [upd_ne n]
  exact e
/-- a linking that has nothing to do with D -/
def LkN (CC CL : Addr) (H : Hp) (q : Addr) (k : LK) (D : Addr) : Prop := ∃ dx la pa qa dc na wa, H q = some (.ins CL dx (lkf (.ref la) (.ref pa) (.ref qa))) ∧ H la = some (.lst (k.lo.map oV)) ∧ H pa = some (.lst (k.ps.map nV)) ∧ PcX CC H qa k.p.1 k.p.2 dc na wa ∧
  q ≠ D ∧ la ≠ D ∧ pa ≠ D ∧ qa ≠ D ∧ na ≠ D ∧ wa ≠ D
theorem LkN.at_ {CC CL : Addr} {H : Hp} {q : Addr} {k : LK} {D : Addr} (h : LkN CC CL H q k D) : LkAt CC CL H q k := by
  obtain ⟨dx, la, pa, qa, dc, na, wa, h1, h2, h3, h4, _⟩ := h
  exact ⟨dx, la, pa, qa, h1, h2, h3, dc, na, wa, h4⟩
theorem LkN.oth {CC CL : Addr} {H H' : Hp} {q : Addr} {k : LK} {D : Addr} (h : LkN CC CL H q k D) (o : Oth D H H') : LkN CC CL H' q k D := by
  obtain ⟨dx, la, pa, qa, dc, na, wa, h1, h2, h3, ⟨h4, h5, h6⟩, n1, n2, n3, n4, n5, n6⟩ := h
  exact ⟨dx, la, pa, qa, dc, na, wa, o _ _ h1 n1, o _ _ h2 n2, o _ _ h3 n3, ⟨o _ _ h4 n4, o _ _ h5 n5, o _ _ h6 n6⟩, n1, n2, n3, n4, n5, n6⟩
/-- a new linking, or None -/
def LoF (CC CL : Addr) (H H' : Hp) (v : V) : Option LK → Prop
  | none => v = .non
  | some k => ∃ q, v = .ref q ∧ ∀ D, H D ≠ Option.none → LkN CC CL H' q k D
theorem set2_get {l : List (Option Nat)} {i j x : Nat} (hi : i < l.length) (hj : j < l.length) (hx : l[x]? = some none) : ((l.set i (some j)).set j (some i))[x]? = some (if x = j then some i else if x = i then some j else none) := by
  by_cases e1 : x = j
  · subst e1
    rw [List.getElem?_set_self (by rw [List.length_set]; exact hj), if_pos rfl]
  · rw [List.getElem?_set_ne (fun z => e1 z.symm), if_neg e1]
    by_cases e2 : x = i
    · subst e2
      rw [List.getElem?_set_self hi, if_pos rfl]
    · rw [List.getElem?_set_ne (fun z => e2 z.symm), if_neg e2]
      exact hx
theorem lt_small {n : Nat} (h : n ≤ 100000) : n < sizeLine := Nat.lt_of_le_of_lt h (by decide)
section
variable {P : Program} {w : World} {K : PySem.W.Frag} {mg : Str → Option Value} {base : Heap} {CP CR CC CL : Addr}
/-! ### add_link(reading, linking, place, other) -/
def spAddLink (CP CR CC CL : Addr) : Sp := fun vs H Q _ => ∃ (a q : Addr) (i j : Nat) (s : Lk.RS) (r : Md26.Row) (fl : List Md26.Form) (os : List Nat) (k : LK), vs = [.ref a, .ref q, nV i, nV j] ∧ RdAt CP CR H a s ∧ Lk.Good r s fl os ∧ Small s 900 ∧ LkAt CC CL H q k ∧ Lok s k ∧ i ∈ k.ps ∧ j ∈ k.ps ∧
  ∀ (H' : Hp) (v : V), Same H H' → LoF CC CL H H' v (addLk s k i j) → Q v H'
theorem scAddLink : FnScope ["reading", "linking", "place", "other", "pieces", "links", "left"] ["reading", "linking", "place", "other"] (defScope sAddLink) := ⟨rfl, rfl, rfl, by decide +kernel, rfl, by decide +kernel, by decide +kernel⟩
theorem ok_addLink {f fA fR fL : Addr} {fd fdA fdR fdL : FuncData} (F : Fun K "add_link" "add_link" sAddLink f fd) (T : Txt K mg CP CR) (TP : TxtP K mg CC) (TL : TxtL K mg CL)
    (GA : FnOk P w K mg base CX0 4 fA fdA ["reading", "pieces", "one", "other"] (spAdd CP CR CC)) (kA : PySem.W.keepIn K (.ref fA) = true) (bA : Binds K fdA ["reading", "pieces", "one", "other"] []) (mA : mg "add_line" = some (.ref fA))
    (FR : Fun K "has_ring" "has_ring" sRing fR fdR) (bR : Binds K fdR ["reading", "pieces"] []) (mR : mg "has_ring" = some (.ref fR))
    (FL : Fun K "__init__" "Linking.__init__" sLinking fL fdL) (bL : Binds K fdL ["self", "links", "places", "pieces"] []) (M : Mk K CL fL) :
    FnOk P w K mg base CX0 5 f fd ["reading", "linking", "place", "other"] (spAddLink CP CR CC CL) := by
  have GL : FnOk P w K mg base CX0 1 fL fdL ["self", "links", "places", "pieces"] (spLkI CL) := ok_lkI FL TL
  have GR : FnOk P w K mg base CX0 1 fR fdR ["reading", "pieces"] (spRing CP CR CC) := ok_ring FR T TP
  refine F.ok scAddLink (fun vs H Q E h => ?_) (fun cdv A outer s H vs Q E hr h => ?_)
  · obtain ⟨a, q, i, j, s, r, fl, os, k, rfl, _⟩ := h
    rfl
  · obtain ⟨a, q, i, j, s, r, fl, os, k, rfl, RA, G, hsm, hq, lok, hi, hj, kk⟩ := h
    have hr1 : Room 1 _ := hr.mono (by decide)
    have hr2 : Room 2 _ := hr.mono (by decide)
    refine ⟨_, pss_cons (ps_set (i := 4) scAddLink.nd rfl (Or.inl rfl) (pe_call GA hr rfl mA kA bA .nil pass0 (pa_cons (pv 0) (pa_cons (pe_fld (pv 1) rfl) (pa_cons (pe_ix ix_list (pe_fld (pv 0) rfl) (pv 2) (fun _ _ => rfl)) (pa_cons (pe_ix ix_list (pe_fld (pv 0) rfl) (pv 3) (fun _ _ => rfl)) pa_nil))))))
      (pss_cons (ps_if (PW.pt (pw_or (pt_cmpR op_isN (pv 4) pe_non (nomark _)) (pw_or1 (pt_val (pe_call GR hr1 rfl mR FR.kp bR .nil pass0 (pa_cons (pv 0) (pa_cons (pv 4) pa_nil))))))) (pss_one (ps_ret pe_non)) pss_nil)
      (pss_cons (ps_set (i := 5) scAddLink.nd rfl (Or.inr rfl) (pe_callTy call_list_of (by rfl) T.list PyProof.Rows.boot_list (pa_cons (pe_fld (pv 1) rfl) pa_nil)))
      (pss_cons (ps_asg (pv 3) (pg_sub (pv 5) (pv 2) set_list))
      (pss_cons (ps_asg (pv 2) (pg_sub (pv 5) (pv 3) set_list))
      (pss_one (ps_ret (pe_make M GL hr2 rfl TL.mgL bL .nil pass0 (pa_cons (pv 5) (pa_cons
        (pe_lc (own := [("left", 6)]) (tt := tTest (tOp (fun x y H Q => y = .non ∧ Q (.bl (decide (x = .non))) H) (tOp (rIxL K) (tVar 5) (tVar 6)) (tC .non))) (te := tVar 6) rfl scAddLink.nd (pi_list (pe_fld (pv 1) rfl)) (blkOk_by (N := ["reading", "linking", "place", "other", "pieces", "links", "left"]) (sc := defScope sAddLink) (by decide +kernel))
          (fun _ _ _ _ _ => pg_name (i := 6) scAddLink.nd rfl (Or.inl rfl)) (fun _ _ _ _ _ => pts_one (pt_cmpR op_isN (pe_ix ix_list (pv 5) (pv 6) (fun _ _ => rfl)) pe_non (nomark _))) (fun _ _ _ _ _ => pv 6))
        (pa_cons (pv 4) pa_nil)))))))))), ?_⟩
    have S := G.shape
    have RA0 := RA
    obtain ⟨dx, pa, la, ta, ba, pas, bvs, R⟩ := RA0
    obtain ⟨dq, ql, qp, qc, h1, h2, h3, h4⟩ := hq
    obtain ⟨_, _, hlt, hnd⟩ := lok.vs
    have him := hlt i hi
    have hjm := hlt j hj
    refine ⟨_, rfl, _, rfl, q, CL, dq, _, _, rfl, h1, TL.cl, TL.nC, lkf_pieces _ _ _, _, rfl, a, CR, dx, _, _, rfl, R.obj, T.clR, T.rL, rf_letters _ _ _ _ _, _, rfl, la, _, _, _, rfl, rfl, SqL.of R.hl, atI_nat (map_get (get_of him)), _, rfl, a, CR, dx, _, _, rfl, R.obj, T.clR, T.rL, rf_letters _ _ _ _ _, _, rfl, la, _, _, _, rfl, rfl, SqL.of R.hl, atI_nat (map_get (get_of hjm)), ?_⟩
    refine ⟨a, qc, _, _, s, k.p, rfl, RA, h4, lok.pok, (S.letter him).1, (S.letter hjm).1, hsm.p, fun H1 v1 s1 hv1 => ?_⟩
    have eadd : addLk s k i j = match Lk.addLine (Lk.kdOf s.parts) k.p (Lk.ltOf s.letters i) (Lk.ltOf s.letters j) with
      | none => none
      | some p => if Lk.hasRing (Lk.kdOf s.parts) p.1 p.2 = true then none else some ⟨(k.lo.set i (some j)).set j (some i), k.ps.filter fun x => x != i && x != j, p⟩ := rfl
    have pk0 : ∀ p, Lk.addLine (Lk.kdOf s.parts) k.p (Lk.ltOf s.letters i) (Lk.ltOf s.letters j) = some p → Pok s p := fun p e => lok.pok.add e
    have hv1 : PoF CC H H1 v1 (Lk.addLine (Lk.kdOf s.parts) k.p (Lk.ltOf s.letters i) (Lk.ltOf s.letters j)) := hv1
    cases q1 : Lk.addLine (Lk.kdOf s.parts) k.p (Lk.ltOf s.letters i) (Lk.ltOf s.letters j) with
    | none =>
      rw [q1] at hv1 eadd
      have e : v1 = .non := hv1
      subst e
      exact ⟨_, rfl, rfl, _, rfl, iteT (iteT (kk H1 .non s1 (by rw [eadd]; rfl)))⟩
    | some p =>
      have pk := pk0 p q1
      rw [q1] at hv1 eadd
      dsimp only at eadd
      obtain ⟨q', dc, na, wa, rfl, hX, f1, f2, f3⟩ := hv1
      refine ⟨_, rfl, rfl, _, rfl, iteF ⟨_, rfl, _, rfl, a, q', s, p, rfl, RA.same s1, ⟨dc, na, wa, hX⟩, pk, _, rfl, ?_⟩⟩
      cases hring : Lk.hasRing (Lk.kdOf s.parts) p.1 p.2 with
      | true =>
        rw [hring, if_pos rfl] at eadd
        exact iteT (kk H1 .non s1 (by rw [eadd]; rfl))
      | false =>
        rw [hring, if_neg (by intro z; cases z)] at eadd
        refine iteF ?_
        have hlo := lok.len
        have hil : i < k.lo.length := by rw [hlo]; exact him
        have hjl : j < k.lo.length := by rw [hlo]; exact hjm
        refine ⟨_, rfl, q, CL, dq, _, _, rfl, s1 _ _ h1, TL.cl, TL.nL, lkf_links _ _ _, ql, _, rfl, .inl (SqL.of (s1 _ _ h2)), fun l hl => ?_⟩
        have n1 := none_of s1 hl
        have nq : ∀ b o, H1 b = some o → b ≠ l := fun b o e => ne_of_none e hl
        refine ⟨_, rfl, _, rfl, _, rfl, l, _, _, i, rfl, rfl, upd_same, (by rw [List.length_map]; exact ixN_at hil), ?_⟩
        refine ⟨_, rfl, _, rfl, _, rfl, l, _, _, j, rfl, rfl, upd_same, (by rw [List.length_set, List.length_map]; exact ixN_at hjl), ?_⟩
        have eL : ((k.lo.map oV).set i (nV j)).set j (nV i) = ((k.lo.set i (some j)).set j (some i)).map oV := by
          rw [List.map_set, List.map_set]
          rfl
        rw [eL]
        have s2 : Same H1 (upd (upd (upd H1 l (.lst (k.lo.map oV))) l (.lst ((k.lo.map oV).set i (nV j)))) l (.lst (((k.lo.set i (some j)).set j (some i)).map oV))) := fun b o e => by
          rw [upd_ne (nq b o e), upd_ne (nq b o e), upd_ne (nq b o e)]
          exact e
        have hl2 : (upd (upd (upd H1 l (.lst (k.lo.map oV))) l (.lst ((k.lo.map oV).set i (nV j)))) l (.lst (((k.lo.set i (some j)).set j (some i)).map oV))) l = some (.lst (((k.lo.set i (some j)).set j (some i)).map oV)) := upd_same
        generalize upd (upd (upd H1 l (.lst (k.lo.map oV))) l (.lst ((k.lo.map oV).set i (nV j)))) l (.lst (((k.lo.set i (some j)).set j (some i)).map oV)) = H2 at s2 hl2
        have sA := s1.trans s2
        refine ⟨_, rfl, _, rfl, q, CL, dq, _, _, rfl, sA _ _ h1, TL.cl, TL.nP, lkf_places _ _ _, qp, rfl, ⟨_, SqL.of (sA _ _ h3)⟩, fun D hD => lc_list (K := K) (a := qp) (xs := k.ps.map nV) (fun t H' => Same H2 H' ∧ H' D = some (.lst (((k.ps.take t).filter fun x => x != i && x != j).map nV))) ⟨same_new hD, upd_same⟩ (fun t H' _ ⟨s3, _⟩ => SqL.of (s3 _ _ (sA _ _ h3))) ?_ ?_⟩
        · rintro t y H' hy ⟨s3, hD1⟩
          obtain ⟨x, hx, rfl⟩ := get_map hy
          have hxm : x ∈ k.ps := List.mem_of_getElem? hx
          have hxl : x < k.lo.length := by rw [hlo]; exact hlt x hxm
          have hx0 := lok.non x hxm
          have ex : ((k.lo.set i (some j)).set j (some i))[x]? = some (if x = j then some i else if x = i then some j else none) := by
            exact set2_get hil hjl hx0
          refine ⟨rfl, ?_⟩
          refine ⟨_, rfl, _, rfl, l, _, _, _, rfl, rfl, SqL.of (s3 _ _ hl2), atI_nat (map_get ex), rfl, _, rfl, ?_⟩
          rw [show decide (oV (if x = j then some i else if x = i then some j else none) = V.non) = (x != i && x != j) from by
            by_cases e1 : x = j
            · rw [if_pos e1]
              simp [e1, oV]
            · rw [if_neg e1]
              by_cases e2 : x = i
              · rw [if_pos e2]
                simp [e2, oV]
              · rw [if_neg e2]
                simp [e1, e2, oV]]
          cases hc : (x != i && x != j) with
          | true =>
            refine iteT ⟨_, rfl, _, hD1, ?_, ?_, ?_⟩
            · rw [List.length_map]
              have h5 := List.length_filter_le (fun x => x != i && x != j) (k.ps.take t)
              rw [List.length_take] at h5
              have h6 : k.ps.length ≤ s.letters.length := by
                obtain ⟨lk, _, h⟩ := lok.vs.st
                omega
              have := hsm.l
              exact small1000 (by omega)
            · intro b o e
              rw [upd_ne (ne_of_none e hD)]
              exact s3 b o e
            · rw [upd_same, Lk.take_snoc hx, List.filter_append, List.filter_cons_of_pos (by exact hc), List.map_append]
              rfl
          | false =>
            refine iteF ⟨s3, ?_⟩
            rw [hD1, Lk.take_snoc hx, List.filter_append, List.filter_cons_of_neg (by rw [hc]; simp)]
            simp
        · rintro H3 ⟨s3, hD1⟩
          rw [List.length_map, List.take_length] at hD1
          refine ⟨_, rfl, ?_⟩
          intro z dz nx nd ne
          refine ⟨z, dz, _, _, _, rfl, upd_same, fun H4 ⟨d4, e4⟩ k4 => ⟨rfl, ?_⟩⟩
          have s4 : Same H3 H4 := Same.made nx nd k4
          have sB := (sA.trans s3).trans s4
          refine kk H4 (.ref z) sB ?_
          rw [eadd]
          refine ⟨z, rfl, fun E hE => ⟨d4, l, D, q', dc, na, wa, e4, s4 _ _ (s3 _ _ hl2), s4 _ _ hD1, ⟨s4 _ _ (s3 _ _ (s2 _ _ hX.1)), s4 _ _ (s3 _ _ (s2 _ _ hX.2.1)), s4 _ _ (s3 _ _ (s2 _ _ hX.2.2))⟩, ?_, ?_, ?_, ?_, ?_, ?_⟩⟩
          · exact fun e => hE (e ▸ none_of (sA.trans s3) nx)
          · exact fun e => hE (e ▸ n1)
          · exact fun e => hE (e ▸ none_of sA hD)
          · exact fun e => hE (e ▸ f1)
          · exact fun e => hE (e ▸ f2)
          · exact fun e => hE (e ▸ f3)
end
end Nt
end
section
set_option Elab.async false
set_option linter.all false
set_option maxRecDepth 100000
set_option maxHeartbeats 4000000
namespace Lk
theorem endsK_snoc (kd : Nat → Option (Bool × Nat × Nat)) (lt : Nat → Nat) (ps w : List Nat) (k : Nat) : endsK kd lt ps (w ++ [k]) = endsK kd lt ps w ++ [k, kda kd k, kdb kd k] := by
  unfold endsK
  rw [List.flatMap_append, ← List.append_assoc]
  rfl
theorem endsK_len (kd : Nat → Option (Bool × Nat × Nat)) (lt : Nat → Nat) (ps w : List Nat) : (endsK kd lt ps w).length = ps.length + 3 * w.length := by
  unfold endsK
  rw [List.length_append, List.length_map]
  congr 1
  induction w with
  | nil => rfl
  | cons x l ih =>
    rw [List.flatMap_cons, List.length_append, ih, List.length_cons, List.length_cons, List.length_cons, List.length_cons, List.length_nil]
    omega
end Lk
namespace Nt
open PySem PySem.Spec PyProof.Rows L2
open PySem.W (Codec)
/-- all linkings with a link more -/
def furs (s : Lk.RS) (r : Md26.Row) (k : LK) (i : Nat) : List LK := (k.ps.filter (Lk.tnR r i)).filterMap (addLk s k i)
def FurAt (CC CL : Addr) (H : Hp) (qs : List Addr) (ks : List LK) : Prop := qs.length = ks.length ∧ ∀ (t : Nat) (q : Addr) (k : LK), qs[t]? = some q → ks[t]? = some k → LkAt CC CL H q k
theorem Lok.few {s : Lk.RS} {k : LK} (h : Lok s k) : k.ps.length ≤ s.letters.length := by
  obtain ⟨lk, _, e⟩ := h.vs.st
  omega
section
variable {P : Program} {w : World} {K : PySem.W.Frag} {mg : Str → Option Value} {base : Heap} {CP CR CC CL : Addr}
/-! ### all_further_linkings(reading, linking) -/
def spFurther (CP CR CC CL : Addr) : Sp := fun vs H Q _ => ∃ (a q : Addr) (s : Lk.RS) (r : Md26.Row) (fl : List Md26.Form) (os : List Nat) (k : LK) (i : Nat) (rest : List Nat), vs = [.ref a, .ref q] ∧ RdAt CP CR H a s ∧ Lk.Good r s fl os ∧ Small s 900 ∧ LkAt CC CL H q k ∧ Lok s k ∧ k.ps = i :: rest ∧
  ∀ (H' : Hp) (l : Addr) (qs : List Addr), Same H H' → H' l = some (.lst (qs.map V.ref)) → FurAt CC CL H' qs (furs s r k i) → Q (.ref l) H'
theorem scFurther : FnScope ["reading", "linking", "place", "sign", "linkings", "other", "further"] ["reading", "linking"] (defScope sFurther) := ⟨rfl, rfl, rfl, by decide +kernel, rfl, by decide +kernel, by decide +kernel⟩
theorem ok_further {f fT fA : Addr} {fd fdT fdA : FuncData} (F : Fun K "all_further_linkings" "all_further_linkings" sFurther f fd) (T : Txt K mg CP CR) (TL : TxtL K mg CL)
    (FT : Fun K "is_turned_other" "is_turned_other" sTurned fT fdT) (bT : Binds K fdT ["one", "other"] []) (mT : mg "is_turned_other" = some (.ref fT))
    (GA : FnOk P w K mg base CX0 5 fA fdA ["reading", "linking", "place", "other"] (spAddLink CP CR CC CL)) (kA : PySem.W.keepIn K (.ref fA) = true) (bA : Binds K fdA ["reading", "linking", "place", "other"] []) (mA : mg "add_link" = some (.ref fA)) :
    FnOk P w K mg base CX0 6 f fd ["reading", "linking"] (spFurther CP CR CC CL) := by
  have GT : FnOk P w K mg base CX0 1 fT fdT ["one", "other"] spTurned := ok_turned FT T
  refine F.ok scFurther (fun vs H Q E h => ?_) (fun cdv A outer s H vs Q E hr h => ?_)
  · obtain ⟨a, q, s, r, fl, os, k, i, rest, rfl, _⟩ := h
    rfl
  · obtain ⟨a, q, s, r, fl, os, k, i, rest, rfl, RA, G, hsm, hq, lok, hps, kk⟩ := h
    have hr1 : Room 1 _ := hr.mono (by decide)
    refine ⟨_, pss_cons (ps_set (i := 2) scFurther.nd rfl (Or.inl rfl) (pe_ix ix_list (pe_fld (pv 1) rfl) pe_int (fun _ _ => rfl)))
      (pss_cons (ps_set (i := 3) scFurther.nd rfl (Or.inl rfl) (pe_fld (pe_ix ix_list (pe_fld (pv 0) rfl) (pe_ix ix_list (pe_fld (pv 0) rfl) (pv 2) (fun _ _ => rfl)) (fun _ _ => rfl)) rfl))
      (pss_cons (ps_set (i := 4) scFurther.nd rfl (Or.inl rfl) (pe_lst pa_nil))
      (pss_cons (ps_for PassesOwn.never rfl (pi_list (pe_fld (pv 1) rfl)) (pg_name (i := 5) scFurther.nd rfl (Or.inl rfl))
        (pss_one (ps_if (pt_val (pe_call GT hr1 rfl mT FT.kp bT .nil pass0 (pa_cons (pv 3) (pa_cons (pe_fld (pe_ix ix_list (pe_fld (pv 0) rfl) (pe_ix ix_list (pe_fld (pv 0) rfl) (pv 5) (fun _ _ => rfl)) (fun _ _ => rfl)) rfl) pa_nil))))
          (pss_cons (ps_set (i := 6) scFurther.nd rfl (Or.inl rfl) (pe_call GA hr rfl mA kA bA .nil pass0 (pa_cons (pv 0) (pa_cons (pv 1) (pa_cons (pv 2) (pa_cons (pv 5) pa_nil))))))
          (pss_one (ps_if (pt_cmpR op_notN (pv 6) pe_non (nomark _)) (pss_one (ps_expr (pe_bm PySem.F.plainAttrs_list PySem.F.slot_list_append PySem.F.type_list_append mt_append (pv 4) (pa_cons (pv 6) pa_nil)))) pss_nil))) pss_nil)))
      (pss_one (ps_ret (pv 4)))))), ?_⟩
    have S := G.shape
    have RA0 := RA
    obtain ⟨dx, pa, la, ta, ba, pas, bvs, R⟩ := RA0
    have hq0 := hq
    obtain ⟨dq, ql, qp, qc, h1, h2, h3, h4⟩ := hq0
    have hlt := lok.vs.lt_
    have him : i ∈ k.ps := by rw [hps]; exact List.mem_cons_self
    -- the sign at a place
    have sgn : ∀ x, x ∈ k.ps → ∃ q dq, pas[Lk.ltOf s.letters x]? = some q ∧ H q = some (.ins CP dq (pf (nV (r.letters.getD x 0)) .non .non)) := by
      intro x hx
      have hxm := hlt x hx
      have hx2 : x < r.letters.length := by rw [G.rd.lls]; exact hxm
      have e2 := (G.rd.sign x _ (get_of hx2)).2
      have hip : Lk.ltOf s.letters x < s.parts.length := (List.getElem?_eq_some_iff.mp e2).1
      obtain ⟨q, hq⟩ : ∃ q, pas[Lk.ltOf s.letters x]? = some q := ⟨_, List.getElem?_eq_getElem (by rw [R.plen]; exact hip)⟩
      obtain ⟨dq, hpq⟩ := R.part _ q _ hq e2
      exact ⟨q, dq, hq, hpq⟩
    obtain ⟨qi, di, hqi, hpi⟩ := sgn i him
    have e0 : (k.ps.map nV)[0]? = some (nV i) := by rw [hps]; rfl
    refine ⟨_, rfl, q, CL, dq, _, _, rfl, h1, TL.cl, TL.nP, lkf_places _ _ _, qp, _, _, _, rfl, rfl, SqL.of h3, at_of (j := 0) rfl e0, ?_⟩
    refine ⟨_, rfl, a, CR, dx, _, _, rfl, R.obj, T.clR, T.rP, rf_parts _ _ _ _ _, _, rfl, a, CR, dx, _, _, rfl, R.obj, T.clR, T.rL, rf_letters _ _ _ _ _, _, rfl, la, _, _, _, rfl, rfl, SqL.of R.hl, atI_nat (map_get (get_of (hlt i him))), pa, _, _, _, rfl, rfl, SqL.of R.hp, atI_nat (map_get hqi), qi, CP, di, _, _, rfl, hpi, T.clP, T.nS, pf_sign _ _ _, ?_⟩
    refine ⟨Nat.zero_le _, fun D hD => ?_⟩
    have s1 : Same H (upd H D (.lst [])) := same_new hD
    have hD1 : (upd H D (.lst [])) D = some (.lst []) := upd_same
    generalize upd H D (.lst []) = H1 at s1 hD1
    refine ⟨_, rfl, q, CL, dq, _, _, rfl, s1 _ _ h1, TL.cl, TL.nP, lkf_places _ _ _, qp, rfl, ⟨_, SqL.of (s1 _ _ h3)⟩, for_list (K := K) (a := qp) (xs := k.ps.map nV) (fun t σ H' => ∃ (v5 v6 : Option V) (qs : List Addr), σ = [some (.ref a), some (.ref q), some (nV i), some (nV (r.letters.getD i 0)), some (.ref D), v5, v6] ∧ Same H H' ∧ H' D = some (.lst (qs.map V.ref)) ∧
        qs.length = (((k.ps.take t).filter (Lk.tnR r i)).filterMap (addLk s k i)).length ∧ qs.length ≤ t ∧ ∀ (u : Nat) (q' : Addr) (k' : LK), qs[u]? = some q' → (((k.ps.take t).filter (Lk.tnR r i)).filterMap (addLk s k i))[u]? = some k' → LkN CC CL H' q' k' D)
      ⟨none, none, [], rfl, s1, hD1, rfl, Nat.le_refl _, fun u q' k' h => by simp at h⟩ (fun t σ H' _ ⟨_, _, _, _, s2, _⟩ => SqL.of (s2 _ _ h3)) ?_ ?_⟩
    · rintro t y σ H' hy ⟨v5, v6, qs, rfl, s2, hD2, hlen, hqt, hall⟩
      obtain ⟨x, hx, rfl⟩ := get_map hy
      have hxm : x ∈ k.ps := List.mem_of_getElem? hx
      have htl : t < k.ps.length := (List.getElem?_eq_some_iff.mp hx).1
      have hfew := lok.few
      have hll := hsm.l
      obtain ⟨qx, dx', hqx, hpx⟩ := sgn x hxm
      have R2 := R.same s2
      have nxt : ((k.ps.take (t + 1)).filter (Lk.tnR r i)).filterMap (addLk s k i) = ((k.ps.take t).filter (Lk.tnR r i)).filterMap (addLk s k i) ++ if Lk.tnR r i x = true then (addLk s k i x).toList else [] := by
        rw [Lk.take_snoc hx, List.filter_append, List.filterMap_append]
        congr 1
        by_cases h : Lk.tnR r i x = true
        · rw [if_pos h, List.filter_cons_of_pos h]
          cases e : addLk s k i x with
          | none => rw [List.filter_nil, List.filterMap_cons_none e]; rfl
          | some k' => rw [List.filter_nil, List.filterMap_cons_some e]; rfl
        · rw [if_neg h, List.filter_cons_of_neg h]
          rfl
      refine ⟨_, rfl, _, rfl, a, CR, dx, _, _, rfl, R2.obj, T.clR, T.rP, rf_parts _ _ _ _ _, _, rfl, a, CR, dx, _, _, rfl, R2.obj, T.clR, T.rL, rf_letters _ _ _ _ _, _, rfl, la, _, _, _, rfl, rfl, SqL.of R2.hl, atI_nat (map_get (get_of (hlt x hxm))), pa, _, _, _, rfl, rfl, SqL.of R2.hp, atI_nat (map_get hqx), qx, CP, dx', _, _, rfl, s2 _ _ hpx, T.clP, T.nS, pf_sign _ _ _, ?_⟩
      refine ⟨_, _, rfl, _, rfl, ?_⟩
      have etn : Md26.turned (r.letters.getD i 0) (r.letters.getD x 0) = Lk.tnR r i x := rfl
      rw [etn]
      cases hc : Lk.tnR r i x with
      | false =>
        rw [hc, if_neg (by intro z; cases z), List.append_nil] at nxt
        refine iteF ⟨_, _, qs, rfl, s2, hD2, by rw [nxt]; exact hlen, by omega, by rw [nxt]; exact hall⟩
      | true =>
        rw [hc, if_pos rfl] at nxt
        refine iteT ⟨_, rfl, _, rfl, _, rfl, _, rfl, a, q, i, x, s, r, fl, os, k, rfl, RA.same s2, G, hsm, hq.same s2, lok, him, hxm, fun H3 v3 s3 h3' => ?_⟩
        have hD3 := s3 _ _ hD2
        have sB := s2.trans s3
        have old : ∀ (u : Nat) (q' : Addr) (k' : LK), qs[u]? = some q' → (((k.ps.take t).filter (Lk.tnR r i)).filterMap (addLk s k i))[u]? = some k' → LkN CC CL H3 q' k' D := fun u q' k' a1 a2 => (hall u q' k' a1 a2).oth (Oth.of_same s3)
        cases e : addLk s k i x with
        | none =>
          rw [e] at h3' nxt
          have ev : v3 = .non := h3'
          subst ev
          rw [Option.toList_none, List.append_nil] at nxt
          refine ⟨_, rfl, rfl, _, rfl, iteF ⟨_, _, qs, rfl, sB, hD3, by rw [nxt]; exact hlen, by omega, by rw [nxt]; exact old⟩⟩
        | some k' =>
          rw [e] at h3' nxt
          obtain ⟨q', rfl, hN⟩ := h3'
          have hN := hN D (by rw [hD2]; intro z; cases z)
          rw [Option.toList_some] at nxt
          refine ⟨_, rfl, rfl, _, rfl, iteT ⟨_, rfl, .inl ⟨rfl, _, SqL.of hD3⟩, _, rfl, D, _, _, rfl, rfl, hD3, (by rw [List.length_map]; exact small1000 (by omega)), ?_⟩⟩
          refine ⟨_, _, qs ++ [q'], rfl, fun b o eb => ?_, by rw [upd_same, List.map_append]; rfl, by rw [nxt]; simp [hlen], by simp; omega, ?_⟩
          · rw [upd_ne (ne_of_none eb hD)]
            exact sB b o eb
          · rw [nxt]
            intro u q2 k2 a1 a2
            rcases get_snoc a1 with ⟨b1, a1⟩ | ⟨b1, rfl⟩
            · rcases get_snoc a2 with ⟨b2, a2⟩ | ⟨b2, rfl⟩
              · exact (old u q2 k2 a1 a2).oth Oth.upd
              · omega
            · rcases get_snoc a2 with ⟨b2, a2⟩ | ⟨b2, rfl⟩
              · omega
              · exact hN.oth Oth.upd
    · rintro σ H' ⟨v5, v6, qs, rfl, s2, hD2, hlen, hqt, hall⟩
      rw [List.length_map, List.take_length] at hlen hall
      exact ⟨_, rfl, kk H' D qs s2 hD2 ⟨hlen, fun u q' k' a1 a2 => (hall u q' k' a1 a2).at_⟩⟩
/-! ### key_of_linking(reading, linking) -/
def spKey (CP CR CC CL : Addr) : Sp := fun vs H Q _ => ∃ (a q : Addr) (s : Lk.RS) (r : Md26.Row) (fl : List Md26.Form) (os : List Nat) (k : LK), vs = [.ref a, .ref q] ∧ RdAt CP CR H a s ∧ Lk.Good r s fl os ∧ Small s 900 ∧ LkAt CC CL H q k ∧ Lok s k ∧
  ∀ (H' : Hp) (t : Addr), Same H H' → H' t = some (.tup ((Lk.keyL (Lk.kdOf s.parts) (Lk.ltOf s.letters) k.p.1 k.ps k.p.2).map nV)) → Q (.ref t) H'
theorem scKey : FnScope ["reading", "linking", "ends", "index", "first_ends", "key", "end", "place"] ["reading", "linking"] (defScope sKey) := ⟨rfl, rfl, rfl, by decide +kernel, rfl, by decide +kernel, by decide +kernel⟩
theorem ok_key {f : Addr} {fd : FuncData} (F : Fun K "key_of_linking" "key_of_linking" sKey f fd) (T : Txt K mg CP CR) (TP : TxtP K mg CC) (TL : TxtL K mg CL) : FnOk P w K mg base CX0 1 f fd ["reading", "linking"] (spKey CP CR CC CL) := by
  refine F.ok scKey (fun vs H Q E h => ?_) (fun cdv A outer s H vs Q E hr h => ?_)
  · obtain ⟨a, q, s, r, fl, os, k, rfl, _⟩ := h
    rfl
  · obtain ⟨a, q, s, r, fl, os, k, rfl, RA, G, hsm, hq, lok, kk⟩ := h
    have hu := hu_of hr
    refine ⟨_, pss_cons (ps_setLc (i := 2) (own := [("place", 7)]) (te := tOp (rIxL K) (tFld K (tVar 0) "letters") (tVar 7)) rfl scKey.nd rfl rfl (sw_true rfl rfl rfl (by decide +kernel)) (pi_list (pe_fld (pv 1) rfl)) (blkOk_by (N := ["reading", "linking", "ends", "index", "first_ends", "key", "end", "place"]) (sc := defScope sKey) (by decide +kernel))
        (fun _ _ _ _ _ => pg_name (i := 7) scKey.nd rfl (Or.inl rfl)) (fun _ _ _ _ _ => pts_nil) (fun _ _ _ _ _ => pe_ix ix_list (pe_fld (pv 0) rfl) (pv 7) (fun _ _ => rfl)))
      (pss_cons (ps_for PassesOwn.never rfl (pi_list (pe_fld (pe_fld (pv 1) rfl) rfl)) (pg_name (i := 3) scKey.nd rfl (Or.inl rfl))
        (pss_one (ps_expr (pe_bm PySem.F.plainAttrs_list PySem.F.slot_list_extend PySem.F.type_list_extend mt_extend (pv 2) (pa_cons (pe_lst (pa_cons (pv 3) (pa_cons (pe_fld (pe_ix ix_list (pe_fld (pv 0) rfl) (pv 3) (fun _ _ => rfl)) rfl) (pa_cons (pe_fld (pe_ix ix_list (pe_fld (pv 0) rfl) (pv 3) (fun _ _ => rfl)) rfl) pa_nil)))) pa_nil)))))
      (pss_cons (ps_set (i := 4) scKey.nd rfl (Or.inl rfl) pe_dnewK)
      (pss_cons (ps_set (i := 5) scKey.nd rfl (Or.inl rfl) (pe_callTy call_list_of (by rfl) T.list PyProof.Rows.boot_list (pa_cons (pv 2) pa_nil)))
      (pss_cons (ps_for PassesOwn.never rfl (pi_list (pv 2)) (pg_name (i := 6) scKey.nd rfl (Or.inl rfl))
        (pss_one (ps_expr (pe_bm PySem.F.plainAttrs_list PySem.F.slot_list_append PySem.F.type_list_append mt_append (pv 5) (pa_cons (pe_dsd (pv 4) (pe_ix ix_list (pe_fld (pe_fld (pv 1) rfl) rfl) (pv 6) (fun _ _ => rfl)) (pv 6) ⟨rfl, rfl, rfl, rfl⟩) pa_nil)))))
      (pss_one (ps_ret (pe_callTy call_tuple_of (by rfl) T.tuple PyProof.Rows.boot_tuple (pa_cons (pv 5) pa_nil)))))))), ?_⟩
    have S := G.shape
    have RA0 := RA
    obtain ⟨dx, pa, la, ta, ba, pas, bvs, R⟩ := RA0
    obtain ⟨dq, ql, qp, qc, h1, h2, h3, dc, na, wa, c1, c2, c3⟩ := hq
    have hlt := lok.vs.lt_
    have hfew := lok.few
    have hll := hsm.l
    have hwf : k.p.2.length ≤ 900 := lok.pok.few
    have hnl : k.p.1.length = s.parts.length := lok.pok.len
    generalize hkd : Lk.kdOf s.parts = kd at kk
    generalize hlf : Lk.ltOf s.letters = lt at kk
    refine ⟨_, rfl, q, CL, dq, _, _, rfl, h1, TL.cl, TL.nP, lkf_places _ _ _, qp, rfl, ⟨_, SqL.of h3⟩, fun D hD => lc_list (K := K) (a := qp) (xs := k.ps.map nV) (fun t H' => Same H H' ∧ H' D = some (.lst (((k.ps.take t).map lt).map nV))) ⟨same_new hD, upd_same⟩ (fun t H' _ ⟨s2, _⟩ => SqL.of (s2 _ _ h3)) ?_ ?_⟩
    · rintro t y H' hy ⟨s1, hD1⟩
      obtain ⟨x, hx, rfl⟩ := get_map hy
      have hxm : x ∈ k.ps := List.mem_of_getElem? hx
      have htl : t < k.ps.length := (List.getElem?_eq_some_iff.mp hx).1
      refine ⟨rfl, ?_⟩
      unfold tYes
      refine iteT ?_
      refine ⟨_, rfl, a, CR, dx, _, _, rfl, s1 _ _ R.obj, T.clR, T.rL, rf_letters _ _ _ _ _, _, rfl, la, _, _, _, rfl, rfl, SqL.of (s1 _ _ R.hl), atI_nat (map_get (get_of (hlt x hxm))), _, hD1, ?_, ?_, ?_⟩
      · rw [List.length_map, List.length_map, List.length_take]
        exact small1000 (by omega)
      · intro b o e
        rw [upd_ne (ne_of_none e hD)]
        exact s1 b o e
      · rw [upd_same, Lk.take_snoc hx, List.map_append, List.map_append, ← hlf]
        rfl
    · rintro H1 ⟨s1, hD1⟩
      rw [List.length_map, List.take_length] at hD1
      -- the ends of those that wait
      refine ⟨_, rfl, q, CL, dq, _, _, rfl, s1 _ _ h1, TL.cl, TL.nC, lkf_pieces _ _ _, qc, CC, dc, _, _, rfl, s1 _ _ c1, TP.cl, TP.nW, pcf_waiting _ _, wa, rfl, ⟨_, SqL.of (s1 _ _ c3)⟩, for_list (K := K) (a := wa) (xs := k.p.2.map nV) (fun t σ H' => ∃ v3 : Option V, σ = [some (.ref a), some (.ref q), some (.ref D), v3, none, none, none, none] ∧ Same H H' ∧ H' D = some (.lst ((Lk.endsK kd lt k.ps (k.p.2.take t)).map nV)))
        ⟨none, rfl, s1, ?_⟩ (fun t σ H' _ ⟨_, _, s2, _⟩ => SqL.of (s2 _ _ c3)) ?_ ?_⟩
      · rw [hD1]
        unfold Lk.endsK
        simp
      · rintro t y σ H' hy ⟨v3, rfl, s2, hD2⟩
        obtain ⟨k0, hk0, rfl⟩ := get_map hy
        have htl : t < k.p.2.length := (List.getElem?_eq_some_iff.mp hk0).1
        obtain ⟨x0, y0, hp0, hx0, hy0⟩ := lok.pok.wok k0 (List.mem_of_getElem? hk0)
        obtain ⟨ka, kb⟩ := Wok.kd hp0
        rw [hkd] at ka kb
        have hkl : k0 < s.parts.length := (List.getElem?_eq_some_iff.mp hp0).1
        obtain ⟨q0, hq0⟩ : ∃ q, pas[k0]? = some q := ⟨_, List.getElem?_eq_getElem (by rw [R.plen]; exact hkl)⟩
        obtain ⟨dq0, hpq⟩ := R.part k0 q0 _ hq0 hp0
        have R2 := R.same s2
        have hp2 := s2 _ _ hpq
        refine ⟨_, rfl, .inl ⟨rfl, _, SqL.of hD2⟩, _, rfl, _, rfl, a, CR, dx, _, _, rfl, R2.obj, T.clR, T.rP, rf_parts _ _ _ _ _, _, rfl, pa, _, _, _, rfl, rfl, SqL.of R2.hp, atI_nat (map_get hq0), q0, CP, dq0, _, _, rfl, hp2, T.clP, T.nL, pf_left _ _ _, _, rfl, a, CR, dx, _, _, rfl, R2.obj, T.clR, T.rP, rf_parts _ _ _ _ _, _, rfl, pa, _, _, _, rfl, rfl, SqL.of R2.hp, atI_nat (map_get hq0), q0, CP, dq0, _, _, rfl, hp2, T.clP, T.nR, pf_right _ _ _, (by show 3 ≤ sizeLine; decide), fun b hb => ?_⟩
        have hDb : D ≠ b := ne_of_none hD2 hb
        refine ⟨D, b, _, _, rfl, rfl, (by rw [upd_ne hDb]; exact hD2), upd_same, ?_, ?_⟩
        · rw [List.length_map]
          have : (Lk.endsK kd lt k.ps (k.p.2.take t)).length ≤ 10000 := by
            rw [Lk.endsK_len, List.length_take]
            omega
          exact Nat.le_of_lt (lt_small (by show _ + 3 ≤ 100000; omega))
        · refine ⟨_, rfl, fun c o e => ?_, ?_⟩
          · rw [upd_ne (ne_of_none e hD), upd_ne (ne_of_none (s2 _ _ e) hb)]
            exact s2 c o e
          · rw [upd_same]
            rw [Lk.take_snoc hk0, Lk.endsK_snoc, List.map_append, ka, kb]
            rfl
      · rintro σ H' ⟨v3, rfl, s2, hD2⟩
        rw [List.length_map, List.take_length] at hD2
        generalize hE : Lk.endsK kd lt k.ps k.p.2 = E at hD2
        have hEl : E.length ≤ 10000 := by
          rw [← hE]
          rw [Lk.endsK_len]
          omega
        have hEn : ∀ e, e ∈ E → e < s.parts.length := by
          intro e he
          rw [← hE] at he
          rcases List.mem_append.mp he with he | he
          · obtain ⟨p, hp, rfl⟩ := List.mem_map.mp he
            rw [← hlf]
            exact (S.letter (hlt p hp)).1
          · obtain ⟨k0, hk0, he⟩ := List.mem_flatMap.mp he
            obtain ⟨x0, y0, hp0, hx0, hy0⟩ := lok.pok.wok k0 hk0
            obtain ⟨ka, kb⟩ := Wok.kd hp0
            rw [hkd] at ka kb
            have hkl : k0 < s.parts.length := (List.getElem?_eq_some_iff.mp hp0).1
            rw [ka, kb] at he
            simp only [List.mem_cons, List.not_mem_nil, or_false] at he
            rcases he with rfl | rfl | rfl <;> assumption
        refine fun fd hfd => ?_
        have nDf : D ≠ fd := ne_of_none hD2 hfd
        refine ⟨_, rfl, D, _, rfl, .inl (SqL.of (by rw [upd_ne nDf]; exact hD2)), fun kl hkl => ?_⟩
        have nfk : fd ≠ kl := fun z => by
          rw [← z, upd_same] at hkl
          cases hkl
        have nDk : D ≠ kl := fun z => by
          rw [← z, upd_ne nDf, hD2] at hkl
          cases hkl
        have hkl0 : H' kl = Option.none := by rw [upd_ne nfk.symm] at hkl; exact hkl
        have s3 : Same H (upd (upd H' fd (.dK [])) kl (.lst (E.map nV))) := fun c o e => by
          have e2 := s2 _ _ e
          rw [upd_ne (ne_of_none e2 hkl0), upd_ne (ne_of_none e2 hfd)]
          exact e2
        have n0 : H fd = Option.none := none_of s2 hfd
        have n1 : H kl = Option.none := none_of s2 hkl0
        have hD3 : (upd (upd H' fd (.dK [])) kl (.lst (E.map nV))) D = some (.lst (E.map nV)) := by rw [upd_ne nDk, upd_ne nDf]; exact hD2
        refine ⟨_, rfl, D, rfl, ⟨_, SqL.of hD3⟩, for_list (K := K) (a := D) (xs := E.map nV) (fun t σ H'' => ∃ (v3 v6 : Option V) (kvs : List (Key × V)), σ = [some (.ref a), some (.ref q), some (.ref D), v3, some (.ref fd), some (.ref kl), v6, none] ∧ Same H H'' ∧ H'' D = some (.lst (E.map nV)) ∧ H'' fd = some (.dK kvs) ∧ kvs.length ≤ t ∧
            (∀ c : Nat, valV kvs (Sum.inl (c : Int)) = ((E.take t).find? fun x => Lk.nu k.p.1 x == c).map nV) ∧ H'' kl = some (.lst ((E ++ (E.take t).map (Lk.firstE k.p.1 E)).map nV)))
          ⟨v3, none, [], rfl, s3, hD3, by rw [upd_ne nfk, upd_same], Nat.le_refl _, fun c => rfl, by rw [upd_same]; simp⟩ (fun t σ H'' _ ⟨_, _, _, _, _, h, _⟩ => SqL.of h) ?_ ?_⟩
        · rintro t y σ H'' hy ⟨v3', v6, kvs, rfl, s4, hD4, hf4, hkv, hval, hk4⟩
          obtain ⟨e, he, rfl⟩ := get_map hy
          have htl : t < E.length := (List.getElem?_eq_some_iff.mp he).1
          have hen : e < k.p.1.length := by rw [hnl]; exact hEn e (List.mem_of_getElem? he)
          have hfirst : Lk.firstE k.p.1 E e = (((E.take t).find? fun x => Lk.nu k.p.1 x == Lk.nu k.p.1 e).getD e) := by
            unfold Lk.firstE
            have e1 : E = E.take t ++ e :: E.drop (t + 1) := by
              conv => lhs; rw [← List.take_append_drop t E, List.drop_eq_getElem_cons htl]
              congr 2
              rw [List.getElem?_eq_getElem htl] at he
              exact Option.some.inj he
            conv => lhs; rw [e1]
            rw [List.find?_append]
            cases (E.take t).find? fun x => Lk.nu k.p.1 x == Lk.nu k.p.1 e with
            | some v => rfl
            | none =>
              rw [Option.none_or, List.find?_cons_of_pos (by simp)]
              rfl
          have elen : (E ++ (E.take t).map (Lk.firstE k.p.1 E)).length < sizeLine := lt_small (by
            rw [List.length_append, List.length_map, List.length_take]
            omega)
          have snoc : (E ++ (E.take (t + 1)).map (Lk.firstE k.p.1 E)).map nV = (E ++ (E.take t).map (Lk.firstE k.p.1 E)).map nV ++ [nV (Lk.firstE k.p.1 E e)] := by
            rw [Lk.take_snoc he]
            simp
          have hv := hval (Lk.nu k.p.1 e)
          refine ⟨_, rfl, .inl ⟨rfl, _, SqL.of hk4⟩, _, rfl, fd, rfl, .inl ⟨kvs, .inl hf4⟩, _, rfl, q, CL, dq, _, _, rfl, s4 _ _ h1, TL.cl, TL.nC, lkf_pieces _ _ _, qc, CC, dc, _, _, rfl, s4 _ _ c1, TP.cl, TP.nN, pcf_numbers _ _, _, rfl, na, _, _, _, rfl, rfl, SqL.of (s4 _ _ c2), atI_nat (nu_map hen), _, rfl, kvs, Sum.inl (Lk.nu k.p.1 e : Int), hf4, rfl, lt_small (by omega), fun v hv' => ?_, fun hv' => ?_⟩
          · rw [hv] at hv'
            cases hfd2 : (E.take t).find? fun x => Lk.nu k.p.1 x == Lk.nu k.p.1 e with
            | none =>
              rw [hfd2] at hv'
              cases hv'
            | some f0 =>
              rw [hfd2] at hv' hfirst
              have ev : v = nV f0 := (Option.some.inj hv').symm
              subst ev
              refine ⟨kl, _, _, rfl, rfl, hk4, by rw [List.length_map]; exact elen, ?_⟩
              refine ⟨v3', _, kvs, rfl, fun b o eb => by rw [upd_ne (ne_of_none eb n1)]; exact s4 b o eb, by rw [upd_ne nDk]; exact hD4, by rw [upd_ne nfk]; exact hf4, by omega, fun c => ?_, ?_⟩
              · rw [hval c, Lk.take_snoc he, List.find?_append]
                cases hc : (E.take t).find? fun x => Lk.nu k.p.1 x == c with
                | some z => rfl
                | none =>
                  rw [Option.none_or]
                  by_cases ec : Lk.nu k.p.1 e = c
                  · subst ec
                    rw [hfd2] at hc
                    cases hc
                  · rw [List.find?_cons_of_neg (by simp [ec])]
                    rfl
              · rw [upd_same, snoc, hfirst]
                rfl
          · rw [hv] at hv'
            have hfd2 : ((E.take t).find? fun x => Lk.nu k.p.1 x == Lk.nu k.p.1 e) = none := by
              cases h : (E.take t).find? fun x => Lk.nu k.p.1 x == Lk.nu k.p.1 e with
              | none => rfl
              | some f0 =>
                rw [h] at hv'
                cases hv'
            rw [hfd2] at hfirst
            refine ⟨kl, _, _, rfl, rfl, (by rw [upd_ne nfk.symm]; exact hk4), by rw [List.length_map]; exact elen, ?_⟩
            refine ⟨v3', _, putK kvs (Sum.inl (Lk.nu k.p.1 e : Int)) (nV e), rfl, fun b o eb => by rw [upd_ne (ne_of_none eb n1), upd_ne (ne_of_none eb n0)]; exact s4 b o eb, by rw [upd_ne nDk, upd_ne nDf]; exact hD4, by rw [upd_ne nfk, upd_same], ?_, fun c => ?_, ?_⟩
            · have := length_putK kvs (Sum.inl (Lk.nu k.p.1 e : Int)) (nV e)
              omega
            · rw [valV_put, hval c, Lk.take_snoc he, List.find?_append]
              by_cases ec : Lk.nu k.p.1 e = c
              · subst ec
                rw [if_pos rfl, hfd2, Option.none_or, List.find?_cons_of_pos (by simp)]
                rfl
              · rw [if_neg (fun z => ec (by
                  have := Sum.inl.inj z
                  omega))]
                cases (E.take t).find? fun x => Lk.nu k.p.1 x == c with
                | some z => rfl
                | none =>
                  rw [Option.none_or, List.find?_cons_of_neg (by simp [ec])]
                  rfl
            · rw [upd_same, snoc, hfirst]
              rfl
        · rintro σ H'' ⟨v3', v6, kvs, rfl, s4, hD4, hf4, hkv, hval, hk4⟩
          rw [List.length_map, List.take_length] at hk4
          refine ⟨_, rfl, kl, _, rfl, .inl ⟨SqL.of hk4, fun tt htt => ?_⟩⟩
          refine kk _ tt (s4.trans (same_new htt)) ?_
          rw [upd_same]
          unfold Lk.keyL
          rw [hE]
end
end Nt
end
section
set_option Elab.async false
set_option linter.all false
set_option maxRecDepth 100000
set_option maxHeartbeats 4000000
namespace Nt
open PySem PySem.Spec PyProof.Rows L2
open PySem.W (Codec)
/-! ### a dict is written, the rest stays -/
theorem RdX.othD {CP CR : Addr} {H H' : Hp} {a d : Addr} {s : Lk.RS} {dx pa la ta ba : Addr} {pas : List Addr} {bvs : List V} {kvs : List (List Key × V)} (h : RdX CP CR H a s dx pa la ta ba pas bvs) (hd : H d = some (.dT kvs)) (o : Oth d H H') : RdX CP CR H' a s dx pa la ta ba pas bvs where
  obj := o _ _ h.obj (ne_of h.obj hd (by intro z; cases z))
  hp := o _ _ h.hp (ne_of h.hp hd (by intro z; cases z))
  hl := o _ _ h.hl (ne_of h.hl hd (by intro z; cases z))
  ht := o _ _ h.ht (ne_of h.ht hd (by intro z; cases z))
  hb := o _ _ h.hb (ne_of h.hb hd (by intro z; cases z))
  pl := h.pl
  pt := h.pt
  pb := h.pb
  lt := h.lt
  lb := h.lb
  tb := h.tb
  plen := h.plen
  part := fun i q p a b => by
    obtain ⟨dx, e⟩ := h.part i q p a b
    exact ⟨dx, o _ _ e (ne_of e hd (by intro z; cases z))⟩
  blen := h.blen
  brk := fun i v x a b => by
    have e := h.brk i v x a b
    cases x with
    | none => exact e
    | some x =>
      obtain ⟨c, y, z⟩ := x
      obtain ⟨t, e1, e2⟩ := e
      exact ⟨t, e1, o _ _ e2 (ne_of e2 hd (by intro z; cases z))⟩
theorem RdAt.othD {CP CR : Addr} {H H' : Hp} {a d : Addr} {s : Lk.RS} {kvs : List (List Key × V)} (h : RdAt CP CR H a s) (hd : H d = some (.dT kvs)) (o : Oth d H H') : RdAt CP CR H' a s := by
  obtain ⟨dx, pa, la, ta, ba, pas, bvs, h⟩ := h
  exact ⟨dx, pa, la, ta, ba, pas, bvs, h.othD hd o⟩
theorem LkAt.othD {CC CL : Addr} {H H' : Hp} {q d : Addr} {k : LK} {kvs : List (List Key × V)} (h : LkAt CC CL H q k) (hd : H d = some (.dT kvs)) (o : Oth d H H') : LkAt CC CL H' q k := by
  obtain ⟨dx, la, pa, qa, h1, h2, h3, dc, na, wa, c1, c2, c3⟩ := h
  exact ⟨dx, la, pa, qa, o _ _ h1 (ne_of h1 hd (by intro z; cases z)), o _ _ h2 (ne_of h2 hd (by intro z; cases z)), o _ _ h3 (ne_of h3 hd (by intro z; cases z)), dc, na, wa, o _ _ c1 (ne_of c1 hd (by intro z; cases z)), o _ _ c2 (ne_of c2 hd (by intro z; cases z)), o _ _ c3 (ne_of c3 hd (by intro z; cases z))⟩
/-! ### what a linking comes to -/
def cntK (s : Lk.RS) (r : Md26.Row) (k : LK) : Nat := Lk.cnt (Lk.kdOf s.parts) (Lk.ltOf s.letters) (Lk.tnR r) (some k.p) k.ps
def setL (lo : List (Option Nat)) (M : List (Nat × Nat)) : List (Option Nat) := M.foldl (fun l p => (l.set p.1 (some p.2)).set p.2 (some p.1)) lo
def fndL (s : Lk.RS) (r : Md26.Row) (k : LK) : Option (List (Option Nat)) := (Lk.fnd (Lk.kdOf s.parts) (Lk.ltOf s.letters) (Lk.tnR r) (some k.p) k.ps).map (setL k.lo)
theorem cntK_nil {s : Lk.RS} {r : Md26.Row} {k : LK} (h : k.ps = []) : cntK s r k = if Lk.isP (some k.p) = true then 1 else 0 := by
  unfold cntK
  rw [h, Lk.cnt_nil]
theorem fndL_nil {s : Lk.RS} {r : Md26.Row} {k : LK} (h : k.ps = []) : fndL s r k = if Lk.isP (some k.p) = true then some k.lo else none := by
  unfold fndL
  rw [h, Lk.fnd_nil]
  split <;> rfl
section
variable {r : Md26.Row} {s : Lk.RS} {fl : List Md26.Form} {os : List Nat}
theorem tn_ne {i j : Nat} (h : Lk.tnR r i j = true) : i ≠ j := by
  rintro rfl
  unfold Lk.tnR Md26.turned at h
  simp at h
/-- one link more: it comes to nothing, or to that linking -/
theorem add_cases (G : Lk.Good r s fl os) {k : LK} (lok : Lok s k) {i : Nat} {rest : List Nat} (hps : k.ps = i :: rest) {q : Nat} (hq : q ∈ rest) :
    (addLk s k i q = none ∧ ∀ M, M ∈ Lk.gen (Lk.tnR r) (Lk.less rest q) → Lk.isP (Lk.linkAll (Lk.kdOf s.parts) (Lk.ltOf s.letters) (Lk.stepO (Lk.kdOf s.parts) (Lk.ltOf s.letters) (some k.p) i q) M) = false) ∨
    ∃ k', addLk s k i q = some k' ∧ Lk.stepO (Lk.kdOf s.parts) (Lk.ltOf s.letters) (some k.p) i q = some k'.p ∧ k'.ps = Lk.less rest q ∧ k'.lo = (k.lo.set i (some q)).set q (some i) := by
  have S := G.shape
  have est : Lk.stepO (Lk.kdOf s.parts) (Lk.ltOf s.letters) (some k.p) i q = Lk.addLine (Lk.kdOf s.parts) k.p (Lk.ltOf s.letters i) (Lk.ltOf s.letters q) := rfl
  have hlt := lok.vs.lt_
  rw [est]
  unfold addLk
  cases e : Lk.addLine (Lk.kdOf s.parts) k.p (Lk.ltOf s.letters i) (Lk.ltOf s.letters q) with
  | none => exact Or.inl ⟨rfl, fun M _ => Lk.dead_none M⟩
  | some p =>
    dsimp only
    have pk := lok.pok.add e
    cases hr : Lk.hasRing (Lk.kdOf s.parts) p.1 p.2 with
    | true =>
      refine Or.inl ⟨rfl, fun M hM => ?_⟩
      unfold Lk.hasRing at hr
      rw [List.any_eq_true] at hr
      obtain ⟨k0, hk0, hor⟩ := hr
      rw [Bool.or_eq_true, decide_eq_true_eq, decide_eq_true_eq] at hor
      have wk : ∀ x, x ∈ p.2 → x < s.parts.length ∧ Lk.kda (Lk.kdOf s.parts) x < s.parts.length ∧ Lk.kdb (Lk.kdOf s.parts) x < s.parts.length := by
        intro x hx
        obtain ⟨x0, y0, hp0, hx0, hy0⟩ := pk.wok x hx
        obtain ⟨ka, kb⟩ := Wok.kd hp0
        rw [ka, kb]
        exact ⟨(List.getElem?_eq_some_iff.mp hp0).1, hx0, hy0⟩
      have Nm : Lk.Nm s.parts.length p.1 := by
        unfold Lk.addLine at e
        split at e
        · cases e
        · rename_i hne
          cases e
          obtain ⟨lk, ps, _⟩ := lok.vs.st
          have hi : i ∈ k.ps := by rw [hps]; exact List.mem_cons_self
          have hqm : q ∈ k.ps := by rw [hps]; exact List.mem_cons_of_mem _ hq
          exact ((ps.joinStep S (S.letter (hlt i hi)).1 (S.letter (hlt q hqm)).1 hne).settled S).N
      refine Lk.ring_dead (k := k0) (wk k0 hk0) M p.1 p.2 Nm (fun x hx => (wk x hx).2.1) (fun y hy => ?_) hk0 hor
      have := (Lk.gen_mem _ _ (Nat.le_refl _) M hM y hy).1
      have h2 := (Lk.mem_less.mp this).1
      exact (S.letter (hlt y.1 (by rw [hps]; exact List.mem_cons_of_mem _ h2))).1
    | false =>
      refine Or.inr ⟨_, rfl, rfl, ?_, rfl⟩
      show (k.ps.filter fun x => x != i && x != q) = Lk.less rest q
      have srt := lok.srt
      rw [hps] at srt ⊢
      have sc := List.pairwise_cons.mp srt
      rw [List.filter_cons_of_neg (by simp)]
      unfold Lk.less
      refine List.filter_congr fun x hx => ?_
      have := sc.1 x hx
      have : x ≠ i := by omega
      simp [this]
theorem fur_filter {k : LK} {i : Nat} {rest : List Nat} (hps : k.ps = i :: rest) : furs s r k i = (rest.filter (Lk.tnR r i)).filterMap (addLk s k i) := by
  unfold furs
  rw [hps, List.filter_cons_of_neg (fun h => tn_ne h rfl)]
theorem fur_cnt (G : Lk.Good r s fl os) {k : LK} (lok : Lok s k) {i : Nat} {rest : List Nat} (hps : k.ps = i :: rest) : cntK s r k = ((furs s r k i).map (cntK s r)).sum := by
  rw [fur_filter hps]
  unfold cntK
  rw [hps, Lk.cnt_cons]
  have : ∀ X : List Nat, (∀ q, q ∈ X → q ∈ rest) → (X.map fun q => Lk.cnt (Lk.kdOf s.parts) (Lk.ltOf s.letters) (Lk.tnR r) (Lk.stepO (Lk.kdOf s.parts) (Lk.ltOf s.letters) (some k.p) i q) (Lk.less rest q)).sum = ((X.filterMap (addLk s k i)).map fun k => Lk.cnt (Lk.kdOf s.parts) (Lk.ltOf s.letters) (Lk.tnR r) (some k.p) k.ps).sum := by
    intro X
    induction X with
    | nil => intro _; rfl
    | cons q X ih =>
      intro hX
      have ih := ih fun y hy => hX y (List.mem_cons_of_mem _ hy)
      rw [List.map_cons, List.sum_cons, ih]
      rcases add_cases G lok hps (hX q List.mem_cons_self) with ⟨e, hd⟩ | ⟨k', e, e1, e2, _⟩
      · have z : Lk.cnt (Lk.kdOf s.parts) (Lk.ltOf s.letters) (Lk.tnR r) (Lk.stepO (Lk.kdOf s.parts) (Lk.ltOf s.letters) (some k.p) i q) (Lk.less rest q) = 0 := by
          unfold Lk.cnt
          rw [List.countP_eq_zero]
          intro M hM
          rw [hd M hM]
          simp
        rw [z, List.filterMap_cons_none e]
        omega
      · rw [List.filterMap_cons_some e, List.map_cons, List.sum_cons, e1, e2]
  exact this _ fun q hq => (List.mem_filter.mp hq).1
theorem fur_fnd (G : Lk.Good r s fl os) {k : LK} (lok : Lok s k) {i : Nat} {rest : List Nat} (hps : k.ps = i :: rest) : fndL s r k = (furs s r k i).findSome? (fndL s r) := by
  rw [fur_filter hps]
  unfold fndL
  rw [hps, Lk.fnd_cons]
  have : ∀ X : List Nat, (∀ q, q ∈ X → q ∈ rest) → ((X.findSome? fun q => (Lk.fnd (Lk.kdOf s.parts) (Lk.ltOf s.letters) (Lk.tnR r) (Lk.stepO (Lk.kdOf s.parts) (Lk.ltOf s.letters) (some k.p) i q) (Lk.less rest q)).map fun M => (i, q) :: M).map (setL k.lo)) = (X.filterMap (addLk s k i)).findSome? fun k => (Lk.fnd (Lk.kdOf s.parts) (Lk.ltOf s.letters) (Lk.tnR r) (some k.p) k.ps).map (setL k.lo) := by
    intro X
    induction X with
    | nil => intro _; rfl
    | cons q X ih =>
      intro hX
      have ih := ih fun y hy => hX y (List.mem_cons_of_mem _ hy)
      rw [List.findSome?_cons]
      rcases add_cases G lok hps (hX q List.mem_cons_self) with ⟨e, hd⟩ | ⟨k', e, e1, e2, e3⟩
      · have z : Lk.fnd (Lk.kdOf s.parts) (Lk.ltOf s.letters) (Lk.tnR r) (Lk.stepO (Lk.kdOf s.parts) (Lk.ltOf s.letters) (some k.p) i q) (Lk.less rest q) = none := by
          unfold Lk.fnd
          rw [List.find?_eq_none]
          intro M hM
          rw [hd M hM]
          simp
        rw [z, List.filterMap_cons_none e]
        exact ih
      · rw [List.filterMap_cons_some e, List.findSome?_cons, e1, e2]
        cases Lk.fnd (Lk.kdOf s.parts) (Lk.ltOf s.letters) (Lk.tnR r) (some k'.p) (Lk.less rest q) with
        | none => exact ih
        | some M =>
          show some (setL k.lo ((i, q) :: M)) = some (setL k'.lo M)
          rw [e3]
          rfl
  exact this _ fun q hq => (List.mem_filter.mp hq).1
theorem fur_lok (G : Lk.Good r s fl os) {k : LK} (lok : Lok s k) {i : Nat} {rest : List Nat} (hps : k.ps = i :: rest) {k' : LK} (h : k' ∈ furs s r k i) : Lok s k' ∧ k'.ps.length + 2 = k.ps.length := by
  rw [fur_filter hps] at h
  obtain ⟨q, hq, e⟩ := List.mem_filterMap.mp h
  have hm := List.mem_filter.mp hq
  exact lok.add G (by rw [hps]; exact List.mem_cons_self) (by rw [hps]; exact List.mem_cons_of_mem _ hm.1) (tn_ne hm.2) e
theorem fur_few {k : LK} {i : Nat} {rest : List Nat} (hps : k.ps = i :: rest) : (furs s r k i).length ≤ rest.length := by
  rw [fur_filter hps]
  exact Nat.le_trans (List.length_filterMap_le _ _) (List.length_filter_le _ _)
/-! ### what is kept of linkings -/
def keyK (s : Lk.RS) (k : LK) : List Key := (Lk.keyL (Lk.kdOf s.parts) (Lk.ltOf s.letters) k.p.1 k.ps k.p.2).map fun n : Nat => (Sum.inl (n : Int) : Key)
theorem keyK_V (s : Lk.RS) (k : LK) : (Lk.keyL (Lk.kdOf s.parts) (Lk.ltOf s.letters) k.p.1 k.ps k.p.2).map nV = (keyK s k).map kV := by
  unfold keyK
  rw [List.map_map]
  rfl
theorem keyK_same (G : Lk.Good r s fl os) {k k' : LK} (h : Lok s k) (h' : Lok s k') (e : keyK s k = keyK s k') : cntK s r k = cntK s r k' ∧ (fndL s r k = none ↔ fndL s r k' = none) := by
  have inj : Lk.keyL (Lk.kdOf s.parts) (Lk.ltOf s.letters) k.p.1 k.ps k.p.2 = Lk.keyL (Lk.kdOf s.parts) (Lk.ltOf s.letters) k'.p.1 k'.ps k'.p.2 := by
    unfold keyK at e
    refine (List.map_inj_right (fun a b z => ?_)).mp e
    have := Sum.inl.inj z
    omega
  have x := Lk.key_same G.shape G.pos (Lk.tnR r) h.vs h'.vs inj
  refine ⟨x.1, ?_⟩
  unfold fndL
  rw [Option.map_eq_none_iff, Option.map_eq_none_iff]
  exact ⟨fun z => x.2.symm.trans z, fun z => x.2.trans z⟩
def DOk (s : Lk.RS) (Pd : LK → V → Prop) (kvs : List (List Key × V)) : Prop := ∀ key v, (key, v) ∈ kvs → ∃ k, Lok s k ∧ key = keyK s k ∧ Pd k v
theorem DOk.get {Pd : LK → V → Prop} {kvs : List (List Key × V)} (h : DOk s Pd kvs) {k : LK} {v : V} (e : valV kvs (keyK s k) = some v) : ∃ k', Lok s k' ∧ keyK s k = keyK s k' ∧ Pd k' v := by
  unfold valV at e
  cases q : kvs.find? fun kv => decide (kv.1 = keyK s k) with
  | none =>
    rw [q] at e
    cases e
  | some kv =>
    rw [q] at e
    have e1 : kv.2 = v := Option.some.inj e
    have e2 : kv.1 = keyK s k := by simpa using List.find?_some q
    obtain ⟨k', a, b, c⟩ := h kv.1 kv.2 (List.mem_of_find?_eq_some q)
    exact ⟨k', a, by rw [← e2, b], by rw [← e1]; exact c⟩
theorem DOk.put {Pd : LK → V → Prop} {kvs : List (List Key × V)} (h : DOk s Pd kvs) {k : LK} {v : V} (hk : Lok s k) (hv : Pd k v) : DOk s Pd (putK kvs (keyK s k) v) := by
  intro key v' hm
  unfold putK at hm
  split at hm
  · obtain ⟨kv, hkv, e⟩ := List.mem_map.mp hm
    split at e
    · rename_i hc
      cases e
      exact ⟨k, hk, hc, hv⟩
    · exact h key v' (by rw [← e]; exact hkv)
  · rcases List.mem_append.mp hm with hm | hm
    · exact h key v' hm
    · have := List.mem_singleton.mp hm
      cases this
      exact ⟨k, hk, rfl, hv⟩
end
/-- how many keys a linking with so many places left may lay -/
def Nb : Nat → Nat
  | 0 => 0
  | 1 => 1
  | n + 2 => 1 + (n + 1) * Nb n
theorem Nb_mono : ∀ n, Nb n ≤ Nb (n + 1)
  | 0 => by decide
  | 1 => by decide
  | n + 2 => by
    show 1 + (n + 1) * Nb n ≤ 1 + (n + 1 + 1) * Nb (n + 1)
    have := Nb_mono n
    have := Nat.mul_le_mul (show n + 1 ≤ n + 1 + 1 by omega) this
    omega
theorem Nb_le : ∀ (m n : Nat), n ≤ m → Nb n ≤ Nb m
  | 0, n, h => by
    have : n = 0 := by omega
    rw [this]
    exact Nat.le_refl _
  | m + 1, n, h => by
    by_cases e : n = m + 1
    · rw [e]
      exact Nat.le_refl _
    · exact Nat.le_trans (Nb_le m n (by omega)) (Nb_mono m)
theorem Nb_16 : Nb 16 ≤ 3000000 := by decide
theorem Lok.zero {r : Md26.Row} {s : Lk.RS} {fl : List Md26.Form} {os : List Nat} (G : Lk.Good r s fl os) (hs : Small s 900) : Lok s (lk0 s os) := by
  have S := G.shape
  refine ⟨⟨⟨0, Lk.PS.start S (G.on.perm S), by show 2 * 0 + (List.range s.letters.length).length = _; rw [List.length_range]; omega⟩, Lk.start_calm S (G.on.perm S), fun p hp => List.mem_range.mp hp, List.nodup_range⟩, good_pok G hs, List.pairwise_lt_range, List.length_replicate, fun x hx => ?_⟩
  have := List.mem_range.mp hx
  show (List.replicate s.letters.length none)[x]? = some none
  rw [List.getElem?_replicate, if_pos this]
end Nt
end
section
set_option Elab.async false
set_option linter.all false
set_option maxRecDepth 100000
set_option maxHeartbeats 4000000
namespace Nt
open PySem PySem.Spec PyProof.Rows L2
open PySem.W (Codec)
def DeP (s : Lk.RS) (r : Md26.Row) : LK → V → Prop := fun k _ => fndL s r k = none
/-- links, or None -/
def LsAt (H : Hp) (v : V) : Option (List (Option Nat)) → Prop
  | none => v = .non
  | some lo => ∃ l, v = .ref l ∧ H l = some (.lst (lo.map oV))
theorem findSome_take {α β : Type} {f : α → Option β} : ∀ {l : List α} {i : Nat} {x : α} {y : β}, (∀ u z, u < i → l[u]? = some z → f z = none) → l[i]? = some x → f x = some y → l.findSome? f = some y
  | [], i, x, y, _, h, _ => by simp at h
  | a :: l, 0, x, y, _, h, hf => by
    have e : a = x := by simpa using h
    subst e
    rw [List.findSome?_cons, hf]
  | a :: l, i + 1, x, y, hn, h, hf => by
    rw [List.findSome?_cons, hn 0 a (by omega) rfl]
    exact findSome_take (i := i) (fun u z hu hz => hn (u + 1) z (by omega) (by simpa using hz)) (by simpa using h) hf
section
variable {P : Program} {w : World} {K : PySem.W.Frag} {mg : Str → Option Value} {base : Heap} {CP CR CC CL : Addr}
/-! ### find_proof(reading, linking, dead) -/
def spFind (CP CR CC CL : Addr) (n : Nat) : Sp := fun vs H Q _ => ∃ (a q d : Addr) (s : Lk.RS) (r : Md26.Row) (fl : List Md26.Form) (os : List Nat) (k : LK) (kvs : List (List Key × V)), vs = [.ref a, .ref q, .ref d] ∧ k.ps.length < n ∧ RdAt CP CR H a s ∧ Lk.Good r s fl os ∧ Small s 900 ∧ LkAt CC CL H q k ∧ Lok s k ∧
  H d = some (.dT kvs) ∧ DOk s (DeP s r) kvs ∧ kvs.length + Nb k.ps.length ≤ 4000000 ∧
  ∀ (H' : Hp) (kvs' : List (List Key × V)) (v : V), Oth d H H' → H' d = some (.dT kvs') → DOk s (DeP s r) kvs' → kvs'.length ≤ kvs.length + Nb k.ps.length → LsAt H' v (fndL s r k) → Q v H'
theorem scFind : FnScope ["reading", "linking", "dead", "key", "further", "links"] ["reading", "linking", "dead"] (defScope sFind) := ⟨rfl, rfl, rfl, by decide +kernel, rfl, by decide +kernel, by decide +kernel⟩
theorem find_zero {f : Addr} {fd : FuncData} {m : Nat} : FnOk P w K mg base CX0 m f fd ["reading", "linking", "dead"] (spFind CP CR CC CL 0) := by
  have no : ∀ vs H Q E, ¬ spFind CP CR CC CL 0 vs H Q E := fun vs H Q E h => by
    obtain ⟨a, q, d, s, r, fl, os, k, kvs, _, h1, _⟩ := h
    omega
  exact ⟨fun vs H Q E h => absurd h (no vs H Q E), fun A outer s H args us vs Q E _ _ _ _ h => absurd h (no vs H Q E)⟩
theorem ok_findS {f fI fK fU : Addr} {fd fdI fdK fdU : FuncData} {n : Nat} (F : Fun K "find_proof" "find_proof" sFind f fd) (T : Txt K mg CP CR) (TP : TxtP K mg CC) (TL : TxtL K mg CL) (bF : Binds K fd ["reading", "linking", "dead"] []) (mF : mg "find_proof" = some (.ref f))
    (GF : FnOk P w K mg base CX0 (6 + n) f fd ["reading", "linking", "dead"] (spFind CP CR CC CL n))
    (FI : Fun K "is_proof" "is_proof" sIsProof fI fdI) (bI : Binds K fdI ["pieces"] []) (mI : mg "is_proof" = some (.ref fI))
    (FK : Fun K "key_of_linking" "key_of_linking" sKey fK fdK) (bK : Binds K fdK ["reading", "linking"] []) (mK : mg "key_of_linking" = some (.ref fK))
    (GU : FnOk P w K mg base CX0 6 fU fdU ["reading", "linking"] (spFurther CP CR CC CL)) (kU : PySem.W.keepIn K (.ref fU) = true) (bU : Binds K fdU ["reading", "linking"] []) (mU : mg "all_further_linkings" = some (.ref fU)) :
    FnOk P w K mg base CX0 (6 + n + 1) f fd ["reading", "linking", "dead"] (spFind CP CR CC CL (n + 1)) := by
  have GI : FnOk P w K mg base CX0 1 fI fdI ["pieces"] (spIsProof CC) := ok_isProof FI T TP
  have GK : FnOk P w K mg base CX0 1 fK fdK ["reading", "linking"] (spKey CP CR CC CL) := ok_key FK T TP TL
  refine F.ok scFind (fun vs H Q E h => ?_) (fun cdv A outer s H vs Q E hr h => ?_)
  · obtain ⟨a, q, d, s, r, fl, os, k, kvs, rfl, _⟩ := h
    rfl
  · obtain ⟨a, q, d, s, r, fl, os, k, kvs, rfl, hn, RA, G, hsm, hq, lok, hd, dok, hsz, kk⟩ := h
    have hr1 : Room 1 _ := hr.mono (by omega)
    have hr6 : Room 6 _ := hr.mono (by omega)
    have hu := hu_of hr
    refine ⟨_, pss_cons (ps_if (pt_not (pt_truth (pe_fld (pv 1) rfl) (fun _ => rfl))) (pss_one (ps_ret (pe_ifExp (pt_val (pe_call GI hr1 rfl mI FI.kp bI .nil pass0 (pa_cons (pe_fld (pv 1) rfl) pa_nil))) (pe_fld (pv 1) rfl) pe_non))) pss_nil)
      (pss_cons (ps_set (i := 3) scFind.nd rfl (Or.inl rfl) (pe_call GK hr1 rfl mK FK.kp bK .nil pass0 (pa_cons (pv 0) (pa_cons (pv 1) pa_nil))))
      (pss_cons (ps_if (pt_cmp (pc_din hu (pv 3) (pv 2))) (pss_one (ps_ret pe_non)) pss_nil)
      (pss_cons (ps_for PassesOwn.never rfl (pi_list (pe_call GU hr6 rfl mU kU bU .nil pass0 (pa_cons (pv 0) (pa_cons (pv 1) pa_nil)))) (pg_name (i := 4) scFind.nd rfl (Or.inl rfl))
        (pss_cons (ps_set (i := 5) scFind.nd rfl (Or.inl rfl) (pe_call GF hr rfl mF F.kp bF .nil pass0 (pa_cons (pv 0) (pa_cons (pv 4) (pa_cons (pv 2) pa_nil)))))
        (pss_one (ps_if (pt_cmpR op_notN (pv 5) pe_non (nomark _)) (pss_one (ps_ret (pv 5))) pss_nil))))
      (pss_cons (ps_dput hu (pv 2) (pv 3) pe_bl rfl)
      (pss_one (ps_ret pe_non)))))), ?_⟩
    have S := G.shape
    have hq0 := hq
    obtain ⟨dq, ql, qp, qc, h1, h2, h3, h4⟩ := hq0
    have hpk := lok.pok
    refine ⟨_, rfl, q, CL, dq, _, _, rfl, h1, TL.cl, TL.nP, lkf_places _ _ _, _, .inl ⟨_, SqL.of h3, rfl⟩, ?_⟩
    cases hps : k.ps with
    | nil =>
      refine iteT ?_
      have ec := fndL_nil (s := s) (r := r) hps
      refine ⟨_, rfl, q, CL, dq, _, _, rfl, h1, TL.cl, TL.nC, lkf_pieces _ _ _, .ref qc, some k.p, rfl, ⟨qc, rfl, h4⟩, fun p e => ?_, _, rfl, ite2 (fun h => ?_) (fun h => ?_)⟩
      · cases e
        rw [hpk.len]
        exact G.pos
      · rw [if_pos h] at ec
        exact ⟨_, rfl, q, CL, dq, _, _, rfl, h1, TL.cl, TL.nL, lkf_links _ _ _, kk H kvs _ (Oth.refl d H) hd dok (by omega) (by rw [ec]; exact ⟨ql, rfl, h2⟩)⟩
      · rw [if_neg h] at ec
        exact kk H kvs _ (Oth.refl d H) hd dok (by omega) (by rw [ec]; rfl)
    | cons i rest =>
      refine iteF ?_
      have hL : k.ps.length = rest.length + 1 := by rw [hps]; rfl
      refine ⟨_, rfl, _, rfl, a, q, s, r, fl, os, k, rfl, RA, G, hsm, hq, lok, fun H1 t s1 ht => ?_⟩
      rw [keyK_V] at ht
      have hd1 := s1 _ _ hd
      refine ⟨_, rfl, _, rfl, d, _, rfl, DGet.t hd1 ht, _, rfl, ?_⟩
      cases hv : valV kvs (keyK s k) with
      | some v =>
        obtain ⟨k', lok', ek, pd⟩ := dok.get hv
        have ec := (keyK_same G lok lok' ek).2.mpr pd
        exact iteT (kk H1 kvs _ (Oth.of_same s1) hd1 dok (by omega) (by rw [ec]; rfl))
      | none =>
        refine iteF ⟨_, rfl, _, rfl, a, q, s, r, fl, os, k, i, rest, rfl, RA.same s1, G, hsm, hq.same s1, lok, hps, fun H2 l qs s2 hl hfur => ?_⟩
        have hd2 := s2 _ _ hd1
        have ht2 := s2 _ _ ht
        have sA := s1.trans s2
        have hff := fur_few (s := s) (r := r) hps
        obtain ⟨hql, hqa⟩ := hfur
        have hNb : (furs s r k i).length * Nb (k.ps.length - 2) + 1 ≤ Nb k.ps.length := by
          rw [hL]
          cases hrl : rest.length with
          | zero =>
            rw [hrl] at hff
            have : (furs s r k i).length = 0 := by omega
            rw [this]
            show 0 * _ + 1 ≤ 1
            omega
          | succ m =>
            rw [hrl] at hff
            show (furs s r k i).length * Nb m + 1 ≤ 1 + (m + 1) * Nb m
            have := Nat.mul_le_mul_right (Nb m) hff
            omega
        have ef := fur_fnd G lok hps
        refine ⟨l, rfl, ⟨_, SqL.of hl⟩, for_list (K := K) (a := l) (xs := qs.map V.ref) (fun t' σ H' => ∃ (kvs' : List (List Key × V)) (v4 v5 : Option V), σ = [some (.ref a), some (.ref q), some (.ref d), some (.ref t), v4, v5] ∧ Oth d H2 H' ∧ H' d = some (.dT kvs') ∧ DOk s (DeP s r) kvs' ∧ kvs'.length ≤ kvs.length + t' * Nb (k.ps.length - 2) ∧ ∀ u k', u < t' → (furs s r k i)[u]? = some k' → fndL s r k' = none)
          ⟨kvs, none, none, rfl, Oth.refl d H2, hd2, dok, by omega, fun u k' hu => by omega⟩ (fun t' σ H' _ ⟨_, _, _, _, o, _⟩ => SqL.of (o _ _ hl (ne_of hl hd2 (by intro z; cases z)))) ?_ ?_⟩
        · rintro t' y σ H' hy ⟨kvs', v4, v5, rfl, o, hd', dok', hlen', hno⟩
          obtain ⟨q', hq', rfl⟩ := get_map hy
          have ht' : t' < qs.length := (List.getElem?_eq_some_iff.mp hq').1
          have hk' : (furs s r k i)[t']? = some ((furs s r k i)[t']'(by omega)) := List.getElem?_eq_getElem (by omega)
          generalize (furs s r k i)[t']'(by omega) = k' at hk'
          have hat := hqa t' q' k' hq' hk'
          obtain ⟨lok', hl2⟩ := fur_lok G lok hps (List.mem_of_getElem? hk')
          have hNe : Nb k'.ps.length = Nb (k.ps.length - 2) := by
            congr 1
            omega
          have hmul : (t' + 1) * Nb (k.ps.length - 2) ≤ (furs s r k i).length * Nb (k.ps.length - 2) := Nat.mul_le_mul_right _ (by omega)
          have hmul2 : (t' + 1) * Nb (k.ps.length - 2) = t' * Nb (k.ps.length - 2) + Nb (k.ps.length - 2) := Nat.succ_mul _ _
          refine ⟨_, rfl, _, rfl, _, rfl, a, q', d, s, r, fl, os, k', kvs', rfl, by omega, (RA.same sA).othD hd2 o, G, hsm, hat.othD hd2 o, lok', hd', dok', by rw [hNe]; omega, fun H3 kvs3 v3 o3 hd3 dok3 hlen3 hls => ?_⟩
          rw [hNe] at hlen3
          cases e : fndL s r k' with
          | none =>
            rw [e] at hls
            have ev : v3 = .non := hls
            subst ev
            refine ⟨_, rfl, rfl, _, rfl, iteF ⟨kvs3, _, _, rfl, o.trans o3, hd3, dok3, by omega, fun u k2 hu h2 => ?_⟩⟩
            by_cases eu : u = t'
            · subst eu
              rw [hk'] at h2
              cases h2
              exact e
            · exact hno u k2 (by omega) h2
          | some lo =>
            have ef2 : fndL s r k = some lo := by
              rw [ef]
              exact findSome_take (fun u z hu hz => hno u z hu hz) hk' e
            rw [e] at hls
            obtain ⟨l3, rfl, hl3⟩ := hls
            refine ⟨_, rfl, rfl, _, rfl, iteT ⟨_, rfl, kk H3 kvs3 _ ((Oth.of_same sA).trans (o.trans o3)) hd3 dok3 (by omega) (by rw [ef2]; exact ⟨l3, rfl, hl3⟩)⟩⟩
        · rintro σ H' ⟨kvs', v4, v5, rfl, o, hd', dok', hlen', hno⟩
          rw [List.length_map, hql] at hlen' hno
          have ht3 := o _ _ ht2 (ne_of ht2 hd2 (by intro z; cases z))
          have ef2 : fndL s r k = none := by
            rw [ef, List.findSome?_eq_none_iff]
            intro x hx
            obtain ⟨u, hu, e⟩ := List.getElem_of_mem hx
            exact hno u x hu (by rw [List.getElem?_eq_getElem hu, e])
          refine ⟨_, rfl, _, rfl, d, _, rfl, DPut.t hd' ht3 (Nat.lt_of_le_of_lt (show kvs'.length ≤ 4000000 by omega) (by decide)), ?_⟩
          refine kk _ _ _ (((Oth.of_same sA).trans o).trans Oth.upd) upd_same (dok'.put lok ef2) ?_ (by rw [ef2]; rfl)
          have := length_putK kvs' (keyK s k) (V.bl true)
          omega
theorem ok_find {f fI fK fU : Addr} {fd fdI fdK fdU : FuncData} (F : Fun K "find_proof" "find_proof" sFind f fd) (T : Txt K mg CP CR) (TP : TxtP K mg CC) (TL : TxtL K mg CL) (bF : Binds K fd ["reading", "linking", "dead"] []) (mF : mg "find_proof" = some (.ref f))
    (FI : Fun K "is_proof" "is_proof" sIsProof fI fdI) (bI : Binds K fdI ["pieces"] []) (mI : mg "is_proof" = some (.ref fI))
    (FK : Fun K "key_of_linking" "key_of_linking" sKey fK fdK) (bK : Binds K fdK ["reading", "linking"] []) (mK : mg "key_of_linking" = some (.ref fK))
    (GU : FnOk P w K mg base CX0 6 fU fdU ["reading", "linking"] (spFurther CP CR CC CL)) (kU : PySem.W.keepIn K (.ref fU) = true) (bU : Binds K fdU ["reading", "linking"] []) (mU : mg "all_further_linkings" = some (.ref fU)) :
    ∀ n, FnOk P w K mg base CX0 (6 + n) f fd ["reading", "linking", "dead"] (spFind CP CR CC CL n)
  | 0 => find_zero
  | n + 1 => ok_findS F T TP TL bF mF (ok_find F T TP TL bF mF FI bI mI FK bK mK GU kU bU mU n) FI bI mI FK bK mK GU kU bU mU
/-! ### first(text) -/
theorem set_facts {tn : Nat → Nat → Bool} {ps : List Nat} {M : List (Nat × Nat)} (h : Lk.Mt tn ps M) : ps.Pairwise (· < ·) → ∀ l : List (Option Nat), (∀ x, x ∈ ps → x < l.length) → (setL l M).length = l.length ∧ (∀ x, x ∉ ps → (setL l M)[x]? = l[x]?) ∧ ∀ p, p ∈ M → (setL l M)[p.1]? = some (some p.2) ∧ (setL l M)[p.2]? = some (some p.1) := by
  induction h with
  | nil => exact fun _ l _ => ⟨rfl, fun _ _ => rfl, fun p hp => (List.not_mem_nil hp).elim⟩
  | cons p q ps M hq ht hM ih =>
    intro srt l hl
    have sc := List.pairwise_cons.mp srt
    have hpq := sc.1 q hq
    have hp' := hl p List.mem_cons_self
    have hq' := hl q (List.mem_cons_of_mem _ hq)
    obtain ⟨j1, j2, j3⟩ := ih (sc.2.filter _) ((l.set p (some q)).set q (some p)) (fun x hx => by
      rw [List.length_set, List.length_set]
      exact hl x (List.mem_cons_of_mem _ (Lk.mem_less.mp hx).1))
    have e : setL l ((p, q) :: M) = setL ((l.set p (some q)).set q (some p)) M := rfl
    rw [e]
    refine ⟨by rw [j1, List.length_set, List.length_set], fun x hx => ?_, fun y hy => ?_⟩
    · have n1 : q ≠ x := fun z => hx (by rw [← z]; exact List.mem_cons_of_mem _ hq)
      have n2 : p ≠ x := fun z => hx (by rw [← z]; exact List.mem_cons_self)
      rw [j2 x fun z => hx (List.mem_cons_of_mem _ (Lk.mem_less.mp z).1), List.getElem?_set_ne n1, List.getElem?_set_ne n2]
    · rcases List.mem_cons.mp hy with rfl | hy
      · constructor
        · rw [j2 p fun z => by have := sc.1 p (Lk.mem_less.mp z).1; omega, List.getElem?_set_ne (by omega), List.getElem?_set_self hp']
        · rw [j2 q fun z => (Lk.mem_less.mp z).2 rfl, List.getElem?_set_self (by rw [List.length_set]; exact hq')]
      · exact j3 y hy
theorem set_mk {tn : Nat → Nat → Bool} {m : Nat} {M : List (Nat × Nat)} (h : Lk.Mt tn (List.range m) M) : setL (List.replicate m none) M = (Lk.mkL (List.replicate m Md26.NONE) M).map some := by
  obtain ⟨i1, i2, i3, i4⟩ := h.facts List.pairwise_lt_range
  obtain ⟨j1, _, j3⟩ := i4 (List.replicate m Md26.NONE) (fun x hx => by rw [List.length_replicate]; exact List.mem_range.mp hx)
  obtain ⟨k1, _, k3⟩ := set_facts h List.pairwise_lt_range (List.replicate m none) (fun x hx => by rw [List.length_replicate]; exact List.mem_range.mp hx)
  rw [List.length_replicate] at j1 k1
  refine List.ext_getElem? fun x => ?_
  rw [List.getElem?_map]
  by_cases hx : x < m
  · have at_ : ∀ y, y < m → (Lk.mkL (List.replicate m Md26.NONE) M)[y]? = some ((Lk.mkL (List.replicate m Md26.NONE) M).getD y 0) := fun y hy => get_of (by rw [j1]; exact hy)
    obtain ⟨p, hp, hor⟩ := i2 x (List.mem_range.mpr hx)
    rw [at_ x hx]
    rcases hor with rfl | rfl
    · rw [(k3 p hp).1, (j3 p hp).1]
      rfl
    · rw [(k3 p hp).2, (j3 p hp).2]
      rfl
  · rw [List.getElem?_eq_none_iff.mpr (by omega), List.getElem?_eq_none_iff.mpr (by omega)]
    rfl
def firstZ (bs : List Nat) : List Int := match Md26.read bs with
  | none => [-2]
  | some r => match Md26.firstOf (Md26.proofs r) with
    | some l => ((l.length : Nat) : Int) :: l.map fun (x : Nat) => (x : Int)
    | none => [-6]
def spFirst (K : PySem.W.Frag) : Sp := fun vs H Q _ => ∃ (t : Addr) (bs : List Nat), vs = [.ref t] ∧ ArgL K H t (bs.map nV) ∧ bs.length ≤ 256 ∧
  ∀ (H' : Hp) (p : Addr), H' p = some (.lst ((firstZ bs).map V.int)) → Q (.ref p) H'
theorem scFirst : FnScope ["text", "reading", "refusal", "links"] ["text"] (defScope sFst) := ⟨rfl, rfl, rfl, by decide +kernel, rfl, by decide +kernel, by decide +kernel⟩
theorem ok_first {f fT fR fC f0 fF : Addr} {fd fdT fdR fdC fd0 fdF : FuncData} (F : Fun K "first" "first" sFst f fd) (T : Txt K mg CP CR) (cN6 : ∃ t, mg "NO_ANSWER" = some (Value.int (-6) t))
    (GT : FnOk P w K mg base CX0 5 fT fdT ["text"] (spText K CP CR)) (kT : PySem.W.keepIn K (.ref fT) = true) (bT : Binds K fdT ["text"] []) (mT : mg "read_text" = some (.ref fT))
    (FR : Fun K "refusal_of_text" "refusal_of_text" sRefT fR fdR) (bR : Binds K fdR ["text", "reading"] []) (mR : mg "refusal_of_text" = some (.ref fR))
    (FC : Fun K "can_have_proof" "can_have_proof" sCan fC fdC) (bC : Binds K fdC ["reading"] []) (mC : mg "can_have_proof" = some (.ref fC))
    (G0 : FnOk P w K mg base CX0 4 f0 fd0 ["reading"] (spLk0 CP CR CC CL)) (k0 : PySem.W.keepIn K (.ref f0) = true) (b0 : Binds K fd0 ["reading"] []) (m0 : mg "linking_without_links" = some (.ref f0))
    (GF : FnOk P w K mg base CX0 23 fF fdF ["reading", "linking", "dead"] (spFind CP CR CC CL 17)) (kF : PySem.W.keepIn K (.ref fF) = true) (bF : Binds K fdF ["reading", "linking", "dead"] []) (mF : mg "find_proof" = some (.ref fF)) :
    FnOk P w K mg base CX0 24 f fd ["text"] (spFirst K) := by
  have GR : FnOk P w K mg base CX0 1 fR fdR ["text", "reading"] (spRefT K) := ok_refT FR T
  have GC : FnOk P w K mg base CX0 1 fC fdC ["reading"] (spCan CP CR) := ok_can FC T
  refine F.ok scFirst (fun vs H Q E h => ?_) (fun cdv A outer s H vs Q E hr h => ?_)
  · obtain ⟨t, bs, rfl, _⟩ := h
    rfl
  · obtain ⟨t, bs, rfl, hT, hbl, k⟩ := h
    obtain ⟨t6, c6⟩ := cN6
    have hr1 : Room 1 _ := hr.mono (by decide)
    have hr4 : Room 4 _ := hr.mono (by decide)
    have hr5 : Room 5 _ := hr.mono (by decide)
    refine ⟨_, pss_cons (ps_set (i := 1) scFirst.nd rfl (Or.inl rfl) (pe_call GT hr5 rfl mT kT bT .nil pass0 (pa_cons (pv 0) pa_nil)))
      (pss_cons (ps_set (i := 2) scFirst.nd rfl (Or.inl rfl) (pe_call GR hr1 rfl mR FR.kp bR .nil pass0 (pa_cons (pv 0) (pa_cons (pv 1) pa_nil))))
      (pss_cons (ps_if (pt_cmpR op_notN (pv 2) pe_non (nomark _)) (pss_one (ps_ret (pe_lst (pa_cons (pv 2) pa_nil)))) pss_nil)
      (pss_cons (ps_set (i := 3) scFirst.nd rfl (Or.inl rfl) pe_non)
      (pss_cons (ps_if (pt_val (pe_call GC hr1 rfl mC FC.kp bC .nil pass0 (pa_cons (pv 1) pa_nil))) (pss_one (ps_set (i := 3) scFirst.nd rfl (Or.inl rfl) (pe_call GF hr rfl mF kF bF .nil pass0 (pa_cons (pv 1) (pa_cons (pe_call G0 hr4 rfl m0 k0 b0 .nil pass0 (pa_cons (pv 1) pa_nil)) (pa_cons pe_dnewT pa_nil)))))) pss_nil)
      (pss_cons (ps_if (pt_cmpR op_isN (pv 3) pe_non (nomark _)) (pss_one (ps_ret (pe_lst (pa_cons (pe_glob (v := .int (-6)) rfl c6 ⟨_, rfl⟩) pa_nil)))) pss_nil)
      (pss_one (ps_ret (pe_op op_cat (pe_lst (pa_cons (pe_callB call_len_seq (by rfl) T.len PySem.boot_len (pa_cons (pv 3) pa_nil)) pa_nil)) (pv 3))))))))), ?_⟩
    have out : ∀ (z : Int) (H' : Hp), [z] = firstZ bs → 1 ≤ sizeLine ∧ ∀ p, H' p = Option.none → Q (.ref p) (upd H' p (.lst [V.int z])) := fun z H' e => ⟨by decide, fun p _ => k _ p (by rw [upd_same, ← e]; rfl)⟩
    have hg := Lk.good_of bs
    refine ⟨_, rfl, t, bs, rfl, hT, hbl, fun H1 v f1 hv => ?_⟩
    refine ⟨_, rfl, _, rfl, t, bs, v, rfl, hT.fz f1, hbl, fun hn => ?_, fun hn => ?_⟩
    · refine ⟨_, rfl, rfl, _, rfl, iteT ⟨_, rfl, out _ _ ?_⟩⟩
      unfold firstZ
      cases er : Md26.read bs with
      | none => rfl
      | some r =>
        rw [er] at hg
        obtain ⟨s, fl, os, e, _⟩ := hg
        rcases hv with ⟨_, e2⟩ | ⟨s2, a, e2, _⟩
        · rw [e2] at e
          cases e
        · rw [hn] at e2
          cases e2
    · refine ⟨_, rfl, rfl, _, rfl, iteF ?_⟩
      obtain ⟨s, a, rfl, hs, R, hsm⟩ : ∃ s a, v = .ref a ∧ Lk.ends Lk.s0 bs = some s ∧ RdAt CP CR H1 a s ∧ Small s 900 := by
        rcases hv with ⟨e, _⟩ | h
        · exact (hn e).elim
        · exact h
      cases er : Md26.read bs with
      | none =>
        rw [er] at hg
        rw [hs] at hg
        cases hg
      | some r =>
        rw [er] at hg
        obtain ⟨s', fl, os, e, G⟩ := hg
        rw [hs] at e
        cases e
        have ez : firstZ bs = match Md26.firstOf (Md26.proofs r) with
            | some l => ((l.length : Nat) : Int) :: l.map fun (x : Nat) => (x : Int)
            | none => [-6] := by
          unfold firstZ
          rw [er]
        refine ⟨_, rfl, a, s, r, fl, os, rfl, R, G, hsm, fun H2 s2 => ⟨_, rfl, ?_⟩⟩
        cases hc : Lk.canB (s.parts.map (·.1)) s.letters.length with
        | false =>
          refine iteF ⟨_, rfl, rfl, _, rfl, iteT (out _ _ ?_)⟩
          rw [ez, G.cannot hc]
          rfl
        | true =>
          refine iteT ?_
          refine ⟨_, rfl, _, rfl, a, s, r, fl, os, rfl, R.same s2, G, hsm, fun H3 q s3 hq => ?_⟩
          intro d hd
          have s4 : Same H3 (upd H3 d (.dT [])) := same_new hd
          have hlen : (lk0 s os).ps.length = s.letters.length := List.length_range
          have hl16 : s.letters.length ≤ 16 := by
            rw [← G.rd.lls]
            exact G.few
          refine ⟨a, q, d, s, r, fl, os, lk0 s os, [], rfl, by rw [hlen]; omega, ((R.same s2).same s3).same s4, G, hsm, hq.same s4, Lok.zero G hsm, upd_same, fun key v hm => (List.not_mem_nil hm).elim, ?_, fun H5 kvs5 v5 o5 hd5 dok5 hl5 hls => ?_⟩
          · rw [hlen]
            have := Nb_le 16 _ hl16
            have := Nb_16
            show 0 + _ ≤ _
            omega
          · have efst := G.first
            rw [G.rd.lls] at efst
            have eL : fndL s r (lk0 s os) = (Lk.fnd (Lk.kdOf s.parts) (Lk.ltOf s.letters) (Lk.tnR r) (Lk.st0 s os) (List.range s.letters.length)).map (setL (List.replicate s.letters.length none)) := rfl
            cases hf : Lk.fnd (Lk.kdOf s.parts) (Lk.ltOf s.letters) (Lk.tnR r) (Lk.st0 s os) (List.range s.letters.length) with
            | none =>
              rw [hf] at efst eL
              rw [eL] at hls
              have ev : v5 = .non := hls
              subst ev
              refine ⟨_, rfl, rfl, _, rfl, iteT (out _ _ ?_)⟩
              rw [ez, efst]
              rfl
            | some M =>
              have hM : Lk.Mt (Lk.tnR r) (List.range s.letters.length) M := Lk.gen_mt _ _ (Nat.le_refl _) M (List.mem_of_find?_eq_some hf)
              rw [hf] at efst eL
              rw [eL] at hls
              obtain ⟨l5, rfl, hl5'⟩ := hls
              have e5 : (setL (List.replicate s.letters.length none) M).map oV = (Lk.mkL (List.replicate s.letters.length Md26.NONE) M).map nV := by
                rw [set_mk hM, List.map_map]
                rfl
              rw [e5] at hl5'
              have ez2 : firstZ bs = (((Lk.mkL (List.replicate s.letters.length Md26.NONE) M).length : Nat) : Int) :: (Lk.mkL (List.replicate s.letters.length Md26.NONE) M).map fun (x : Nat) => (x : Int) := by
                rw [ez, efst]
                rfl
              have hml : (Lk.mkL (List.replicate s.letters.length Md26.NONE) M).length ≤ 16 := by
                have := ((hM.facts List.pairwise_lt_range).2.2.2 (List.replicate s.letters.length Md26.NONE) (fun x hx => by rw [List.length_replicate]; exact List.mem_range.mp hx)).1
                rw [this, List.length_replicate]
                exact hl16
              generalize Lk.mkL (List.replicate s.letters.length Md26.NONE) M = L at hl5' ez2 hml
              refine ⟨_, rfl, rfl, _, rfl, iteF ?_⟩
              refine ⟨_, rfl, l5, _, rfl, .inl (SqL.of hl5'), (by show 1 ≤ sizeLine; decide), fun b hb => ?_⟩
              have nb : l5 ≠ b := ne_of_none hl5' hb
              refine ⟨_, rfl, b, l5, _, _, rfl, rfl, upd_same, (by rw [upd_ne nb]; exact hl5'), ?_, fun p hp => k _ p ?_⟩
              · rw [List.length_map]
                exact Nat.le_of_lt (small1000 (by show 1 + _ ≤ _; omega))
              · rw [upd_same, ez2, List.length_map, List.map_cons]
                congr 1
                show HO.lst (V.int _ :: (L.map nV)) = _
                rw [nats_ints]
end
end Nt
end
section
set_option Elab.async false
set_option linter.all false
set_option maxRecDepth 100000
set_option maxHeartbeats 4000000
namespace Nt
open PySem PySem.Spec PyProof.Rows L2
open PySem.W (Codec)
/-! ### what the top has written -/
theorem all_mk {P : Program} {w : World} {K : PySem.W.Frag} {h : Heap} {mg : Str → Option Value} {fa CP CR CC CL fP fR fC fL f0 f1 f2 f3 f4 f5 f6 f7 f8 f9 f10 f11 f12 f13 f14 f15 f16 f17 f18 f19 f20 f21 f22 : Addr} (X : K.In h) (G : h.Ns mainGlobals mg) (hfa : mg "first" = some (.ref fa))
    {odP anP odR anR odC anC odL anL od0 an0 od1 an1 od2 an2 od3 an3 od4 an4 od5 an5 od6 an6 od7 an7 od8 an8 od9 an9 od10 an10 od11 an11 od12 an12 od13 an13 od14 an14 od15 an15 od16 an16 od17 an17 od18 an18 od19 an19 od20 an20 od21 an21 od22 an22 : Option Addr} {slP slR slC slL sl0 sl1 sl2 sl3 sl4 sl5 sl6 sl7 sl8 sl9 sl10 sl11 sl12 sl13 sl14 sl15 sl16 sl17 sl18 sl19 sl20 sl21 sl22 : Array (Option Value)} {ocP kVP dcP pmP cdP ctP ocR kVR dcR pmR cdR ctR ocC kVC dcC pmC cdC ctC ocL kVL dcL pmL cdL ctL oc0 kV0 dc0 pm0 cd0 ct0 oc1 kV1 dc1 pm1 cd1 ct1 oc2 kV2 dc2 pm2 cd2 ct2 oc3 kV3 dc3 pm3 cd3 ct3 oc4 kV4 dc4 pm4 cd4 ct4 oc5 kV5 dc5 pm5 cd5 ct5 oc6 kV6 dc6 pm6 cd6 ct6 oc7 kV7 dc7 pm7 cd7 ct7 oc8 kV8 dc8 pm8 cd8 ct8 oc9 kV9 dc9 pm9 cd9 ct9 oc10 kV10 dc10 pm10 cd10 ct10 oc11 kV11 dc11 pm11 cd11 ct11 oc12 kV12 dc12 pm12 cd12 ct12 oc13 kV13 dc13 pm13 cd13 ct13 oc14 kV14 dc14 pm14 cd14 ct14 oc15 kV15 dc15 pm15 cd15 ct15 oc16 kV16 dc16 pm16 cd16 ct16 oc17 kV17 dc17 pm17 cd17 ct17 oc18 kV18 dc18 pm18 cd18 ct18 oc19 kV19 dc19 pm19 cd19 ct19 oc20 kV20 dc20 pm20 cd20 ct20 oc21 kV21 dc21 pm21 cd21 ct21 oc22 kV22 dc22 pm22 cd22 ct22 : Value} {tMOST_BYTES tMOST_LETTERS tMOST_BRACKETS tNO_LENGTH tNO_TEXT tNO_ANSWER : Tok}
    (aP : PySem.W.nsIn K mainGlobals "Part" = some (some (.ref CP)))
    (bP : PySem.W.findIn K (.ref CP) "__init__" = some (some (.ref fP)))
    (iP : PySem.W.isFn K (.ref fP) = true)
    (lP : K.lookup fP = some ⟨ocP, odP, .func (PySem.W.fnOf "__init__" "Part.__init__" (defArgs sPart) (defBody sPart) (defScope sPart) .none kVP dcP pmP anP cdP ctP), slP⟩)
    (cP : PySem.W.codeIn K cdP "Part.__init__" = true)
    (kP : PySem.W.keepIn K (.ref fP) = true)
    (pgP : PySem.W.plainGet K CP Str.empty = true)
    (hdP : PySem.W.hasDictIn K CP = true)
    (poP : PySem.W.plainOver K CP = true)
    (saP : PySem.W.findIn K (.ref CP) "__setattr__" = some (some (.builtin "object.__setattr__")))
    (mkP : PySem.W.makesIn K CP = true)
    (kcP : PySem.W.keepIn K (.ref CP) = true)
    (aR : PySem.W.nsIn K mainGlobals "Reading" = some (some (.ref CR)))
    (bR : PySem.W.findIn K (.ref CR) "__init__" = some (some (.ref fR)))
    (iR : PySem.W.isFn K (.ref fR) = true)
    (lR : K.lookup fR = some ⟨ocR, odR, .func (PySem.W.fnOf "__init__" "Reading.__init__" (defArgs sRding) (defBody sRding) (defScope sRding) .none kVR dcR pmR anR cdR ctR), slR⟩)
    (cR : PySem.W.codeIn K cdR "Reading.__init__" = true)
    (kR : PySem.W.keepIn K (.ref fR) = true)
    (pgR : PySem.W.plainGet K CR Str.empty = true)
    (hdR : PySem.W.hasDictIn K CR = true)
    (poR : PySem.W.plainOver K CR = true)
    (saR : PySem.W.findIn K (.ref CR) "__setattr__" = some (some (.builtin "object.__setattr__")))
    (mkR : PySem.W.makesIn K CR = true)
    (kcR : PySem.W.keepIn K (.ref CR) = true)
    (aC : PySem.W.nsIn K mainGlobals "Pieces" = some (some (.ref CC)))
    (bC : PySem.W.findIn K (.ref CC) "__init__" = some (some (.ref fC)))
    (iC : PySem.W.isFn K (.ref fC) = true)
    (lC : K.lookup fC = some ⟨ocC, odC, .func (PySem.W.fnOf "__init__" "Pieces.__init__" (defArgs sPieces) (defBody sPieces) (defScope sPieces) .none kVC dcC pmC anC cdC ctC), slC⟩)
    (cC : PySem.W.codeIn K cdC "Pieces.__init__" = true)
    (kC : PySem.W.keepIn K (.ref fC) = true)
    (pgC : PySem.W.plainGet K CC Str.empty = true)
    (hdC : PySem.W.hasDictIn K CC = true)
    (poC : PySem.W.plainOver K CC = true)
    (saC : PySem.W.findIn K (.ref CC) "__setattr__" = some (some (.builtin "object.__setattr__")))
    (mkC : PySem.W.makesIn K CC = true)
    (kcC : PySem.W.keepIn K (.ref CC) = true)
    (aL : PySem.W.nsIn K mainGlobals "Linking" = some (some (.ref CL)))
    (bL : PySem.W.findIn K (.ref CL) "__init__" = some (some (.ref fL)))
    (iL : PySem.W.isFn K (.ref fL) = true)
    (lL : K.lookup fL = some ⟨ocL, odL, .func (PySem.W.fnOf "__init__" "Linking.__init__" (defArgs sLinking) (defBody sLinking) (defScope sLinking) .none kVL dcL pmL anL cdL ctL), slL⟩)
    (cL : PySem.W.codeIn K cdL "Linking.__init__" = true)
    (kL : PySem.W.keepIn K (.ref fL) = true)
    (pgL : PySem.W.plainGet K CL Str.empty = true)
    (hdL : PySem.W.hasDictIn K CL = true)
    (poL : PySem.W.plainOver K CL = true)
    (saL : PySem.W.findIn K (.ref CL) "__setattr__" = some (some (.builtin "object.__setattr__")))
    (mkL : PySem.W.makesIn K CL = true)
    (kcL : PySem.W.keepIn K (.ref CL) = true)
    (a0 : PySem.W.nsIn K mainGlobals "is_letter" = some (some (.ref f0)))
    (l0 : K.lookup f0 = some ⟨oc0, od0, .func (PySem.W.fnOf "is_letter" "is_letter" (defArgs sIsLetter) (defBody sIsLetter) (defScope sIsLetter) .none kV0 dc0 pm0 an0 cd0 ct0), sl0⟩)
    (c0 : PySem.W.codeIn K cd0 "is_letter" = true)
    (k0 : PySem.W.keepIn K (.ref f0) = true)
    (a1 : PySem.W.nsIn K mainGlobals "finish_part" = some (some (.ref f1)))
    (l1 : K.lookup f1 = some ⟨oc1, od1, .func (PySem.W.fnOf "finish_part" "finish_part" (defArgs sFinish) (defBody sFinish) (defScope sFinish) .none kV1 dc1 pm1 an1 cd1 ct1), sl1⟩)
    (c1 : PySem.W.codeIn K cd1 "finish_part" = true)
    (k1 : PySem.W.keepIn K (.ref f1) = true)
    (a2 : PySem.W.nsIn K mainGlobals "begin_formula" = some (some (.ref f2)))
    (l2 : K.lookup f2 = some ⟨oc2, od2, .func (PySem.W.fnOf "begin_formula" "begin_formula" (defArgs sBegin) (defBody sBegin) (defScope sBegin) .none kV2 dc2 pm2 an2 cd2 ct2), sl2⟩)
    (c2 : PySem.W.codeIn K cd2 "begin_formula" = true)
    (k2 : PySem.W.keepIn K (.ref f2) = true)
    (a3 : PySem.W.nsIn K mainGlobals "go_on_outside_brackets" = some (some (.ref f3)))
    (l3 : K.lookup f3 = some ⟨oc3, od3, .func (PySem.W.fnOf "go_on_outside_brackets" "go_on_outside_brackets" (defArgs sOutside) (defBody sOutside) (defScope sOutside) .none kV3 dc3 pm3 an3 cd3 ct3), sl3⟩)
    (c3 : PySem.W.codeIn K cd3 "go_on_outside_brackets" = true)
    (k3 : PySem.W.keepIn K (.ref f3) = true)
    (a4 : PySem.W.nsIn K mainGlobals "go_on_to_second" = some (some (.ref f4)))
    (l4 : K.lookup f4 = some ⟨oc4, od4, .func (PySem.W.fnOf "go_on_to_second" "go_on_to_second" (defArgs sSecond) (defBody sSecond) (defScope sSecond) .none kV4 dc4 pm4 an4 cd4 ct4), sl4⟩)
    (c4 : PySem.W.codeIn K cd4 "go_on_to_second" = true)
    (k4 : PySem.W.keepIn K (.ref f4) = true)
    (a5 : PySem.W.nsIn K mainGlobals "close_bracket" = some (some (.ref f5)))
    (l5 : K.lookup f5 = some ⟨oc5, od5, .func (PySem.W.fnOf "close_bracket" "close_bracket" (defArgs sClose) (defBody sClose) (defScope sClose) .none kV5 dc5 pm5 an5 cd5 ct5), sl5⟩)
    (c5 : PySem.W.codeIn K cd5 "close_bracket" = true)
    (k5 : PySem.W.keepIn K (.ref f5) = true)
    (a6 : PySem.W.nsIn K mainGlobals "read_byte" = some (some (.ref f6)))
    (l6 : K.lookup f6 = some ⟨oc6, od6, .func (PySem.W.fnOf "read_byte" "read_byte" (defArgs sByte) (defBody sByte) (defScope sByte) .none kV6 dc6 pm6 an6 cd6 ct6), sl6⟩)
    (c6 : PySem.W.codeIn K cd6 "read_byte" = true)
    (k6 : PySem.W.keepIn K (.ref f6) = true)
    (a7 : PySem.W.nsIn K mainGlobals "read_text" = some (some (.ref f7)))
    (l7 : K.lookup f7 = some ⟨oc7, od7, .func (PySem.W.fnOf "read_text" "read_text" (defArgs sText) (defBody sText) (defScope sText) .none kV7 dc7 pm7 an7 cd7 ct7), sl7⟩)
    (c7 : PySem.W.codeIn K cd7 "read_text" = true)
    (k7 : PySem.W.keepIn K (.ref f7) = true)
    (a8 : PySem.W.nsIn K mainGlobals "is_turned_other" = some (some (.ref f8)))
    (l8 : K.lookup f8 = some ⟨oc8, od8, .func (PySem.W.fnOf "is_turned_other" "is_turned_other" (defArgs sTurned) (defBody sTurned) (defScope sTurned) .none kV8 dc8 pm8 an8 cd8 ct8), sl8⟩)
    (c8 : PySem.W.codeIn K cd8 "is_turned_other" = true)
    (k8 : PySem.W.keepIn K (.ref f8) = true)
    (a9 : PySem.W.nsIn K mainGlobals "refusal_of_text" = some (some (.ref f9)))
    (l9 : K.lookup f9 = some ⟨oc9, od9, .func (PySem.W.fnOf "refusal_of_text" "refusal_of_text" (defArgs sRefT) (defBody sRefT) (defScope sRefT) .none kV9 dc9 pm9 an9 cd9 ct9), sl9⟩)
    (c9 : PySem.W.codeIn K cd9 "refusal_of_text" = true)
    (k9 : PySem.W.keepIn K (.ref f9) = true)
    (a10 : PySem.W.nsIn K mainGlobals "join_pieces" = some (some (.ref f10)))
    (l10 : K.lookup f10 = some ⟨oc10, od10, .func (PySem.W.fnOf "join_pieces" "join_pieces" (defArgs sJoin) (defBody sJoin) (defScope sJoin) .none kV10 dc10 pm10 an10 cd10 ct10), sl10⟩)
    (c10 : PySem.W.codeIn K cd10 "join_pieces" = true)
    (k10 : PySem.W.keepIn K (.ref f10) = true)
    (a11 : PySem.W.nsIn K mainGlobals "settle_waiting" = some (some (.ref f11)))
    (l11 : K.lookup f11 = some ⟨oc11, od11, .func (PySem.W.fnOf "settle_waiting" "settle_waiting" (defArgs sSettle) (defBody sSettle) (defScope sSettle) .none kV11 dc11 pm11 an11 cd11 ct11), sl11⟩)
    (c11 : PySem.W.codeIn K cd11 "settle_waiting" = true)
    (k11 : PySem.W.keepIn K (.ref f11) = true)
    (a12 : PySem.W.nsIn K mainGlobals "add_line" = some (some (.ref f12)))
    (l12 : K.lookup f12 = some ⟨oc12, od12, .func (PySem.W.fnOf "add_line" "add_line" (defArgs sAdd) (defBody sAdd) (defScope sAdd) .none kV12 dc12 pm12 an12 cd12 ct12), sl12⟩)
    (c12 : PySem.W.codeIn K cd12 "add_line" = true)
    (k12 : PySem.W.keepIn K (.ref f12) = true)
    (a13 : PySem.W.nsIn K mainGlobals "pieces_without_links" = some (some (.ref f13)))
    (l13 : K.lookup f13 = some ⟨oc13, od13, .func (PySem.W.fnOf "pieces_without_links" "pieces_without_links" (defArgs sStart) (defBody sStart) (defScope sStart) .none kV13 dc13 pm13 an13 cd13 ct13), sl13⟩)
    (c13 : PySem.W.codeIn K cd13 "pieces_without_links" = true)
    (k13 : PySem.W.keepIn K (.ref f13) = true)
    (a14 : PySem.W.nsIn K mainGlobals "is_proof" = some (some (.ref f14)))
    (l14 : K.lookup f14 = some ⟨oc14, od14, .func (PySem.W.fnOf "is_proof" "is_proof" (defArgs sIsProof) (defBody sIsProof) (defScope sIsProof) .none kV14 dc14 pm14 an14 cd14 ct14), sl14⟩)
    (c14 : PySem.W.codeIn K cd14 "is_proof" = true)
    (k14 : PySem.W.keepIn K (.ref f14) = true)
    (a15 : PySem.W.nsIn K mainGlobals "linking_without_links" = some (some (.ref f15)))
    (l15 : K.lookup f15 = some ⟨oc15, od15, .func (PySem.W.fnOf "linking_without_links" "linking_without_links" (defArgs sLk0) (defBody sLk0) (defScope sLk0) .none kV15 dc15 pm15 an15 cd15 ct15), sl15⟩)
    (c15 : PySem.W.codeIn K cd15 "linking_without_links" = true)
    (k15 : PySem.W.keepIn K (.ref f15) = true)
    (a16 : PySem.W.nsIn K mainGlobals "can_have_proof" = some (some (.ref f16)))
    (l16 : K.lookup f16 = some ⟨oc16, od16, .func (PySem.W.fnOf "can_have_proof" "can_have_proof" (defArgs sCan) (defBody sCan) (defScope sCan) .none kV16 dc16 pm16 an16 cd16 ct16), sl16⟩)
    (c16 : PySem.W.codeIn K cd16 "can_have_proof" = true)
    (k16 : PySem.W.keepIn K (.ref f16) = true)
    (a17 : PySem.W.nsIn K mainGlobals "has_ring" = some (some (.ref f17)))
    (l17 : K.lookup f17 = some ⟨oc17, od17, .func (PySem.W.fnOf "has_ring" "has_ring" (defArgs sRing) (defBody sRing) (defScope sRing) .none kV17 dc17 pm17 an17 cd17 ct17), sl17⟩)
    (c17 : PySem.W.codeIn K cd17 "has_ring" = true)
    (k17 : PySem.W.keepIn K (.ref f17) = true)
    (a18 : PySem.W.nsIn K mainGlobals "add_link" = some (some (.ref f18)))
    (l18 : K.lookup f18 = some ⟨oc18, od18, .func (PySem.W.fnOf "add_link" "add_link" (defArgs sAddLink) (defBody sAddLink) (defScope sAddLink) .none kV18 dc18 pm18 an18 cd18 ct18), sl18⟩)
    (c18 : PySem.W.codeIn K cd18 "add_link" = true)
    (k18 : PySem.W.keepIn K (.ref f18) = true)
    (a19 : PySem.W.nsIn K mainGlobals "all_further_linkings" = some (some (.ref f19)))
    (l19 : K.lookup f19 = some ⟨oc19, od19, .func (PySem.W.fnOf "all_further_linkings" "all_further_linkings" (defArgs sFurther) (defBody sFurther) (defScope sFurther) .none kV19 dc19 pm19 an19 cd19 ct19), sl19⟩)
    (c19 : PySem.W.codeIn K cd19 "all_further_linkings" = true)
    (k19 : PySem.W.keepIn K (.ref f19) = true)
    (a20 : PySem.W.nsIn K mainGlobals "key_of_linking" = some (some (.ref f20)))
    (l20 : K.lookup f20 = some ⟨oc20, od20, .func (PySem.W.fnOf "key_of_linking" "key_of_linking" (defArgs sKey) (defBody sKey) (defScope sKey) .none kV20 dc20 pm20 an20 cd20 ct20), sl20⟩)
    (c20 : PySem.W.codeIn K cd20 "key_of_linking" = true)
    (k20 : PySem.W.keepIn K (.ref f20) = true)
    (a21 : PySem.W.nsIn K mainGlobals "find_proof" = some (some (.ref f21)))
    (l21 : K.lookup f21 = some ⟨oc21, od21, .func (PySem.W.fnOf "find_proof" "find_proof" (defArgs sFind) (defBody sFind) (defScope sFind) .none kV21 dc21 pm21 an21 cd21 ct21), sl21⟩)
    (c21 : PySem.W.codeIn K cd21 "find_proof" = true)
    (k21 : PySem.W.keepIn K (.ref f21) = true)
    (a22 : PySem.W.nsIn K mainGlobals "first" = some (some (.ref f22)))
    (l22 : K.lookup f22 = some ⟨oc22, od22, .func (PySem.W.fnOf "first" "first" (defArgs sFst) (defBody sFst) (defScope sFst) .none kV22 dc22 pm22 an22 cd22 ct22), sl22⟩)
    (c22 : PySem.W.codeIn K cd22 "first" = true)
    (k22 : PySem.W.keepIn K (.ref f22) = true)
    (nPsign : PySem.W.findIn K (.ref CP) "sign" = some none)
    (nPleft : PySem.W.findIn K (.ref CP) "left" = some none)
    (nPright : PySem.W.findIn K (.ref CP) "right" = some none)
    (nRparts : PySem.W.findIn K (.ref CR) "parts" = some none)
    (nRletters : PySem.W.findIn K (.ref CR) "letters" = some none)
    (nRones : PySem.W.findIn K (.ref CR) "ones" = some none)
    (nRbrackets : PySem.W.findIn K (.ref CR) "brackets" = some none)
    (nRlatest : PySem.W.findIn K (.ref CR) "latest" = some none)
    (nCnumbers : PySem.W.findIn K (.ref CC) "numbers" = some none)
    (nCwaiting : PySem.W.findIn K (.ref CC) "waiting" = some none)
    (nLlinks : PySem.W.findIn K (.ref CL) "links" = some none)
    (nLplaces : PySem.W.findIn K (.ref CL) "places" = some none)
    (nLpieces : PySem.W.findIn K (.ref CL) "pieces" = some none)
    (glen : PySem.W.nsIn K mainGlobals "len" = some none)
    (gord : PySem.W.nsIn K mainGlobals "ord" = some none)
    (grange : PySem.W.nsIn K mainGlobals "range" = some none)
    (genumerate : PySem.W.nsIn K mainGlobals "enumerate" = some none)
    (gabs : PySem.W.nsIn K mainGlobals "abs" = some none)
    (glist : PySem.W.nsIn K mainGlobals "list" = some none)
    (gzip : PySem.W.nsIn K mainGlobals "zip" = some none)
    (gtuple : PySem.W.nsIn K mainGlobals "tuple" = some none)
    (gsum : PySem.W.nsIn K mainGlobals "sum" = some none)
    (vMOST_BYTES : PySem.W.nsIn K mainGlobals "MOST_BYTES" = some (some (Value.int (256) tMOST_BYTES)))
    (vMOST_LETTERS : PySem.W.nsIn K mainGlobals "MOST_LETTERS" = some (some (Value.int (16) tMOST_LETTERS)))
    (vMOST_BRACKETS : PySem.W.nsIn K mainGlobals "MOST_BRACKETS" = some (some (Value.int (16) tMOST_BRACKETS)))
    (vNO_LENGTH : PySem.W.nsIn K mainGlobals "NO_LENGTH" = some (some (Value.int (-1) tNO_LENGTH)))
    (vNO_TEXT : PySem.W.nsIn K mainGlobals "NO_TEXT" = some (some (Value.int (-2) tNO_TEXT)))
    (vNO_ANSWER : PySem.W.nsIn K mainGlobals "NO_ANSWER" = some (some (Value.int (-6) tNO_ANSWER))) :
    ∃ fd : FuncData, (∀ (s : Shared) (us : List Value), us.length = (["text"] : List Str).length → BindsTo s fd ⟨us, []⟩ ((["text"] : List Str).zip us)) ∧ ∀ base : Heap, K.In base → base.Ns mainGlobals mg → FnOk P w K mg base CX0 24 fa fd ["text"] (spFirst K) := by
  have e := hfa.symm.trans (PySem.W.mg_of X G a22)
  cases e
  have T : Txt K mg CP CR := ⟨⟨pgP, hdP, poP, saP⟩, ⟨pgR, hdR, poR, saR⟩, nPsign, nPleft, nPright, nRparts, nRletters, nRones, nRbrackets, nRlatest, PySem.W.mg_of X G aP, PySem.W.mg_of X G aR, PySem.W.mg_none_of X G glen, PySem.W.mg_none_of X G gord, PySem.W.mg_none_of X G grange, PySem.W.mg_none_of X G genumerate, PySem.W.mg_none_of X G gabs, PySem.W.mg_none_of X G glist, PySem.W.mg_none_of X G gzip, PySem.W.mg_none_of X G gtuple, PySem.W.mg_none_of X G gsum, ⟨_, PySem.W.mg_of X G vMOST_BYTES⟩, ⟨_, PySem.W.mg_of X G vMOST_LETTERS⟩, ⟨_, PySem.W.mg_of X G vMOST_BRACKETS⟩, ⟨_, PySem.W.mg_of X G vNO_LENGTH⟩, ⟨_, PySem.W.mg_of X G vNO_TEXT⟩⟩
  have TP : TxtP K mg CC := ⟨⟨pgC, hdC, poC, saC⟩, nCnumbers, nCwaiting, PySem.W.mg_of X G aC⟩
  have TL : TxtL K mg CL := ⟨⟨pgL, hdL, poL, saL⟩, nLlinks, nLplaces, nLpieces, PySem.W.mg_of X G aL⟩
  have FP := fun_mk (st := sPart) lP cP kP
  have bP' := FP.binds (ps := ["self", "sign", "left", "right"]) fun _ _ _ _ _ _ us hl => match us, hl with | [_, _, _, _], _ => rfl
  have MP : Mk K CP fP := ⟨mkP, bP, iP, kcP⟩
  have FR := fun_mk (st := sRding) lR cR kR
  have bR' := FR.binds (ps := ["self"]) fun _ _ _ _ _ _ us hl => match us, hl with | [_], _ => rfl
  have MR : Mk K CR fR := ⟨mkR, bR, iR, kcR⟩
  have FC := fun_mk (st := sPieces) lC cC kC
  have bC' := FC.binds (ps := ["self", "numbers", "waiting"]) fun _ _ _ _ _ _ us hl => match us, hl with | [_, _, _], _ => rfl
  have MC : Mk K CC fC := ⟨mkC, bC, iC, kcC⟩
  have FL := fun_mk (st := sLinking) lL cL kL
  have bL' := FL.binds (ps := ["self", "links", "places", "pieces"]) fun _ _ _ _ _ _ us hl => match us, hl with | [_, _, _, _], _ => rfl
  have ML : Mk K CL fL := ⟨mkL, bL, iL, kcL⟩
  have F0 := fun_mk (st := sIsLetter) l0 c0 k0
  have b0' := F0.binds (ps := ["byte"]) fun _ _ _ _ _ _ us hl => match us, hl with | [_], _ => rfl
  have m0 := PySem.W.mg_of X G a0
  have F1 := fun_mk (st := sFinish) l1 c1 k1
  have b1' := F1.binds (ps := ["reading", "part"]) fun _ _ _ _ _ _ us hl => match us, hl with | [_, _], _ => rfl
  have m1 := PySem.W.mg_of X G a1
  have F2 := fun_mk (st := sBegin) l2 c2 k2
  have b2' := F2.binds (ps := ["reading", "byte"]) fun _ _ _ _ _ _ us hl => match us, hl with | [_, _], _ => rfl
  have m2 := PySem.W.mg_of X G a2
  have F3 := fun_mk (st := sOutside) l3 c3 k3
  have b3' := F3.binds (ps := ["reading", "byte"]) fun _ _ _ _ _ _ us hl => match us, hl with | [_, _], _ => rfl
  have m3 := PySem.W.mg_of X G a3
  have F4 := fun_mk (st := sSecond) l4 c4 k4
  have b4' := F4.binds (ps := ["reading", "byte"]) fun _ _ _ _ _ _ us hl => match us, hl with | [_, _], _ => rfl
  have m4 := PySem.W.mg_of X G a4
  have F5 := fun_mk (st := sClose) l5 c5 k5
  have b5' := F5.binds (ps := ["reading", "byte"]) fun _ _ _ _ _ _ us hl => match us, hl with | [_, _], _ => rfl
  have m5 := PySem.W.mg_of X G a5
  have F6 := fun_mk (st := sByte) l6 c6 k6
  have b6' := F6.binds (ps := ["reading", "byte"]) fun _ _ _ _ _ _ us hl => match us, hl with | [_, _], _ => rfl
  have m6 := PySem.W.mg_of X G a6
  have F7 := fun_mk (st := sText) l7 c7 k7
  have b7' := F7.binds (ps := ["text"]) fun _ _ _ _ _ _ us hl => match us, hl with | [_], _ => rfl
  have m7 := PySem.W.mg_of X G a7
  have F8 := fun_mk (st := sTurned) l8 c8 k8
  have b8' := F8.binds (ps := ["one", "other"]) fun _ _ _ _ _ _ us hl => match us, hl with | [_, _], _ => rfl
  have m8 := PySem.W.mg_of X G a8
  have F9 := fun_mk (st := sRefT) l9 c9 k9
  have b9' := F9.binds (ps := ["text", "reading"]) fun _ _ _ _ _ _ us hl => match us, hl with | [_, _], _ => rfl
  have m9 := PySem.W.mg_of X G a9
  have F10 := fun_mk (st := sJoin) l10 c10 k10
  have b10' := F10.binds (ps := ["numbers", "one", "other"]) fun _ _ _ _ _ _ us hl => match us, hl with | [_, _, _], _ => rfl
  have m10 := PySem.W.mg_of X G a10
  have F11 := fun_mk (st := sSettle) l11 c11 k11
  have b11' := F11.binds (ps := ["reading", "numbers", "waiting"]) fun _ _ _ _ _ _ us hl => match us, hl with | [_, _, _], _ => rfl
  have m11 := PySem.W.mg_of X G a11
  have F12 := fun_mk (st := sAdd) l12 c12 k12
  have b12' := F12.binds (ps := ["reading", "pieces", "one", "other"]) fun _ _ _ _ _ _ us hl => match us, hl with | [_, _, _, _], _ => rfl
  have m12 := PySem.W.mg_of X G a12
  have F13 := fun_mk (st := sStart) l13 c13 k13
  have b13' := F13.binds (ps := ["reading"]) fun _ _ _ _ _ _ us hl => match us, hl with | [_], _ => rfl
  have m13 := PySem.W.mg_of X G a13
  have F14 := fun_mk (st := sIsProof) l14 c14 k14
  have b14' := F14.binds (ps := ["pieces"]) fun _ _ _ _ _ _ us hl => match us, hl with | [_], _ => rfl
  have m14 := PySem.W.mg_of X G a14
  have F15 := fun_mk (st := sLk0) l15 c15 k15
  have b15' := F15.binds (ps := ["reading"]) fun _ _ _ _ _ _ us hl => match us, hl with | [_], _ => rfl
  have m15 := PySem.W.mg_of X G a15
  have F16 := fun_mk (st := sCan) l16 c16 k16
  have b16' := F16.binds (ps := ["reading"]) fun _ _ _ _ _ _ us hl => match us, hl with | [_], _ => rfl
  have m16 := PySem.W.mg_of X G a16
  have F17 := fun_mk (st := sRing) l17 c17 k17
  have b17' := F17.binds (ps := ["reading", "pieces"]) fun _ _ _ _ _ _ us hl => match us, hl with | [_, _], _ => rfl
  have m17 := PySem.W.mg_of X G a17
  have F18 := fun_mk (st := sAddLink) l18 c18 k18
  have b18' := F18.binds (ps := ["reading", "linking", "place", "other"]) fun _ _ _ _ _ _ us hl => match us, hl with | [_, _, _, _], _ => rfl
  have m18 := PySem.W.mg_of X G a18
  have F19 := fun_mk (st := sFurther) l19 c19 k19
  have b19' := F19.binds (ps := ["reading", "linking"]) fun _ _ _ _ _ _ us hl => match us, hl with | [_, _], _ => rfl
  have m19 := PySem.W.mg_of X G a19
  have F20 := fun_mk (st := sKey) l20 c20 k20
  have b20' := F20.binds (ps := ["reading", "linking"]) fun _ _ _ _ _ _ us hl => match us, hl with | [_, _], _ => rfl
  have m20 := PySem.W.mg_of X G a20
  have F21 := fun_mk (st := sFind) l21 c21 k21
  have b21' := F21.binds (ps := ["reading", "linking", "dead"]) fun _ _ _ _ _ _ us hl => match us, hl with | [_, _, _], _ => rfl
  have m21 := PySem.W.mg_of X G a21
  have F22 := fun_mk (st := sFst) l22 c22 k22
  have b22' := F22.binds (ps := ["text"]) fun _ _ _ _ _ _ us hl => match us, hl with | [_], _ => rfl
  have m22 := PySem.W.mg_of X G a22
  refine ⟨PySem.W.fnOf "first" "first" (defArgs sFst) (defBody sFst) (defScope sFst) .none kV22 dc22 pm22 an22 cd22 ct22, fun s us hu => match us, hu with | [_], _ => .of_eq rfl, fun base _ _ => ?_⟩
  have GB : FnOk P w K mg base CX0 4 f6 _ ["reading", "byte"] (spByte CP CR) := ok_byte F6 T (ok_begin F2 T F0 b0' m0 F1 b1' m1 FP bP' MP) k2 b2' m2 (ok_outside F3 T) k3 b3' m3 (ok_second F4 T) k4 b4' m4 (ok_close F5 T F1 b1' m1 FP bP' MP) k5 b5' m5
  have GT : FnOk P w K mg base CX0 5 f7 _ ["text"] (spText K CP CR) := ok_text F7 T FR bR' MR GB k6 b6' m6
  have GS : FnOk P w K mg base CX0 3 f11 _ ["reading", "numbers", "waiting"] (spSettle CP CR CC) := ok_settle F11 T TP F10 b10' m10 FC bC' MC
  have GA : FnOk P w K mg base CX0 4 f12 _ ["reading", "pieces", "one", "other"] (spAdd CP CR CC) := ok_add F12 T TP F10 b10' m10 GS k11 b11' m11
  have GW : FnOk P w K mg base CX0 3 f13 _ ["reading"] (spStart CP CR CC) := ok_start F13 T TP F10 b10' m10 FC bC' MC
  have G0 : FnOk P w K mg base CX0 4 f15 _ ["reading"] (spLk0 CP CR CC CL) := ok_lk0 F15 T TL FL bL' ML GW k13 b13' m13
  have GL : FnOk P w K mg base CX0 5 f18 _ ["reading", "linking", "place", "other"] (spAddLink CP CR CC CL) := ok_addLink F18 T TP TL GA k12 b12' m12 F17 b17' m17 FL bL' ML
  have GU : FnOk P w K mg base CX0 6 f19 _ ["reading", "linking"] (spFurther CP CR CC CL) := ok_further F19 T TL F8 b8' m8 GL k18 b18' m18
  have GF : FnOk P w K mg base CX0 23 f21 _ ["reading", "linking", "dead"] (spFind CP CR CC CL 17) := ok_find F21 T TP TL b21' m21 F14 b14' m14 F20 b20' m20 GU k19 b19' m19 17
  exact ok_first F22 T ⟨_, PySem.W.mg_of X G vNO_ANSWER⟩ GT k7 b7' m7 F9 b9' m9 F16 b16' m16 G0 k15 b15' m15 GF k21 b21' m21
end Nt
end
set_option Elab.async false
set_option linter.all false
set_option maxRecDepth 100000
set_option maxHeartbeats 4000000
namespace Nt
open PySem PySem.Spec PyProof.Rows L2
open PySem.W (Codec)
theorem arg_of {K : PySem.W.Frag} {H : Hp} {a : Addr} {xs : List V} (hO : OnlyF H) (h : SqL K H a xs) : ArgL K H a xs := by
  rcases h with (h | ⟨o, h⟩) | h
  · rcases hO a with z | ⟨o, u, z⟩
    · rw [h] at z
      cases z
    · rw [h] at z
      cases z
  · exact .inl ⟨o, h⟩
  · exact .inr h
theorem nats_of : ∀ (l : List Int), (∀ z ∈ l, 0 ≤ z) → l.map V.int = (l.map Int.toNat).map nV
  | [], _ => rfl
  | z :: r, h => by
    rw [List.map_cons, List.map_cons, List.map_cons, nats_of r fun y hy => h y (List.mem_cons_of_mem _ hy)]
    have := h z (List.mem_cons_self ..)
    rw [show nV z.toNat = V.int z from congrArg V.int (Int.toNat_of_nonneg this)]
theorem between_ok (n m : Nat) (h : n ≤ m) : Md26.between (n : Int) m = true := by
  unfold Md26.between
  simp
  omega
theorem due (text : List Int) (h1 : text.length ≤ 256) : PyMd26.first text = firstZ (text.map Int.toNat) := by
  have e : ∀ y : Md26.Ans, y = Md26.answer (.first (text.map Int.toNat) (text.length : Int)) → PyMd26.first text = y.value :: y.nums.map fun (x : Nat) => (x : Int) := fun y h => by
    subst h
    rfl
  have b : Md26.between (text.length : Int) Md26.TEXT = true := between_ok _ Md26.TEXT h1
  rw [e _ rfl]
  show (if Md26.between (text.length : Int) Md26.TEXT = false then _ else _ : Md26.Ans).value :: List.map _ (if Md26.between (text.length : Int) Md26.TEXT = false then _ else _ : Md26.Ans).nums = _
  rw [b, if_neg (by intro z; cases z)]
  unfold Md26.on firstZ
  cases Md26.read (text.map Int.toNat) with
  | none => rfl
  | some r =>
    dsimp only
    cases Md26.firstOf (Md26.proofs r) <;> rfl
end Nt
open PySem PySem.W PyProof.Rows
set_option maxRecDepth 100000 in
set_option maxHeartbeats 0 in
theorem PySem.Challenge.cw_linkgrounds_s03_first_holds : PySem.Challenge.rw_linkgrounds_s03_first.Holds := by
  w_on; k_headS; (case hw => exact ⟨[.list []], by decide +kernel, by decide +kernel⟩)
  k_fillS
  refine L2.walk_specK (r := PySem.Challenge.rw_linkgrounds_s03_first) (k := 24) (CX := L2.CX0) (ps := ["text"]) (sp := Nt.spFirst) (by decide +kernel) rfl rfl ⟨rfl, by decide, by decide⟩ (fun w h Y => PySem.W.kIn_of Y) ?F ?S (fun _ _ _ _ z => z)
  case F =>
    intro w mg fa h Y KX G hmg
    refine' Nt.all_mk KX G hmg ?aP ?bP ?iP ?lP ?cP ?kP ?pgP ?hdP ?poP ?saP ?mkP ?kcP ?aR ?bR ?iR ?lR ?cR ?kR ?pgR ?hdR ?poR ?saR ?mkR ?kcR ?aC ?bC ?iC ?lC ?cC ?kC ?pgC ?hdC ?poC ?saC ?mkC ?kcC ?aL ?bL ?iL ?lL ?cL ?kL ?pgL ?hdL ?poL ?saL ?mkL ?kcL ?a0 ?l0 ?c0 ?k0 ?a1 ?l1 ?c1 ?k1 ?a2 ?l2 ?c2 ?k2 ?a3 ?l3 ?c3 ?k3 ?a4 ?l4 ?c4 ?k4 ?a5 ?l5 ?c5 ?k5 ?a6 ?l6 ?c6 ?k6 ?a7 ?l7 ?c7 ?k7 ?a8 ?l8 ?c8 ?k8 ?a9 ?l9 ?c9 ?k9 ?a10 ?l10 ?c10 ?k10 ?a11 ?l11 ?c11 ?k11 ?a12 ?l12 ?c12 ?k12 ?a13 ?l13 ?c13 ?k13 ?a14 ?l14 ?c14 ?k14 ?a15 ?l15 ?c15 ?k15 ?a16 ?l16 ?c16 ?k16 ?a17 ?l17 ?c17 ?k17 ?a18 ?l18 ?c18 ?k18 ?a19 ?l19 ?c19 ?k19 ?a20 ?l20 ?c20 ?k20 ?a21 ?l21 ?c21 ?k21 ?a22 ?l22 ?c22 ?k22 ?nPsign ?nPleft ?nPright ?nRparts ?nRletters ?nRones ?nRbrackets ?nRlatest ?nCnumbers ?nCwaiting ?nLlinks ?nLplaces ?nLpieces ?glen ?gord ?grange ?genumerate ?gabs ?glist ?gzip ?gtuple ?gsum ?vMOST_BYTES ?vMOST_LETTERS ?vMOST_BRACKETS ?vNO_LENGTH ?vNO_TEXT ?vNO_ANSWER
    (case aP => k_is)
    (case bP => k_is)
    (case iP => k_is)
    (case lP => k_is)
    (case cP => k_is)
    (case kP => k_is)
    (case pgP => k_is)
    (case hdP => k_is)
    (case poP => k_is)
    (case saP => k_is)
    (case mkP => k_is)
    (case kcP => k_is)
    (case aR => k_is)
    (case bR => k_is)
    (case iR => k_is)
    (case lR => k_is)
    (case cR => k_is)
    (case kR => k_is)
    (case pgR => k_is)
    (case hdR => k_is)
    (case poR => k_is)
    (case saR => k_is)
    (case mkR => k_is)
    (case kcR => k_is)
    (case aC => k_is)
    (case bC => k_is)
    (case iC => k_is)
    (case lC => k_is)
    (case cC => k_is)
    (case kC => k_is)
    (case pgC => k_is)
    (case hdC => k_is)
    (case poC => k_is)
    (case saC => k_is)
    (case mkC => k_is)
    (case kcC => k_is)
    (case aL => k_is)
    (case bL => k_is)
    (case iL => k_is)
    (case lL => k_is)
    (case cL => k_is)
    (case kL => k_is)
    (case pgL => k_is)
    (case hdL => k_is)
    (case poL => k_is)
    (case saL => k_is)
    (case mkL => k_is)
    (case kcL => k_is)
    (case a0 => k_is)
    (case l0 => k_is)
    (case c0 => k_is)
    (case k0 => k_is)
    (case a1 => k_is)
    (case l1 => k_is)
    (case c1 => k_is)
    (case k1 => k_is)
    (case a2 => k_is)
    (case l2 => k_is)
    (case c2 => k_is)
    (case k2 => k_is)
    (case a3 => k_is)
    (case l3 => k_is)
    (case c3 => k_is)
    (case k3 => k_is)
    (case a4 => k_is)
    (case l4 => k_is)
    (case c4 => k_is)
    (case k4 => k_is)
    (case a5 => k_is)
    (case l5 => k_is)
    (case c5 => k_is)
    (case k5 => k_is)
    (case a6 => k_is)
    (case l6 => k_is)
    (case c6 => k_is)
    (case k6 => k_is)
    (case a7 => k_is)
    (case l7 => k_is)
    (case c7 => k_is)
    (case k7 => k_is)
    (case a8 => k_is)
    (case l8 => k_is)
    (case c8 => k_is)
    (case k8 => k_is)
    (case a9 => k_is)
    (case l9 => k_is)
    (case c9 => k_is)
    (case k9 => k_is)
    (case a10 => k_is)
    (case l10 => k_is)
    (case c10 => k_is)
    (case k10 => k_is)
    (case a11 => k_is)
    (case l11 => k_is)
    (case c11 => k_is)
    (case k11 => k_is)
    (case a12 => k_is)
    (case l12 => k_is)
    (case c12 => k_is)
    (case k12 => k_is)
    (case a13 => k_is)
    (case l13 => k_is)
    (case c13 => k_is)
    (case k13 => k_is)
    (case a14 => k_is)
    (case l14 => k_is)
    (case c14 => k_is)
    (case k14 => k_is)
    (case a15 => k_is)
    (case l15 => k_is)
    (case c15 => k_is)
    (case k15 => k_is)
    (case a16 => k_is)
    (case l16 => k_is)
    (case c16 => k_is)
    (case k16 => k_is)
    (case a17 => k_is)
    (case l17 => k_is)
    (case c17 => k_is)
    (case k17 => k_is)
    (case a18 => k_is)
    (case l18 => k_is)
    (case c18 => k_is)
    (case k18 => k_is)
    (case a19 => k_is)
    (case l19 => k_is)
    (case c19 => k_is)
    (case k19 => k_is)
    (case a20 => k_is)
    (case l20 => k_is)
    (case c20 => k_is)
    (case k20 => k_is)
    (case a21 => k_is)
    (case l21 => k_is)
    (case c21 => k_is)
    (case k21 => k_is)
    (case a22 => k_is)
    (case l22 => k_is)
    (case c22 => k_is)
    (case k22 => k_is)
    (case nPsign => k_is)
    (case nPleft => k_is)
    (case nPright => k_is)
    (case nRparts => k_is)
    (case nRletters => k_is)
    (case nRones => k_is)
    (case nRbrackets => k_is)
    (case nRlatest => k_is)
    (case nCnumbers => k_is)
    (case nCwaiting => k_is)
    (case nLlinks => k_is)
    (case nLplaces => k_is)
    (case nLpieces => k_is)
    (case glen => k_is)
    (case gord => k_is)
    (case grange => k_is)
    (case genumerate => k_is)
    (case gabs => k_is)
    (case glist => k_is)
    (case gzip => k_is)
    (case gtuple => k_is)
    (case gsum => k_is)
    (case vMOST_BYTES => k_is)
    (case vMOST_LETTERS => k_is)
    (case vMOST_BRACKETS => k_is)
    (case vNO_LENGTH => k_is)
    (case vNO_TEXT => k_is)
    (case vNO_ANSWER => k_is)
  case S =>
    intro K H xs a hO hwi hask hx
    cases hx with
    | cons h1 h2 =>
      cases h2
      cases h1 with
      | lst hs1 ha1 =>
        have e1 := L2.ints_dw a.1 _ ha1
        subst e1
        have q : ((Codec.inLen 0 256 a.1 && a.1.all (Codec.inInt 0 255)) && true) = true := hwi
        rw [Bool.and_eq_true, Bool.and_eq_true] at q
        obtain ⟨⟨q1, q2⟩, _⟩ := q
        have l1 := (Codec.inNat_iff.mp q1).2
        have p1 : ∀ z ∈ a.1, (0 : Int) ≤ z := fun z hz => (Codec.inInt_iff.mp (List.all_eq_true.mp q2 z hz)).1
        have w1 := Nt.arg_of hO hs1
        rw [Nt.nats_of _ p1] at w1
        refine ⟨_, a.1.map Int.toNat, rfl, w1, (by rw [List.length_map]; exact l1), fun H' p hp => ?_⟩
        show L2.Dw K H' (L2.V.ref p) (WData.list ((PyMd26.first a.1).map WData.int))
        rw [Nt.due _ l1]
        exact .lst (L2.SqL.of hp) (L2.dw_ints _)
#print axioms PySem.Challenge.cw_linkgrounds_s03_first_holds
