import PyProof.Rows.All
import Wide.All
import OpenK.AllK
import Wide.FinOn
import PyProof.EqAt
import PyProof.EqKinds
import PyProof.TupleCall
import KE.BitLaws
import Open.SpecLaws
import KE.OsHead
import KE.OsGo
import PySem.Challenge.RW_netcuts_s01_answers
set_option Elab.async false
set_option linter.all false
set_option maxRecDepth 100000
/-! THE HAND LAYER, for ints, bools, texts, own classes, lists, tuples, dicts, comprehensions, walks over dicts, enumerate, zip, reversed, texts, calls, loops. Paste it whole ahead of your own text; what your proof does not reach may be deleted. -/
namespace L2
open PySem PySem.Spec PyProof.Rows
/-- a key: an int or a str -/
abbrev Key := Sum Int Str
def keyIs : Key → Value → Bool
  | .inl k, v => Value.isInt k v
  | .inr x, v => Value.isStrOf x v
def keyH (w : World) : Key → Int
  | .inl k => hashInt k
  | .inr x => hashStr w x
theorem keyIs_shape : ∀ {k : Key} {v : Value}, keyIs k v = true → (∃ i t, k = Sum.inl i ∧ v = Value.int i t) ∨ (∃ x t, k = Sum.inr x ∧ v = Value.str x t)
  | .inl i, v, h => by
    obtain ⟨t, e⟩ := Value.isInt_shape (k := i) (v := v) h
    exact .inl ⟨i, t, rfl, e⟩
  | .inr x, v, h => by
    obtain ⟨t, e⟩ := Value.isStrOf_shape (x := x) (v := v) h
    exact .inr ⟨x, t, rfl, e⟩
theorem keyIs_int (i : Int) (t : Tok) : keyIs (.inl i) (.int i t) = true := by simp [keyIs, Value.isInt]
theorem keyIs_str (x : Str) (t : Tok) : keyIs (.inr x) (.str x t) = true := by simp [keyIs, Value.isStrOf]
theorem key_ll (a b : Int) : decide ((Sum.inl a : Key) = Sum.inl b) = (a == b) := by
  by_cases e : a = b
  · subst e; simp
  · have h : ¬ (Sum.inl a : Key) = Sum.inl b := fun q => e (Sum.inl.inj q)
    rw [decide_eq_false h]
    exact (beq_eq_false_iff_ne.mpr e).symm
theorem key_rr (a b : Str) : decide ((Sum.inr a : Key) = Sum.inr b) = decide (a = b) := by
  by_cases e : a = b
  · subst e; simp
  · have h : ¬ (Sum.inr a : Key) = Sum.inr b := fun q => e (Sum.inr.inj q)
    rw [decide_eq_false h, decide_eq_false e]
theorem key_lr (a : Int) (b : Str) : decide ((Sum.inl a : Key) = Sum.inr b) = false := decide_eq_false (fun q => nomatch q)
theorem key_rl (a : Str) (b : Int) : decide ((Sum.inr a : Key) = Sum.inl b) = false := decide_eq_false (fun q => nomatch q)
def mixKind (prog : Program) (w : World) : PySem.KeyKind prog w Key where
  is := keyIs
  hash := keyH w
  inj := fun v a b ha hb => by
    rcases keyIs_shape ha with ⟨i, t, rfl, rfl⟩ | ⟨x, t, rfl, rfl⟩
    · rcases keyIs_shape hb with ⟨j, u, rfl, e⟩ | ⟨y, u, rfl, e⟩
      · injection e with e1 _; rw [e1]
      · exact nomatch e
    · rcases keyIs_shape hb with ⟨j, u, rfl, e⟩ | ⟨y, u, rfl, e⟩
      · exact nomatch e
      · injection e with e1 _; rw [e1]
  byValue := fun k v h => by
    rcases keyIs_shape h with ⟨i, t, rfl, rfl⟩ | ⟨x, t, rfl, rfl⟩ <;> rfl
  pyHash := fun hv h => by
    rcases keyIs_shape hv with ⟨i, t, rfl, rfl⟩ | ⟨x, t, rfl, rfl⟩
    · exact wpAny_pyHash_int h
    · exact wpAny_pyHash_str h
  eqBool := fun hu hv h => by
    rcases keyIs_shape hu with ⟨i, t, rfl, rfl⟩ | ⟨x, t, rfl, rfl⟩
    · rcases keyIs_shape hv with ⟨j, u, rfl, rfl⟩ | ⟨y, u, rfl, rfl⟩
      · rw [key_ll] at h; exact wpAny_eqBool_int h
      · rw [key_lr] at h; exact SeqAt.EqAt.int_str i t y u _ _ _ _ h
    · rcases keyIs_shape hv with ⟨j, u, rfl, rfl⟩ | ⟨y, u, rfl, rfl⟩
      · rw [key_rl] at h; exact SeqAt.EqAt.str_int x t j u _ _ _ _ h
      · rw [key_rr] at h; exact wpAny_eqBool_str h
  «strs» := fun k x t v h => by
    rcases keyIs_shape h with ⟨i, u, rfl, e⟩ | ⟨y, u, rfl, e⟩
    · exact nomatch e
    · injection e with e1 _
      subst e1
      cases v <;> rfl
theorem mixKind_int (prog : Program) (w : World) (i : Int) (t : Tok) : (mixKind prog w).is (.inl i) (.int i t) = true := keyIs_int i t
theorem mixKind_str (prog : Program) (w : World) (x : Str) (t : Tok) : (mixKind prog w).is (.inr x) (.str x t) = true := keyIs_str x t
end L2
namespace L2
open PySem PySem.Spec PyProof.Rows
/-- a value, without the heap -/
inductive V where
  | non | bl (b : Bool) | int (i : Int) | str (x : Str) | byt (b : Array UInt8) | flt (b : UInt64) | ref (a : Addr) | ty (n : String)
  deriving DecidableEq
def RelV : V → Value → Prop
  | .non, u => u = Value.none
  | .bl b, u => u = Value.bool b
  | .int i, u => ∃ t, u = Value.int i t
  | .str x, u => ∃ t, u = Value.str x t
  | .byt b, u => ∃ t, u = Value.bytes b t
  | .flt b, u => ∃ t, u = Value.float b t
  | .ref a, u => u = Value.ref a
  | .ty n, u => u = Value.type n
abbrev Vals : List V → List Value → Prop := Paired RelV
theorem Vals.length {xs : List V} {us : List Value} (r : Vals xs us) : xs.length = us.length := Paired.length r
theorem Vals.get : ∀ {xs : List V} {us : List Value} {i : Nat} {x : V}, Vals xs us → xs[i]? = some x → ∃ u, us[i]? = some u ∧ RelV x u
  | _, _, _, _, .nil, e => by simp at e
  | _, _, 0, _, .cons r _, e => by simp at e; subst e; exact ⟨_, rfl, r⟩
  | _, _, i + 1, x, .cons _ t, e => by
    obtain ⟨u, h1, h2⟩ := Vals.get (i := i) (x := x) t (by simpa using e)
    exact ⟨u, by simpa using h1, h2⟩
theorem Vals.append : ∀ {xs ys : List V} {us ws : List Value}, Vals xs us → Vals ys ws → Vals (xs ++ ys) (us ++ ws)
  | _, _, _, _, .nil, s => s
  | _, _, _, _, .cons r t, s => .cons r (Vals.append t s)
theorem Vals.take : ∀ {xs : List V} {us : List Value} (n : Nat), Vals xs us → Vals (xs.take n) (us.take n)
  | _, _, 0, _ => .nil
  | _, _, _ + 1, .nil => .nil
  | _, _, n + 1, .cons r t => .cons r (Vals.take n t)
theorem Vals.drop : ∀ {xs : List V} {us : List Value} (n : Nat), Vals xs us → Vals (xs.drop n) (us.drop n)
  | _, _, 0, r => r
  | _, _, _ + 1, .nil => .nil
  | _, _, n + 1, .cons _ t => Vals.drop n t
def RelO : Option V → Option Value → Prop
  | some v, some u => RelV v u
  | none, none => True
  | _, _ => False
def KV {κ : Type} : List (κ × V) → List (κ × Value) → Prop := Paired fun (p : κ × V) (q : κ × Value) => p.1 = q.1 ∧ RelV p.2 q.2
/-- a key of a dict (00_mix): an int or a text -/
def kV : Key → V
  | .inl i => .int i
  | .inr x => .str x
/-- what stands at a tracked address -/
inductive HO where
  /-- a list -/
  | lst (xs : List V)
  /-- a tuple (never changes) -/
  | tup (xs : List V)
  /-- a dict whose keys are ints and texts; one whose keys are tuples of ints and texts (the empty one is both) -/
  | dK (kvs : List (Key × V)) | dT (kvs : List (List Key × V))
  /-- a set of ints: its members, its size -/
  | set (S : Int → Bool) (n : Nat)
  /-- an instance of the class at C, its dict at dx, its attributes -/
  | ins (C dx : Addr) (fs : List (Str × V))
  /-- the dict of the instance at x -/
  | own (x : Addr)
  /-- the dict of an exception -/
  | xd (fs : List (Str × V))
  /-- a bound method, f of x -/
  | met (f x : Addr)
  /-- a range object lo, lo + 1, .. below hi -/
  | rng (lo hi : Int)
  /-- a thing that is known to the object (the script; a dict while a loop walks it): read, never written while it is so -/
  | frz (o : Obj) (u : HO)
  /-- a code object's table -/
  | tbl (ps : Array Value)
  /-- any other thing, by what is true of its one object (a def of one's own: SetO a S n := HO.ext fun h => ..) -/
  | ext (φ : Heap → Prop)
abbrev Hp := Addr → Option HO
def upd (H : Hp) (a : Addr) (o : HO) : Hp := fun b => if b = a then some o else H b
theorem upd_same {H : Hp} {a : Addr} {o : HO} : upd H a o a = some o := by unfold upd; rw [if_pos rfl]
theorem upd_ne {H : Hp} {a b : Addr} {o : HO} (h : b ≠ a) : upd H a o b = H b := by unfold upd; rw [if_neg h]
theorem upd_upd {H : Hp} {a : Addr} {o u : HO} : upd (upd H a o) a u = upd H a u := by
  funext b; unfold upd; split <;> rfl
/-- two objects of different content stand apart -/
theorem ne_of {H : Hp} {a b : Addr} {o u : HO} (h : H a = some o) (h' : H b = some u) (d : o ≠ u) : a ≠ b := by
  intro e; subst e; rw [h] at h'; exact d (Option.some.inj h')
theorem ne_of_none {H : Hp} {a b : Addr} {o : HO} (h : H a = some o) (h' : H b = none) : a ≠ b := by
  intro e; subst e; rw [h] at h'; cases h'
section
variable (P : Program) (w : World)
def ObjOk (H : Hp) (h : Heap) (a : Addr) : HO → Prop
  | .lst xs => xs.length ≤ sizeLine ∧ ∃ (its : List Value) (n : Nat), Vals xs its ∧ h.get? a = some { cls := .type "list", data := .seq its.toArray n }
  | .tup xs => xs.length ≤ sizeLine ∧ ∃ its : List Value, Vals xs its ∧ IsTup h a its.toArray
  | .dK kvs => kvs.length ≤ sizeLine ∧ (a == sysModules) = false ∧ ∃ vs, KV kvs vs ∧ h.DictOf (mixKind P w) a vs
  | .dT kvs => kvs.length ≤ sizeLine ∧ (a == sysModules) = false ∧ ∃ xs : List (List Key × Addr × Value),
      Paired (fun (p : List Key × V) (q : List Key × Addr × Value) => p.1 = q.1 ∧ H q.2.1 = some (.tup (p.1.map kV)) ∧ RelV p.2 q.2.2) kvs xs ∧
      ∃ o es ep, h.get? a = some o ∧ o.ExactDict ∧ o.data = .dict es ep ∧ es.toList = xs.map (entryOfKey (tupleKind (mixKind P w))) ∧ (xs.map (·.1)).Nodup
  | .set S n => h.SetOf (intKind P w) a S n
  | .ins C dx fs => H dx = some (.own a) ∧ fs.length ≤ 1000 ∧ dx ≠ a ∧ h.get? a = some (PySem.W.instObj C dx) ∧
      ∃ mA, h.Ns1 dx mA ∧ (∀ f, RelO (fs.lookup f) (mA f)) ∧ PySem.Within mA (fs.map (·.1))
  | .own _ => ∃ o, h.get? a = some o
  | .xd fs => ∃ mA, h.Ns1 a mA ∧ ∀ f, RelO (fs.lookup f) (mA f)
  | .rng lo hi => ∃ t u v, h.get? a = some { cls := .type "range", data := .fields #[.int lo t, .int hi u, .int 1 v] }
  | .frz o u => h.get? a = some o ∧ ObjOk H h a u
  | .tbl ps => h.get? a = some { cls := .none, data := .fields ps }
  | .met f x => h.get? a = some (PySem.W.methodObj (.ref f) (.ref x))
  | .ext φ => φ h ∧ (∃ o, h.get? a = some o) ∧ ∀ h1 h2 : Heap, φ h1 → (∀ o, h1.get? a = some o → h2.get? a = some o) → φ h2
/-- the abstract heap is held -/
def HOk (H : Hp) (h : Heap) : Prop := ∀ a o, H a = some o → ObjOk P w H h a o
end
section
variable {P : Program} {w : World} {H H' : Hp} {h h' : Heap} {a : Addr} {o : HO}
theorem ObjOk.lt (x : ObjOk P w H h a o) : a < h.objs.size := by
  cases o with
  | lst xs => obtain ⟨_, _, _, _, e⟩ := x; exact Heap.lt_size e
  | tup xs => obtain ⟨_, _, _, p⟩ := x; exact p.lt
  | dK kvs => obtain ⟨_, _, _, _, o, _, _, e, _⟩ := x; exact Heap.lt_size e
  | dT kvs => obtain ⟨_, _, _, _, o, _, _, e, _⟩ := x; exact Heap.lt_size e
  | set S n => obtain ⟨o, _, _, _, e, _⟩ := x; exact Heap.lt_size e
  | ins C dx fs => obtain ⟨_, _, _, e, _⟩ := x; exact Heap.lt_size e
  | own y => obtain ⟨_, e⟩ := x; exact Heap.lt_size e
  | xd fs => obtain ⟨_, ⟨_, _, _, e, _⟩, _⟩ := x; exact Heap.lt_size e
  | rng lo hi => obtain ⟨_, _, _, e⟩ := x; exact Heap.lt_size e
  | frz ob u => obtain ⟨e, _⟩ := x; exact Heap.lt_size e
  | tbl ps => exact Heap.lt_size (show h.get? a = some _ from x)
  | met f y => exact Heap.lt_size (show h.get? a = some _ from x)
  | ext φ => obtain ⟨_, ⟨_, e⟩, _⟩ := x; exact Heap.lt_size e
theorem Paired.mapP {α β : Type} {F G : α → β → Prop} : ∀ {l₁ : List α} {l₂ : List β}, Paired F l₁ l₂ → (∀ a b, F a b → G a b) → Paired G l₁ l₂
  | _, _, .nil, _ => .nil
  | _, _, .cons r t, f => .cons (f _ _ r) (Paired.mapP t f)
/-- what an object's description leans on: its own object, its own dict, the tuples -/
theorem ObjOk.stay (x : ObjOk P w H h a o) (k : ∀ b u, (b = a ∨ H b = some (.own a)) → h.get? b = some u → h'.get? b = some u)
    (ho : ∀ b, H b = some (.own a) → H' b = some (.own a)) (ht : ∀ b xs, H b = some (.tup xs) → H' b = some (.tup xs)) : ObjOk P w H' h' a o := by
  induction o with
  | lst xs => obtain ⟨z, its, n, r, e⟩ := x; exact ⟨z, its, n, r, k _ _ (.inl rfl) e⟩
  | tup xs => obtain ⟨z, its, r, ob, e, c⟩ := x; exact ⟨z, its, r, ob, k _ _ (.inl rfl) e, c⟩
  | dK kvs => obtain ⟨z, y, vs, r, ob, es, ep, e, c⟩ := x; exact ⟨z, y, vs, r, ob, es, ep, k _ _ (.inl rfl) e, c⟩
  | dT kvs =>
    obtain ⟨z, y, xs, r, ob, es, ep, e, c⟩ := x
    exact ⟨z, y, xs, Paired.mapP r fun p q z => ⟨z.1, ht _ _ z.2.1, z.2.2⟩, ob, es, ep, k _ _ (.inl rfl) e, c⟩
  | set S n => obtain ⟨ob, es, ep, t, e, c⟩ := x; exact ⟨ob, es, ep, t, k _ _ (.inl rfl) e, c⟩
  | ins C dx fs =>
    obtain ⟨d, z, ne, e, mA, ⟨od, es, ep, e2, c⟩, r⟩ := x
    exact ⟨ho _ d, z, ne, k _ _ (.inl rfl) e, mA, ⟨od, es, ep, k _ _ (.inr d) e2, c⟩, r⟩
  | own y => obtain ⟨ob, e⟩ := x; exact ⟨ob, k _ _ (.inl rfl) e⟩
  | xd fs => obtain ⟨mA, ⟨od, es, ep, e, c⟩, r⟩ := x; exact ⟨mA, ⟨od, es, ep, k _ _ (.inl rfl) e, c⟩, r⟩
  | rng lo hi => obtain ⟨t, u, v, e⟩ := x; exact ⟨t, u, v, k _ _ (.inl rfl) e⟩
  | frz ob u ih => obtain ⟨e, q⟩ := x; exact ⟨k _ _ (.inl rfl) e, ih q⟩
  | tbl ps =>
    have e : h.get? a = some { cls := .none, data := .fields ps } := x
    show h'.get? a = some { cls := .none, data := .fields ps }
    exact k a _ (.inl rfl) e
  | met f y =>
    have e : h.get? a = some (PySem.W.methodObj (.ref f) (.ref y)) := x
    show h'.get? a = some (PySem.W.methodObj (.ref f) (.ref y))
    exact k a _ (.inl rfl) e
  | ext φ => obtain ⟨p, ⟨o, e⟩, st⟩ := x; exact ⟨st _ _ p fun o q => k _ _ (.inl rfl) q, ⟨o, k _ _ (.inl rfl) e⟩, st⟩
theorem HOk.lt (x : HOk P w H h) (e : H a = some o) : a < h.objs.size := (x a o e).lt
theorem HOk.fresh (x : HOk P w H h) (e : h.objs.size ≤ a) : H a = none := by
  cases q : H a with
  | none => rfl
  | some u => exact absurd (Nat.lt_of_lt_of_le (x.lt q) e) (Nat.lt_irrefl _)
/-- every object of the heap is kept -/
theorem HOk.kept (x : HOk P w H h) (k : ∀ b u, h.get? b = some u → h'.get? b = some u) : HOk P w H h' := fun a o e =>
  (x a o e).stay (fun b u _ q => k b u q) (fun _ q => q) fun _ _ q => q
/-- a new object is laid and tracked -/
theorem HOk.laid (x : HOk P w H h) (k : ∀ b u, h.get? b = some u → h'.get? b = some u) (hp : h.objs.size ≤ a) (new : ObjOk P w (upd H a o) h' a o) : HOk P w (upd H a o) h' := fun b u e => by
  have hn := x.fresh hp
  by_cases hb : b = a
  · subst hb; rw [upd_same] at e; cases e; exact new
  · rw [upd_ne hb] at e
    exact (x b u e).stay (fun c v _ q => k c v q) (fun c q => by rw [upd_ne (ne_of_none q hn)]; exact q) fun c xs q => by rw [upd_ne (ne_of_none q hn)]; exact q
end
/-- what may be read as u: it is u, or a known u -/
def Rd (H : Hp) (a : Addr) (u : HO) : Prop := H a = some u ∨ ∃ o, H a = some (.frz o u)
theorem Rd.ok {P : Program} {w : World} {H : Hp} {h : Heap} {a : Addr} {u : HO} (r : Rd H a u) (x : HOk P w H h) : ObjOk P w H h a u := by
  rcases r with r | ⟨o, r⟩
  · exact x a u r
  · obtain ⟨_, q⟩ := x a _ r
    exact q
/-- what may be written -/
def Mut : Option HO → Prop
  | some (.lst _) => True
  | some (.dK _) => True
  | some (.dT _) => True
  | some (.set _ _) => True
  | some (.ins _ _ _) => True
  | some (.ext _) => True
  | _ => False
section
variable {P : Program} {w : World} {H : Hp} {h h' : Heap} {x e : Addr} {o' : HO}
/-- the object at e is changed: x itself, or the dict of the instance x -/
theorem HOk.write (ok : HOk P w H h) (mu : Mut (H x)) (he : e = x ∨ H e = some (.own x)) (k : ∀ b u, b ≠ e → h.get? b = some u → h'.get? b = some u) (heo : ∃ u, h'.get? e = some u)
    (new : ObjOk P w (upd H x o') h' x o') : HOk P w (upd H x o') h' := fun b u q => by
  have nown : ∀ c y, H c = some (.own y) → c ≠ x := fun c y r z => by subst z; rw [r] at mu; exact mu
  have ntup : ∀ c xs, H c = some (.tup xs) → c ≠ x := fun c xs r z => by subst z; rw [r] at mu; exact mu
  by_cases hb : b = x
  · subst hb; rw [upd_same] at q; cases q; exact new
  · rw [upd_ne hb] at q
    by_cases hbe : b = e
    · have q' : H b = some (.own x) := by
        rcases he with z | z
        · exact absurd (hbe.trans z) hb
        · rw [hbe]; exact z
      rw [q] at q'; cases q'
      obtain ⟨v, hv⟩ := heo
      exact ⟨v, by rw [hbe]; exact hv⟩
    · refine (ok b u q).stay (fun c v hc r => k c v ?_ r) (fun c r => by rw [upd_ne (nown c b r)]; exact r) fun c xs r => by rw [upd_ne (ntup c xs r)]; exact r
      rcases hc with rfl | hc
      · exact hbe
      · rintro rfl
        rcases he with z | z
        · exact nown c b hc z
        · rw [hc] at z; cases z; exact hb rfl
end
/-! ### kept unless tracked; of the frames at fs (the callers') the slots may change (an exception that passes writes there); of the records at ex (iterators) nothing is said -/
structure Un (fs ex : List Addr) (H H' : Hp) (h h' : Heap) : Prop where
  keep : ∀ b o, h.get? b = some o → H b = none → b ∉ fs → b ∉ ex → h'.get? b = some o
  slot : ∀ b o, h.get? b = some o → H b = none → b ∈ fs → b ∉ ex → ∃ sl, h'.get? b = some { o with slots := sl }
  free : ∀ b o, h.get? b = some o → H b = none → b ∉ ex → H' b = none
  there : ∀ b o, h.get? b = some o → b ∉ ex → ∃ o', h'.get? b = some o'
  tups : ∀ b xs, H b = some (.tup xs) → H' b = some (.tup xs)
  frzs : ∀ b o u, H b = some (.frz o u) → H' b = some (.frz o u)
  tbls : ∀ b ps, H b = some (.tbl ps) → ∃ more, H' b = some (.tbl (ps ++ more))
section
variable {fs fs' ex ex' : List Addr} {H H1 H2 : Hp} {h h1 h2 h' : Heap} {a x e : Addr} {o : HO}
theorem Un.any (u : Un fs ex H H1 h h1) {b : Addr} {ob : Obj} (q : h.get? b = some ob) (n : H b = none) (hx : b ∉ ex) : ∃ sl, h1.get? b = some { ob with slots := sl } := by
  by_cases hb : b ∈ fs
  · exact u.slot b ob q n hb hx
  · exact ⟨ob.slots, u.keep b ob q n hb hx⟩
theorem Un.kept (k : ∀ b u, h.get? b = some u → h'.get? b = some u) : Un fs ex H H h h' :=
  ⟨fun b ob q _ _ _ => k b ob q, fun b ob q _ _ _ => ⟨ob.slots, k b ob q⟩, fun _ _ _ n _ => n, fun b ob q _ => ⟨ob, k b ob q⟩, fun _ _ q => q, fun _ _ _ q => q, fun _ ps q => ⟨#[], by rw [q]; simp⟩⟩
theorem Un.refl : Un fs ex H H h h := Un.kept fun _ _ q => q
theorem Un.laid (k : ∀ b u, h.get? b = some u → h'.get? b = some u) (hp : h.objs.size ≤ a) (hn : H a = none) : Un fs ex H (upd H a o) h h' where
  keep := fun b u q _ _ _ => k b u q
  slot := fun b u q _ _ _ => ⟨u.slots, k b u q⟩
  free := fun b u q n _ => by rw [upd_ne (Nat.ne_of_lt (Nat.lt_of_lt_of_le (Heap.lt_size q) hp))]; exact n
  there := fun b u q _ => ⟨u, k b u q⟩
  tups := fun b xs q => by rw [upd_ne (ne_of_none q hn)]; exact q
  frzs := fun b u xs q => by rw [upd_ne (ne_of_none q hn)]; exact q
  tbls := fun b ps q => ⟨#[], by rw [upd_ne (ne_of_none q hn), q]; simp⟩
theorem Un.write (mu : Mut (H x)) (he : e = x ∨ H e = some (.own x)) (k : ∀ b u, b ≠ e → h.get? b = some u → h'.get? b = some u) (heo : ∃ u, h'.get? e = some u) : Un fs ex H (upd H x o) h h' := by
  have hx : ∀ b, H b = none → b ≠ x := fun b n z => by subst z; rw [n] at mu; exact mu
  have hb : ∀ b, H b = none → b ≠ e := fun b n z => by
    subst z
    rcases he with r | r
    · exact hx b n r
    · rw [n] at r; cases r
  have hm : ∀ b u, H b = some u → ¬ Mut (some u) → b ≠ x := fun b u q nm z => by subst z; rw [q] at mu; exact nm mu
  refine ⟨fun b u q n _ _ => k b u (hb b n) q, fun b u q n _ _ => ⟨u.slots, k b u (hb b n) q⟩, fun b u q n _ => by rw [upd_ne (hx b n)]; exact n, fun b u q _ => ?_,
    fun b xs q => by rw [upd_ne (hm b _ q fun z => z)]; exact q, fun b u xs q => by rw [upd_ne (hm b _ q fun z => z)]; exact q, fun b ps q => ⟨#[], by rw [upd_ne (hm b _ q fun z => z), q]; simp⟩⟩
  by_cases hbe : b = e
  · subst hbe; exact heo
  · exact ⟨u, k b u hbe q⟩
end
/-! ### the heap without what is tracked -/
def trk (h : Heap) (H : Hp) : List Addr := (List.range h.objs.size).filter fun a => (H a).isSome
def hidT (h : Heap) (H : Hp) : Heap := PySem.W.hideAll h (trk h H)
theorem hidT_size (h : Heap) (H : Hp) : (hidT h H).objs.size = h.objs.size := PySem.W.hideAll_size _ _
theorem hidT_get {h : Heap} {H : Hp} {b : Addr} {o : Obj} (e : h.get? b = some o) (n : H b = none) : (hidT h H).get? b = some o :=
  PySem.W.hideAll_get _ e fun hm => by
    have q : (H b).isSome = true := (List.mem_filter.mp hm).2
    rw [n] at q; simp at q
theorem of_hidT {h : Heap} {H : Hp} {b : Addr} {o : Obj} (e : (hidT h H).get? b = some o) : h.get? b = some o ∧ H b = none := by
  have e' : h.get? b = some o := PySem.W.of_hideAll (trk h H) e
  refine ⟨e', ?_⟩
  cases q : H b with
  | none => rfl
  | some x =>
    have hm : b ∈ trk h H := List.mem_filter.mpr ⟨List.mem_range.mpr (Heap.lt_size e'), by simp [q]⟩
    have z : (hidT h H).get? b = none := PySem.W.hideAll_none (trk h H) hm
    rw [z] at e; cases e
/-! ### OpenK's ledger, filled with every new object but one -/
end L2
namespace L2
open PySem PySem.Spec PyProof.Rows
/-- the module's facts, over the base: the heap at the law's entry without what is tracked there -/
structure Mod (K : PySem.W.Frag) (mg : Str → Option Value) (base : Heap) : Prop where
  kin : K.In base
  glob : base.Ns mainGlobals mg
  blt : ∃ mb, base.Ns builtinsNs mb ∧ ∀ x : Str, x ≠ "__name__" → mb x = bootBuiltins x
  nolimit : base.NoLimit
/-- the context: a def's body (or a comprehension's block) running. base: fixed through the whole law; s₀, H₀: the entry; outer: the frames whose slots others may change (a def's callers); stack: all frames that run;
   ex: iterators that were made ahead of the entry and are walked here (a comprehension's); fn: the names whose cells were made at the entry (a def: all; a comprehension's block: its own); calm: not within an except suite; pn: pins that every state bears; xe: what is wanted of an exception that leaves the code -/
structure Cx where
  prog : Program
  w : World
  K : PySem.W.Frag
  mg : Str → Option Value
  base : Heap
  A : Around
  N : List Str
  s_0 : Shared
  H_0 : Hp
  env : Env
  outer : List Env
  stack : List Env
  ex : List Addr
  fn : Str → Bool
  calm : Bool
  pn : List (Addr × Obj)
  xe : Value → Shared → Prop
/-- the callers' frames -/
def frs (l : List Env) : List Addr := l.filterMap (·.frame)
abbrev Cx.fs (X : Cx) : List Addr := frs X.outer
def Vis (sc : Scope) (x : Str) : Prop := sc.names.lookup x = some .local ∨ sc.names.lookup x = some .cell ∨ sc.names.lookup x = some .free
def Loc (sc : Scope) (x : Str) : Prop := sc.names.lookup x = some .local ∨ sc.names.lookup x = some .cell
def Look (env : Env) (h : Heap) (m : Str → Option Value) (x : Str) (u : Value) : Prop :=
  (env.kindOf x = some .local ∧ m x = some u) ∨ ((env.kindOf x = some .cell ∨ env.kindOf x = some .free) ∧ ∃ c, env.cells.lookup x = some c ∧ h.IsCell c (some u))
structure Cx.Ok (X : Cx) : Prop where
  mod : Mod X.K X.mg X.base
  kind : X.env.scope.kind = .function
  glob : X.env.globals = mainGlobals
  blt : X.env.builtins = builtinsNs
  above : X.s_0.heap.objs.size ≤ X.env.locals
  inj : ∀ x y c, X.env.cells.lookup x = some c → X.env.cells.lookup y = some c → x = y
  has : ∀ x, (X.env.kindOf x = some .cell ∨ X.env.kindOf x = some .free) → ∃ c, X.env.cells.lookup x = some c
  cab : ∀ x c, X.fn x = true → X.env.cells.lookup x = some c → X.s_0.heap.objs.size ≤ c
  hd : X.calm = true → X.A.handled = none
  frames : X.A.frames = some X.stack
  stk : X.stack = X.outer ∨ (X.stack = X.env :: X.outer ∧ X.env.frame = some X.env.locals)
  exf : ∀ b ∈ X.ex, b ≠ X.env.locals ∧ ∀ x c, X.env.cells.lookup x = some c → c ≠ b
  bs : ∀ b o, X.base.get? b = some o → X.s_0.heap.get? b = some o ∧ X.H_0 b = none
  bsz : X.base.objs.size ≤ X.s_0.heap.objs.size
  noex : ∀ b o, X.base.get? b = some o → b ∉ X.ex
  exfs : ∀ b ∈ X.ex, b ∉ X.fs
  funs : X.s_0.heap.FunFrames X.base X.outer
  frf : ∀ b ∈ X.fs, X.H_0 b = none
structure Inv (X : Cx) (pins : List (Addr × Obj)) (σ : List (Option V)) (H : Hp) (s : Shared) : Prop where
  ok : X.Ok
  os : s.os = X.s_0.os
  bare : AllBare s.gens
  base : Un X.fs X.ex X.H_0 H X.s_0.heap s.heap
  loc : ∃ m, s.heap.Ns X.env.locals m ∧ ∀ (i : Nat) (x : Str) (v : V), X.N[i]? = some x → σ[i]? = some (some v) → Vis X.env.scope x → ∃ u, RelV v u ∧ Look X.env s.heap m x u
  cell : ∀ x c, X.env.cells.lookup x = some c → ∃ v, s.heap.IsCell c v
  free : H X.env.locals = none
  freeC : ∀ x c, X.env.cells.lookup x = some c → H c = none
  pin : ∀ p ∈ X.pn ++ pins, s.heap.get? p.1 = some p.2 ∧ H p.1 = none ∧ p.1 ≠ X.env.locals ∧ p.1 ∉ X.fs ∧ ∀ v, p.2.data ≠ .cell v
  hok : HOk X.prog X.w H s.heap
  len : σ.length = X.N.length
section
variable {X : Cx} {pins : List (Addr × Obj)} {σ : List (Option V)} {H H' : Hp} {s : Shared} {h' : Heap}
theorem Cx.Ok.nofr (ok : X.Ok) {b : Addr} {o : Obj} (e : X.base.get? b = some o) : b ∉ X.fs := fun hb => by
  have := (ok.funs.mem hb).1
  rw [e] at this; cases this
theorem Inv.bs (I : Inv X pins σ H s) : ∀ b o, X.base.get? b = some o → s.heap.get? b = some o ∧ H b = none := fun b o e =>
  ⟨I.base.keep b o (I.ok.bs b o e).1 (I.ok.bs b o e).2 (I.ok.nofr e) (I.ok.noex b o e), I.base.free b o (I.ok.bs b o e).1 (I.ok.bs b o e).2 (I.ok.noex b o e)⟩
theorem Inv.bk (I : Inv X pins σ H s) : ∀ b o, X.base.get? b = some o → s.heap.get? b = some o := fun b o e => (I.bs b o e).1
theorem Inv.mod (I : Inv X pins σ H s) : Mod X.K X.mg X.base := I.ok.mod
theorem Inv.kIn (I : Inv X pins σ H s) : X.K.In s.heap := I.ok.mod.kin.keeps I.bk
theorem Inv.lt (I : Inv X pins σ H s) : X.env.locals < s.heap.objs.size := let ⟨_, hn, _⟩ := I.loc; hn.lt
theorem Inv.sz (I : Inv X pins σ H s) : X.s_0.heap.objs.size ≤ s.heap.objs.size := Nat.le_trans I.ok.above (Nat.le_of_lt I.lt)
theorem Inv.nofs (I : Inv X pins σ H s) {a : Addr} (h : s.heap.objs.size ≤ a) : a ∉ X.fs := fun hb => by
  obtain ⟨_, o, ho, _⟩ := I.ok.funs.mem hb
  exact absurd (Nat.lt_of_lt_of_le (Heap.lt_size ho) (Nat.le_trans I.sz h)) (Nat.lt_irrefl _)
theorem Inv.cne (I : Inv X pins σ H s) : ∀ x c, X.env.cells.lookup x = some c → c ≠ X.env.locals := fun x c e z => by
  obtain ⟨v, o, ho, hd⟩ := I.cell x c e
  obtain ⟨m, ⟨o', es, ep, ho', hd', _⟩, _⟩ := I.loc
  rw [z, ho'] at ho; cases ho; rw [hd'] at hd; cases hd
theorem Inv.funs (I : Inv X pins σ H s) : s.heap.FunFrames X.base X.outer := by
  have all : ∀ (l : List Env), (∀ b ∈ frs l, b ∈ X.fs) → X.s_0.heap.FunFrames X.base l → s.heap.FunFrames X.base l := by
    intro l
    induction l with
    | nil => intro _ _; trivial
    | cons env r ih =>
      intro hs hl
      obtain ⟨hk, ⟨L, o, hf, hn, ho, hd⟩, hr⟩ := hl
      have hL : L ∈ X.fs := hs L (by unfold frs; rw [List.filterMap_cons, hf]; exact List.mem_cons_self)
      obtain ⟨sl, e⟩ := I.base.slot L o ho (I.ok.frf L hL) hL fun z => I.ok.exfs L z hL
      exact ⟨hk, ⟨L, _, hf, hn, e, hd⟩, ih (fun b hb => hs b (by unfold frs; rw [List.filterMap_cons, hf]; exact List.mem_cons_of_mem _ hb)) hr⟩
  exact all X.outer (fun _ hb => hb) I.ok.funs
/-- the frames that run, for a call -/
theorem Inv.stack (I : Inv X pins σ H s) : s.heap.FunFrames X.base X.stack := by
  rcases I.ok.stk with e | ⟨e, hf⟩
  · rw [e]; exact I.funs
  · rw [e]
    obtain ⟨m, hn, _⟩ := I.loc
    refine .cons (by rw [I.ok.kind]; decide) hf hn ?_ I.funs
    exact Heap.get?_none_of_le (Nat.le_trans I.ok.bsz I.ok.above)
theorem Inv.stkSub (I : Inv X pins σ H s) : ∀ b ∈ frs X.stack, b ∈ X.env.locals :: X.fs := fun b hb => by
  rcases I.ok.stk with e | ⟨e, hf⟩
  · rw [e] at hb; exact List.mem_cons_of_mem _ hb
  · rw [e] at hb
    unfold frs at hb
    rw [List.filterMap_cons, hf] at hb
    exact hb
theorem Inv.stkFree (I : Inv X pins σ H s) : ∀ b ∈ frs X.stack, H b = none := fun b hb => by
  rcases List.mem_cons.mp (I.stkSub b hb) with e | hb
  · rw [e]; exact I.free
  · obtain ⟨_, o, ho, _⟩ := I.ok.funs.mem hb
    exact I.base.free b o ho (I.ok.frf b hb) fun z => I.ok.exfs b z hb
/-- THE STEP: the untracked objects but the frame and the records at ch are kept (the callers' frames up to slots), the frame's map is kept, the new abstract heap is held -/
theorem Inv.step {g' : Array GenState} {t' : Nat} {d' : Drawn} {ch : List Addr} (I : Inv X pins σ H s)
    (hch : ∀ b ∈ ch, (b ∈ X.ex ∨ X.s_0.heap.objs.size ≤ b) ∧ b ≠ X.env.locals ∧ (∀ x c, X.env.cells.lookup x = some c → c ≠ b) ∧ ∀ p ∈ X.pn ++ pins, p.1 ≠ b)
    (keep : ∀ b o, b ≠ X.env.locals → b ∉ X.fs → b ∉ ch → s.heap.get? b = some o → H b = none → h'.get? b = some o)
    (slot : ∀ b o, b ≠ X.env.locals → b ∈ X.fs → b ∉ ch → s.heap.get? b = some o → H b = none → ∃ sl, h'.get? b = some { o with slots := sl }) (free : ∀ b o, b ∉ ch → s.heap.get? b = some o → H b = none → H' b = none)
    (there : ∀ b o, b ∉ ch → s.heap.get? b = some o → ∃ o', h'.get? b = some o')
    (tups : ∀ b xs, H b = some (.tup xs) → H' b = some (.tup xs)) (frzs : ∀ b o u, H b = some (.frz o u) → H' b = some (.frz o u)) (tbls : ∀ b ps, H b = some (.tbl ps) → ∃ more, H' b = some (.tbl (ps ++ more)))
    (ns : ∀ m, s.heap.Ns X.env.locals m → h'.Ns X.env.locals m) (hok : HOk X.prog X.w H' h') (hg : AllBare g') :
    Inv X pins σ H' { s with heap := h', gens := g', drawn := d', toks := t' } := by
  have neL : ∀ b o, X.s_0.heap.get? b = some o → b ≠ X.env.locals := fun b o e => Nat.ne_of_lt (Nat.lt_of_lt_of_le (Heap.lt_size e) I.ok.above)
  have neC : ∀ b o, X.s_0.heap.get? b = some o → b ∉ X.ex → b ∉ ch := fun b o e hx hb => by
    rcases (hch b hb).1 with z | z
    · exact hx z
    · exact absurd (Nat.lt_of_lt_of_le (Heap.lt_size e) z) (Nat.lt_irrefl _)
  have cellK : ∀ x c, X.env.cells.lookup x = some c → ∀ v, s.heap.IsCell c v → h'.IsCell c v := fun x c e v ⟨o, ho, hd⟩ => by
    have nch : c ∉ ch := fun z => (hch c z).2.2.1 x c e rfl
    by_cases hc : c ∈ X.fs
    · obtain ⟨sl, q⟩ := slot c o (I.cne x c e) hc nch ho (I.freeC x c e)
      exact ⟨_, q, hd⟩
    · exact ⟨o, keep c o (I.cne x c e) hc nch ho (I.freeC x c e), hd⟩
  refine ⟨I.ok, I.os, hg, ⟨fun b o e n hb hx => ?_, fun b o e n hb hx => ?_, fun b o e n hx => ?_, fun b o e hx => ?_, fun b xs e => tups b xs (I.base.tups b xs e), fun b o xs e => frzs b o xs (I.base.frzs b o xs e), fun b ps e => ?_⟩, ?_, fun x c e => ?_, ?_, fun x c e => ?_, fun p hp => ?_, hok, I.len⟩
  · exact keep b o (neL b o e) hb (neC b o e hx) (I.base.keep b o e n hb hx) (I.base.free b o e n hx)
  · obtain ⟨sl, e1⟩ := I.base.slot b o e n hb hx
    obtain ⟨sl', e2⟩ := slot b _ (neL b o e) hb (neC b o e hx) e1 (I.base.free b o e n hx)
    exact ⟨sl', e2⟩
  · obtain ⟨o', e1⟩ := I.base.there b o e hx
    exact free b o' (neC b o e hx) e1 (I.base.free b o e n hx)
  · obtain ⟨o', e1⟩ := I.base.there b o e hx
    exact there b o' (neC b o e hx) e1
  · obtain ⟨m1, e1⟩ := I.base.tbls b ps e
    obtain ⟨m2, e2⟩ := tbls b _ e1
    exact ⟨m1 ++ m2, by rw [e2, Array.append_assoc]⟩
  · obtain ⟨m, hn, hl⟩ := I.loc
    refine ⟨m, ns m hn, fun i x v e1 e2 e3 => ?_⟩
    obtain ⟨u, r, l⟩ := hl i x v e1 e2 e3
    refine ⟨u, r, ?_⟩
    rcases l with l | ⟨k, c, e, z⟩
    · exact .inl l
    · exact .inr ⟨k, c, e, cellK x c e _ z⟩
  · obtain ⟨v, z⟩ := I.cell x c e
    exact ⟨v, cellK x c e v z⟩
  · obtain ⟨m, ⟨o, _, _, ho, _⟩, _⟩ := I.loc
    exact free _ o (fun z => (hch _ z).2.1 rfl) ho I.free
  · obtain ⟨v, o, ho, hd⟩ := I.cell x c e
    exact free c o (fun z => (hch c z).2.2.1 x c e rfl) ho (I.freeC x c e)
  · obtain ⟨e, n, ne, nf, d⟩ := I.pin p hp
    have nch : p.1 ∉ ch := fun z => (hch p.1 z).2.2.2 p hp rfl
    exact ⟨keep p.1 p.2 ne nf nch e n, free p.1 p.2 nch e n, ne, nf, d⟩
/-- .. where the frame's own object is kept too -/
theorem Inv.un {t' : Nat} (I : Inv X pins σ H s) (u : Un X.fs [] H H' s.heap h') (hok : HOk X.prog X.w H' h') : Inv X pins σ H' { s with heap := h', toks := t' } := by
  obtain ⟨m, ⟨o, es, ep, ho, r⟩, _⟩ := id I.loc
  obtain ⟨sl, hL⟩ := u.any ho I.free (by simp)
  exact I.step (g' := s.gens) (d' := s.drawn) (ch := []) (fun _ z => nomatch z) (fun b o _ hb _ e n => u.keep b o e n hb (by simp)) (fun b o _ hb _ e n => u.slot b o e n hb (by simp)) (fun b o _ e n => u.free b o e n (by simp)) (fun b o _ e => u.there b o e (by simp)) u.tups u.frzs u.tbls (fun m' hm => by
    obtain ⟨o', es', ep', ho', r'⟩ := hm
    rw [ho] at ho'; cases ho'
    exact ⟨_, es', ep', hL, r'⟩) hok I.bare
/-- behind a call (or a comprehension's block): the slots of this frame may have changed too, the records at ch may have turned -/
theorem Inv.call {g' : Array GenState} {t' : Nat} {d' : Drawn} {ch : List Addr} (I : Inv X pins σ H s) (u : Un (frs X.stack) ch H H' s.heap h') (hok : HOk X.prog X.w H' h') (hg : AllBare g')
    (hch : ∀ b ∈ ch, (b ∈ X.ex ∨ X.s_0.heap.objs.size ≤ b) ∧ b ≠ X.env.locals ∧ (∀ x c, X.env.cells.lookup x = some c → c ≠ b) ∧ ∀ p ∈ X.pn ++ pins, p.1 ≠ b) :
    Inv X pins σ H' { s with heap := h', gens := g', drawn := d', toks := t' } := by
  obtain ⟨m, ⟨o, es, ep, ho, r⟩, _⟩ := id I.loc
  obtain ⟨sl, hL⟩ := u.any ho I.free fun z => (hch _ z).2.1 rfl
  exact I.step (ch := ch) hch (fun b o hL hb hc e n => u.keep b o e n (fun z => (List.mem_cons.mp (I.stkSub b z)).elim hL hb) hc) (fun b o _ _ hc e n => u.any e n hc) (fun b o hc e n => u.free b o e n hc) (fun b o hc e => u.there b o e hc) u.tups u.frzs u.tbls (fun m' hm => by
    obtain ⟨o', es', ep', ho', r'⟩ := hm
    rw [ho] at ho'; cases ho'
    exact ⟨_, es', ep', hL, r'⟩) hok hg
/-- an untracked record of ours (an iterator) has turned -/
theorem Inv.turned {t' : Nat} {it : Addr} (I : Inv X pins σ H s) (k : ∀ b o, b ≠ it → s.heap.get? b = some o → h'.get? b = some o) (hn : H it = none) (hL : it ≠ X.env.locals)
    (h1 : it ∈ X.ex ∨ X.s_0.heap.objs.size ≤ it) (h2 : ∀ x c, X.env.cells.lookup x = some c → c ≠ it) (h3 : ∀ p ∈ X.pn ++ pins, p.1 ≠ it) : Inv X pins σ H { s with heap := h', toks := t' } := by
  have nit : ∀ b u, H b = some u → b ≠ it := fun b u e z => by rw [z, hn] at e; cases e
  refine I.step (g' := s.gens) (d' := s.drawn) (ch := [it]) (fun b hb => ?_) (fun b o _ _ hc e _ => k b o (fun z => hc (by simp [z])) e) (fun b o _ _ hc e _ => ⟨o.slots, k b o (fun z => hc (by simp [z])) e⟩) (fun _ _ _ _ n => n)
    (fun b o hc e => ⟨o, k b o (fun z => hc (by simp [z])) e⟩) (fun _ _ e => e) (fun _ _ _ e => e) (fun b ps e => ⟨#[], by rw [e]; simp⟩) (fun m hm => ?_) (fun b u e => ?_) I.bare
  · have e : b = it := by simpa using hb
    subst e
    exact ⟨h1, hL, h2, h3⟩
  · obtain ⟨o, es, ep, ho, r⟩ := hm
    exact ⟨o, es, ep, k _ o (Ne.symm hL) ho, r⟩
  · refine (I.hok b u e).stay (fun c v hc q => k c v ?_ q) (fun _ q => q) fun _ _ q => q
    rcases hc with z | z
    · rw [z]; exact nit b u e
    · exact nit c _ z
theorem Inv.tok (I : Inv X pins σ H s) (t : Nat) : Inv X pins σ H { s with toks := t } := I.un (h' := s.heap) (t' := t) Un.refl I.hok
/-- all objects kept -/
theorem Inv.kept {t' : Nat} (I : Inv X pins σ H s) (k : ∀ b u, s.heap.get? b = some u → h'.get? b = some u) : Inv X pins σ H { s with heap := h', toks := t' } := I.un (Un.kept k) (I.hok.kept k)
/-- a new object laid and tracked -/
theorem Inv.laid {a : Addr} {o : HO} {t' : Nat} (I : Inv X pins σ H s) (k : ∀ b u, s.heap.get? b = some u → h'.get? b = some u) (hp : s.heap.objs.size ≤ a) (new : ObjOk X.prog X.w (upd H a o) h' a o) :
    Inv X pins σ (upd H a o) { s with heap := h', toks := t' } := I.un (Un.laid k hp (I.hok.fresh hp)) (I.hok.laid k hp new)
/-- an object written -/
theorem Inv.write {x e : Addr} {o : HO} {t' : Nat} (I : Inv X pins σ H s) (mu : Mut (H x)) (he : e = x ∨ H e = some (.own x)) (k : ∀ b u, b ≠ e → s.heap.get? b = some u → h'.get? b = some u) (heo : ∃ u, h'.get? e = some u)
    (new : ObjOk X.prog X.w (upd H x o) h' x o) : Inv X pins σ (upd H x o) { s with heap := h', toks := t' } := I.un (Un.write mu he k heo) (I.hok.write mu he k heo new)
/-- forgetting slots, pins -/
theorem Inv.weak {σ' : List (Option V)} (I : Inv X pins σ H s) (hl : σ'.length = σ.length) (w : ∀ (i : Nat) v, σ'[i]? = some (some v) → σ[i]? = some (some v)) : Inv X pins σ' H s :=
  ⟨I.ok, I.os, I.bare, I.base, let ⟨m, hn, hl'⟩ := I.loc; ⟨m, hn, fun i x v e1 e2 e3 => hl' i x v e1 (w i v e2) e3⟩, I.cell, I.free, I.freeC, I.pin, I.hok, hl.trans I.len⟩
theorem Inv.pins_of {pins' : List (Addr × Obj)} (I : Inv X pins σ H s) (h : ∀ p ∈ pins', s.heap.get? p.1 = some p.2 ∧ H p.1 = none ∧ p.1 ≠ X.env.locals ∧ p.1 ∉ X.fs ∧ ∀ v, p.2.data ≠ .cell v) : Inv X pins' σ H s :=
  ⟨I.ok, I.os, I.bare, I.base, I.loc, I.cell, I.free, I.freeC, fun p hp => (List.mem_append.mp hp).elim (fun z => I.pin p (List.mem_append_left _ z)) (h p), I.hok, I.len⟩
theorem nodup_ix {N : List Str} (hN : N.Nodup) {i j : Nat} {x : Str} (a : N[i]? = some x) (b : N[j]? = some x) : i = j := by
  obtain ⟨h1, e1⟩ := List.getElem?_eq_some_iff.mp a
  obtain ⟨h2, e2⟩ := List.getElem?_eq_some_iff.mp b
  exact (List.getElem_inj hN).mp (e1.trans e2.symm)
/-- a name is stored; what changed -/
theorem store_ok2 {M : Model} {A : Around} {E : Value → Shared → Prop} {i : Nat} {x : Str} {v : V} {u : Value} {Q : Unit → Shared → Prop} (I : Inv X pins σ H s) (hN : X.N.Nodup) (hi : X.N[i]? = some x) (hx : Loc X.env.scope x) (r : RelV v u)
    (h : ∀ s', Inv X pins (σ.set i (some v)) H s' → (∃ a, Heap.SameBut a s.heap s'.heap ∧ (a = X.env.locals ∨ X.env.cells.lookup x = some a)) → Q () s') (hf : X.fn x = true ∨ X.env.scope.names.lookup x = some .local := by first | exact .inl rfl | exact .inr rfl | assumption) : wpAny M A (storeName X.env x u) Q E s := by
  obtain ⟨m, hn, hl⟩ := id I.loc
  have hcls : (X.env.scope.kind == .class || (X.env.scope.kind == .module && X.env.locals != X.env.globals)) = false := by rw [I.ok.kind]; rfl
  have hiσ : i < σ.length := by rw [I.len]; exact (List.getElem?_eq_some_iff.mp hi).1
  have cne := I.cne
  have tracked : ∀ {a : Addr} {h' : Heap}, (∃ o, s.heap.get? a = some o ∧ H a = none) → Heap.SameBut a s.heap h' → HOk X.prog X.w H h' := fun {a h'} ha hs b ob e => by
    obtain ⟨_, _, hfree⟩ := ha
    refine (I.hok b ob e).stay (fun c w' hc q => (hs.2 c ?_).trans q) (fun _ q => q) fun _ _ q => q
    rintro rfl
    rcases hc with rfl | hc
    · rw [hfree] at e; cases e
    · rw [hfree] at hc; cases hc
  rcases hx with hk | hk
  · refine wpAny_storeName_local hk hn (fun h' hn' hs => ?_) hcls
    obtain ⟨oL, _, _, hoL, _⟩ := id hn
    refine h _ ⟨I.ok, I.os, I.bare, ⟨fun b o e n hb hx => ?_, fun b o e n hb hx => ?_, I.base.free, fun b o e hx => ?_, I.base.tups, I.base.frzs, I.base.tbls⟩, ⟨_, hn', fun j y v' e1 e2 e3 => ?_⟩, fun y c e => ?_, I.free, I.freeC, fun p hp => ?_, tracked ⟨oL, hoL, I.free⟩ hs, by simpa using I.len⟩ ⟨_, hs, .inl rfl⟩
    · exact (hs.2 b (Nat.ne_of_lt (Nat.lt_of_lt_of_le (Heap.lt_size e) I.ok.above))).trans (I.base.keep b o e n hb hx)
    · obtain ⟨sl, e1⟩ := I.base.slot b o e n hb hx
      exact ⟨sl, (hs.2 b (Nat.ne_of_lt (Nat.lt_of_lt_of_le (Heap.lt_size e) I.ok.above))).trans e1⟩
    · obtain ⟨o', e1⟩ := I.base.there b o e hx
      exact ⟨o', (hs.2 b (Nat.ne_of_lt (Nat.lt_of_lt_of_le (Heap.lt_size e) I.ok.above))).trans e1⟩
    · by_cases hj : j = i
      · subst hj
        rw [hi] at e1; cases e1
        rw [List.getElem?_set_self hiσ] at e2
        cases e2
        exact ⟨u, r, .inl ⟨hk, by simp⟩⟩
      · rw [List.getElem?_set_ne (Ne.symm hj)] at e2
        obtain ⟨u', r', q⟩ := hl j y v' e1 e2 e3
        refine ⟨u', r', ?_⟩
        rcases q with ⟨k, e⟩ | ⟨k, c, e, z⟩
        · refine .inl ⟨k, ?_⟩
          have : y ≠ x := fun e => hj (nodup_ix hN e1 (e ▸ hi))
          simp [this, e]
        · exact .inr ⟨k, c, e, z.sameBut hs (cne y c e)⟩
    · obtain ⟨w', z⟩ := I.cell y c e
      exact ⟨w', z.sameBut hs (cne y c e)⟩
    · obtain ⟨e, n, ne, nf, d⟩ := I.pin p hp
      exact ⟨(hs.2 p.1 ne).trans e, n, ne, nf, d⟩
  · have hfn : X.fn x = true := by
      rcases hf with z | z
      · exact z
      · rw [z] at hk; cases hk
    obtain ⟨c, hc⟩ := I.ok.has x (.inl hk)
    obtain ⟨w', z⟩ := I.cell x c hc
    refine wpAny_storeName_cell I.ok.kind hk hc z (fun h' hc' hs => ?_)
    obtain ⟨oc, hoc, hocd⟩ := id z
    refine h { s with heap := h' } ⟨I.ok, I.os, I.bare, ⟨fun b o e n hb hx => ?_, fun b o e n hb hx => ?_, I.base.free, fun b o e hx => ?_, I.base.tups, I.base.frzs, I.base.tbls⟩, ⟨m, hn.sameBut hs (Ne.symm (cne x c hc)), fun j y v' e1 e2 e3 => ?_⟩, fun y c' e => ?_, I.free, I.freeC, fun p hp => ?_, tracked ⟨oc, hoc, I.freeC x c hc⟩ hs, by simpa using I.len⟩ ⟨c, hs, .inr hc⟩
    · exact (hs.2 b (Nat.ne_of_lt (Nat.lt_of_lt_of_le (Heap.lt_size e) (I.ok.cab x c hfn hc)))).trans (I.base.keep b o e n hb hx)
    · obtain ⟨sl, e1⟩ := I.base.slot b o e n hb hx
      exact ⟨sl, (hs.2 b (Nat.ne_of_lt (Nat.lt_of_lt_of_le (Heap.lt_size e) (I.ok.cab x c hfn hc)))).trans e1⟩
    · obtain ⟨o', e1⟩ := I.base.there b o e hx
      exact ⟨o', (hs.2 b (Nat.ne_of_lt (Nat.lt_of_lt_of_le (Heap.lt_size e) (I.ok.cab x c hfn hc)))).trans e1⟩
    · by_cases hj : j = i
      · subst hj
        rw [hi] at e1; cases e1
        rw [List.getElem?_set_self hiσ] at e2
        cases e2
        exact ⟨u, r, .inr ⟨.inl hk, c, hc, hc'⟩⟩
      · rw [List.getElem?_set_ne (Ne.symm hj)] at e2
        obtain ⟨u', r', q⟩ := hl j y v' e1 e2 e3
        refine ⟨u', r', ?_⟩
        rcases q with q | ⟨k, c', e, z'⟩
        · exact .inl q
        · refine .inr ⟨k, c', e, z'.sameBut hs ?_⟩
          rintro rfl
          exact hj (nodup_ix hN e1 (I.ok.inj _ _ _ e hc ▸ hi))
    · by_cases hcc : c' = c
      · subst hcc; exact ⟨_, hc'⟩
      · obtain ⟨w2, z2⟩ := I.cell y c' e
        exact ⟨w2, z2.sameBut hs hcc⟩
    · obtain ⟨e, n, ne, nf, d⟩ := I.pin p hp
      refine ⟨(hs.2 p.1 ?_).trans e, n, ne, nf, d⟩
      intro q
      rw [q, hoc] at e
      have q' : oc = p.2 := Option.some.inj e
      exact d w' (by rw [← q']; exact hocd)
theorem store_ok {M : Model} {A : Around} {E : Value → Shared → Prop} {i : Nat} {x : Str} {v : V} {u : Value} {Q : Unit → Shared → Prop} (I : Inv X pins σ H s) (hN : X.N.Nodup) (hi : X.N[i]? = some x) (hx : Loc X.env.scope x) (r : RelV v u)
    (h : ∀ s', Inv X pins (σ.set i (some v)) H s' → Q () s') (hf : X.fn x = true ∨ X.env.scope.names.lookup x = some .local := by first | exact .inl rfl | exact .inr rfl | assumption) : wpAny M A (storeName X.env x u) Q E s :=
  store_ok2 I hN hi hx r (fun s' I' _ => h s' I') hf
/-- behind a call or a block, the state as it is -/
theorem Inv.call' {s' : Shared} {ch : List Addr} (I : Inv X pins σ H s) (ho : s'.os = s.os) (u : Un (frs X.stack) ch H H' s.heap s'.heap) (hok : HOk X.prog X.w H' s'.heap) (hg : AllBare s'.gens)
    (hch : ∀ b ∈ ch, (b ∈ X.ex ∨ X.s_0.heap.objs.size ≤ b) ∧ b ≠ X.env.locals ∧ (∀ x c, X.env.cells.lookup x = some c → c ≠ b) ∧ ∀ p ∈ X.pn ++ pins, p.1 ≠ b) : Inv X pins σ H' s' := by
  obtain ⟨h', g', d', t', o'⟩ := s'
  have e : o' = s.os := ho
  subst e
  exact I.call (g' := g') (t' := t') (d' := d') u hok hg hch
end
/-! ### the judgements -/
/-- an exception: its class, its own dict's address (where it has one), the abstract heap behind it -/
abbrev XK := Value → Option Addr → Hp → Prop
abbrev St := List (Option V)
abbrev VK := V → Hp → Prop
/-- an expression's reading; a test's; an argument list's -/
abbrev TE := St → Hp → VK → Prop
abbrev TT := St → Hp → (Bool → Hp → Prop) → Prop
abbrev TA := St → Hp → (List V → Hp → Prop) → Prop
/-- what is wanted behind a statement -/
structure Ends where
  nx : St → Hp → Prop
  rt : VK
  bk : St → Hp → Prop := fun _ _ => False
  ct : St → Hp → Prop := fun _ _ => False
abbrev TS := Ends → St → Hp → Prop
def EP (X : Cx) (pins : List (Addr × Obj)) (σ : St) (Q : VK) (u : Value) (s' : Shared) : Prop := ∃ v H', Inv X pins σ H' s' ∧ RelV v u ∧ Q v H'
def TP (X : Cx) (pins : List (Addr × Obj)) (σ : St) (Q : Bool → Hp → Prop) (b : Bool) (s' : Shared) : Prop := ∃ H', Inv X pins σ H' s' ∧ Q b H'
def AP (X : Cx) (pins : List (Addr × Obj)) (σ : St) (Q : List V → Hp → Prop) (us : List Value) (s' : Shared) : Prop := ∃ vs H', Inv X pins σ H' s' ∧ Vals vs us ∧ Q vs H'
def SP (X : Cx) (pins : List (Addr × Obj)) (D : Ends) (f : Flow) (s' : Shared) : Prop :=
  match f with
  | .next => ∃ σ' H', Inv X pins σ' H' s' ∧ D.nx σ' H'
  | .brk => ∃ σ' H', Inv X pins σ' H' s' ∧ D.bk σ' H'
  | .cont => ∃ σ' H', Inv X pins σ' H' s' ∧ D.ct σ' H'
  | .ret u => ∃ v σ' H', Inv X pins σ' H' s' ∧ RelV v u ∧ D.rt v H'
def PE (X : Cx) (e : Expr) (t : TE) : Prop :=
  ∀ (pins : List (Addr × Obj)) (s : Shared) (σ : St) (H : Hp) (Q : VK), Inv X pins σ H s → t σ H Q → wpAny (model X.prog X.w) X.A (eval e X.env) (EP X pins σ Q) X.xe s
def PT (X : Cx) (e : Expr) (t : TT) : Prop :=
  ∀ (pins : List (Addr × Obj)) (s : Shared) (σ : St) (H : Hp) (Q : Bool → Hp → Prop), Inv X pins σ H s → t σ H Q → wpAny (model X.prog X.w) X.A (isTrue e X.env (eval e X.env)) (TP X pins σ Q) X.xe s
/-- a test whatever its 'whole' is (and, or) -/
def PW (X : Cx) (e : Expr) (t : TT) : Prop :=
  ∀ (whole : Sem Value) (pins : List (Addr × Obj)) (s : Shared) (σ : St) (H : Hp) (Q : Bool → Hp → Prop), Inv X pins σ H s → t σ H Q → wpAny (model X.prog X.w) X.A (isTrue e X.env whole) (TP X pins σ Q) X.xe s
theorem PW.pt {X : Cx} {e : Expr} {t : TT} (h : PW X e t) : PT X e t := h _
/-- an argument list (no star), from the left -/
def PA (X : Cx) (es : List Expr) (t : TA) : Prop :=
  ∀ (pos : Pos) (pins : List (Addr × Obj)) (s : Shared) (σ : St) (H : Hp) (Q : List V → Hp → Prop), Inv X pins σ H s → t σ H Q → wpAny (model X.prog X.w) X.A (spliced (backTo pos (starEach es X.env))) (AP X pins σ Q) X.xe s
def PS (X : Cx) (st : Stmt) (t : TS) : Prop :=
  ∀ (pins : List (Addr × Obj)) (s : Shared) (σ : St) (H : Hp) (D : Ends), Inv X pins σ H s → t D σ H → wpAny (model X.prog X.w) X.A (exec st X.env) (SP X pins D) X.xe s
def PSs (X : Cx) (st : List Stmt) (t : TS) : Prop :=
  ∀ (pins : List (Addr × Obj)) (s : Shared) (σ : St) (H : Hp) (D : Ends), Inv X pins σ H s → t D σ H → wpAny (model X.prog X.w) X.A (execs st X.env) (SP X pins D) X.xe s
/-- weaken the end -/
theorem thn {α : Type} {t : Sem α} {Q Q' : α → Shared → Prop} {M : Model} {A : Around} {E : Value → Shared → Prop} {s : Shared} (h : wpAny M A t Q E s) (hQ : ∀ a s, Q a s → Q' a s) : wpAny M A t Q' E s := wpAny_mono h hQ fun _ _ x => x
end L2
namespace L2
open PySem PySem.Spec PyProof.Rows
section
variable {X : Cx}
/-! ### names and constants -/
def tVar (i : Nat) : TE := fun σ H Q => ∃ v, σ[i]? = some (some v) ∧ Q v H
def tC (v : V) : TE := fun _ H Q => Q v H
theorem pe_var {i : Nat} {x : Str} {pos : Pos} (hN : X.N[i]? = some x) (hv : Vis X.env.scope x) (hd : (x == ("__debug__" : Str)) = false := by decide) (hcd : (x == ("__classdict__" : Str)) = false := by decide) : PE X (.Name x pos) (tVar i) := by
  intro pins s σ H Q I h
  obtain ⟨v, e, h⟩ := h
  obtain ⟨m, hn, hl⟩ := I.loc
  obtain ⟨u, r, l⟩ := hl i x v hN e hv
  have fin : EP X pins σ Q u s := ⟨v, H, I, r, h⟩
  rcases l with ⟨hk, hm⟩ | ⟨hk, c, hc, hcell⟩
  · exact wpAny_Name (wpAny_loadName_local I.ok.kind hk hn hm fin) hd
  · rcases hk with hk | hk
    · exact wpAny_Name (wpAny_loadName_cell I.ok.kind hk hc hcell fin) hd
    · exact wpAny_Name (wpAny_loadName_free I.ok.kind hk hc hcell fin hcd) hd
theorem pe_int {i j pos} : PE X (.Constant (.int i) j pos) (tC (.int i)) := fun _ _ _ H _ I h => wpAny_Constant_int ⟨.int i, H, I.tok _, ⟨_, rfl⟩, h⟩
/-- a global name of the def -/
def Gl (X : Cx) (x : Str) : Prop := X.env.kindOf x = some .globalImplicit
theorem ld_glob {E : Value → Shared → Prop} {pins : List (Addr × Obj)} {s : Shared} {σ : St} {H : Hp} {x : Str} {u : Value} {pos : Pos} {Q : Value → Shared → Prop} (I : Inv X pins σ H s) (hg : Gl X x) (hm : X.mg x = some u) (h : Q u s)
    (hd : (x == ("__debug__" : Str)) = false := by decide) : wpAny (model X.prog X.w) X.A (eval (.Name x pos) X.env) Q E s :=
  Calls.Name_function_global I.ok.kind hg (Calls.loadGlobal_global (by rw [I.ok.glob]; exact I.mod.glob.keeps I.bk) hm h) hd
theorem ld_blt {E : Value → Shared → Prop} {pins : List (Addr × Obj)} {s : Shared} {σ : St} {H : Hp} {x : Str} {u : Value} {pos : Pos} {Q : Value → Shared → Prop} (I : Inv X pins σ H s) (hg : Gl X x) (hm : X.mg x = none) (hv : bootBuiltins x = some u) (h : Q u s)
    (hn : x ≠ "__name__" := by decide) (hd : (x == ("__debug__" : Str)) = false := by decide) : wpAny (model X.prog X.w) X.A (eval (.Name x pos) X.env) Q E s := by
  obtain ⟨mb, h1, h2⟩ := I.mod.blt
  exact Calls.Name_function_global I.ok.kind hg (Calls.loadGlobal_builtin (by rw [I.ok.glob]; exact I.mod.glob.keeps I.bk) hm (by rw [I.ok.blt]; exact h1.keeps I.bk) ((h2 x hn).trans hv) h) hd
/-- a module's constant, a class, a function, as a value -/
theorem pe_glob {x : Str} {v : V} {u : Value} {pos : Pos} (hg : Gl X x) (hm : X.mg x = some u) (r : RelV v u) (hd : (x == ("__debug__" : Str)) = false := by decide) : PE X (.Name x pos) (tC v) :=
  fun _ _ _ H _ I h => ld_glob I hg hm ⟨v, H, I, r, h⟩ hd
/-! ### arithmetic -/
variable {a b : Expr} {ta tb : TE} {pos : Pos}
/-! ### comparisons -/
def PC (X : Cx) (op : CmpOp) (a b : Expr) (t : TE) : Prop :=
  ∀ (pins : List (Addr × Obj)) (s : Shared) (σ : St) (H : Hp) (Q : VK), Inv X pins σ H s → t σ H Q →
    wpAny (model X.prog X.w) X.A (eval a X.env) (fun v s₁ => wpAny (model X.prog X.w) X.A (eval b X.env) (fun u s₂ => wpAny (model X.prog X.w) X.A (compareOp op v u) (EP X pins σ Q) X.xe s₂) X.xe s₁) X.xe s
theorem nobehind (b : Expr) {op : CmpOp} (h : op ≠ .In) (h2 : op ≠ .NotIn) : behindInMarks op b = false := by
  have e1 : (op == CmpOp.In) = false := by cases op <;> first | rfl | exact absurd rfl h
  have e2 : (op == CmpOp.NotIn) = false := by cases op <;> first | rfl | exact absurd rfl h2
  cases b <;> simp [behindInMarks, e1, e2]
/-- is None -/
def tIsN (ta : TE) : TE := fun σ H Q => ta σ H fun x H1 => Q (.bl (decide (x = .non))) H1
theorem RelV.none_iff {x : V} {v : Value} (r : RelV x v) : (v == Value.none) = decide (x = .non) := by
  cases x with
  | non => cases r; rfl
  | bl _ => cases r; rfl
  | int _ => obtain ⟨t, rfl⟩ := r; rfl
  | str _ => obtain ⟨t, rfl⟩ := r; rfl
  | byt _ => obtain ⟨t, rfl⟩ := r; rfl
  | flt _ => obtain ⟨t, rfl⟩ := r; rfl
  | ref _ => cases r; rfl
  | ty _ => cases r; rfl
theorem pc_isN {j pos'} (ha : PE X a ta) : PC X .Is a (.Constant .none j pos') (tIsN ta) := by
  intro pins s σ H Q I h
  refine thn (ha pins s σ H _ I h) fun v s1 ⟨x, H1, I1, r1, q1⟩ => ?_
  exact Constant_none (is_none_gen ⟨.bl _, H1, I1, by rw [r1.none_iff]; rfl, q1⟩)
/-- a comparison as a value, as a test -/
def tB (t : TE) : TT := fun σ H Q => t σ H fun x H1 => ∃ c, x = .bl c ∧ Q c H1
theorem pt_cmp {op : CmpOp} {t : TE} (h : PC X op a b t) (h1 : behindInMarks op b = false := by first | exact nobehind _ (by decide) (by decide) | rfl) : PT X (.Compare a [op] [b] pos) (tB t) := by
  intro pins s σ H Q I hw
  refine wpAny_isTrue_Compare1 (thn (h pins s σ H _ I hw) fun v s1 h1 => thn h1 fun u s2 h2 => thn h2 fun c s3 ⟨x, H1, I1, r1, q1⟩ => ?_) h1
  obtain ⟨d, rfl, q⟩ := q1
  cases r1
  exact wpAny_truthy_bool ⟨H1, I1, q⟩
/-- an expression whose value is a bool, as a test -/
theorem pt_val {e : Expr} {t : TE} (h : PE X e t) (he : ∀ whole, isTrue e X.env whole = (do let v ← whole; standAt e.pos; holding [v] (truthy v)) := by intro _; rfl) : PT X e (tB t) := by
  intro pins s σ H Q I hw
  refine isTrue_plain (thn (h pins s σ H _ I hw) fun v s1 ⟨x, H1, I1, r1, q1⟩ => ?_) (he _)
  obtain ⟨d, rfl, q⟩ := q1
  cases r1
  exact wpAny_truthy_bool ⟨H1, I1, q⟩
/-! ### and, or, not -/
variable {tA tB' : TT} {rest : List Expr}
def tOr (t u : TT) : TT := fun σ H Q => t σ H fun c H1 => if c = true then Q true H1 else u σ H1 Q
def tNot (t : TT) : TT := fun σ H Q => t σ H fun c H1 => Q (!c) H1
theorem pw_or1 (ha : PT X a tA) : PW X (.BoolOp .Or [a] pos) tA := by
  intro wh pins s σ H Q I h
  refine isTrue_or (thn (ha pins s σ H Q I h) fun c s1 e => ?_)
  cases c with
  | false => exact isTrue_or_nil e
  | true => exact e
theorem pw_or (ha : PT X a tA) (hb : PW X (.BoolOp .Or (b :: rest) pos) tB') : PW X (.BoolOp .Or (a :: b :: rest) pos) (tOr tA tB') := by
  intro wh pins s σ H Q I h
  refine isTrue_or (thn (ha pins s σ H _ I h) fun c s1 ⟨H1, I1, q1⟩ => ?_)
  cases c with
  | true => exact ⟨H1, I1, q1⟩
  | false => exact hb wh pins s1 σ H1 Q I1 q1
theorem pt_not (ha : PT X a tA) : PT X (.UnaryOp .Not a pos) (tNot tA) := by
  intro pins s σ H Q I h
  exact isTrue_not (ha pins s σ H (fun c H1 => Q (!c) H1) I h)
/-- .. as values (bools) -/
def tAndV (ta tb : TE) : TE := fun σ H Q => ta σ H fun x H1 => ∃ c, x = .bl c ∧ if c = true then tb σ H1 Q else Q (.bl false) H1
theorem pe_one {op} {t : TE} (h : PE X a t) : PE X (.BoolOp op [a] pos) t := fun pins s σ H Q I hw => BoolOp_one (h pins s σ H Q I hw)
theorem pe_and (ha : PE X a ta) (hb : PE X (.BoolOp .And (b :: rest) pos) tb) : PE X (.BoolOp .And (a :: b :: rest) pos) (tAndV ta tb) := by
  intro pins s σ H Q I h
  refine BoolOp_and (thn (ha pins s σ H _ I h) fun v s1 ⟨x, H1, I1, r1, q1⟩ => ?_)
  obtain ⟨c, rfl, q1⟩ := q1
  cases r1
  refine wpAny_truthy_bool ?_
  cases c with
  | true => exact hb pins s1 σ H1 Q I1 q1
  | false => exact ⟨.bl false, H1, I1, rfl, q1⟩
end
end L2
namespace L2
open PySem PySem.Spec PyProof.Rows
/-! ### a list, a tuple that is read: tracked, frozen, or an object of the module -/
def SqL (K : PySem.W.Frag) (H : Hp) (a : Addr) (xs : List V) : Prop :=
  Rd H a (.lst xs) ∨
    ∃ (o : Obj) (its : Array Value) (n : Nat), K.lookup a = some o ∧ o.cls = .type "list" ∧ o.dict = none ∧ o.data = .seq its n ∧ its.size ≤ sizeLine ∧ Vals xs its.toList
def SqT (K : PySem.W.Frag) (H : Hp) (a : Addr) (xs : List V) : Prop :=
  Rd H a (.tup xs) ∨
    ∃ (o : Obj) (its : Array Value) (n : Nat), K.lookup a = some o ∧ o.cls = .type "tuple" ∧ o.data = .seq its n ∧ its.size ≤ sizeLine ∧ Vals xs its.toList
def absV : Value → Option V
  | .none => some .non
  | .bool b => some (.bl b)
  | .int i _ => some (.int i)
  | .str x _ => some (.str x)
  | .bytes b _ => some (.byt b)
  | .float b _ => some (.flt b)
  | .ref a => some (.ref a)
  | .type n => some (.ty n)
  | _ => none
theorem RelV.abs {x : V} {u : Value} (r : RelV x u) : absV u = some x := by
  cases x with
  | non => cases r; rfl
  | bl _ => cases r; rfl
  | int _ => obtain ⟨t, rfl⟩ := r; rfl
  | str _ => obtain ⟨t, rfl⟩ := r; rfl
  | byt _ => obtain ⟨t, rfl⟩ := r; rfl
  | flt _ => obtain ⟨t, rfl⟩ := r; rfl
  | ref _ => cases r; rfl
  | ty _ => cases r; rfl
theorem RelV.inj {x y : V} {u : Value} (r : RelV x u) (q : RelV y u) : x = y := Option.some.inj (r.abs.symm.trans q.abs)
theorem Vals.inj : ∀ {xs ys : List V} {us : List Value}, Vals xs us → Vals ys us → xs = ys
  | _, _, _, .nil, .nil => rfl
  | _, _, _, .cons r t, .cons r' t' => by rw [r.inj r', Vals.inj t t']
section
variable {X : Cx} {pins : List (Addr × Obj)} {σ : St} {H : Hp} {s : Shared} {a : Addr} {xs ys : List V}
theorem SqL.of {K : PySem.W.Frag} (h : H a = some (.lst xs)) : SqL K H a xs := .inl (.inl h)
theorem SqT.of {K : PySem.W.Frag} (h : H a = some (.tup xs)) : SqT K H a xs := .inl (.inl h)
theorem Inv.list (I : Inv X pins σ H s) (h : SqL X.K H a xs) : ∃ its : List Value, Vals xs its ∧ PlainL s.heap a its.toArray ∧ xs.length ≤ sizeLine := by
  rcases h with h | ⟨o, its, n, hk, hc, hd, hs, hz, r⟩
  · obtain ⟨z, its, n, r, e⟩ := h.ok I.hok
    exact ⟨its, r, ⟨_, n, e, rfl, rfl, rfl⟩, z⟩
  · refine ⟨its.toList, r, ⟨o, n, I.kIn a o hk, hc, hd, by simpa using hs⟩, ?_⟩
    have e := r.length
    simp only [Array.length_toList] at e
    omega
theorem Inv.tuple (I : Inv X pins σ H s) (h : SqT X.K H a xs) : ∃ its : List Value, Vals xs its ∧ IsTup s.heap a its.toArray ∧ xs.length ≤ sizeLine := by
  rcases h with h | ⟨o, its, n, hk, hc, hs, hz, r⟩
  · obtain ⟨z, its, r, p⟩ := h.ok I.hok
    exact ⟨its, r, p, z⟩
  · refine ⟨its.toList, r, ⟨o, I.kIn a o hk, hc, n, by simpa using hs⟩, ?_⟩
    have e := r.length
    simp only [Array.length_toList] at e
    omega
theorem Inv.list_inj (I : Inv X pins σ H s) (h : SqL X.K H a xs) (h' : SqL X.K H a ys) : xs = ys := by
  obtain ⟨its, r, ⟨o, n, e, _, _, d⟩, _⟩ := I.list h
  obtain ⟨its', r', ⟨o', n', e', _, _, d'⟩, _⟩ := I.list h'
  rw [e] at e'; cases e'
  rw [d] at d'
  injection d' with d1 _
  have : its = its' := by simpa using congrArg Array.toList d1
  subst this
  exact r.inj r'
theorem Inv.tuple_inj (I : Inv X pins σ H s) (h : SqT X.K H a xs) (h' : SqT X.K H a ys) : xs = ys := by
  obtain ⟨its, r, ⟨o, e, _, n, d⟩, _⟩ := I.tuple h
  obtain ⟨its', r', ⟨o', e', _, n', d'⟩, _⟩ := I.tuple h'
  rw [e] at e'; cases e'
  rw [d] at d'
  injection d' with d1 _
  have : its = its' := by simpa using congrArg Array.toList d1
  subst this
  exact r.inj r'
end
/-! ### another wish about exceptions -/
abbrev Cx.wish (X : Cx) (E : Value → Shared → Prop) : Cx := { X with xe := E }
/-- no exception leaves -/
abbrev Cx.nox (X : Cx) : Cx := X.wish fun _ _ => False
theorem Cx.Ok.wish {X : Cx} (ok : X.Ok) (E : Value → Shared → Prop) : (X.wish E).Ok :=
  ⟨ok.mod, ok.kind, ok.glob, ok.blt, ok.above, ok.inj, ok.has, ok.cab, ok.hd, ok.frames, ok.stk, ok.exf, ok.bs, ok.bsz, ok.noex, ok.exfs, ok.funs, ok.frf⟩
theorem Cx.Ok.unwish {X : Cx} {E : Value → Shared → Prop} (ok : (X.wish E).Ok) : X.Ok :=
  ⟨ok.mod, ok.kind, ok.glob, ok.blt, ok.above, ok.inj, ok.has, ok.cab, ok.hd, ok.frames, ok.stk, ok.exf, ok.bs, ok.bsz, ok.noex, ok.exfs, ok.funs, ok.frf⟩
section
variable {X : Cx} {pins : List (Addr × Obj)} {σ : St} {H : Hp} {s : Shared} {E : Value → Shared → Prop}
theorem Inv.wish (I : Inv X pins σ H s) (E : Value → Shared → Prop) : Inv (X.wish E) pins σ H s := ⟨I.ok.wish E, I.os, I.bare, I.base, I.loc, I.cell, I.free, I.freeC, I.pin, I.hok, I.len⟩
theorem Inv.unwish (I : Inv (X.wish E) pins σ H s) : Inv X pins σ H s := ⟨I.ok.unwish, I.os, I.bare, I.base, I.loc, I.cell, I.free, I.freeC, I.pin, I.hok, I.len⟩
theorem SP.unwish {D : Ends} {f : Flow} {s' : Shared} (h : SP (X.wish E) pins D f s') : SP X pins D f s' := by
  cases f with
  | next => obtain ⟨σ', H', I, q⟩ := h; exact ⟨σ', H', I.unwish, q⟩
  | brk => obtain ⟨σ', H', I, q⟩ := h; exact ⟨σ', H', I.unwish, q⟩
  | cont => obtain ⟨σ', H', I, q⟩ := h; exact ⟨σ', H', I.unwish, q⟩
  | ret u => obtain ⟨v, σ', H', I, r, q⟩ := h; exact ⟨v, σ', H', I.unwish, r, q⟩
theorem PSs.nox {st : List Stmt} {t : TS} (h : PSs X.nox st t) : PSs X st t := fun pins s σ H D I hw =>
  wpAny_mono (h pins s σ H D (I.wish _) hw) (fun _ _ q => q.unwish) fun _ _ z => False.elim z
end
/-! ### blocks and small statements -/
section
variable {X : Cx} {st : Stmt} {rest : List Stmt} {t u : TS} {e : Expr} {te : TE} {pos : Pos}
def tNext : TS := fun D σ H => D.nx σ H
def tSeq (t u : TS) : TS := fun D σ H => t { D with nx := u D } σ H
theorem pss_nil : PSs X [] tNext := fun _ _ σ H _ I h => wpAny_execs_nil ⟨σ, H, I, h⟩
theorem pss_cons (h1 : PS X st t) (h2 : PSs X rest u) : PSs X (st :: rest) (tSeq t u) := by
  intro pins s σ H D I h
  refine wpAny_execs_cons (thn (h1 pins s σ H { D with nx := u D } I h) fun f s1 q => ?_)
  cases f with
  | next =>
    obtain ⟨σ', H', I', q⟩ := q
    exact h2 pins s1 σ' H' D I' q
  | ret v => exact q
  | brk => exact q
  | cont => exact q
theorem pss_one (h1 : PS X st t) : PSs X [st] t := by
  intro pins s σ H D I h
  refine wpAny_execs_cons (thn (h1 pins s σ H D I h) fun f s1 q => ?_)
  cases f with
  | next => exact wpAny_execs_nil q
  | ret v => exact q
  | brk => exact q
  | cont => exact q
/-- in a def's body nothing is shown -/
theorem Inv.quiet {pins : List (Addr × Obj)} {σ : St} {H : Hp} {s : Shared} (I : Inv X pins σ H s) : interactive X.env = false := by simp [interactive, I.ok.kind]
/-- an expression whose value is dropped -/
def tDrop (te : TE) : TS := fun D σ H => te σ H fun _ H1 => D.nx σ H1
theorem ps_expr (he : PE X e te) (hs : swapsWith e none pos.line X.env = pure false := by rfl) : PS X (.Expr e pos) (tDrop te) := by
  intro pins s σ H D I h
  exact wpAny_Expr_any (thn (he pins s σ H _ I h) fun v s1 ⟨x, H1, I1, r1, q1⟩ => ⟨σ, H1, I1, q1⟩) I.quiet hs
def tRet (te : TE) : TS := fun D σ H => te σ H D.rt
theorem ps_ret (he : PE X e te) : PS X (.Return (some e) pos) (tRet te) := by
  intro pins s σ H D I h
  exact wpAny_Return_some (thn (he pins s σ H _ I h) fun v s1 ⟨x, H1, I1, r1, q1⟩ => ⟨x, σ, H1, I1, r1, q1⟩)
def tIfS (c : TT) (t u : TS) : TS := fun D σ H => c σ H fun b H1 => if b = true then t D σ H1 else u D σ H1
theorem ps_if {c : Expr} {a b : List Stmt} {tc : TT} (hc : PT X c tc) (ha : PSs X a t) (hb : PSs X b u) : PS X (.If c a b pos) (tIfS tc t u) := by
  intro pins s σ H D I h
  refine wpAny_If (thn (hc pins s σ H _ I h) fun d s1 ⟨H1, I1, q1⟩ => ?_)
  cases d with
  | true => exact ha pins s1 σ H1 D I1 q1
  | false => exact hb pins s1 σ H1 D I1 q1
/-- code that the proof never comes to -/
def tNever : TS := fun _ _ _ => False
theorem ps_never : PS X st tNever := fun _ _ _ _ _ _ h => h.elim
end
/-! ### targets -/
abbrev TG := V → St → Hp → (St → Hp → Prop) → Prop
abbrev TGs := List V → St → Hp → (St → Hp → Prop) → Prop
def PG (X : Cx) (target : Expr) (t : TG) : Prop :=
  ∀ (pins : List (Addr × Obj)) (s : Shared) (σ : St) (H : Hp) (v : V) (u : Value) (Q : St → Hp → Prop), Inv X pins σ H s → RelV v u → t v σ H Q →
    wpAny (model X.prog X.w) X.A (assign target X.env u) (fun _ s' => ∃ σ' H', Inv X pins σ' H' s' ∧ Q σ' H') X.xe s
/-- several targets, one after another -/
def PGs (X : Cx) (ts : List Expr) (t : TGs) : Prop :=
  ∀ (pins : List (Addr × Obj)) (s : Shared) (σ : St) (H : Hp) (vs : List V) (us : List Value) (Q : St → Hp → Prop), Inv X pins σ H s → Vals vs us → t vs σ H Q →
    wpAny (model X.prog X.w) X.A (assignInOrder ((assignEach ts X.env).map (·.2)) us) (fun _ s' => ∃ σ' H', Inv X pins σ' H' s' ∧ Q σ' H') X.xe s
section
variable {X : Cx} {pos : Pos}
def gName (i : Nat) : TG := fun v σ H Q => Q (σ.set i (some v)) H
theorem pg_name {i : Nat} {x : Str} (hN : X.N.Nodup) (hi : X.N[i]? = some x) (hx : Loc X.env.scope x) (hf : X.fn x = true ∨ X.env.scope.names.lookup x = some .local := by first | exact .inl rfl | exact .inr rfl | assumption) : PG X (.Name x pos) (gName i) := by
  intro pins s σ H v u Q I r h
  exact wpAny_assign_Name (store_ok I hN hi hx r (fun s' I' => ⟨_, H, I', h⟩) hf)
def gNil : TGs := fun vs σ H Q => vs = [] ∧ Q σ H
def gCons (t : TG) (u : TGs) : TGs := fun vs σ H Q => ∃ v r, vs = v :: r ∧ t v σ H fun σ' H' => u r σ' H' Q
theorem pgs_nil : PGs X [] gNil := by
  intro pins s σ H vs us Q I r h
  obtain ⟨e, h⟩ := h
  subst e
  cases r
  exact assignInOrder_nil ⟨σ, H, I, h⟩
theorem pgs_cons {e : Expr} {es : List Expr} {t : TG} {u : TGs} (h1 : PG X e t) (h2 : PGs X es u)
    (hs : (assignEach (e :: es) X.env).map (·.2) = assign e X.env :: (assignEach es X.env).map (·.2) := by rfl) : PGs X (e :: es) (gCons t u) := by
  intro pins s σ H vs us Q I r h
  obtain ⟨v, vr, e1, h⟩ := h
  subst e1
  cases r with
  | cons r rr =>
    rw [hs]
    refine assignInOrder_cons (thn (h1 pins s σ H _ _ _ I r h) fun _ s1 ⟨σ1, H1, I1, q1⟩ => ?_)
    exact h2 pins s1 σ1 H1 _ _ Q I1 rr q1
/-- (a, b, ..) = a tuple of that length -/
def gTup (K : PySem.W.Frag) (n : Nat) (t : TGs) : TG := fun v σ H Q => ∃ a xs, v = .ref a ∧ SqT K H a xs ∧ xs.length = n ∧ t xs σ H Q
theorem pg_tup {es : List Expr} {k : Nat} {t : TGs} {n : Nat} (hc : X.calm = true) (h : PGs X es t)
    (hn : (assignEach es X.env).length = n := by rfl) (hst : (assignEach es X.env).findIdx? (·.1) = none := by rfl) : PG X (.Tuple es k pos) (gTup X.K n t) := by
  intro pins s σ H v u Q I r hw
  obtain ⟨a, xs, e1, hq, hl, hw⟩ := hw
  subst e1
  cases r
  obtain ⟨its, rv, ht, hz⟩ := I.tuple hq
  refine assign_Tuple_tuple (I.ok.hd hc) ht (by simp [hn, ← hl, rv.length]) hst fun h' hx => ?_
  have I1 : Inv X pins σ H { s with heap := h' } := I.kept (t' := s.toks) fun b o e => hx b o (Nat.ne_of_lt (Heap.lt_size e)) e
  exact h pins _ σ H xs _ Q I1 (by simpa using rv) hw
/-- target = value -/
def tAsg (te : TE) (g : TG) : TS := fun D σ H => te σ H fun x H1 => g x σ H1 D.nx
/-- name = value -/
theorem ps_set {i : Nat} {x : Str} {e : Expr} {te : TE} {pos' : Pos} (hN : X.N.Nodup) (hi : X.N[i]? = some x) (hx : Loc X.env.scope x) (he : PE X e te) (hs : swapsWith e (some (.Name x pos')) pos.line X.env = pure false := by rfl) (hf : X.fn x = true ∨ X.env.scope.names.lookup x = some .local := by first | exact .inl rfl | exact .inr rfl | assumption) :
    PS X (.Assign [.Name x pos'] e pos) (tAsg te (gName i)) := by
  intro pins s σ H D I h
  refine wpAny_Assign_Name (thn (he pins s σ H _ I h) fun v s1 ⟨y, H1, I1, r1, q1⟩ => ?_) hs
  exact store_ok I1 hN hi hx r1 (fun s2 I2 => ⟨_, H1, I2, q1⟩) hf
end
/-! ### while -/
section
variable {X : Cx} {pos : Pos}
/-- the invariant W with its measure -/
def tWhile (c : TT) (tb : TS) : TS := fun D σ H => ∃ W : Nat → St → Hp → Prop, (∃ m, W m σ H) ∧ ∀ m σ H, W m σ H →
  c σ H fun b H1 => if b = true then ∃ N : St → Hp → Prop, (∀ σ' H', N σ' H' → ∃ m', m' < m ∧ W m' σ' H') ∧ tb { D with nx := N, ct := N, bk := D.nx } σ H1 else D.nx σ H1
theorem ps_while {c : Expr} {body : List Stmt} {tc : TT} {tb : TS} (hp : PassesOwn (model X.prog X.w) X.A X.env X.xe) (hc : PT X c tc) (hb : PSs X body tb) : PS X (.While c body [] pos) (tWhile tc tb) := by
  intro pins s σ H D I h
  obtain ⟨W, ⟨m0, w0⟩, turn⟩ := h
  refine wpAny_While (codeAny_whileLoop (fun n s' => ∃ σ' H', Inv X pins σ' H' s' ∧ W n σ' H') ?_ m0 ⟨σ, H, I, w0⟩)
  rintro n s1 ⟨σ1, H1, I1, w1⟩
  refine wpAny_passesOwn hp (thn (hc pins s1 σ1 H1 _ I1 (turn n σ1 H1 w1)) fun b s2 ⟨H2, I2, q2⟩ => ?_)
  cases b with
  | true =>
    obtain ⟨N, hN, q2⟩ := q2
    rw [if_pos rfl]
    refine wpAny_passesOwn hp (thn (hb pins s2 σ1 H2 _ I2 q2) fun f s3 q3 => ?_)
    cases f with
    | next =>
      obtain ⟨σ3, H3, I3, n3⟩ := q3
      obtain ⟨m', hm, w3⟩ := hN σ3 H3 n3
      exact ⟨m', hm, σ3, H3, I3, w3⟩
    | cont =>
      obtain ⟨σ3, H3, I3, n3⟩ := q3
      obtain ⟨m', hm, w3⟩ := hN σ3 H3 n3
      exact ⟨m', hm, σ3, H3, I3, w3⟩
    | brk => exact q3
    | ret v => exact q3
  | false =>
    rw [if_neg Bool.false_ne_true]
    exact wpAny_execs_nil ⟨σ1, H2, I2, q2⟩
end
/-! ### what a loop or a comprehension walks -/
/-- at turn i: it yields x (the heap may grow), or it stops -/
structure It where
  go : Nat → Hp → Prop
  yld : Nat → Hp → V → Hp → Prop
  stop : Nat → Hp → Prop
/-- the iterator's own objects may turn: they are not the frame's, not pinned, younger than the entry (or a comprehension's own) -/
def FpOk (X : Cx) (pins : List (Addr × Obj)) (H : Hp) (b : Addr) : Prop :=
  H b = none ∧ b ≠ X.env.locals ∧ b ∉ X.fs ∧ (b ∈ X.ex ∨ X.s_0.heap.objs.size ≤ b) ∧ (∀ x c, X.env.cells.lookup x = some c → c ≠ b) ∧ ∀ p ∈ X.pn ++ pins, p.1 ≠ b
theorem Inv.fpOk {X : Cx} {pins : List (Addr × Obj)} {σ : St} {H H' : Hp} {s : Shared} {b : Addr} (I : Inv X pins σ H s) (hb : s.heap.objs.size ≤ b) (hn : H' b = none) : FpOk X pins H' b := by
  refine ⟨hn, Nat.ne_of_gt (Nat.lt_of_lt_of_le I.lt hb), I.nofs hb, .inr (Nat.le_trans I.sz hb), fun x c e z => ?_, fun p hp z => ?_⟩
  · obtain ⟨v, q⟩ := I.cell x c e
    exact absurd (Nat.lt_of_lt_of_le q.lt (by rw [z]; exact hb)) (Nat.lt_irrefl _)
  · exact absurd (Nat.lt_of_lt_of_le (Heap.lt_size (I.pin p hp).1) (by rw [z]; exact hb)) (Nat.lt_irrefl _)
structure Turn (P : Program) (w : World) (K : PySem.W.Frag) (tg : Expr) (J : It) (fp : List Addr) (it : Addr) (tn : Nat → Heap → Prop) : Prop where
  mem : it ∈ fp
  obj : ∀ i h, tn i h → ∀ b ∈ fp, ∃ o, h.get? b = some o ∧ ∀ v, o.data ≠ .cell v
  keep : ∀ i h h', tn i h → (∀ b ∈ fp, ∀ o, h.get? b = some o → h'.get? b = some o) → tn i h'
  item : ∀ (X : Cx), X.prog = P → X.w = w → X.K = K → X.calm = true → ∀ (i : Nat) (pins : List (Addr × Obj)) (s : Shared) (σ : St) (H : Hp) (E : Value → Shared → Prop), Inv X pins σ H s → (∀ b ∈ fp, FpOk X pins H b) → tn i s.heap → J.go i H →
    wpAny (model P w) X.A (pyNext (.ref it)) (fun r s1 => ∃ u, r = some u ∧
      wpAny (model P w) X.A (letOwnedTupleGo tg (.ref it) u) (fun _ s2 => ∃ x H', Inv X pins σ H' s2 ∧ RelV x u ∧ J.yld i H x H' ∧ tn (i + 1) s2.heap ∧ ∀ b ∈ fp, H' b = none) E s1) E s
  done : ∀ (X : Cx), X.prog = P → X.w = w → X.K = K → X.calm = true → ∀ (i : Nat) (pins : List (Addr × Obj)) (s : Shared) (σ : St) (H : Hp) (E : Value → Shared → Prop), Inv X pins σ H s → (∀ b ∈ fp, FpOk X pins H b) → tn i s.heap → J.stop i H →
    wpAny (model P w) X.A (pyNext (.ref it)) (fun r s1 => r = none ∧ Inv X pins σ H s1) E s
  self : ∀ (A : Around) (i : Nat) (s : Shared) (Q : Value → Shared → Prop) (E : Value → Shared → Prop), tn i s.heap → Q (.ref it) s → wpAny (model P w) A (pyIter (.ref it)) Q E s
abbrev TI := St → Hp → (It → Hp → Prop) → Prop
/-- an iterator has come -/
def PIE (X : Cx) (pins : List (Addr × Obj)) (σ : St) (tg : Expr) (R : It → Hp → Prop) (itv : Value) (s2 : Shared) : Prop :=
  ∃ (it : Addr) (fp : List Addr) (tn : Nat → Heap → Prop) (J : It) (H' : Hp), itv = .ref it ∧ Inv X pins σ H' s2 ∧ Turn X.prog X.w X.K tg J fp it tn ∧ tn 0 s2.heap ∧ (∀ b ∈ fp, FpOk X pins H' b) ∧ R J H'
def PI (X : Cx) (tg iter : Expr) (wi : TI) : Prop :=
  ∀ (pins : List (Addr × Obj)) (s : Shared) (σ : St) (H : Hp) (R : It → Hp → Prop), Inv X pins σ H s → wi σ H R →
    wpAny (model X.prog X.w) X.A (eval iter X.env) (fun v s1 => wpAny (model X.prog X.w) X.A (pyIter v) (PIE X pins σ tg R) X.xe s1) X.xe s
/-- the step ahead of the store is nothing for an iterator that keeps no tuple -/
theorem go_of {M : Model} {A : Around} {E : Value → Shared → Prop} {s : Shared} {tg : Expr} {it : Addr} {u : Value} {o : Obj} {n : String} {vs : Array Value} {Q : Unit → Shared → Prop} (ho : s.heap.get? it = some o) (hc : o.cls = .type n) (hd : o.data = .fields vs)
    (hn : ["enumerate", "zip", "dict_itemiterator", "dict_reverseitemiterator", "odict_iterator", "itertools.zip_longest", "itertools.pairwise"].contains n = false) (hQ : Q () s) : wpAny M A (letOwnedTupleGo tg (.ref it) u) Q E s := by
  unfold letOwnedTupleGo
  cases tg <;> first
    | exact wpAny_pure hQ
    | (cases u <;> first
        | exact wpAny_pure hQ
        | (refine wpAny_bind (wpAny_load ho ?_)
           rw [hc, hd]
           show wpAny M A (if (["enumerate", "zip", "dict_itemiterator", "dict_reverseitemiterator", "odict_iterator", "itertools.zip_longest", "itertools.pairwise"].contains n && vs[0]? == some (rawInt _)) = true then _ else _) Q E s
           rw [if_neg (by intro h; rw [hn, Bool.false_and] at h; cases h)]
           exact wpAny_pure hQ))
/-- the list at a, as it stands at each turn (a loop may append to it) -/
def Itl (K : PySem.W.Frag) (a : Addr) : It :=
  ⟨fun i H => ∃ xs x, SqL K H a xs ∧ xs[i]? = some x, fun i H x H' => H' = H ∧ ∀ xs, SqL K H a xs → xs[i]? = some x, fun i H => ∃ xs, SqL K H a xs ∧ xs.length ≤ i⟩
theorem turn_list {P : Program} {w : World} {K : PySem.W.Frag} {tg : Expr} (a it : Addr) : Turn P w K tg (Itl K a) [it] it (fun i h => h.IsListIter it a i) where
  mem := by simp
  obj := fun i h st b hb => by
    have e : b = it := by simpa using hb
    subst e
    obtain ⟨o, e, c, d⟩ := st
    exact ⟨o, e, fun v z => by rw [d] at z; cases z⟩
  keep := fun i h h' st k => st.at fun o e => k it (by simp) o e
  item := by
    intro X hP hw hK hc i pins s σ H E I hf st hg
    subst hP hw hK
    obtain ⟨xs, x, hq, hx⟩ := hg
    obtain ⟨its, rv, p, hz⟩ := I.list hq
    obtain ⟨u, hu, ru⟩ := rv.get hx
    obtain ⟨f0, f1, f2, f3, f4, f5⟩ := hf it (by simp)
    refine wpAny_pyNext_list_item st p.isList (x := u) (by simpa using hu) fun h' st' sb => ?_
    have I1 : Inv X pins σ H { s with heap := h' } := I.turned (t' := s.toks) (fun b o hb e => (sb.2 b hb).trans e) f0 f1 f3 f4 f5
    obtain ⟨o, e, c, d⟩ := id st'
    exact ⟨u, rfl, go_of (s := { s with heap := h' }) e c d (by decide) ⟨x, H, I1, ru, ⟨rfl, fun ys hy => by rw [I.list_inj hy hq]; exact hx⟩, st', fun b hb => (hf b hb).1⟩⟩
  done := by
    intro X hP hw hK hc i pins s σ H E I hf st hg
    subst hP hw hK
    obtain ⟨xs, hq, hx⟩ := hg
    obtain ⟨its, rv, p, hz⟩ := I.list hq
    obtain ⟨f0, f1, f2, f3, f4, f5⟩ := hf it (by simp)
    have hl := rv.length
    exact wpAny_pyNext_list_end (I.ok.hd hc) st p.isList (by simp; omega) fun h' eb => ⟨rfl, I.turned (t' := s.toks) (fun b o hb e => eb b o hb e) f0 f1 f3 f4 f5⟩
  self := fun _ _ _ _ _ st h => wpAny_pyIter_listiter st h
end L2
namespace L2
open PySem PySem.Spec PyProof.Rows
section
variable {X : Cx} {tg : Expr}
def iList (K : PySem.W.Frag) (tl : TE) : TI := fun σ H R => tl σ H fun x H1 => ∃ a, x = .ref a ∧ (∃ xs, SqL K H1 a xs) ∧ R (Itl K a) H1
theorem pi_list {l : Expr} {tl : TE} (hl : PE X l tl) : PI X tg l (iList X.K tl) := by
  intro pins s σ H R I h
  refine thn (hl pins s σ H _ I h) fun v s1 ⟨x, H1, I1, r1, q1⟩ => ?_
  obtain ⟨a, e, ⟨xs, hq⟩, q⟩ := q1
  subst e
  cases r1
  obtain ⟨its, rv, p, hz⟩ := I1.list hq
  refine wpAny_pyIter_list p.isList ?_
  refine ⟨s1.heap.objs.size, [s1.heap.objs.size], _, _, H1, rfl, I1.kept (t' := s1.toks) fun b o e => Heap.get?_push_of_some _ e, turn_list a _, ⟨_, Heap.get?_push_size _ rfl, rfl, rfl⟩, fun b hb => ?_, q⟩
  have e : b = s1.heap.objs.size := by simpa using hb
  subst e
  exact I1.fpOk (Nat.le_refl _) (I1.hok.fresh (Nat.le_refl _))
/-! ### for -/
/-- W: the invariant by the turn and a measure; N: what the body is to reach -/
def tFor (wi : TI) (g : TG) (tb : TS) : TS := fun D σ H => wi σ H fun J H1 => ∃ W : Nat → Nat → St → Hp → Prop, (∃ m, W 0 m σ H1) ∧ ∀ i m σ H, W i m σ H →
  (J.stop i H ∧ D.nx σ H) ∨ (J.go i H ∧ ∃ N : St → Hp → Prop, (∀ σ' H', N σ' H' → ∃ m', m' < m ∧ W (i + 1) m' σ' H') ∧ ∀ x H', J.yld i H x H' → g x σ H' fun σ2 H2 => tb { D with nx := N, ct := N, bk := D.nx } σ2 H2)
/-- the records at fp as they stand -/
def pinsAt (fp : List Addr) (h : Heap) : List (Addr × Obj) := fp.filterMap fun b => (h.get? b).map fun o => (b, o)
theorem mem_pinsAt {fp : List Addr} {h : Heap} {b : Addr} {o : Obj} (hb : b ∈ fp) (e : h.get? b = some o) : (b, o) ∈ pinsAt fp h := List.mem_filterMap.mpr ⟨b, hb, by rw [e]; rfl⟩
theorem of_pinsAt {fp : List Addr} {h : Heap} {p : Addr × Obj} (hp : p ∈ pinsAt fp h) : p.1 ∈ fp ∧ h.get? p.1 = some p.2 := by
  obtain ⟨b, hb, e⟩ := List.mem_filterMap.mp hp
  cases q : h.get? b with
  | none => rw [q] at e; cases e
  | some o =>
    rw [q] at e
    have e' : (b, o) = p := Option.some.inj e
    subst e'
    exact ⟨hb, q⟩
theorem Inv.pinned {pins : List (Addr × Obj)} {σ : St} {H : Hp} {s : Shared} {fp : List Addr} (I : Inv X pins σ H s) (hf : ∀ b ∈ fp, FpOk X pins H b) (ho : ∀ b ∈ fp, ∃ o, s.heap.get? b = some o ∧ ∀ v, o.data ≠ .cell v) : Inv X (pins ++ pinsAt fp s.heap) σ H s :=
  I.pins_of fun p hp => (List.mem_append.mp hp).elim (fun z => I.pin p (List.mem_append_right _ z)) fun z => by
    obtain ⟨hb, e⟩ := of_pinsAt z
    obtain ⟨f0, f1, f2, _⟩ := hf p.1 hb
    obtain ⟨o, e', d⟩ := ho p.1 hb
    rw [e] at e'; cases e'
    exact ⟨e, f0, f1, f2, d⟩
theorem Inv.unpinned {pins pl : List (Addr × Obj)} {σ : St} {H : Hp} {s : Shared} (I : Inv X (pins ++ pl) σ H s) : Inv X pins σ H s := I.pins_of fun p hp => I.pin p (List.mem_append_right _ (List.mem_append_left _ hp))
theorem ps_for {iter : Expr} {body : List Stmt} {wi : TI} {g : TG} {tb : TS} {pos : Pos} (hp : PassesOwn (model X.prog X.w) X.A X.env X.xe) (hc : X.calm = true) (hi : PI X tg iter wi) (hg : PG X tg g) (hb : PSs X body tb)
    (hs : ∀ x, foldedSetIterable iter X.env x = pure x := by intro _; rfl) : PS X (.For tg iter body [] pos) (tFor wi g tb) := by
  intro pins s σ H D I h
  refine wpAny_For (thn (hi pins s σ H _ I h) fun v s1 h1 => thn h1 fun itv s2 h2 => ?_) hs
  obtain ⟨it, fp, tn, J, H2, e, I2, T, st2, f2, W, ⟨m0, w0⟩, turn⟩ := h2
  subst e
  -- what stays true of the iterator's objects through the loop
  have stat : ∀ {H' : Hp}, (∀ b ∈ fp, H' b = none) → ∀ b ∈ fp, FpOk X pins H' b := fun hn b hb => ⟨hn b hb, (f2 b hb).2⟩
  refine codeAny_forLoop_any (fun n s' => ∃ i σ' H', Inv X pins σ' H' s' ∧ tn i s'.heap ∧ (∀ b ∈ fp, H' b = none) ∧ W i n σ' H') ?_ m0 ⟨0, σ, H2, I2, st2, fun b hb => (f2 b hb).1, w0⟩
  rintro n s3 ⟨i, σ3, H3, I3, st3, fr3, w3⟩
  rcases turn i n σ3 H3 w3 with ⟨stop, qn⟩ | ⟨go, N, hN, step⟩
  · refine wpAny_passesOwn hp (thn (T.done X rfl rfl rfl hc i pins s3 σ3 H3 X.xe I3 (stat fr3) st3 stop) fun r s4 ⟨hr, I4⟩ => ?_)
    subst hr
    exact wpAny_execs_nil ⟨σ3, H3, I4, qn⟩
  · refine wpAny_passesOwn hp (thn (T.item X rfl rfl rfl hc i pins s3 σ3 H3 X.xe I3 (stat fr3) st3 go) fun r s4 ⟨u, hr, h4⟩ => ?_)
    subst hr
    refine wpAny_passesOwn hp (thn h4 fun _ s5 ⟨x, H5, I5, r5, y5, st5, fr5⟩ => ?_)
    have I5' := I5.pinned (stat fr5) (T.obj _ _ st5)
    refine wpAny_passesOwn hp (thn (hg _ s5 σ3 H5 x u _ I5' r5 (step x H5 y5)) fun _ s6 ⟨σ6, H6, I6, q6⟩ => ?_)
    refine wpAny_passesOwn hp (thn (hb _ s6 σ6 H6 _ I6 q6) fun f s7 q7 => ?_)
    have again : ∀ {σ7 : St} {H7 : Hp}, Inv X (pins ++ pinsAt fp s5.heap) σ7 H7 s7 → N σ7 H7 → ∃ m, m < n ∧ ∃ i σ' H', Inv X pins σ' H' s7 ∧ tn i s7.heap ∧ (∀ b ∈ fp, H' b = none) ∧ W i m σ' H' := fun {σ7 H7} I7 n7 => by
      obtain ⟨m', hm, w7⟩ := hN σ7 H7 n7
      refine ⟨m', hm, i + 1, σ7, H7, I7.unpinned, T.keep _ _ _ st5 fun b hb o e => (I7.pin (b, o) (List.mem_append_right _ (List.mem_append_right _ (mem_pinsAt hb e)))).1, fun b hb => ?_, w7⟩
      obtain ⟨o, e, d⟩ := T.obj _ _ st5 b hb
      exact (I7.pin (b, o) (List.mem_append_right _ (List.mem_append_right _ (mem_pinsAt hb e)))).2.1
    cases f with
    | next => obtain ⟨σ7, H7, I7, n7⟩ := q7; exact again I7 n7
    | cont => obtain ⟨σ7, H7, I7, n7⟩ := q7; exact again I7 n7
    | brk => obtain ⟨σ7, H7, I7, q7⟩ := q7; exact ⟨σ7, H7, I7.unpinned, q7⟩
    | ret v => obtain ⟨x7, σ7, H7, I7, r7, q7⟩ := q7; exact ⟨x7, σ7, H7, I7.unpinned, r7, q7⟩
end
/-! ### the forms one uses -/
/-- over a list that the body leaves as it is -/
theorem for_list {K : PySem.W.Frag} {a : Addr} {xs : List V} {g : TG} {tb : TS} {D : Ends} {σ : St} {H : Hp} (Pv : Nat → St → Hp → Prop) (h0 : Pv 0 σ H) (hl : ∀ i σ H, i ≤ xs.length → Pv i σ H → SqL K H a xs)
    (hs : ∀ i x σ H, xs[i]? = some x → Pv i σ H → g x σ H fun σ2 H2 => tb { D with nx := Pv (i + 1), ct := Pv (i + 1), bk := D.nx } σ2 H2) (hd : ∀ σ H, Pv xs.length σ H → D.nx σ H) :
    ∃ W : Nat → Nat → St → Hp → Prop, (∃ m, W 0 m σ H) ∧ ∀ i m σ H, W i m σ H →
      ((Itl K a).stop i H ∧ D.nx σ H) ∨ ((Itl K a).go i H ∧ ∃ N : St → Hp → Prop, (∀ σ' H', N σ' H' → ∃ m', m' < m ∧ W (i + 1) m' σ' H') ∧ ∀ x H', (Itl K a).yld i H x H' → g x σ H' fun σ2 H2 => tb { D with nx := N, ct := N, bk := D.nx } σ2 H2) := by
  refine ⟨fun i m σ H => m = xs.length - i ∧ i ≤ xs.length ∧ Pv i σ H, ⟨xs.length, by simp, Nat.zero_le _, h0⟩, ?_⟩
  rintro i m σ H ⟨rfl, hi, p⟩
  have q := hl i σ H hi p
  by_cases hlt : i < xs.length
  · refine .inr ⟨⟨xs, xs[i], q, by simp [hlt]⟩, Pv (i + 1), fun σ' H' p' => ⟨xs.length - (i + 1), by omega, rfl, hlt, p'⟩, fun x H' y => ?_⟩
    obtain ⟨e, y⟩ := y
    subst e
    exact hs i x σ _ (y xs q) p
  · have e : i = xs.length := by omega
    subst e
    exact .inl ⟨⟨xs, q, Nat.le_refl _⟩, hd σ H p⟩
end L2
namespace L2
open PySem PySem.Spec PyProof.Rows
abbrev R2 := V → V → Hp → VK → Prop
/-- a two-place operation on values: f is binaryOp op, inplaceOp op or compareOp op -/
def OpR (X : Cx) (f : Value → Value → Sem Value) (r : R2) : Prop :=
  ∀ (pins : List (Addr × Obj)) (s : Shared) (σ : St) (H : Hp) (x y : V) (v u : Value) (Q : VK), Inv X pins σ H s → RelV x v → RelV y u → r x y H Q →
    wpAny (model X.prog X.w) X.A (f v u) (EP X pins σ Q) X.xe s
/-- a one-place operation -/
def UnR (X : Cx) (f : Value → Sem Value) (r : V → Hp → VK → Prop) : Prop :=
  ∀ (pins : List (Addr × Obj)) (s : Shared) (σ : St) (H : Hp) (x : V) (v : Value) (Q : VK), Inv X pins σ H s → RelV x v → r x H Q →
    wpAny (model X.prog X.w) X.A (f v) (EP X pins σ Q) X.xe s
/-- a call of a value that is known (a builtin, a type) with values -/
def CallR (X : Cx) (f : Value) (r : List V → Hp → VK → Prop) : Prop :=
  ∀ (pins : List (Addr × Obj)) (s : Shared) (σ : St) (H : Hp) (xs : List V) (us : List Value) (Q : VK), Inv X pins σ H s → Vals xs us → r xs H Q →
    wpAny (model X.prog X.w) X.A (call f us) (EP X pins σ Q) X.xe s
def tOp (r : R2) (ta tb : TE) : TE := fun σ H Q => ta σ H fun x H1 => tb σ H1 fun y H2 => r x y H2 Q
def tUn (r : V → Hp → VK → Prop) (ta : TE) : TE := fun σ H Q => ta σ H fun x H1 => r x H1 Q
/-- ints in, under C, and a value out -/
def rI (C : Int → Int → Prop) (g : Int → Int → V) : R2 := fun x y H Q => ∃ i j, x = .int i ∧ y = .int j ∧ C i j ∧ Q (g i j) H
def rI0 (g : Int → Int → V) : R2 := fun x y H Q => ∃ i j, x = .int i ∧ y = .int j ∧ Q (g i j) H
def rU (g : Int → V) : V → Hp → VK → Prop := fun x H Q => ∃ i, x = .int i ∧ Q (g i) H
section
variable {X : Cx} {a b c : Expr} {ta tb tc : TE} {pos : Pos}
theorem binT (ha : PE X a ta) (hb : PE X b tb) {pins : List (Addr × Obj)} {s : Shared} {σ : St} {H : Hp} {R : V → V → Hp → Prop} (I : Inv X pins σ H s)
    (h : ta σ H fun x H1 => tb σ H1 fun y H2 => R x y H2) {Q : Value → Shared → Prop} {f : Value → Value → Sem Value}
    (hf : ∀ v u s2 x y H2, Inv X pins σ H2 s2 → RelV x v → RelV y u → R x y H2 → wpAny (model X.prog X.w) X.A (f v u) Q X.xe s2) :
    wpAny (model X.prog X.w) X.A (eval a X.env) (fun v s₁ => wpAny (model X.prog X.w) X.A (eval b X.env) (fun u s₂ => wpAny (model X.prog X.w) X.A (f v u) Q X.xe s₂) X.xe s₁) X.xe s := by
  refine thn (ha pins s σ H _ I h) fun v s1 ⟨x, H1, I1, r1, q1⟩ => ?_
  refine thn (hb pins s1 σ H1 _ I1 q1) fun u s2 ⟨y, H2, I2, r2, q2⟩ => ?_
  exact hf v u s2 x y H2 I2 r1 r2 q2
theorem pe_op {op : Operator} {r : R2} (ho : OpR X (binaryOp op) r) (ha : PE X a ta) (hb : PE X b tb) : PE X (.BinOp a op b pos) (tOp r ta tb) := by
  intro pins s σ H Q I h
  exact wpAny_BinOp (binT ha hb I h fun v u s2 x y H2 I2 rx ry q => ho pins s2 σ H2 x y v u Q I2 rx ry q)
theorem pe_un {op : UnaryOp} {r : V → Hp → VK → Prop} (ho : UnR X (unaryOp op) r) (ha : PE X a ta) : PE X (.UnaryOp op a pos) (tUn r ta) := by
  intro pins s σ H Q I h
  exact UnaryOp_ (thn (ha pins s σ H _ I h) fun v s1 ⟨x, H1, I1, r1, q1⟩ => ho pins s1 σ H1 x v Q I1 r1 q1)
/-! ### ints -/
theorem opI {f : Value → Value → Sem Value} {C : Int → Int → Prop} {g : Int → Int → Int}
    (rule : ∀ (i j : Int) (t u : Tok) (s : Shared) (Q : Value → Shared → Prop) (E : Value → Shared → Prop), C i j → Q (.int (g i j) s.toks) { s with toks := s.toks + 1 } → wpAny (model X.prog X.w) X.A (f (.int i t) (.int j u)) Q E s) :
    OpR X f (rI C fun i j => .int (g i j)) := by
  intro pins s σ H x y v u Q I rx ry h
  obtain ⟨i, j, rfl, rfl, hc, q⟩ := h
  obtain ⟨t, rfl⟩ := rx
  obtain ⟨t', rfl⟩ := ry
  exact rule i j t t' s _ _ hc ⟨.int (g i j), H, I.tok _, ⟨_, rfl⟩, q⟩
theorem opI0 {f : Value → Value → Sem Value} {g : Int → Int → Int}
    (rule : ∀ (i j : Int) (t u : Tok) (s : Shared) (Q : Value → Shared → Prop) (E : Value → Shared → Prop), Q (.int (g i j) s.toks) { s with toks := s.toks + 1 } → wpAny (model X.prog X.w) X.A (f (.int i t) (.int j u)) Q E s) :
    OpR X f (rI0 fun i j => .int (g i j)) := by
  intro pins s σ H x y v u Q I rx ry h
  obtain ⟨i, j, rfl, rfl, q⟩ := h
  obtain ⟨t, rfl⟩ := rx
  obtain ⟨t', rfl⟩ := ry
  exact rule i j t t' s _ _ ⟨.int (g i j), H, I.tok _, ⟨_, rfl⟩, q⟩
theorem opB0 {f : Value → Value → Sem Value} {g : Int → Int → Bool}
    (rule : ∀ (i j : Int) (t u : Tok) (s : Shared) (Q : Value → Shared → Prop) (E : Value → Shared → Prop), Q (.bool (g i j)) s → wpAny (model X.prog X.w) X.A (f (.int i t) (.int j u)) Q E s) :
    OpR X f (rI0 fun i j => .bl (g i j)) := by
  intro pins s σ H x y v u Q I rx ry h
  obtain ⟨i, j, rfl, rfl, q⟩ := h
  obtain ⟨t, rfl⟩ := rx
  obtain ⟨t', rfl⟩ := ry
  exact rule i j t t' s _ _ ⟨.bl (g i j), H, I, rfl, q⟩
def CDiv (i j : Int) : Prop := 0 < j ∧ j < 1073741824
def CMul (i j : Int) : Prop := (-(2 ^ 64) < i ∧ i < 2 ^ 64) ∨ (-(2 ^ 64) < j ∧ j < 2 ^ 64)
theorem CMul.ok {i j : Int} (h : CMul i j) : IntMulOk i j := by
  rcases h with ⟨h1, h2⟩ | ⟨h1, h2⟩
  · exact .of_left (intBits_le_64 h1 h2)
  · exact .of_right (intBits_le_64 h1 h2)
theorem op_add : OpR X (binaryOp .Add) (rI0 fun i j => .int (i + j)) := opI0 fun _ _ _ _ _ _ _ q => add_int q
theorem op_sub : OpR X (binaryOp .Sub) (rI0 fun i j => .int (i - j)) := opI0 fun _ _ _ _ _ _ _ q => sub_int q
theorem op_mul : OpR X (binaryOp .Mult) (rI CMul fun i j => .int (i * j)) := opI fun _ _ _ _ _ _ _ hc q => mul_int q hc.ok
/-- // by a positive divisor -/
theorem op_fdiv : OpR X (binaryOp .FloorDiv) (rI CDiv fun i j => .int (i / j)) := opI fun i j _ _ _ _ _ hc q => by
  have h1 : (0 : Int) < j := hc.1
  have h2 : j < 1073741824 := hc.2
  exact floordiv_int (by omega) (by rw [Int.fdiv_eq_ediv_of_nonneg i (by omega)]; exact q) (.inl (PyProof.noPylong_small (by omega)))
theorem unI {f : Value → Sem Value} {g : Int → Int}
    (rule : ∀ (i : Int) (t : Tok) (s : Shared) (Q : Value → Shared → Prop) (E : Value → Shared → Prop), Q (.int (g i) s.toks) { s with toks := s.toks + 1 } → wpAny (model X.prog X.w) X.A (f (.int i t)) Q E s) :
    UnR X f (rU fun i => .int (g i)) := by
  intro pins s σ H x v Q I rx h
  obtain ⟨i, rfl, q⟩ := h
  obtain ⟨t, rfl⟩ := rx
  exact rule i t s _ _ ⟨.int (g i), H, I.tok _, ⟨_, rfl⟩, q⟩
theorem un_neg : UnR X (unaryOp .USub) (rU fun i => .int (-i)) := unI fun _ _ _ _ _ q => neg_int q
/-! ### bools among ints: n += (a < b) -/
end
/-! ### comparisons -/
/-- the scalars that == tells apart as data does -/
def scal : V → V → Bool
  | .non, .non => true | .non, .int _ => true | .int _, .non => true | .non, .bl _ => true | .bl _, .non => true | .non, .str _ => true | .str _, .non => true
  | .int _, .int _ => true | .bl _, .bl _ => true | .str _, .str _ => true | .byt _, .byt _ => true
  | .int _, .str _ => true | .str _, .int _ => true | .bl _, .str _ => true | .str _, .bl _ => true
  | _, _ => false
def rEq : R2 := fun x y H Q => scal x y = true ∧ Q (.bl (decide (x = y))) H
theorem dec_int {i j : Int} : decide (V.int i = V.int j) = (i == j) := by
  rw [Bool.eq_iff_iff]
  simp
theorem dec_bl {i j : Bool} : decide (V.bl i = V.bl j) = (i == j) := by
  rw [Bool.eq_iff_iff]
  simp
theorem dec_str {i j : Str} : decide (V.str i = V.str j) = (i == j) := by
  rw [Bool.eq_iff_iff]
  simp
theorem dec_byt {i j : Array UInt8} : decide (V.byt i = V.byt j) = (i.toList == j.toList) := by
  rw [Bool.eq_iff_iff]
  cases i
  cases j
  simp
section
variable {X : Cx} {a b c : Expr} {ta tb tc : TE} {pos : Pos}
theorem fin_bl {pins : List (Addr × Obj)} {σ : St} {H : Hp} {s : Shared} {Q : VK} {k k' : Bool} (I : Inv X pins σ H s) (q : Q (.bl k) H) (e : k = k') : EP X pins σ Q (.bool k') s := by
  subst e
  exact ⟨.bl k, H, I, rfl, q⟩
theorem op_eq : OpR X (compareOp .Eq) rEq := by
  intro pins s σ H x y v u Q I rx ry h
  obtain ⟨hs, q⟩ := h
  cases x with
  | non =>
    cases rx
    cases y with
    | non => cases ry; exact PySem.EqNone.eq_none_none (fin_bl I q (by simp))
    | bl j => cases ry; exact PySem.EqNone.eq_none_bool (fin_bl I q (by simp))
    | int j => obtain ⟨t', rfl⟩ := ry; exact PySem.EqNone.eq_none_int (fin_bl I q (by simp))
    | str j => obtain ⟨t', rfl⟩ := ry; exact PySem.EqNone.eq_none_str (fin_bl I q (by simp))
    | _ => exact absurd (show false = true from hs) Bool.false_ne_true
  | bl i =>
    cases rx
    cases y with
    | non => cases ry; exact PySem.EqNone.eq_bool_none (fin_bl I q (by simp))
    | bl j => cases ry; exact eq_bool (fin_bl I q dec_bl)
    | str j => obtain ⟨t', rfl⟩ := ry; exact PySem.EqMixed.eq_bool_str (fin_bl I q (by simp))
    | _ => exact absurd (show false = true from hs) Bool.false_ne_true
  | int i =>
    obtain ⟨t, rfl⟩ := rx
    cases y with
    | non => cases ry; exact PySem.EqNone.eq_int_none (fin_bl I q (by simp))
    | int j => obtain ⟨t', rfl⟩ := ry; exact eq_int (fin_bl I q dec_int)
    | str j => obtain ⟨t', rfl⟩ := ry; exact PySem.EqMixed.eq_int_str (fin_bl I q (by simp))
    | _ => exact absurd (show false = true from hs) Bool.false_ne_true
  | str i =>
    obtain ⟨t, rfl⟩ := rx
    cases y with
    | non => cases ry; exact PySem.EqNone.eq_str_none (fin_bl I q (by simp))
    | bl j => cases ry; exact PySem.EqMixed.eq_str_bool (fin_bl I q (by simp))
    | int j => obtain ⟨t', rfl⟩ := ry; exact PySem.EqMixed.eq_str_int (fin_bl I q (by simp))
    | str j => obtain ⟨t', rfl⟩ := ry; exact eq_str (fin_bl I q dec_str)
    | _ => exact absurd (show false = true from hs) Bool.false_ne_true
  | byt i =>
    obtain ⟨t, rfl⟩ := rx
    cases y with
    | byt j => obtain ⟨t', rfl⟩ := ry; exact PySem.W.eq_bytes (fin_bl I q dec_byt)
    | _ => exact absurd (show false = true from hs) Bool.false_ne_true
  | _ => cases y <;> exact absurd (show false = true from hs) Bool.false_ne_true
theorem op_lt : OpR X (compareOp .Lt) (rI0 fun i j => .bl (decide (i < j))) := opB0 fun _ _ _ _ _ _ _ q => lt_int q
theorem op_le : OpR X (compareOp .LtE) (rI0 fun i j => .bl (decide (i ≤ j))) := opB0 fun _ _ _ _ _ _ _ q => le_int q
theorem op_gt : OpR X (compareOp .Gt) (rI0 fun i j => .bl (decide (j < i))) := opB0 fun _ _ _ _ _ _ _ q => gt_int q
theorem op_ge : OpR X (compareOp .GtE) (rI0 fun i j => .bl (decide (j ≤ i))) := opB0 fun _ _ _ _ _ _ _ q => ge_int q
theorem nomark (b : Expr) {op : CmpOp} (h : op ≠ .In := by decide) (h2 : op ≠ .NotIn := by decide) : behindInMarks op b = false := by
  have e1 : (op == CmpOp.In) = false := by cases op <;> first | rfl | exact absurd rfl h
  have e2 : (op == CmpOp.NotIn) = false := by cases op <;> first | rfl | exact absurd rfl h2
  cases b <;> simp [behindInMarks, e1, e2]
/-- a comparison as a value; hm: nomark b, or (for in, not in) by with_unfolding_all rfl -/
theorem pe_cmpR {op : CmpOp} {r : R2} (ho : OpR X (compareOp op) r) (ha : PE X a ta) (hb : PE X b tb) (hm : behindInMarks op b = false) : PE X (.Compare a [op] [b] pos) (tOp r ta tb) := by
  intro pins s σ H Q I h
  exact wpAny_Compare1 (binT ha hb I h fun v u s2 x y H2 I2 rx ry q => ho pins s2 σ H2 x y v u Q I2 rx ry q) hm
/-- a reading of a value as a test -/
def tTest (t : TE) : TT := fun σ H Q => t σ H fun x H' => ∃ k, x = .bl k ∧ Q k H'
theorem pt_cmpR {op : CmpOp} {r : R2} (ho : OpR X (compareOp op) r) (ha : PE X a ta) (hb : PE X b tb) (hm : behindInMarks op b = false) : PT X (.Compare a [op] [b] pos) (tTest (tOp r ta tb)) := by
  intro pins s σ H Q I h
  refine wpAny_isTrue_Compare1 (thn (ha pins s σ H _ I h) fun v s1 ⟨x, H1, I1, r1, q1⟩ => thn (hb pins s1 σ H1 _ I1 q1) fun u s2 ⟨y, H2, I2, r2, q2⟩ =>
    thn (ho pins s2 σ H2 x y v u _ I2 r1 r2 q2) fun c s3 ⟨z, H3, I3, r3, k, e, q3⟩ => ?_) hm
  subst e
  cases r3
  exact wpAny_truthy_bool ⟨H3, I3, q3⟩
/-! ### truth -/
theorem line63 : (sizeLine : Nat) < 2 ^ 63 := by rw [sizeLine_eq]; decide
/-! ### strs and bytes -/
/-! ### scalar builtins, by CallR -/
theorem vals1 {x : V} {us : List Value} (r : Vals [x] us) : ∃ u, us = [u] ∧ RelV x u := by
  cases r with
  | cons r1 r2 => cases r2; exact ⟨_, rfl, r1⟩
theorem vals2 {x y : V} {us : List Value} (r : Vals [x, y] us) : ∃ u w', us = [u, w'] ∧ RelV x u ∧ RelV y w' := by
  cases r with
  | cons r1 r2 =>
    cases r2 with
    | cons r3 r4 => cases r4; exact ⟨_, _, rfl, r1, r3⟩
theorem call_abs : CallR X (.builtin "abs") (fun xs H Q => ∃ i, xs = [.int i] ∧ Q (.int (if i < 0 then -i else i)) H) := by
  intro pins s σ H xs us Q I r h
  obtain ⟨i, rfl, q⟩ := h
  obtain ⟨u, rfl, t, rfl⟩ := vals1 r
  exact call_abs_int fun u tk => ⟨.int (if i < 0 then -i else i), H, I.tok _, ⟨_, rfl⟩, q⟩
theorem call_max2 (hc : X.calm = true) : CallR X (.builtin "max") (fun xs H Q => ∃ i j, xs = [.int i, .int j] ∧ Q (.int (if j > i then j else i)) H) := by
  intro pins s σ H xs us Q I r h
  obtain ⟨i, j, rfl, q⟩ := h
  obtain ⟨u, w', rfl, ⟨t, rfl⟩, ⟨t', rfl⟩⟩ := vals2 r
  refine max_two_ints (I.ok.hd hc) fun h' tk k => ⟨_, H, I.kept k, ?_, q⟩
  by_cases hj : j > i
  · rw [if_pos hj, if_pos hj]; exact ⟨_, rfl⟩
  · rw [if_neg hj, if_neg hj]; exact ⟨_, rfl⟩
end
end L2
namespace L2
open PySem PySem.Spec PyProof.Rows
/-! ### an instance, its attributes a map -/
structure ObjM (h : Heap) (x dx C : Addr) (mA : Str → Option Value) : Prop where
  obj : h.get? x = some (PySem.W.instObj C dx)
  ns : h.Ns1 dx mA
  ne : dx ≠ x
theorem lookIn_ns {h : Heap} {dx : Addr} {mA : Str → Option Value} (n : h.Ns1 dx mA) : ∃ od, h.get? dx = some od ∧ ∀ name, PySem.W.lookIn name od = some (mA name) := by
  obtain ⟨o, es, ep, ho, hd, hk, _, hm⟩ := n
  refine ⟨o, ho, fun name => ?_⟩
  have e := hm name
  unfold nsFind findBy at e
  rw [← Array.find?_toList] at e
  unfold PySem.W.lookIn
  rw [hd]
  dsimp only
  split
  · rename_i y q
    rw [q] at e
    exact congrArg some e
  · rename_i q
    rw [q] at e
    have a : es.toList.any (·.refKey) = false := by
      rw [List.any_eq_false]
      intro y hy
      obtain ⟨z, t, hkey⟩ := hk y (Array.mem_toList_iff.mp hy)
      simp [DictEntry.refKey, hkey]
    have a' : ¬ es.toList.any (·.refKey) = true := by rw [a]; exact Bool.false_ne_true
    rw [if_neg a']
    exact congrArg some e
theorem ObjM.look {h : Heap} {x dx C : Addr} {mA : Str → Option Value} (I : ObjM h x dx C mA) : ∃ od, PySem.W.InstAt h x (PySem.W.instObj C dx) C (some od) ∧ ∀ name, PySem.W.lookIn name od = some (mA name) :=
  let ⟨od, ho, hl⟩ := lookIn_ns I.ns
  ⟨od, ⟨I.obj, rfl, rfl, ho⟩, hl⟩
section
variable {prog : Program} {w : World} {A : Around} {E : Value → Shared → Prop} {s : Shared} {K : PySem.W.Frag} {x dx C f : Addr} {mA : Str → Option Value} {name : Str} {v : Value}
theorem get_map {expr : Bool} {Q : Value → Shared → Prop} (X : K.In s.heap) (I : ObjM s.heap x dx C mA) (hg : PySem.W.plainGet K C name = true) (hh : PySem.W.hasDictIn K C = true)
    (ha : PySem.W.findIn K (.ref C) name = some none) (hv : mA name = some v) (hv' : PySem.W.handedIn v = true) (h : Q v { s with toks := s.toks + 1 }) :
    wpAny (model prog w) A (getAttr (.ref x) name expr) Q E s := by
  obtain ⟨od, J, hl⟩ := I.look
  exact PySem.W.get_value X J (PySem.W.plainGet_of hg).1 (PySem.W.findObj_own hh ha rfl (by rw [hl, hv])) hv' h
theorem get_meth {pl : Sem Bool} {Q : Value × List Value → Shared → Prop} (X : K.In s.heap) (I : ObjM s.heap x dx C mA) (hg : PySem.W.plainGet K C name = true)
    (hf : PySem.W.findIn K (.ref C) name = some (some (.ref f))) (ht : PySem.W.isFn K (.ref f) = true) (hv : mA name = none) (h : Q (.ref f, [.ref x]) s) :
    wpAny (model prog w) A (getMethod (.ref x) name pl) Q E s := by
  obtain ⟨od, J, hl⟩ := I.look
  exact PySem.W.method_fn X J (PySem.W.plainGet_of hg).1 (PySem.W.plainGet_of hg).2 hf (beq_iff_eq.mp ht) (by show (PySem.W.lookIn name od).map (·.isSome) = some false; rw [hl, hv]; rfl) h
theorem set_map {ns : List Str} {Q : Unit → Shared → Prop} (X : K.In s.heap) (I : ObjM s.heap x dx C mA)
    (hs : PySem.W.findIn K (.ref C) "__setattr__" = some (some (.builtin "object.__setattr__"))) (hp : PySem.W.plainOver K C = true) (ht : PySem.W.takerIn K C name = some none) (hh : PySem.W.hasDictIn K C = true)
    (hw : PySem.Within mA ns) (hsz : ns.length ≤ sizeLine)
    (h : ∀ h', ObjM h' x dx C (fun y => if y = name then some v else mA y) → Heap.SameBut dx s.heap h' → Q () { s with heap := h', toks := s.toks + 2 }) :
    wpAny (model prog w) A (setAttr (.ref x) name v) Q E s := by
  obtain ⟨od, J, hl⟩ := I.look
  refine PySem.W.set_plain X J hs (PySem.W.osa_open (s := { s with toks := s.toks + 1 }) (r := none) X J hp ht fun b => ?_)
  obtain ⟨cd, hc, hd'⟩ := PySem.W.any_some hh
  have hx : s.heap.get? x = some ⟨.ref C, some dx, .plain, #[]⟩ := I.obj
  refine wpAny_bind (wpAny_pure (wpAny_bind (wpAny_bind (wpAny_loadPart hx (wpAny_bind (PySem.W.Looks.here (s := { s with toks := s.toks + 1 }) (PySem.W.looks_clsIn X hc) ?_))))))
  rw [hd']
  refine wpAny_pure (a := some dx) (wpAny_bind (wpAny_pure (wpAny_bind ?_)))
  refine wpAny_nsSet1 (s := { s with toks := s.toks + 1 }) I.ns fun h' hn2 hs2 => ?_
  obtain ⟨oD, esD, epD, hoD, hdD, hcD⟩ := hn2.count (PySem.Within.cons name v hw)
  refine wpAny_bind (wpAny_lookBehind hoD (by rw [hdD]; exact pastItsLine_dict (Nat.le_trans hcD (by rw [List.length_cons]; omega))) ?_)
  exact wpAny_pure (h _ ⟨(hs2.2 _ (Ne.symm I.ne)).trans I.obj, hn2, I.ne⟩ hs2)
/-- C(..): the dict at the heap's end, the instance behind it; then its __init__ -/
theorem make_map {R : Result → Shared → Prop} {vs : List Value} {kw : List (Str × Value)} (X : K.In s.heap) (hm : PySem.W.makesIn K C = true)
    (hi : PySem.W.findIn K (.ref C) "__init__" = some (some (.ref f))) (hf : PySem.W.typeIn K (.ref f) = some (.type "function"))
    (h : codeAny (model prog w) (A.under (.builtin "type.__call__" ⟨.ref C :: vs, kw⟩)) (.call (.ref f) ⟨.ref (s.heap.objs.size + 1) :: vs, kw⟩) (PySem.W.InitBack (s.heap.objs.size + 1) R)
      { s with heap := (s.heap.push PySem.W.emptyDict).push (PySem.W.instObj C s.heap.objs.size) }) :
    codeAny (model prog w) A (.call (.ref C) ⟨vs, kw⟩) R s := by
  obtain ⟨hh, g, d, t, os⟩ := s
  exact PySem.W.make_core (PySem.W.makes_of X hm) (PySem.W.looks_findIn X hi) (fun self => PySem.W.bind_fn X self hf) (.inl rfl) h
end
/-! ### the attributes as a list of pairs -/
def putF (f : Str) (v : V) : List (Str × V) → List (Str × V)
  | [] => [(f, v)]
  | (g, x) :: r => if g = f then (g, v) :: r else (g, x) :: putF f v r
theorem lookup_putF (f g : Str) (v : V) : ∀ fs : List (Str × V), (putF f v fs).lookup g = if g = f then some v else fs.lookup g
  | [] => by
    show List.lookup g [(f, v)] = _
    by_cases h : g = f
    · have hb : (g == f) = true := beq_iff_eq.mpr h
      simp only [List.lookup, hb, if_pos h]
    · have hb : (g == f) = false := beq_eq_false_iff_ne.mpr h
      simp only [List.lookup, hb, if_neg h]
  | (k, x) :: r => by
    have ih := lookup_putF f g v r
    rw [show putF f v ((k, x) :: r) = (if k = f then (k, v) :: r else (k, x) :: putF f v r) from rfl]
    by_cases hk : k = f
    · rw [if_pos hk]
      by_cases h : g = k
      · have hb : (g == k) = true := beq_iff_eq.mpr h
        simp only [List.lookup, hb, if_pos (h.trans hk)]
      · have hb : (g == k) = false := beq_eq_false_iff_ne.mpr h
        simp only [List.lookup, hb, if_neg (fun e : g = f => h (e.trans hk.symm))]
    · rw [if_neg hk]
      by_cases h : g = k
      · have hb : (g == k) = true := beq_iff_eq.mpr h
        simp only [List.lookup, hb, if_neg (fun e : g = f => hk (h.symm.trans e))]
      · have hb : (g == k) = false := beq_eq_false_iff_ne.mpr h
        simp only [List.lookup, hb]
        exact ih
theorem keys_putF (f : Str) (v : V) : ∀ fs : List (Str × V), f ∈ (putF f v fs).map (·.1) ∧ ∀ g, g ∈ fs.map (·.1) → g ∈ (putF f v fs).map (·.1)
  | [] => ⟨by simp [putF], fun g h => by simp at h⟩
  | (k, x) :: r => by
    obtain ⟨i1, i2⟩ := keys_putF f v r
    rw [show putF f v ((k, x) :: r) = (if k = f then (k, v) :: r else (k, x) :: putF f v r) from rfl]
    by_cases hk : k = f
    · rw [if_pos hk]
      subst hk
      exact ⟨by simp, fun g h => by simpa using h⟩
    · rw [if_neg hk]
      refine ⟨?_, fun g h => ?_⟩
      · rw [List.map_cons]
        exact List.mem_cons_of_mem _ i1
      · rw [List.map_cons] at h ⊢
        rcases List.mem_cons.mp h with e | e
        · exact List.mem_cons.mpr (.inl e)
        · exact List.mem_cons_of_mem _ (i2 g e)
theorem length_putF (f : Str) (v : V) : ∀ fs : List (Str × V), (putF f v fs).length ≤ fs.length + 1
  | [] => by simp [putF]
  | (k, x) :: r => by
    have ih := length_putF f v r
    rw [show putF f v ((k, x) :: r) = (if k = f then (k, v) :: r else (k, x) :: putF f v r) from rfl]
    by_cases hk : k = f
    · rw [if_pos hk, List.length_cons, List.length_cons]; omega
    · rw [if_neg hk, List.length_cons, List.length_cons]; omega
theorem RelO.some_of {v : V} {o : Option Value} (r : RelO (some v) o) : ∃ u, o = some u ∧ RelV v u := by
  cases o with
  | none => exact (show False from r).elim
  | some u => exact ⟨u, rfl, r⟩
theorem RelO.none_of {o : Option Value} (r : RelO none o) : o = none := by
  cases o with
  | none => rfl
  | some u => exact (show False from r).elim
theorem handed_of {v : V} {u : Value} (r : RelV v u) : PySem.W.handedIn u = true := by
  cases v with
  | non => cases (show u = Value.none from r); rfl
  | bl b => cases (show u = Value.bool b from r); rfl
  | int i => obtain ⟨t, e⟩ := (show ∃ t, u = Value.int i t from r); cases e; rfl
  | str x => obtain ⟨t, e⟩ := (show ∃ t, u = Value.str x t from r); cases e; rfl
  | byt b => obtain ⟨t, e⟩ := (show ∃ t, u = Value.bytes b t from r); cases e; rfl
  | flt b => obtain ⟨t, e⟩ := (show ∃ t, u = Value.float b t from r); cases e; rfl
  | ref a => cases (show u = Value.ref a from r); rfl
  | ty n => cases (show u = Value.type n from r); rfl
section
variable {P : Program} {w : World} {H H' : Hp} {h h' : Heap} {a C dx : Addr} {fs fs' : List (Str × V)}
theorem ins_get (hok : HOk P w H h) (e : H a = some (.ins C dx fs)) : ∃ mA, ObjM h a dx C mA ∧ (∀ f, RelO (fs.lookup f) (mA f)) ∧ PySem.Within mA (fs.map (·.1)) ∧ fs.length ≤ 1000 ∧ H dx = some (.own a) := by
  obtain ⟨d, z, ne, ob, mA, n, r, q⟩ := (show ObjOk P w H h a (.ins C dx fs) from hok a _ e)
  exact ⟨mA, ⟨ob, n, ne⟩, r, q, z, d⟩
end
/-! ### what of the text a class must have -/
structure Cls (K : PySem.W.Frag) (C : Addr) : Prop where
  pg : PySem.W.plainGet K C Str.empty = true
  hd : PySem.W.hasDictIn K C = true
  po : PySem.W.plainOver K C = true
  sa : PySem.W.findIn K (.ref C) "__setattr__" = some (some (.builtin "object.__setattr__"))
theorem Cls.get {K : PySem.W.Frag} {C : Addr} (c : Cls K C) (f : Str) : PySem.W.plainGet K C f = true := c.pg
/-- no class of it has the name -/
def NoAttr (K : PySem.W.Frag) (C : Addr) (f : Str) : Prop := PySem.W.findIn K (.ref C) f = some none
theorem NoAttr.taker {K : PySem.W.Frag} {C : Addr} {f : Str} (n : NoAttr K C f) : PySem.W.takerIn K C f = some none := by
  unfold PySem.W.takerIn
  rw [show PySem.W.findIn K (.ref C) f = some none from n]
  rfl
/-- a method: a plain def of the class or of one above it -/
structure Meth (K : PySem.W.Frag) (C : Addr) (m : Str) (f : Addr) : Prop where
  at_ : PySem.W.findIn K (.ref C) m = some (some (.ref f))
  fn : PySem.W.isFn K (.ref f) = true
  kp : PySem.W.keepIn K (.ref f) = true
section
variable {X : Cx} {pins : List (Addr × Obj)} {σ : St} {H : Hp} {s : Shared} {a C dx : Addr} {fs : List (Str × V)} {f : Str} {v : V} {A : Around} {E : Value → Shared → Prop}
theorem getattr_ok {b : Bool} {Q : Value → Shared → Prop} (I : Inv X pins σ H s) (e : H a = some (.ins C dx fs)) (c : Cls X.K C) (n : NoAttr X.K C f) (l : fs.lookup f = some v)
    (h : ∀ u s', Inv X pins σ H s' → RelV v u → Q u s') : wpAny (model X.prog X.w) A (getAttr (.ref a) f b) Q E s := by
  obtain ⟨mA, O, r, _, _, _⟩ := ins_get I.hok e
  obtain ⟨u, hu, ru⟩ := RelO.some_of (v := v) (o := mA f) (by rw [← l]; exact r f)
  exact get_map I.kIn O (c.get f) c.hd n hu (handed_of ru) (h u _ (I.tok _) ru)
theorem getmeth_ok {m : Str} {g : Addr} {pl : Sem Bool} {Q : Value × List Value → Shared → Prop} (I : Inv X pins σ H s) (e : H a = some (.ins C dx fs)) (c : Cls X.K C) (k : Meth X.K C m g) (l : fs.lookup m = none)
    (h : Q (.ref g, [.ref a]) s) : wpAny (model X.prog X.w) A (getMethod (.ref a) m pl) Q E s := by
  obtain ⟨mA, O, r, _, _, _⟩ := ins_get I.hok e
  have hn : mA m = none := RelO.none_of (by rw [← l]; exact r m)
  exact get_meth I.kIn O (c.get m) k.at_ k.fn hn h
theorem setattr_ok {y : V} {u : Value} {Q : Unit → Shared → Prop} (I : Inv X pins σ H s) (e : H a = some (.ins C dx fs)) (c : Cls X.K C) (n : NoAttr X.K C f) (hl : fs.length < 1000) (ry : RelV y u)
    (h : ∀ s', Inv X pins σ (upd H a (.ins C dx (putF f y fs))) s' → Q () s') : wpAny (model X.prog X.w) A (setAttr (.ref a) f u) Q E s := by
  obtain ⟨mA, O, r, wi, _, ho⟩ := ins_get I.hok e
  have hz : (fs.map (·.1)).length ≤ sizeLine := by rw [List.length_map, sizeLine_eq]; omega
  refine set_map I.kIn O c.sa c.po n.taker c.hd wi hz fun h' O' sb => h _ ?_
  have hd : ∃ o, h'.get? dx = some o := let ⟨o, _, _, e', _⟩ := O'.ns; ⟨o, e'⟩
  refine I.write (x := a) (e := dx) (by rw [e]; exact True.intro) (.inr ho) (fun b q hb z => (sb.2 b hb).trans z) hd ?_
  refine ⟨by rw [upd_ne O.ne]; exact ho, ?_, O.ne, O'.obj, _, O'.ns, fun g => ?_, fun g hg => ?_⟩
  · have := length_putF f y fs; omega
  · show RelO ((putF f y fs).lookup g) (if g = f then some u else mA g)
    rw [lookup_putF]
    by_cases q : g = f
    · rw [if_pos q, if_pos q]; exact ry
    · rw [if_neg q, if_neg q]; exact r g
  · by_cases q : g = f
    · rw [q]; exact (keys_putF f y fs).1
    · refine (keys_putF f y fs).2 g (wi g fun z => hg ?_)
      show (if g = f then some u else mA g) = none
      rw [if_neg q]; exact z
/-- a new instance, tracked, without attributes -/
theorem Inv.made (I : Inv X pins σ H s) : Inv X pins σ (upd (upd H s.heap.objs.size (.own (s.heap.objs.size + 1))) (s.heap.objs.size + 1) (.ins C s.heap.objs.size []))
    { s with heap := (s.heap.push PySem.W.emptyDict).push (PySem.W.instObj C s.heap.objs.size) } := by
  have e1 : (s.heap.push PySem.W.emptyDict).get? s.heap.objs.size = some PySem.W.emptyDict := Heap.get?_push_size s.heap rfl
  have e2 : ((s.heap.push PySem.W.emptyDict).push (PySem.W.instObj C s.heap.objs.size)).get? (s.heap.objs.size + 1) = some (PySem.W.instObj C s.heap.objs.size) := by
    have := Heap.get?_push_size (s.heap.push PySem.W.emptyDict) (o := PySem.W.instObj C s.heap.objs.size) rfl
    rwa [Heap.size_push] at this
  have e3 : (s.heap.push PySem.W.emptyDict).Ns s.heap.objs.size (fun _ => none) := ⟨PySem.W.emptyDict, #[], _, e1, rfl, (fun e he => absurd he (by simp)), fun _ => rfl⟩
  have I1 := I.laid (a := s.heap.objs.size) (o := .own (s.heap.objs.size + 1)) (h' := s.heap.push PySem.W.emptyDict) (t' := s.toks) (fun b u q => Heap.get?_push_of_some _ q) (Nat.le_refl _) ⟨_, e1⟩
  refine I1.laid (a := s.heap.objs.size + 1) (o := .ins C s.heap.objs.size []) (t' := s.toks) (fun b u q => Heap.get?_push_of_some _ q) (Nat.le_of_eq (Heap.size_push _ _)) ?_
  have ne : s.heap.objs.size ≠ s.heap.objs.size + 1 := Nat.ne_of_lt (Nat.lt_succ_self _)
  refine ⟨by rw [upd_ne ne, upd_same], Nat.zero_le _, ne, e2, fun _ => none, (Heap.Ns1.of_empty e3).at fun o q => Heap.get?_push_of_some _ q, fun _ => True.intro, fun y hy => absurd rfl hy⟩
/-- e.f where nothing but the object is asked: through attributeBase (super) and the last hold -/
theorem attr_of {prog : Program} {w : World} {env : Env} {e : Expr} {f : Str} {pos : Pos} {s : Shared} {Q : Value → Shared → Prop} (hb : attributeBase e f env (eval e env) = eval e env)
    (h : wpAny (model prog w) A (eval e env) (fun o s₁ => wpAny (model prog w) A (getAttr o f true) Q E s₁) E s) : wpAny (model prog w) A (eval (.Attribute e f pos) env) Q E s :=
  Attribute_any_ h (by rw [arm_eval_Attribute, hb])
end
/-! ### readings and rules -/
/-- e.f, an attribute of the instance -/
def tFld (K : PySem.W.Frag) (ta : TE) (f : Str) : TE := fun σ H Q => ta σ H fun x H1 => ∃ a C dx fs v, x = .ref a ∧ H1 a = some (.ins C dx fs) ∧ Cls K C ∧ NoAttr K C f ∧ fs.lookup f = some v ∧ Q v H1
/-- e.f = value -/
def sFld (K : PySem.W.Frag) (ta tv : TE) (f : Str) : TS := fun D σ H => tv σ H fun y H1 => ta σ H1 fun x H2 => ∃ a C dx fs, x = .ref a ∧ H2 a = some (.ins C dx fs) ∧ Cls K C ∧ NoAttr K C f ∧ fs.length < 1000 ∧
  D.nx σ (upd H2 a (.ins C dx (putF f y fs)))
section
variable {X : Cx} {o e value : Expr} {f : Str} {pos pos' tpos : Pos} {ta tv : TE}
theorem pe_fld (he : PE X e ta) (hb : attributeBase e f X.env (eval e X.env) = eval e X.env) : PE X (.Attribute e f pos) (tFld X.K ta f) := by
  intro pins s σ H Q I h
  refine attr_of hb (thn (he pins s σ H _ I h) fun u s1 ⟨x, H1, I1, rx, a, C, dx, fs, v, ex, ea, c, n, l, q⟩ => ?_)
  subst ex
  obtain rfl : u = Value.ref a := rx
  exact getattr_ok I1 ea c n l fun u' s2 I2 ru => ⟨v, H1, I2, ru, q⟩
theorem ps_fld (ha : PE X o ta) (hv : PE X value tv) (hs : swapsWith value (some (.Attribute o f pos')) pos.line X.env = pure false) : PS X (.Assign [.Attribute o f pos'] value pos) (sFld X.K ta tv f) := by
  intro pins s σ H D I h
  refine plainObj_wpAny_Assign_Attribute (thn (hv pins s σ H _ I h) fun u s1 ⟨y, H1, I1, ry, q⟩ => thn (ha pins s1 σ H1 _ I1 q) fun ov s2 ⟨x, H2, I2, rx, a, C, dx, fs, ex, ea, c, n, l, q2⟩ => ?_) hs
  subst ex
  obtain rfl : ov = Value.ref a := rx
  exact setattr_ok I2 ea c n l ry fun s3 I3 => ⟨σ, _, I3, q2⟩
end
/-! ### isinstance -/
section
variable {X : Cx} {pins : List (Addr × Obj)} {σ : St} {H : Hp} {s : Shared} {A : Around} {E : Value → Shared → Prop} {Q : Value → Shared → Prop} {c : Value} {b : Bool}
end
end L2
namespace L2
open PySem PySem.Spec PyProof.Rows
/-! ### room -/
structure Room (k : Nat) (A : Around) : Prop where
  hd : A.handled = none
  dp : A.depth + 3 * k + 5 < recursionLimit
  un : A.units + 16 * k + 200 < cLine
theorem Room.mono {j k : Nat} {A : Around} (r : Room k A) (h : j ≤ k) : Room j A := ⟨r.hd, by have := r.dp; omega, by have := r.un; omega⟩
theorem Room.deeper {k : Nat} {A : Around} (r : Room (k + 1) A) (env : Env) : Room k (A.deeper env) :=
  ⟨r.hd, by have := r.dp; show A.depth + 1 + 3 * k + 5 < _; omega, by have := r.un; show A.units + 3 + 16 * k + 200 < _; omega⟩
theorem make_depth {A : Around} {C : Addr} {us : List Value} {kw : List (Str × Value)} : (A.under (.builtin "type.__call__" ⟨.ref C :: us, kw⟩)).depth = A.depth + 1 := by
  first | rfl | simp [Around.under, Code.weight, Code.isCreation, Code.isGuard, Code.isCaller, Code.frames, Code.isFrame, guardIds]
theorem make_units {A : Around} {C : Addr} {us : List Value} {kw : List (Str × Value)} : (A.under (.builtin "type.__call__" ⟨.ref C :: us, kw⟩)).units = A.units + 1 := by
  first | rfl | simp [Around.under, Code.cUnits, Code.frames, Code.isFrame]
theorem Room.make {k : Nat} {A : Around} (r : Room (k + 1) A) (C : Addr) (us : List Value) (kw : List (Str × Value)) : Room k (A.under (.builtin "type.__call__" ⟨.ref C :: us, kw⟩)) :=
  ⟨r.hd, by have := r.dp; rw [make_depth]; omega, by have := r.un; rw [make_units]; omega⟩
theorem Room.depth {k : Nat} {A : Around} (r : Room k A) : A.depth < recursionLimit := by have := r.dp; omega
theorem Room.units {k : Nat} {A : Around} (r : Room k A) : A.units + 64 < cLine := by have := r.un; omega
/-! ### argument lists and displays -/
def tNil : TA := fun _ H Q => Q [] H
def tCons (ta : TE) (tr : TA) : TA := fun σ H Q => ta σ H fun x H1 => tr σ H1 fun xs H2 => Q (x :: xs) H2
section
variable {X : Cx} {e : Expr} {es : List Expr} {te : TE} {t : TA} {pos : Pos}
theorem pa_nil : PA X [] tNil := fun _ _ _ _ H Q I h => Calls.spliced_nil ⟨[], H, I, .nil, h⟩
theorem pa_cons (ha : PE X e te) (hr : PA X es t) (hs : starEach (e :: es) X.env = (false, eval e X.env) :: starEach es X.env := by rfl) : PA X (e :: es) (tCons te t) := by
  intro pos pins s σ H Q I h
  rw [hs]
  show wpAny _ _ (spliced ((false, eval e X.env) :: backTo pos (starEach es X.env))) _ _ s
  refine Calls.spliced_cons (thn (ha pins s σ H _ I h) fun u s1 ⟨x, H1, I1, r1, q1⟩ => ?_)
  exact thn (hr pos pins s1 σ H1 _ I1 q1) fun us s2 ⟨xs, H2, I2, r2, q2⟩ => ⟨x :: xs, H2, I2, .cons r1 r2, q2⟩
/-- a tuple, a list of written items -/
def tTup (t : TA) : TE := fun σ H Q => t σ H fun xs H1 => xs.length ≤ sizeLine ∧ ∀ p, H1 p = none → Q (.ref p) (upd H1 p (.tup xs))
def tLst (t : TA) : TE := fun σ H Q => t σ H fun xs H1 => xs.length ≤ sizeLine ∧ ∀ p, H1 p = none → Q (.ref p) (upd H1 p (.lst xs))
theorem pe_tup {x1} (h : PA X es t) : PE X (.Tuple es x1 pos) (tTup t) := by
  intro pins s σ H Q I hq
  refine wpAny_Tuple_spliced (thn (h pos pins s σ H _ I hq) fun us s1 ⟨xs, H1, I1, r, z, q⟩ => ⟨by rw [← r.length]; exact z, ?_⟩)
  have hf : H1 s1.heap.objs.size = none := I1.hok.fresh (Nat.le_refl _)
  refine ⟨.ref s1.heap.objs.size, upd H1 s1.heap.objs.size (.tup xs), I1.laid (t' := s1.toks) (fun b u e => Heap.get?_push_of_some _ e) (Nat.le_refl _) ?_, rfl, q _ hf⟩
  exact ⟨z, us, r, ⟨_, Heap.get?_push_size _ rfl, rfl, _, rfl⟩⟩
theorem pe_lst (h : PA X es t) : PE X (.List es pos) (tLst t) := by
  intro pins s σ H Q I hq
  refine wpAny_List_spliced (thn (h pos pins s σ H _ I hq) fun us s1 ⟨xs, H1, I1, r, z, q⟩ => ⟨by rw [← r.length]; exact z, ?_⟩)
  have hf : H1 s1.heap.objs.size = none := I1.hok.fresh (Nat.le_refl _)
  refine ⟨.ref s1.heap.objs.size, upd H1 s1.heap.objs.size (.lst xs), I1.laid (t' := s1.toks) (fun b u e => Heap.get?_push_of_some _ e) (Nat.le_refl _) ?_, rfl, q _ hf⟩
  exact ⟨z, us, 0, r, Heap.get?_push_size _ rfl⟩
end
/-! ### what a def promises -/
/-- a def's promise: the bound arguments in the parameters' order, the heap, the wanted end, the wanted exception -/
abbrev Sp := List V → Hp → VK → XK → Prop
/-- how an exception lies behind a call (file 08 gives it): the callers' frames, abstract heap and state ahead of the call, the wish, the exception, the state -/
abbrev CXT := List Env → Hp → Shared → XK → Value → Shared → Prop
/-- the state at a call -/
structure Env0 (P : Program) (w : World) (K : PySem.W.Frag) (mg : Str → Option Value) (base : Heap) (A : Around) (outer : List Env) (s : Shared) (H : Hp) : Prop where
  frames : A.frames = some outer
  mod : Mod K mg base
  bs : ∀ b o, base.get? b = some o → s.heap.get? b = some o ∧ H b = none
  bsz : base.objs.size ≤ s.heap.objs.size
  funs : s.heap.FunFrames base outer
  frf : ∀ b ∈ frs outer, H b = none
  hok : HOk P w H s.heap
  bare : AllBare s.gens
/-- a call's end -/
def CE (outer : List Env) (P : Program) (w : World) (H : Hp) (s : Shared) (Q : VK) (u : Value) (s' : Shared) : Prop :=
  ∃ v H', s'.os = s.os ∧ AllBare s'.gens ∧ Un (frs outer) [] H H' s.heap s'.heap ∧ HOk P w H' s'.heap ∧ RelV v u ∧ Q v H'
def CR (CX : CXT) (outer : List Env) (P : Program) (w : World) (H : Hp) (s : Shared) (Q : VK) (E : XK) (r : Result) (s' : Shared) : Prop :=
  match r with
  | .ok (.ret u) => CE outer P w H s Q u s'
  | .ok _ => False
  | .error e => CX outer H s E e s'
structure FnOk (P : Program) (w : World) (K : PySem.W.Frag) (mg : Str → Option Value) (base : Heap) (CX : CXT) (k : Nat) (f : Addr) (fd : FuncData) (ps : List Str) (sp : Sp) : Prop where
  len : ∀ vs H Q E, sp vs H Q E → vs.length = ps.length
  run : ∀ (A : Around) (outer : List Env) (s : Shared) (H : Hp) (args : Args) (us : List Value) (vs : List V) (Q : VK) (E : XK), Room k A → Env0 P w K mg base A outer s H → BindsTo s fd args (ps.zip us) → Vals vs us → sp vs H Q E →
    codeAny (model P w) A (.call (.ref f) args) (CR CX outer P w H s Q E) s
theorem Env0.make {P : Program} {w : World} {K : PySem.W.Frag} {mg : Str → Option Value} {base : Heap} {A : Around} {outer : List Env} {s : Shared} {H : Hp} (e : Env0 P w K mg base A outer s H) (C : Addr) (us : List Value) (kw : List (Str × Value)) :
    Env0 P w K mg base (A.under (.builtin "type.__call__" ⟨.ref C :: us, kw⟩)) outer s H := ⟨by first | exact e.frames | (simpa [Around.under, Code.envs, Code.isFrame, pushEnvs] using e.frames), e.mod, e.bs, e.bsz, e.funs, e.frf, e.hok, e.bare⟩
section
variable {X : Cx} {pins : List (Addr × Obj)} {σ : St} {H : Hp} {s s' : Shared}
/-- from a body: what a callee wants -/
theorem Inv.env0 (I : Inv X pins σ H s) : Env0 X.prog X.w X.K X.mg X.base X.A X.stack s H :=
  ⟨I.ok.frames, I.ok.mod, I.bs, Nat.le_trans I.ok.bsz I.sz, I.stack, I.stkFree, I.hok, I.bare⟩
/-- behind a call -/
theorem Inv.after {Q : VK} {u : Value} (I : Inv X pins σ H s) (h : CE X.stack X.prog X.w H s Q u s') : EP X pins σ Q u s' := by
  obtain ⟨v, H', os, bare, un, hok, r, q⟩ := h
  obtain ⟨hh, g, d, t, os'⟩ := s'
  obtain rfl : os' = s.os := os
  exact ⟨v, H', I.call (h' := hh) (g' := g) (d' := d) (t' := t) (ch := []) un hok bare (fun b z => absurd z (by simp)), r, q⟩
end
/-! ### calls -/
/-- f(..): the written arguments, then the defaults dvs; E: what is wanted of an exception -/
def tCall (sp : Sp) (dvs : List V) (E : XK) (t : TA) : TE := fun σ H Q => t σ H fun vs H1 => sp (vs ++ dvs) H1 Q E
/-- o.m(..) of an instance of the class at C -/
def tMeth (C : Addr) (m : Str) (sp : Sp) (dvs : List V) (E : XK) (ta : TE) (t : TA) : TE := fun σ H Q => ta σ H fun x H1 => ∃ a dx fs, x = .ref a ∧ H1 a = some (.ins C dx fs) ∧ fs.lookup m = none ∧
  t σ H1 fun vs H2 => sp (x :: (vs ++ dvs)) H2 Q E
/-- C(..): a new instance and its dict, then __init__ -/
def tMake (C : Addr) (sp : Sp) (dvs : List V) (E : XK) (t : TA) : TE := fun σ H Q => t σ H fun vs H1 => ∀ x dx, H1 x = none → H1 dx = none → dx ≠ x →
  sp (.ref x :: (vs ++ dvs)) (upd (upd H1 dx (.own x)) x (.ins C dx [])) (fun v H2 => v = .non ∧ Q (.ref x) H2) E
/-- how the parameters are bound: us the positional arguments, kw the keywords' values by name, ds the defaults that fill up -/
def Binds (K : PySem.W.Frag) (fd : FuncData) (ps : List Str) (ds : List Value) : Prop :=
  ∀ (s : Shared) (us : List Value), K.In s.heap → (us ++ ds).length = ps.length → BindsTo s fd ⟨us, []⟩ (ps.zip (us ++ ds))
/-- every parameter is given -/
theorem Binds.all {K : PySem.W.Frag} {fd : FuncData} {ps : List Str} (h : ∀ us : List Value, us.length = ps.length → bindArgs fd ⟨us, []⟩ = pure (ps.zip us)) : Binds K fd ps [] := fun s us _ hl => by
  rw [List.append_nil] at hl ⊢
  exact .of_eq (h us hl)
/-- an exception of a callee reaches what this body wants of exceptions -/
def Passes (CX : CXT) (X : Cx) (E : XK) : Prop := ∀ (pins : List (Addr × Obj)) (σ : St) (H : Hp) (s : Shared) (e : Value) (s' : Shared), Inv X pins σ H s → CX X.stack H s E e s' → X.xe e s'
section
variable {X : Cx} {CX : CXT} {k : Nat} {f C : Addr} {fd : FuncData} {ps : List Str} {sp : Sp} {dvs : List V} {ds : List Value} {E : XK} {x m : Str} {p pos apos : Pos} {e o : Expr} {es : List Expr} {ta : TE} {t : TA}
/-- the callee runs -/
theorem run_fn {pins : List (Addr × Obj)} {σ : St} {H : Hp} {s : Shared} {Q : VK} {us : List Value} {vs : List V} (F : FnOk X.prog X.w X.K X.mg X.base CX k f fd ps sp) (hr : Room k X.A) (hb : Binds X.K fd ps ds) (hd : Vals dvs ds) (hx : Passes CX X E)
    (I : Inv X pins σ H s) (r : Vals vs us) (h : sp (vs ++ dvs) H Q E) : wpAny (model X.prog X.w) X.A (call (.ref f) us) (EP X pins σ Q) X.xe s := by
  have r2 : Vals (vs ++ dvs) (us ++ ds) := r.append hd
  have hl : (us ++ ds).length = ps.length := by rw [← r2.length]; exact F.len _ _ _ _ h
  refine wpAny_call (codeAny_mono (F.run X.A X.stack s H ⟨us, []⟩ (us ++ ds) (vs ++ dvs) Q E hr I.env0 (hb s us I.kIn hl) r2 h) fun r s' hq => ?_)
  cases r with
  | error e => exact hx pins σ H s e s' I hq
  | ok fl =>
    cases fl with
    | ret u => exact I.after hq
    | next => exact False.elim hq
    | brk => exact False.elim hq
    | cont => exact False.elim hq
theorem pe_call (F : FnOk X.prog X.w X.K X.mg X.base CX k f fd ps sp) (hr : Room k X.A) (hg : Gl X x) (hm : X.mg x = some (.ref f)) (hk : PySem.W.keepIn X.K (.ref f) = true) (hb : Binds X.K fd ps ds) (hd : Vals dvs ds) (hx : Passes CX X E)
    (ha : PA X (e :: es) t) (hdb : (x == ("__debug__" : Str)) = false := by decide) (he : starEach (e :: es) X.env = (false, eval e X.env) :: starEach es X.env := by rfl) (hpl : (backTo pos (starEach es X.env)).any (·.1) = false := by rfl) :
    PE X (.Call (.Name x p) (e :: es) [] pos) (tCall sp dvs E t) := by
  intro pins s σ H Q I h
  refine wpAny_Call_Name_kw (ld_glob I hg hm ?_ hdb)
  refine PySem.W.callWith_K (h₀ := X.base) I.ok.mod.kin hk (thn (ha pos pins s σ H _ I h) fun us s1 ⟨vs, H1, I1, r, q⟩ => ⟨I1.kIn, ?_⟩) he hpl
  exact run_fn F hr hb hd hx I1 r q
/-- o.m(e, ..) -/
theorem pe_meth {pl : Sem Bool} (he : PE X o ta) (c : Cls X.K C) (hm : Meth X.K C m f) (F : FnOk X.prog X.w X.K X.mg X.base CX k f fd ps sp) (hr : Room k X.A) (hb : Binds X.K fd ps ds) (hd : Vals dvs ds) (hx : Passes CX X E) (ha : PA X (e :: es) t)
    (hst : starEach (e :: es) X.env = (false, eval e X.env) :: starEach es X.env := by rfl) (hpl : (backTo pos (starEach es X.env)).any (·.1) = false := by rfl)
    (ht : eval (.Call (.Attribute o m apos) (e :: es) [] pos) X.env = (do
      let ov ← eval o X.env
      standAt apos.atName
      let (f, first) ← holding [ov] (getMethod ov m pl)
      callWith pos f first (backTo pos (starEach (e :: es) X.env)) (backToKw pos (keywordEach [] X.env))) := by rfl) :
    PE X (.Call (.Attribute o m apos) (e :: es) [] pos) (tMeth C m sp dvs E ta t) := by
  intro pins s σ H Q I h
  refine PySem.W.methodCall_KW (pl := pl) (thn (he pins s σ H _ I h) fun u s1 ⟨x, H1, I1, rx, a, dx, fs, ex, ea, l, q⟩ => ?_) ht
  subst ex
  obtain rfl : u = Value.ref a := rx
  refine getmeth_ok I1 ea c hm l ?_
  refine PySem.W.callWith_K (first := [.ref a]) (h₀ := X.base) I.ok.mod.kin hm.kp (thn (ha pos pins s1 σ H1 _ I1 q) fun us s2 ⟨vs, H2, I2, r, q2⟩ => ⟨I2.kIn, ?_⟩) hst hpl
  exact run_fn (us := .ref a :: us) (vs := .ref a :: vs) F hr hb hd hx I2 (.cons rfl r) q2
/-- o.m() -/
theorem pe_meth0 {pl : Sem Bool} (he : PE X o ta) (c : Cls X.K C) (hm : Meth X.K C m f) (F : FnOk X.prog X.w X.K X.mg X.base CX k f fd ps sp) (hr : Room k X.A) (hb : Binds X.K fd ps ds) (hd : Vals dvs ds) (hx : Passes CX X E)
    (ht : eval (.Call (.Attribute o m apos) [] [] pos) X.env = (do
      let ov ← eval o X.env
      standAt apos.atName
      let (f, first) ← holding [ov] (getMethod ov m pl)
      callWith pos f first (backTo pos (starEach [] X.env)) (backToKw pos (keywordEach [] X.env))) := by rfl) :
    PE X (.Call (.Attribute o m apos) [] [] pos) (tMeth C m sp dvs E ta tNil) := by
  intro pins s σ H Q I h
  refine PySem.W.methodCall_KW (pl := pl) (thn (he pins s σ H _ I h) fun u s1 ⟨x, H1, I1, rx, a, dx, fs, ex, ea, l, q⟩ => ?_) ht
  subst ex
  obtain rfl : u = Value.ref a := rx
  refine getmeth_ok I1 ea c hm l ?_
  exact PySem.W.callWith_K0 (first := [.ref a]) I1.kIn hm.kp (run_fn (us := [.ref a]) (vs := [.ref a]) F hr hb hd hx I1 (.cons rfl .nil) q)
/-- what a class must have to be made -/
structure Mk (K : PySem.W.Frag) (C f : Addr) : Prop where
  makes : PySem.W.makesIn K C = true
  init : PySem.W.findIn K (.ref C) "__init__" = some (some (.ref f))
  fn : PySem.W.isFn K (.ref f) = true
  kp : PySem.W.keepIn K (.ref C) = true
theorem run_make {pins : List (Addr × Obj)} {σ : St} {H : Hp} {s : Shared} {Q : VK} {us : List Value} {vs : List V} (M : Mk X.K C f) (F : FnOk X.prog X.w X.K X.mg X.base CX k f fd ps sp) (hr : Room (k + 1) X.A) (hb : Binds X.K fd ps ds) (hd : Vals dvs ds)
    (hx : Passes CX X E) (I : Inv X pins σ H s) (r : Vals vs us)
    (h : ∀ x dx, H x = none → H dx = none → dx ≠ x → sp (.ref x :: (vs ++ dvs)) (upd (upd H dx (.own x)) x (.ins C dx [])) (fun v H2 => v = .non ∧ Q (.ref x) H2) E) :
    wpAny (model X.prog X.w) X.A (call (.ref C) us) (EP X pins σ Q) X.xe s := by
  have hq := h (s.heap.objs.size + 1) s.heap.objs.size (I.hok.fresh (Nat.le_succ _)) (I.hok.fresh (Nat.le_refl _)) (Nat.ne_of_lt (Nat.lt_succ_self _))
  have I2 := Inv.made (C := C) I
  have r2 : Vals (V.ref (s.heap.objs.size + 1) :: (vs ++ dvs)) (Value.ref (s.heap.objs.size + 1) :: (us ++ ds)) := .cons rfl (r.append hd)
  have hl : (Value.ref (s.heap.objs.size + 1) :: us ++ ds).length = ps.length := by
    have e := r2.length
    rw [F.len _ _ _ _ hq] at e
    exact e.symm
  refine wpAny_call (make_map (f := f) I.kIn M.makes M.init (beq_iff_eq.mp M.fn) (codeAny_mono (F.run _ X.stack _ _ ⟨Value.ref (s.heap.objs.size + 1) :: us, []⟩ (Value.ref (s.heap.objs.size + 1) :: (us ++ ds)) _ _ E (hr.make C us [])
    (I2.env0.make C us []) (hb _ (Value.ref (s.heap.objs.size + 1) :: us) I2.kIn hl) r2 hq) fun r s' hq' => ?_))
  cases r with
  | error e => exact hx pins σ _ _ e s' I2 hq'
  | ok fl =>
    cases fl with
    | ret u =>
      obtain ⟨v, H', I3, rv, ev, q3⟩ := I2.after hq'
      subst ev
      exact ⟨rv, ⟨V.ref (s.heap.objs.size + 1), H', I3, rfl, q3⟩⟩
    | next => exact False.elim hq'
    | brk => exact False.elim hq'
    | cont => exact False.elim hq'
theorem pe_make (M : Mk X.K C f) (F : FnOk X.prog X.w X.K X.mg X.base CX k f fd ps sp) (hr : Room (k + 1) X.A) (hg : Gl X x) (hm : X.mg x = some (.ref C)) (hb : Binds X.K fd ps ds) (hd : Vals dvs ds) (hx : Passes CX X E)
    (ha : PA X (e :: es) t) (hdb : (x == ("__debug__" : Str)) = false := by decide) (he : starEach (e :: es) X.env = (false, eval e X.env) :: starEach es X.env := by rfl) (hpl : (backTo pos (starEach es X.env)).any (·.1) = false := by rfl) :
    PE X (.Call (.Name x p) (e :: es) [] pos) (tMake C sp dvs E t) := by
  intro pins s σ H Q I h
  refine wpAny_Call_Name_kw (ld_glob I hg hm ?_ hdb)
  refine PySem.W.callWith_K (h₀ := X.base) I.ok.mod.kin M.kp (thn (ha pos pins s σ H _ I h) fun us s1 ⟨vs, H1, I1, r, q⟩ => ⟨I1.kIn, ?_⟩) he hpl
  exact run_make M F hr hb hd hx I1 r q
theorem pe_make0 (M : Mk X.K C f) (F : FnOk X.prog X.w X.K X.mg X.base CX k f fd ps sp) (hr : Room (k + 1) X.A) (hg : Gl X x) (hm : X.mg x = some (.ref C)) (hb : Binds X.K fd ps ds) (hd : Vals dvs ds) (hx : Passes CX X E)
    (hdb : (x == ("__debug__" : Str)) = false := by decide) : PE X (.Call (.Name x p) [] [] pos) (tMake C sp dvs E tNil) := by
  intro pins s σ H Q I h
  refine wpAny_Call_Name_kw (ld_glob I hg hm ?_ hdb)
  exact PySem.W.callWith_K0 I.kIn M.kp (run_make (us := []) M F hr hb hd hx I .nil h)
end
/-! ### keywords -/
section
variable {X : Cx} {CX : CXT} {k : Nat} {f C : Addr} {fd : FuncData} {ps ks : List Str} {sp : Sp} {E : XK} {x m : Str} {p pos apos kpos : Pos} {e o : Expr} {es : List Expr} {kws : List Keyword} {te ta : TE} {t tk : TA} {nm : Option Str}
variable {g : List Value → List Value → List Value} {gV : List V → List V → List V}
end
/-! ### a def's body keeps its promise -/
/-- names: the parameters first -/
structure FnScope (N P : List Str) (sc : Scope) : Prop where
  kind : sc.kind = .function
  co : sc.isCoroutine = false
  gen : sc.isGenerator = false
  nd : N.Nodup
  pre : N.take P.length = P
  par : ∀ x ∈ P, sc.names.lookup x = some .local ∨ sc.names.lookup x = some .cell
  nofree : ∀ y ∈ sc.names, y.2 ≠ .free
theorem bindL_out {kindOf : Str → Option NameKind} {x : Str} : ∀ {binds : List (Str × Value)} {m : Str → Option Value}, (∀ v, (x, v) ∉ binds) → bindL kindOf binds m x = m x
  | [], _, _ => rfl
  | (n, v) :: r, m, h => by
    unfold bindL
    rw [bindL_out fun w hw => h w (List.mem_cons_of_mem _ hw)]
    split
    · have : x ≠ n := by rintro rfl; exact h v List.mem_cons_self
      simp [this]
    · rfl
theorem bindC_out {kindOf : Str → Option NameKind} {x : Str} : ∀ {binds : List (Str × Value)} {m : Str → Option Value}, (∀ v, (x, v) ∉ binds) → bindC kindOf binds m x = m x
  | [], _, _ => rfl
  | (n, v) :: r, m, h => by
    unfold bindC
    rw [bindC_out fun w hw => h w (List.mem_cons_of_mem _ hw)]
    split
    · rfl
    · have : x ≠ n := by rintro rfl; exact h v List.mem_cons_self
      simp [this]
theorem bindL_get {kindOf : Str → Option NameKind} {x : Str} {v : Value} : ∀ {P : List Str} {vs : List Value} {i : Nat} {m : Str → Option Value}, P.Nodup → P[i]? = some x → vs[i]? = some v → kindOf x = some .local →
    bindL kindOf (P.zip vs) m x = some v
  | [], _, _, _, _, h, _, _ => by simp at h
  | _ :: _, [], _, _, _, _, h, _ => by simp at h
  | p :: P, w :: vs, 0, m, nd, h1, h2, hk => by
    simp at h1 h2; subst h1; subst h2
    show bindL kindOf ((p, w) :: P.zip vs) m p = _
    unfold bindL
    rw [bindL_out fun v hv => (List.nodup_cons.mp nd).1 (List.of_mem_zip hv).1, if_pos hk]
    simp
  | p :: P, w :: vs, i + 1, m, nd, h1, h2, hk => by
    show bindL kindOf ((p, w) :: P.zip vs) m x = _
    unfold bindL
    exact bindL_get (i := i) (List.nodup_cons.mp nd).2 (by simpa using h1) (by simpa using h2) hk
theorem bindC_get {kindOf : Str → Option NameKind} {x : Str} {v : Value} : ∀ {P : List Str} {vs : List Value} {i : Nat} {m : Str → Option Value}, P.Nodup → P[i]? = some x → vs[i]? = some v → kindOf x ≠ some .local →
    bindC kindOf (P.zip vs) m x = some v
  | [], _, _, _, _, h, _, _ => by simp at h
  | _ :: _, [], _, _, _, _, h, _ => by simp at h
  | p :: P, w :: vs, 0, m, nd, h1, h2, hk => by
    simp at h1 h2; subst h1; subst h2
    show bindC kindOf ((p, w) :: P.zip vs) m p = _
    unfold bindC
    rw [bindC_out fun v hv => (List.nodup_cons.mp nd).1 (List.of_mem_zip hv).1, if_neg hk]
    simp
  | p :: P, w :: vs, i + 1, m, nd, h1, h2, hk => by
    show bindC kindOf ((p, w) :: P.zip vs) m x = _
    unfold bindC
    exact bindC_get (i := i) (List.nodup_cons.mp nd).2 (by simpa using h1) (by simpa using h2) hk
/-- the names' values at the entry -/
def start (N : List Str) (vs : List V) : St := vs.map some ++ List.replicate (N.length - vs.length) none
/-- the context of a def's body, at its entry; an exception leaves the frame, then lies as CX says -/
def cxOf (CX : CXT) (P : Program) (w : World) (K : PySem.W.Frag) (mg : Str → Option Value) (base : Heap) (N : List Str) (qual : Str) (scope : Scope) (f : Addr) (cd : Value) (A : Around) (outer : List Env) (s : Shared) (H : Hp) (E : XK) : Cx where
  prog := P
  w := w
  K := K
  mg := mg
  base := base
  A := A.deeper (envOfC qual scope s.heap.objs.size f cd)
  N := N
  s_0 := s
  H_0 := H
  env := envOfC qual scope s.heap.objs.size f cd
  outer := outer
  stack := envOfC qual scope s.heap.objs.size f cd :: outer
  ex := []
  calm := true
  fn := fun _ => true
  pn := []
  xe := fun e s' => wpAny (model P w) (A.deeper (envOfC qual scope s.heap.objs.size f cd)) (leaving (envOfC qual scope s.heap.objs.size f cd) e) (fun _ s'' => CX outer H s E e s'') (fun e' s'' => CX outer H s E e' s'') s'
theorem cell_has {sc : Scope} {n : Nat} {x : Str} (h : sc.names.lookup x = some .cell) : ∃ c, (cellsFrom n sc.names []).lookup x = some c := by
  have q := PySem.W.cellsFrom_some sc.names n [] (.inl h)
  exact Option.isSome_iff_exists.mp q
theorem inv_start {CX : CXT} {P : Program} {w : World} {K : PySem.W.Frag} {mg : Str → Option Value} {base : Heap} {N ps : List Str} {qual : Str} {scope : Scope} {f : Addr} {cd : Value} {A : Around} {outer : List Env} {s s1 : Shared} {H : Hp} {E : XK} {us : List Value} {vs : List V}
    (S : FnScope N ps scope) (hd : A.handled = none) (e0 : Env0 P w K mg base A outer s H) (hl : vs.length = ps.length) (r : Vals vs us)
    (x : InCallC s s.heap.objs.size (bindL (envOfC qual scope s.heap.objs.size f cd).kindOf (ps.zip us) fun _ => none) (cellsFrom (s.heap.objs.size + 1) scope.names []) (bindC (envOfC qual scope s.heap.objs.size f cd).kindOf (ps.zip us) fun _ => none) s1) :
    Inv (cxOf CX P w K mg base N qual scope f cd A outer s H E) [] (start N vs) H s1 := by
  have hpl : ps.length ≤ N.length := by have := congrArg List.length S.pre; rw [List.length_take] at this; omega
  obtain ⟨h1, tk, rfl, hk⟩ := x.done
  have noA : ∀ b : Addr, b ∉ (cxOf CX P w K mg base N qual scope f cd A outer s H E).ex := fun b z => absurd (show b ∈ ([] : List Addr) from z) (by simp)
  refine ⟨⟨e0.mod, S.kind, rfl, rfl, Nat.le_refl _, fun y z c h1 h2 => ?_, fun y hy => ?_, fun y c _ h => ?_, fun _ => hd, Around.frames_deeper e0.frames, .inr ⟨rfl, rfl⟩, fun b z => absurd z (noA b), e0.bs, e0.bsz, fun b _ _ => noA b, fun b z => absurd z (noA b), e0.funs, e0.frf⟩,
    rfl, e0.bare, Un.kept hk, ⟨_, x.toInCall.ns, fun i y v h1 h2 h3 => ?_⟩, fun y c h => ⟨_, x.cell y c h⟩, e0.hok.fresh (Nat.le_refl _), fun y c h => ?_, fun p hp => absurd (show p ∈ ([] : List (Addr × Obj)) from hp) (by simp), e0.hok.kept hk, ?_⟩
  · exact name_of_addr x.apart (PySem.mem_of_lookup h1) (PySem.mem_of_lookup h2)
  · have hy : scope.names.lookup y = some .cell ∨ scope.names.lookup y = some .free := hy
    rcases hy with hy | hy
    · exact cell_has hy
    · exact absurd rfl (S.nofree _ (PySem.mem_of_lookup hy))
  · exact Nat.le_of_lt (x.above y c (PySem.mem_of_lookup h))
  · have hi : i < vs.length := by
      unfold start at h2
      by_cases hi : i < vs.length
      · exact hi
      · rw [List.getElem?_append_right (by simpa using hi)] at h2
        rw [List.getElem?_replicate] at h2
        split at h2 <;> cases h2
    have ha : vs[i]? = some v := by
      unfold start at h2
      rw [List.getElem?_append_left (by simpa using hi), List.getElem?_map] at h2
      cases e : vs[i]? with
      | none => rw [e] at h2; cases h2
      | some a => rw [e] at h2; cases h2; rfl
    obtain ⟨u, hu, rv⟩ := r.get ha
    have hp : ps[i]? = some y := by
      rw [← S.pre, List.getElem?_take_of_lt (by omega)]; exact h1
    have ndP : ps.Nodup := by rw [← S.pre]; exact S.nd.sublist (List.take_sublist _ _)
    refine ⟨u, rv, ?_⟩
    rcases S.par y (List.mem_of_getElem? hp) with k | k
    · exact .inl ⟨k, bindL_get ndP hp hu k⟩
    · obtain ⟨c, e⟩ := cell_has (n := s.heap.objs.size + 1) k
      refine .inr ⟨.inl k, c, e, ?_⟩
      have q := x.cell y c e
      rw [bindC_get ndP hp hu (by show scope.names.lookup y ≠ _; rw [k]; decide)] at q
      exact q
  · exact e0.hok.fresh (Nat.le_of_lt (x.above y c (PySem.mem_of_lookup h)))
  · unfold start
    show _ = N.length
    rw [List.length_append, List.length_map, List.length_replicate]
    omega
/-- THE RULE: a def (or a method) of the text, by its body. The body's reading t is chosen for each entry; it is run at the parameters' values -/
theorem fn_of {CX : CXT} {P : Program} {w : World} {K : PySem.W.Frag} {mg : Str → Option Value} {base : Heap} {k : Nat} {f : Addr} {name qual : Str} {params : Arguments} {body : List Stmt} {scope : Scope} {dV kV doc pm cdv ct oc : Value} {an od : Option Addr}
    {osl : Array (Option Value)} {N ps : List Str} {sp : Sp} (lk : K.lookup f = some ⟨oc, od, .func (PySem.W.fnOf name qual params body scope dV kV doc pm an cdv ct), osl⟩) (hcd : PySem.W.codeIn K cdv qual = true) (S : FnScope N ps scope)
    (len : ∀ vs H Q E, sp vs H Q E → vs.length = ps.length)
    (hbody : ∀ (A : Around) (outer : List Env) (s : Shared) (H : Hp) (vs : List V) (Q : VK) (E : XK), Room k (A.deeper (envOfC qual scope s.heap.objs.size f cdv)) → sp vs H Q E →
      ∃ t, PSs (cxOf CX P w K mg base N qual scope f cdv A outer s H E) body t ∧ t { nx := fun _ H' => Q .non H', rt := Q } (start N vs) H) :
    FnOk P w K mg base CX (k + 1) f (PySem.W.fnOf name qual params body scope dV kV doc pm an cdv ct) ps sp := by
  refine ⟨len, fun A outer s H args us vs Q E hr e0 hb r hsp => ?_⟩
  have hl := len _ _ _ _ hsp
  have KX : K.In s.heap := e0.mod.kin.keeps fun b o e => (e0.bs b o e).1
  have lim : s.heap.NoLimit := e0.mod.nolimit.keeps fun b o e => (e0.bs b o e).1
  have hkind : ∀ y ∈ ps.zip us, scope.names.lookup y.1 = some .local ∨ (scope.names.lookup y.1 = some .cell ∧ ((cellsFrom (s.heap.objs.size + 1) scope.names []).lookup y.1).isSome = true) := fun ⟨n, v⟩ hy => by
    rcases S.par n (List.of_mem_zip hy).1 with q | q
    · exact .inl q
    · exact .inr ⟨q, PySem.W.cellsFrom_some _ _ _ (.inl q)⟩
  refine codeAny_call_function hr.depth (KX _ _ lk) rfl S.co S.gen rfl (PySem.W.codeRec_of KX hcd) (hb _ _ _ _ ?_)
  refine wpAny_newFunctionEnv_cells S.kind hkind fun env he s1 x => ?_
  subst he
  refine ⟨lim.keeps x.toInCall.keep, codeAny_func ?_⟩
  obtain ⟨t, ht, hq⟩ := hbody A outer s H vs Q E (hr.deeper _) hsp
  have I : Inv (cxOf CX P w K mg base N qual scope f cdv A outer s H E) [] (start N vs) H s1 := inv_start S hr.hd e0 hl r x
  refine wpAny_mono (ht [] s1 (start N vs) H _ I hq) (fun fl s' hs => ?_) fun e s' hs => hs
  have fin : ∀ {σ' : St} {H' : Hp} {v : V} {u : Value}, Inv (cxOf CX P w K mg base N qual scope f cdv A outer s H E) [] σ' H' s' → RelV v u → Q v H' → CE outer P w H s Q u s' :=
    fun {σ' H' v u} J rv q => ⟨v, H', J.os, J.bare, J.base, J.hok, rv, q⟩
  cases fl with
  | ret u =>
    obtain ⟨v, σ', H', J, rv, q⟩ := hs
    exact fin J rv q
  | next =>
    obtain ⟨σ', H', J, q⟩ := hs
    exact fin (v := V.non) (u := Value.none) J rfl q
  | brk =>
    obtain ⟨_, _, _, q⟩ := hs
    exact False.elim q
  | cont =>
    obtain ⟨_, _, _, q⟩ := hs
    exact False.elim q
end L2
namespace L2
open PySem PySem.Spec PyProof.Rows
section
variable {X : Cx} {x : Str} {p pos : Pos} {e : Expr} {es : List Expr} {t : TA} {id T : String} {r : List V → Hp → VK → Prop}
def tCB (r : List V → Hp → VK → Prop) (t : TA) : TE := fun σ H Q => t σ H fun vs H1 => r vs H1 Q
/-- f(e, ..), f a built-in function -/
theorem pe_callB (hc : CallR X (.builtin id) r) (hg : Gl X x) (hm : X.mg x = none) (hv : bootBuiltins x = some (.builtin id)) (ha : PA X (e :: es) t) (hn : x ≠ "__name__" := by decide) (hdb : (x == ("__debug__" : Str)) = false := by decide)
    (he : starEach (e :: es) X.env = (false, eval e X.env) :: starEach es X.env := by rfl) (hpl : (backTo pos (starEach es X.env)).any (·.1) = false := by rfl) : PE X (.Call (.Name x p) (e :: es) [] pos) (tCB r t) := by
  intro pins s σ H Q I h
  refine wpAny_Call_Name_kw (ld_blt I hg hm hv ?_ hn hdb)
  exact PyProof.Rows.callWith_builtin1 (thn (ha pos pins s σ H _ I h) fun us s1 ⟨vs, H1, I1, r1, q1⟩ => hc pins s1 σ H1 vs us Q I1 r1 q1) he hpl
/-- T(e, ..), T a built-in type -/
theorem pe_callTy (hc : CallR X (.type T) r) (hg : Gl X x) (hm : X.mg x = none) (hv : bootBuiltins x = some (.type T)) (ha : PA X (e :: es) t) (hn : x ≠ "__name__" := by decide) (hdb : (x == ("__debug__" : Str)) = false := by decide)
    (he : starEach (e :: es) X.env = (false, eval e X.env) :: starEach es X.env := by rfl) (hpl : (backTo pos (starEach es X.env)).any (·.1) = false := by rfl) : PE X (.Call (.Name x p) (e :: es) [] pos) (tCB r t) := by
  intro pins s σ H Q I h
  refine wpAny_Call_Name_kw (ld_blt I hg hm hv ?_ hn hdb)
  exact PyProof.Rows.callWith_type1 (thn (ha pos pins s σ H _ I h) fun us s1 ⟨vs, H1, I1, r1, q1⟩ => hc pins s1 σ H1 vs us Q I1 r1 q1) he hpl
end
end L2
namespace HT
open PySem PyProof.Rows
section
open PySem.SeqAt
open PySem.AutoSeq1 (wpAny_loadPart')
open PySem.MeetsSeq PySem.MeetsSeq2 PySem.MeetsSeq3
end
section
variable {prog : Program} {w : World} {A : Around} {E : Value → Shared → Prop} {s : Shared}
/-! ### t[a:b], not the whole -/
/-- a slice's bound as a place among n (d where it is left out) -/
def sIx (n d : Nat) : Option Int → Nat
  | none => d
  | some v => if v < 0 then (v + (n : Int)).toNat else min v.toNat n
theorem sIx_none (n d : Nat) : sIx n d none = d := rfl
theorem sIx_nat (n d k : Nat) : sIx n d (some (k : Int)) = min k n := by
  show (if (k : Int) < 0 then ((k : Int) + (n : Int)).toNat else min (k : Int).toNat n) = min k n
  rw [if_neg (by omega), Int.toNat_natCast]
end
end HT
namespace L2
open PySem PySem.Spec PyProof.Rows
/-! ### the parts of a slice -/
abbrev TO := St → Hp → (Option Int → Hp → Prop) → Prop
/-- a slice's part (left out, or an int) -/
def PO (X : Cx) (e : Option Expr) (t : TO) : Prop :=
  ∀ (pins : List (Addr × Obj)) (s : Shared) (σ : St) (H : Hp) (Q : Option Int → Hp → Prop), Inv X pins σ H s → t σ H Q →
    wpAny (model X.prog X.w) X.A (evalPart e X.env) (fun u s' => ∃ o H', Inv X pins σ H' s' ∧ IsPart u o ∧ Q o H') X.xe s
def tNoPart : TO := fun _ H Q => Q none H
def tPart (t : TE) : TO := fun σ H Q => t σ H fun x H1 => ∃ i, x = .int i ∧ Q (some i) H1
section
variable {X : Cx} {e : Expr} {te : TE} {lo hi : Option Expr} {tl th : TO} {pos p2 : Pos}
theorem po_none : PO X none tNoPart := by
  intro pins s σ H Q I h
  rw [evalPart_none]
  exact wpAny_pure ⟨none, H, I, .none, h⟩
theorem po_some (h : PE X e te) : PO X (some e) (tPart te) := by
  intro pins s σ H Q I hw
  rw [evalPart_some]
  refine thn (h pins s σ H _ I hw) fun u s1 ⟨x, H1, I1, r1, q1⟩ => ?_
  obtain ⟨i, rfl, q⟩ := q1
  obtain ⟨t, rfl⟩ := r1
  exact ⟨some i, H1, I1, .int i t, q⟩
/-- what a slice of a value is, by values: the slice object stands at sl -/
def SlR (X : Cx) (r : V → Option Int → Option Int → Hp → VK → Prop) : Prop :=
  ∀ (pins : List (Addr × Obj)) (s : Shared) (σ : St) (H : Hp) (x : V) (v vl vu : Value) (lo hi : Option Int) (sl : Addr) (Q : VK), Inv X pins σ H s → RelV x v → s.heap.IsSliceOf sl vl vu .none → IsPart vl lo → IsPart vu hi → r x lo hi H Q →
    ∃ T id, typeLookup (.type T) "__getitem__" = pure (some (.builtin id)) ∧ s.TypeIs v T ∧ wpAny (model X.prog X.w) X.A (getItem v (.ref sl)) (EP X pins σ Q) X.xe s
def tSl (r : V → Option Int → Option Int → Hp → VK → Prop) (te : TE) (tl th : TO) : TE := fun σ H Q => te σ H fun x H1 => tl σ H1 fun l H2 => th σ H2 fun u H3 => r x l u H3 Q
/-- a[lo:hi], any a -/
theorem pe_slice {r : V → Option Int → Option Int → Hp → VK → Prop} (hr : SlR X r) (he : PE X e te) (hl : PO X lo tl) (hu : PO X hi th) : PE X (.Subscript e (.Slice lo hi none p2) pos) (tSl r te tl th) := by
  intro pins s σ H Q I h
  refine Subscript_ (thn (he pins s σ H _ I h) fun v s1 ⟨x, H1, I1, r1, q1⟩ => ?_)
  refine wpAny_Slice (thn (hl pins s1 σ H1 _ I1 q1) fun vl s2 ⟨l, H2, I2, pl, q2⟩ => thn (hu pins s2 σ H2 _ I2 q2) fun vu s3 ⟨u, H3, I3, pu, q3⟩ => ?_)
  rw [evalPart_none]
  refine wpAny_pure ?_
  have I4 : Inv X pins σ H3 { s3 with heap := s3.heap.push { cls := .type "slice", data := .fields #[vl, vu, .none] } } := I3.kept (t' := s3.toks) fun b ob q => Heap.get?_push_of_some _ q
  obtain ⟨T, id, hT, ht, hg⟩ := hr pins { s3 with heap := s3.heap.push { cls := .type "slice", data := .fields #[vl, vu, .none] } } σ H3 x v vl vu l u s3.heap.objs.size Q I4 r1 (Heap.IsSliceOf.new ..) pl pu q3
  show wpAny (model X.prog X.w) X.A (subscriptTail e (.Slice lo hi none p2) v (.ref s3.heap.objs.size)) (EP X pins σ Q) X.xe { s3 with heap := s3.heap.push { cls := .type "slice", data := .fields #[vl, vu, .none] } }
  exact tail_any (ops := [.ref s3.heap.objs.size, v]) ht hT hg (by with_unfolding_all rfl)
/-- the items of xs[lo:hi] -/
def cutV (xs : List V) (lo hi : Option Int) : List V := (xs.drop (HT.sIx xs.length 0 lo)).take (HT.sIx xs.length xs.length hi - HT.sIx xs.length 0 lo)
theorem cutV_length (xs : List V) (lo hi : Option Int) : (cutV xs lo hi).length ≤ xs.length := by
  unfold cutV
  rw [List.length_take, List.length_drop]
  omega
/-! ### t < u, t + u -/
end
end L2
namespace L2
open PySem PySem.Spec PyProof.Rows
/-! ### places -/
/-- the place that an index of any sign means -/
def ixN (n : Nat) (i : Int) : Option Nat := if 0 ≤ i then (if i < n then some i.toNat else none) else if -(n : Int) ≤ i then some (i + n).toNat else none
def atI {α : Type} (xs : List α) (i : Int) : Option α := (ixN xs.length i).bind fun j => xs[j]?
theorem ixN_seq {n : Nat} {i : Int} {j : Nat} (h : ixN n i = some j) : seqIndex? i n = some j ∧ j < n ∧ -(n : Int) ≤ i ∧ i < n := by
  unfold ixN at h
  by_cases h0 : 0 ≤ i
  · rw [if_pos h0] at h
    by_cases h1 : i < n
    · rw [if_pos h1] at h
      have e : i.toNat = j := Option.some.inj h
      exact ⟨by rw [seqIndex_of h0 h1, e], by omega, by omega, h1⟩
    · rw [if_neg h1] at h; cases h
  · rw [if_neg h0] at h
    by_cases h1 : -(n : Int) ≤ i
    · rw [if_pos h1] at h
      have e : (i + n).toNat = j := Option.some.inj h
      exact ⟨by rw [seqIndex_neg (by omega) h1, e], by omega, h1, by omega⟩
    · rw [if_neg h1] at h; cases h
theorem atI_get {α : Type} {xs : List α} {i : Int} {v : α} (h : atI xs i = some v) : ∃ j, seqIndex? i xs.length = some j ∧ xs[j]? = some v ∧ j < xs.length ∧ -(xs.length : Int) ≤ i ∧ i < xs.length := by
  unfold atI at h
  cases e : ixN xs.length i with
  | none => rw [e] at h; cases h
  | some j =>
    rw [e] at h
    obtain ⟨h1, h2, h3, h4⟩ := ixN_seq e
    exact ⟨j, h1, h, h2, h3, h4⟩
theorem atI_nat {α : Type} {xs : List α} {j : Nat} {v : α} (h : xs[j]? = some v) : atI xs (j : Int) = some v := by
  have hj : j < xs.length := (List.getElem?_eq_some_iff.mp h).1
  have e : ixN xs.length (j : Int) = some j := by
    unfold ixN
    rw [if_pos (by omega), if_pos (by omega)]; simp
  unfold atI; rw [e]; exact h
/-! ### what may be subscripted -/
/-- what stands as an index of a plain subscript -/
def PlainIx (b : Expr) : Prop := ∀ o i, subscripted b false o i = operate [o, i] (getItem o i)
/-- a subscript by values -/
def IxR (X : Cx) (r : R2) : Prop :=
  ∀ (value slice : Expr) (pins : List (Addr × Obj)) (s : Shared) (σ : St) (H : Hp) (x y : V) (v u : Value) (Q : VK), Inv X pins σ H s → RelV x v → RelV y u → r x y H Q →
    subscripted slice false v u = operate [v, u] (getItem v u) → wpAny (model X.prog X.w) X.A (subscriptTail value slice v u) (EP X pins σ Q) X.xe s
/-- a call of a builtin's method by values: the receiver, the arguments -/
def MtR (X : Cx) (id : String) (r : V → List V → Hp → VK → Prop) : Prop :=
  ∀ (pins : List (Addr × Obj)) (s : Shared) (σ : St) (H : Hp) (x : V) (xs : List V) (v : Value) (us : List Value) (Q : VK), Inv X pins σ H s → RelV x v → Vals xs us → r x xs H Q →
    wpAny (model X.prog X.w) X.A (call (.builtin id) (v :: us)) (EP X pins σ Q) X.xe s
section
variable {X : Cx} {a b : Expr} {ta tb : TE} {pos : Pos}
/-- a[b] -/
theorem pe_ix {r : R2} (hr : IxR X r) (ha : PE X a ta) (hb : PE X b tb) (hs : PlainIx b) : PE X (.Subscript a b pos) (tOp r ta tb) := by
  intro pins s σ H Q I h
  exact Subscript_ (binT ha hb I h fun v u s2 x y H2 I2 rx ry q => hr a b pins s2 σ H2 x y v u Q I2 rx ry q (hs _ _))
def rIxL (K : PySem.W.Frag) : R2 := fun x y H Q => ∃ p xs i v, x = .ref p ∧ y = .int i ∧ SqL K H p xs ∧ atI xs i = some v ∧ Q v H
def rIxT (K : PySem.W.Frag) : R2 := fun x y H Q => ∃ p xs i v, x = .ref p ∧ y = .int i ∧ SqT K H p xs ∧ atI xs i = some v ∧ Q v H
theorem ix_list : IxR X (rIxL X.K) := by
  intro value slice pins s σ H x y v u Q I rx ry h hs
  obtain ⟨p, xs, i, z, rfl, rfl, hq, he, q⟩ := h
  cases rx
  obtain ⟨t, rfl⟩ := ry
  obtain ⟨its, r, pl, hz⟩ := I.list hq
  obtain ⟨j, h1, h2, h3, h4, h5⟩ := atI_get he
  obtain ⟨w, ew, rw'⟩ := r.get h2
  have hl := r.length
  have hn := line63
  have fin : EP X pins σ Q w s := ⟨z, H, I, rw', q⟩
  by_cases h0 : 0 ≤ i
  · have hj : i.toNat = j := by
      rw [seqIndex_of h0 h5] at h1
      exact Option.some.inj h1
    exact item_listR pl.isList h0 (by omega) (by rw [hj]; simpa using ew) fin hs
  · have hj : (i + (its.toArray.size : Int)).toNat = j := by
      rw [seqIndex_neg (by omega) h4] at h1
      rw [List.size_toArray, ← hl]
      exact Option.some.inj h1
    exact subscriptTail_builtinR (x := w) pl.isList.typeIs slot_list_getitem.lookup
      (wpAny_getItem_list_neg (Q := fun r s' => r = w ∧ EP X pins σ Q r s') pl.isList (by omega) (by rw [List.size_toArray] <;> omega) (by omega) (by rw [hj]; simpa using ew) ⟨rfl, fin⟩) hs
theorem ix_tup : IxR X (rIxT X.K) := by
  intro value slice pins s σ H x y v u Q I rx ry h hs
  obtain ⟨p, xs, i, z, rfl, rfl, hq, he, q⟩ := h
  cases rx
  obtain ⟨t, rfl⟩ := ry
  obtain ⟨its, r, pl, hz⟩ := I.tuple hq
  obtain ⟨j, h1, h2, h3, h4, h5⟩ := atI_get he
  obtain ⟨w, ew, rw'⟩ := r.get h2
  have hl := r.length
  have hn := line63
  have fin : EP X pins σ Q w s := ⟨z, H, I, rw', q⟩
  exact subscriptTail_builtinR (x := w) pl.typeIs slot_tuple_getitem.lookup
    (getItem_tuple (j := j) (Q := fun r s' => r = w ∧ EP X pins σ Q r s') pl (by omega) (by omega) (by rw [List.size_toArray, ← hl]; exact h1) (by simpa using ew) ⟨rfl, fin⟩) hs
/-! ### xs[i] = v, any sign -/
/-! ### slices -/
theorem slice_bounds (lo hi : Option Int) (n : Nat) : (sliceBounds lo hi none n).1 = ((HT.sIx n 0 lo : Nat) : Int) ∧ (sliceBounds lo hi none n).2.1 = ((HT.sIx n n hi : Nat) : Int) ∧ (sliceBounds lo hi none n).2.2 = 1 := by
  refine ⟨?_, ?_, rfl⟩
  · cases lo with
    | none => simp [sliceBounds, HT.sIx]
    | some i =>
      simp only [sliceBounds, HT.sIx, Option.getD_none, show (1 : Int) > 0 by decide, if_true]
      by_cases h : i < 0
      · simp only [h, if_true] <;> omega
      · simp only [h, if_false] <;> omega
  · cases hi with
    | none => simp [sliceBounds, HT.sIx]
    | some i =>
      simp only [sliceBounds, HT.sIx, Option.getD_none, show (1 : Int) > 0 by decide, if_true]
      by_cases h : i < 0
      · simp only [h, if_true] <;> omega
      · simp only [h, if_false] <;> omega
theorem slicePick_cut (its : List Value) (lo hi : Option Int) : slicePick its.toArray lo hi none = ((its.drop (HT.sIx its.length 0 lo)).take (HT.sIx its.length its.length hi - HT.sIx its.length 0 lo)).toArray := by
  obtain ⟨h1, h2, h3⟩ := slice_bounds lo hi its.toArray.size
  unfold slicePick
  rw [h1, h2, h3]
  simp only [sliceRange_one, pick_run, List.size_toArray] <;> rfl
/-- xs[lo:hi] of a list: a new list -/
def rSlL (K : PySem.W.Frag) : V → Option Int → Option Int → Hp → VK → Prop := fun x lo hi H Q => ∃ a xs, x = .ref a ∧ SqL K H a xs ∧ ∀ p, H p = none → Q (.ref p) (upd H p (.lst (cutV xs lo hi)))
theorem sl_list : SlR X (rSlL X.K) := by
  intro pins s σ H x v vl vu lo hi sl Q I rx hs pl pu h
  obtain ⟨a, xs, rfl, hx, q⟩ := h
  cases rx
  obtain ⟨its, r, ht, hz⟩ := I.list hx
  have hlen := r.length
  refine ⟨"list", _, slot_list_getitem.lookup, ht.isList.typeIs, ?_⟩
  refine wpAny_getItem_list_slice ht.isList hs pl pu .none (by simp) ?_ (by rw [List.size_toArray] <;> omega)
  rw [slicePick_cut, ← hlen]
  refine ⟨.ref s.heap.objs.size, _, I.laid (t' := s.toks) (o := .lst (cutV xs lo hi)) (fun b ob q => Heap.get?_push_of_some _ q) (Nat.le_refl _) ?_, rfl, q _ (I.hok.fresh (Nat.le_refl _))⟩
  exact ⟨Nat.le_trans (cutV_length xs lo hi) hz, _, 0, (r.drop (HT.sIx xs.length 0 lo)).take (HT.sIx xs.length xs.length hi - HT.sIx xs.length 0 lo), Heap.get?_push_size _ rfl⟩
/-! ### in, not in: flat items -/
/-! ### len, list(x), tuple(x) of any list or tuple that is read -/
theorem call_len_seq : CallR X (.builtin "len") (fun xs H Q => ∃ p ys, xs = [.ref p] ∧ (SqL X.K H p ys ∨ SqT X.K H p ys) ∧ Q (.int ys.length) H) := by
  intro pins s σ H xs us Q I r h
  obtain ⟨p, ys, rfl, hq, q⟩ := h
  obtain ⟨u, rfl, rx⟩ := vals1 r
  cases rx
  have hn := line63
  rcases hq with hq | hq
  · obtain ⟨its, r', pl, hz⟩ := I.list hq
    have hlen := r'.length
    exact Calls.call_len_list pl.isList (by simp only [List.size_toArray] <;> omega) ⟨.int ys.length, H, I.tok _, ⟨s.toks + 1, by rw [List.size_toArray, hlen]⟩, q⟩
  · obtain ⟨its, r', pl, hz⟩ := I.tuple hq
    have hlen := r'.length
    exact len_tuple pl (by simp only [List.size_toArray] <;> omega) ⟨.int ys.length, H, I.tok _, ⟨s.toks + 1, by rw [List.size_toArray, hlen]⟩, q⟩
theorem call_list_of : CallR X (.type "list") (fun xs H Q => ∃ p ys, xs = [.ref p] ∧ (SqL X.K H p ys ∨ SqT X.K H p ys) ∧ ∀ l, H l = none → Q (.ref l) (upd H l (.lst ys))) := by
  intro pins s σ H xs us Q I r h
  obtain ⟨p, ys, rfl, hq, q⟩ := h
  obtain ⟨u, rfl, rx⟩ := vals1 r
  cases rx
  have fin : ∀ (its : List Value), Vals ys its → ys.length ≤ sizeLine → ∀ (h' : Heap) (c' : Nat), (∀ b o', s.heap.get? b = some o' → h'.get? b = some o') →
      h'.get? s.heap.objs.size = some { cls := .type "list", dict := none, data := .seq its.toArray c', slots := #[] } → EP X pins σ Q (.ref s.heap.objs.size) { s with heap := h' } := fun its r' hz h' c' kp e =>
    ⟨.ref s.heap.objs.size, _, I.laid (t' := s.toks) kp (Nat.le_refl _) (show ObjOk X.prog X.w _ h' _ (.lst ys) from ⟨hz, its, c', r', e⟩), rfl, q _ (I.hok.fresh (Nat.le_refl _))⟩
  rcases hq with hq | hq
  · obtain ⟨its, r', pl, hz⟩ := I.list hq
    have hlen := r'.length
    obtain ⟨o, ho, hc, n, hd⟩ := pl.isList
    exact call_list_seq p (.inl rfl) ho hc hd (fun h' c' kp e => fin its r' hz h' c' kp e) (by simp only [List.size_toArray] <;> omega)
  · obtain ⟨its, r', pl, hz⟩ := I.tuple hq
    have hlen := r'.length
    obtain ⟨o, ho, hc, n, hd⟩ := pl
    exact call_list_seq p (.inr rfl) ho hc hd (fun h' c' kp e => fin its r' hz h' c' kp e) (by simp only [List.size_toArray] <;> omega)
/-! ### the call of a builtin's method: o.m(..) -/
/-- the value is of that builtin type -/
def tyV (K : PySem.W.Frag) (T : String) (x : V) (H : Hp) : Prop := match x with
  | .str _ => T = "str"
  | .int _ => T = "int"
  | .ref p => (T = "list" ∧ ∃ xs, SqL K H p xs) ∨ (T = "tuple" ∧ ∃ o, K.lookup p = some o ∧ o.cls = .type "tuple" ∧ o.dict = none) ∨
      (T = "dict" ∧ ((∃ kvs, H p = some (.dK kvs)) ∨ ∃ kvs, H p = some (.dT kvs))) ∨ (T = "set" ∧ ∃ S n, H p = some (.set S n))
  | _ => False
theorem tyV_is {pins : List (Addr × Obj)} {σ : St} {H : Hp} {s : Shared} {T : String} {x : V} {v : Value} (I : Inv X pins σ H s) (r : RelV x v) (ty : tyV X.K T x H) :
    s.TypeIs v T ∧ ∀ a, v = .ref a → ∃ ob, s.heap.get? a = some ob ∧ ob.dict = none := by
  cases x with
  | str z =>
    obtain ⟨t, rfl⟩ := r
    cases (show T = "str" from ty)
    exact ⟨typeIs_str s z t, fun _ e => nomatch e⟩
  | int i =>
    obtain ⟨t, rfl⟩ := r
    cases (show T = "int" from ty)
    exact ⟨typeIs_int s i t, fun _ e => nomatch e⟩
  | ref p =>
    cases r
    rcases ty with ⟨rfl, xs, hq⟩ | ⟨rfl, o, hk, hc, hd⟩ | ⟨rfl, hk⟩ | ⟨rfl, S, n, hk⟩
    · obtain ⟨its, _, pl, _⟩ := I.list hq
      refine ⟨pl.isList.typeIs, fun a e => ?_⟩
      cases e
      obtain ⟨o, n, e, c, hd, _⟩ := pl
      exact ⟨o, e, hd⟩
    · refine ⟨⟨o, I.kIn p o hk, hc⟩, fun a e => ?_⟩
      cases e
      exact ⟨o, I.kIn _ o hk, hd⟩
    · have z : ∃ o, s.heap.get? p = some o ∧ o.ExactDict := by
        rcases hk with ⟨kvs, hk⟩ | ⟨kvs, hk⟩
        · obtain ⟨_, _, _, _, o, _, _, e, ex, _⟩ := I.hok p _ hk
          exact ⟨o, e, ex⟩
        · obtain ⟨_, _, _, _, o, _, _, e, ex, _⟩ := I.hok p _ hk
          exact ⟨o, e, ex⟩
      obtain ⟨o, e, ex⟩ := z
      refine ⟨⟨o, e, ex.1⟩, fun a e2 => ?_⟩
      cases e2
      exact ⟨o, e, ex.2.1⟩
    · obtain ⟨o, _, _, _, e, ex, _⟩ := I.hok p _ hk
      refine ⟨⟨o, e, ex.1⟩, fun a e2 => ?_⟩
      cases e2
      exact ⟨o, e, ex.2.1⟩
  | _ => exact False.elim ty
def tBM (K : PySem.W.Frag) (T : String) (r : V → List V → Hp → VK → Prop) (to : TE) (t : TA) : TE := fun σ H Q => to σ H fun x H1 => tyV K T x H1 ∧ t σ H1 fun xs H2 => r x xs H2 Q
variable {o e : Expr} {es : List Expr} {to : TE} {t : TA} {name : Str} {apos cpos : Pos} {T id : String} {r : V → List V → Hp → VK → Prop}
theorem pe_bm (pa : PlainAttrs T) (slot : Slot T name id) (hty : typeOf (.builtin id) = pure (.type "method_descriptor")) (hm : MtR X id r) (ho : PE X o to) (ha : PA X (e :: es) t)
    (hbase : attributeBase o name X.env (eval o X.env) = eval o X.env := by rfl)
    (hfew : ((backTo cpos (starEach (e :: es) X.env)).all (fun x => !x.1) && (backToKw cpos (keywordEach [] X.env)).all (fun x => x.1.isSome)
      && decide ((e :: es).length + ([] : List Keyword).length + (if ([] : List Keyword).isEmpty then 0 else 1) < 30)) = true := by rfl)
    (hline : (apos.endLine == cpos.line) = true := by rfl) (hs : starEach (e :: es) X.env = (false, eval e X.env) :: starEach es X.env := by rfl) (hplain : (backTo cpos (starEach es X.env)).any (·.1) = false := by rfl) :
    PE X (.Call (.Attribute o name apos) (e :: es) [] cpos) (tBM X.K T r to t) := by
  intro pins s σ H Q I h
  refine wpAny_Call_method_late hbase hfew hline rfl (thn (ho pins s σ H _ I h) fun v s1 ⟨x, H1, I1, r1, ty, q1⟩ => ?_)
  obtain ⟨h1, h2⟩ := tyV_is I1 r1 ty
  refine ⟨T, id, pa, slot, hty, h1, h2, ?_⟩
  have hA := ha cpos pins s1 σ H1 _ I1 q1
  rw [hs] at hA ⊢
  refine Calls.callWith_builtin (by show (false || (backTo cpos (starEach es X.env)).any (·.1)) = false; rw [hplain] <;> rfl) (Calls.evalArgs_plain ?_)
  exact thn hA fun us s2 ⟨vs, H2, I2, r2, q2⟩ => hm pins s2 σ H2 x vs v us Q I2 r1 r2 q2
/- xs.append(e), list.index on a module's tuple .. are MtR facts of 06m -/
end
end L2
namespace L2
open PySem PySem.Spec PyProof.Rows
def MtM (X : Cx) (id : String) (r : V → List V → Hp → VK → Prop) : Prop :=
  ∀ (pins : List (Addr × Obj)) (s : Shared) (σ : St) (H : Hp) (x : V) (xs : List V) (v : Value) (us : List Value) (Q : VK), Inv X pins σ H s → RelV x v → Vals xs us → r x xs H Q →
    wpAny (model X.prog X.w) X.A (call (.builtin id) (v :: us)) (EP X pins σ Q) X.xe s
/-! ### lists of values -/
theorem Vals.one : ∀ {x : V} {us : List Value}, Vals [x] us → ∃ u, us = [u] ∧ RelV x u
  | _, _, .cons r .nil => ⟨_, rfl, r⟩
theorem Vals.rep {xs : List V} {us : List Value} (h : Vals xs us) : ∀ k : Nat, Vals (List.replicate k xs).flatten (List.replicate k us).flatten
  | 0 => .nil
  | k + 1 => by
    rw [List.replicate_succ, List.replicate_succ, List.flatten_cons, List.flatten_cons]
    exact Vals.append h (Vals.rep h k)
theorem foldl_rep (its : List Value) : ∀ (k : Nat) (acc : List Value),
    List.foldl (fun x1 x2 => x1 ++ x2) acc.toArray (List.replicate k its.toArray) = (acc ++ (List.replicate k its).flatten).toArray
  | 0, acc => by simp
  | k + 1, acc => by
    have e : acc.toArray ++ its.toArray = (acc ++ its).toArray := by simp
    have e2 : (acc ++ its) ++ (List.replicate k its).flatten = acc ++ (List.replicate (k + 1) its).flatten := by
      rw [List.replicate_succ, List.flatten_cons, List.append_assoc]
    rw [← e2, ← foldl_rep its k (acc ++ its), ← e, List.replicate_succ, List.foldl_cons]
section
variable {X : Cx} {pins : List (Addr × Obj)} {σ : St} {H : Hp} {s : Shared} {l b : Addr} {xs ys zs : List V}
/-! ### the two steps: a tracked list is rewritten, a new list is laid -/
theorem Inv.lset {its its' : List Value} {n : Nat} {f : Array Value → Array Value} {t' : Nat} (I : Inv X pins σ H s) (hH : H l = some (.lst xs))
    (e : s.heap.get? l = some { cls := .type "list", data := .seq its.toArray n }) (hf : f its.toArray = its'.toArray) (hv : Vals ys its') (hz : ys.length ≤ sizeLine) :
    Inv X pins σ (upd H l (.lst ys)) { s with heap := s.heap.update l (Obj.mapSeq f), toks := t' } := by
  have q := PySem.IsL.update e f
  rw [hf] at q
  refine I.write (x := l) (e := l) (by rw [hH]; exact trivial) (.inl rfl) (fun b' u hb hu => (Heap.get?_update_other s.heap (Obj.mapSeq f) (Ne.symm hb)).trans hu) ⟨_, q⟩ ?_
  exact ⟨hz, its', _, hv, q⟩
theorem Inv.lnew {its : List Value} {t' : Nat} (I : Inv X pins σ H s) (hv : Vals ys its) (hz : ys.length ≤ sizeLine) :
    Inv X pins σ (upd H s.heap.objs.size (.lst ys)) { s with heap := s.heap.push { cls := .type "list", data := .seq its.toArray }, toks := t' } :=
  I.laid (fun _ _ q => Heap.get?_push_of_some _ q) (Nat.le_refl _) ⟨hz, its, 0, hv, Heap.get?_push_size _ rfl⟩
theorem Inv.fresh (I : Inv X pins σ H s) : H s.heap.objs.size = none := I.hok.fresh (Nat.le_refl _)
theorem Inv.lstM (I : Inv X pins σ H s) (hH : H l = some (.lst xs)) : xs.length ≤ sizeLine ∧ ∃ (its : List Value) (n : Nat), Vals xs its ∧ xs.length = its.length ∧ s.heap.get? l = some { cls := .type "list", data := .seq its.toArray n } := by
  obtain ⟨z, its, n, r, e⟩ := I.hok l _ hH
  exact ⟨z, its, n, r, r.length, e⟩
theorem notLongL {n : Nat} (h : n ≤ sizeLine) : Builtin.List.listTooLong n = false := by
  unfold Builtin.List.listTooLong
  exact decide_eq_false (by omega)
end
section
variable {X : Cx}
/-! ### methods -/
def rAppend : V → List V → Hp → VK → Prop := fun x vs H Q => ∃ l xs y, x = .ref l ∧ vs = [y] ∧ H l = some (.lst xs) ∧ xs.length < sizeLine ∧ Q .non (upd H l (.lst (xs ++ [y])))
theorem mt_append : MtM X "list.append" rAppend := by
  intro pins s σ H x vs v us Q I rx rv h
  obtain ⟨l, xs, y, rfl, rfl, hH, hz, q⟩ := h
  cases rx
  obtain ⟨u, rfl, ru⟩ := rv.one
  obtain ⟨z, its, n, r, hl, e⟩ := I.lstM hH
  refine call_meets F.slot_list_append ⟨_, e, rfl⟩ F.entry_list_append (F.args_list_append_2 _ _) (PySem.list_append l its.toArray n u (by rw [List.size_toArray]; omega)) ⟨e, ?_⟩
  refine ⟨.non, _, I.lset (its' := its ++ [u]) hH e (by simp) (r.append (.cons ru .nil)) ?_, rfl, q⟩
  rw [List.length_append, List.length_singleton]
  omega
def rExtend : V → List V → Hp → VK → Prop := fun x vs H Q => ∃ l b xs zs, x = .ref l ∧ vs = [.ref b] ∧ H l = some (.lst xs) ∧ H b = some (.lst zs) ∧ xs.length + zs.length ≤ sizeLine ∧ Q .non (upd H l (.lst (xs ++ zs)))
theorem mt_extend : MtM X "list.extend" rExtend := by
  intro pins s σ H x vs v us Q I rx rv h
  obtain ⟨l, b, xs, zs, rfl, rfl, hH, hB, hz, q⟩ := h
  cases rx
  obtain ⟨u, rfl, ru⟩ := rv.one
  cases ru
  obtain ⟨z, its, n, r, hl, e⟩ := I.lstM hH
  obtain ⟨z2, its2, n2, r2, hl2, e2⟩ := I.lstM hB
  have hsz : its.toArray.size + its2.toArray.size ≤ sizeLine := by rw [List.size_toArray, List.size_toArray]; omega
  have hlong : ¬ (!its.toArray.isEmpty && Builtin.List.listTooLong (its.toArray.size + its2.toArray.size)) = true := by
    rw [notLongL hsz, Bool.and_false]
    exact Bool.false_ne_true
  refine call_meets F.slot_list_extend ⟨_, e, rfl⟩ F.entry_list_extend (F.args_list_extend_2 _ _)
    (AutoSeq1.list_extend_list_list_0 l its.toArray n b its2.toArray n2 hlong (by rw [List.size_toArray]; omega) (by omega)) ⟨e, e2, ?_⟩
  refine ⟨.non, _, I.lset (its' := its ++ its2) hH e (by simp) (r.append r2) ?_, rfl, q⟩
  rw [List.length_append]
  omega
/-! ### list + list, list += list, list * int -/
def rCat : R2 := fun x y H Q => ∃ l b xs zs, x = .ref l ∧ y = .ref b ∧ H l = some (.lst xs) ∧ H b = some (.lst zs) ∧ xs.length + zs.length ≤ sizeLine ∧ ∀ p, H p = none → Q (.ref p) (upd H p (.lst (xs ++ zs)))
theorem op_cat : OpR X (binaryOp .Add) rCat := by
  intro pins s σ H x y v u Q I rx ry h
  obtain ⟨l, b, xs, zs, rfl, rfl, hH, hB, hz, q⟩ := h
  cases rx
  cases ry
  obtain ⟨z, its, n, r, hl, e⟩ := I.lstM hH
  obtain ⟨z2, its2, n2, r2, hl2, e2⟩ := I.lstM hB
  refine PySem.P.add_list e e2 ?_ (by rw [List.size_toArray, List.size_toArray]; omega)
  have ea : its.toArray ++ its2.toArray = (its ++ its2).toArray := by simp
  rw [ea]
  exact ⟨.ref _, _, I.lnew (t' := s.toks) (r.append r2) (by rw [List.length_append]; omega), rfl, q _ I.fresh⟩
/-- a list times an int (a negative one is nothing) -/
def rRep : R2 := fun x y H Q => ∃ l k xs, x = .ref l ∧ y = .int k ∧ H l = some (.lst xs) ∧ -(2 ^ 63) ≤ k ∧ k < 2 ^ 63 ∧ xs.length * k.toNat ≤ sizeLine ∧
  ∀ p, H p = none → Q (.ref p) (upd H p (.lst (List.replicate k.toNat xs).flatten))
theorem len_rep {α : Type} (xs : List α) (k : Nat) : (List.replicate k xs).flatten.length = k * xs.length := by
  induction k with
  | zero => simp
  | succ k ih => rw [List.replicate_succ, List.flatten_cons, List.length_append, ih, Nat.succ_mul, Nat.add_comm]
theorem op_rep : OpR X (binaryOp .Mult) rRep := by
  intro pins s σ H x y v u Q I rx ry h
  obtain ⟨l, k, xs, rfl, rfl, hH, h1, h2, hz, q⟩ := h
  cases rx
  obtain ⟨t, rfl⟩ := ry
  obtain ⟨z, its, n, r, hl, e⟩ := I.lstM hH
  have hlen : its.toArray.size * k.toNat ≤ sizeLine := by rw [List.size_toArray, ← hl]; exact hz
  have hcap : ¬ its.toArray.size * k.toNat > (2 ^ 63 - 1) / 8 := by
    have : (sizeLine : Nat) ≤ (2 ^ 63 - 1) / 8 := by decide
    omega
  have hfit : ¬ (!Builtin.List.listFitsIndex k) = true := by
    rw [fitsIndex_both h1 h2]
    exact Bool.false_ne_true
  have hlong : ¬ Builtin.List.listTooLong (its.toArray.size * k.toNat) = true := by
    rw [notLongL hlen]
    exact Bool.false_ne_true
  have hnew : List.foldl (fun x1 x2 => x1 ++ x2) #[] (List.replicate (if its.toArray.isEmpty = true then 0 else k.toNat) its.toArray) = (List.replicate k.toNat its).flatten.toArray := by
    have f0 : ∀ m : Nat, List.foldl (fun x1 x2 => x1 ++ x2) #[] (List.replicate m its.toArray) = (List.replicate m its).flatten.toArray := fun m => by
      have := foldl_rep its m []
      rw [List.nil_append] at this
      exact this
    rw [f0]
    cases its with
    | nil => simp
    | cons a r' => rw [if_neg (by simp)]
  refine wpAny_binaryOp_repeat_ref (T := "list") (U := "int") (by decide) ⟨_, e, rfl⟩ (fun s' => typeIs_int s' k t) noFill_list_mul F.fills_int_mul F.slot_int_rmul repeat_list F.slot_int_index.lookup
    (call_meets F.slot_int_rmul (typeIs_int s k t) F.entry_int_rmul (F.args_int_rmul_2 _ _) (int___rmul___int_list k t l its.toArray n)
      ⟨e, rfl, ⟨_, e, rfl⟩, call_meets F.slot_list_mul ⟨_, e, rfl⟩ F.entry_list_mul (F.args_list_mul_2 _ _) (AutoListH.list___mul___list_int_3 l its.toArray n k t hfit hcap hlong) ⟨e, ?_⟩⟩)
  rw [hnew]
  exact ⟨.ref _, _, I.lnew (t' := s.toks) (r.rep k.toNat) (by rw [len_rep, Nat.mul_comm]; exact hz), rfl, q _ I.fresh⟩
/-! ### del xs[i] -/
end
/-! ### xs[a:b] = ys -/
section
variable {prog : Program} {w : World} {A : Around} {E : Value → Shared → Prop} {s : Shared}
end
section
variable {X : Cx}
end
end L2
namespace L2
open PySem PySem.Spec PyProof.Rows
theorem Vals.ints : ∀ {ns : List Int} {us : List Value}, Vals (ns.map V.int) us → IntsAre us ns
  | [], us, h => by
    rw [List.map_nil] at h
    cases h
    exact IntsAre.nil
  | n :: ns, us, h => by
    rw [List.map_cons] at h
    cases h with
    | cons r t =>
      obtain ⟨k, rfl⟩ := r
      exact IntsAre.cons n k (Vals.ints t)
theorem Vals.bls : ∀ {bs : List Bool} {us : List Value}, Vals (bs.map V.bl) us → us = bs.map Value.bool
  | [], us, h => by
    rw [List.map_nil] at h
    cases h
    rfl
  | b :: bs, us, h => by
    rw [List.map_cons] at h
    cases h with
    | cons r t =>
      cases r
      rw [Vals.bls t, List.map_cons]
theorem Vals.ref1 {a : Addr} {us : List Value} (r : Vals [V.ref a] us) : us = [Value.ref a] := by
  cases r with
  | cons r t =>
    cases t
    cases r
    rfl
/-! ### the library's walks over a list of ints, kept objects alone -/
section
variable {prog : Program} {w : World} {A : Around} {E : Value → Shared → Prop} {s : Shared} {l : Addr} {its : List Value} {ns : List Int} {Q : Value → Shared → Prop}
theorem sum_raw (hh : A.handled = none) (hl : s.heap.IsList l its.toArray) (hi : IntsAre its ns)
    (h : ∀ h' tk t', (∀ b o, s.heap.get? b = some o → h'.get? b = some o) → Q (.int ns.sum t') { s with heap := h', toks := tk }) : wpAny (model prog w) A (call (.builtin "sum") [.ref l]) Q E s := by
  obtain ⟨xs, e⟩ := hi.allInts.items
  have hn : numsOf (intItems xs).toList = ns := by rw [← e]; exact hi.numsOf
  rw [nums_intItems] at hn
  rw [e] at hl
  refine PySem.sum_intListG hh hl fun h' tk t' hk => ?_
  have := h h' tk t' hk
  rw [preSum_eq, List.take_of_length_le (by simp), hn]; exact this
theorem min_raw (hh : A.handled = none) (hl : s.heap.IsList l its.toArray) (hi : IntsAre its ns) (hne : 0 < ns.length)
    (h : ∀ h' tk M t', (∀ b o, s.heap.get? b = some o → h'.get? b = some o) → M ∈ ns → (∀ a, a ∈ ns → M ≤ a) → Q (.int M t') { s with heap := h', toks := tk }) : wpAny (model prog w) A (call (.builtin "min") [.ref l]) Q E s := by
  obtain ⟨xs, e⟩ := hi.allInts.items
  have hn : numsOf (intItems xs).toList = ns := by rw [← e]; exact hi.numsOf
  rw [nums_intItems] at hn
  subst hn
  rw [e] at hl
  have hsz : 0 < xs.size := by simpa using hne
  refine PySem.min_intList hh hl hsz fun v h' tk hv hk => ?_
  obtain ⟨t, rfl⟩ := intItems_at hv
  obtain ⟨h1, h2⟩ := argBest_lt (numAt xs) (xs.size - 1)
  refine h h' tk _ t hk ?_ fun a ha => ?_
  · rw [numAt_eq]; exact PySem.getD_mem (by rw [List.length_map, Array.length_toList]; omega)
  · obtain ⟨j, hj, rfl⟩ := mem_getD ha
    rw [List.length_map, Array.length_toList] at hj
    rw [← numAt_eq]; exact h2 j (by omega)
end
/-! ### the calls, by values (CallR of 03t; MtR of 06l) -/
section
variable {X : Cx}
/-- sum(xs) of a list of ints -/
def rSum (K : PySem.W.Frag) : List V → Hp → VK → Prop := fun vs H Q => ∃ (a : Addr) (ns : List Int), vs = [V.ref a] ∧ SqL K H a (ns.map V.int) ∧ Q (.int ns.sum) H
def rMin (K : PySem.W.Frag) : List V → Hp → VK → Prop := fun vs H Q => ∃ (a : Addr) (ns : List Int), vs = [V.ref a] ∧ SqL K H a (ns.map V.int) ∧ 0 < ns.length ∧ ∀ m, m ∈ ns → (∀ y, y ∈ ns → m ≤ y) → Q (.int m) H
theorem cr_sum (hc : X.calm = true) : CallR X (.builtin "sum") (rSum X.K) := by
  intro pins s σ H vs us Q I r h
  obtain ⟨a, ns, rfl, hs, q⟩ := h
  obtain ⟨its, rv, hl, _⟩ := I.list hs
  rw [Vals.ref1 r]
  exact sum_raw (I.ok.hd hc) hl.isList rv.ints fun h' tk t' hk => ⟨.int _, H, I.kept hk, ⟨_, rfl⟩, q⟩
theorem cr_min (hc : X.calm = true) : CallR X (.builtin "min") (rMin X.K) := by
  intro pins s σ H vs us Q I r h
  obtain ⟨a, ns, rfl, hs, hne, q⟩ := h
  obtain ⟨its, rv, hl, _⟩ := I.list hs
  rw [Vals.ref1 r]
  exact min_raw (I.ok.hd hc) hl.isList rv.ints hne fun h' tk m t' hk h1 h2 => ⟨.int _, H, I.kept hk, ⟨_, rfl⟩, q m h1 h2⟩
/-! sorted, sort (fewer than 64 items: the library's own bound) -/
end
/-! ### list.index, flat items -/
section
variable {X : Cx}
end
/-! ### type(x) of an own instance; is, is not of a module's class -/
section
variable {X : Cx}
end
/-! ### any(xs), all(xs) of a list of bools -/
theorem iter_any {prog : Program} {w : World} {A : Around} {E : Value → Shared → Prop} {s : Shared} {l : Addr} {items : Array Value} {Q : Value → Shared → Prop} (hl : s.heap.IsList l items)
    (h : ∀ s₂ : Shared, s₂ = { s with heap := s.heap.push { cls := .type "list_iterator", data := .fields #[.ref l, .int 0 0] } } →
      (s₂.heap.IsListIter s.heap.objs.size l 0 ∧ s₂.heap.IsList l items) → l ≠ s.heap.objs.size → Q (.ref s.heap.objs.size) s₂) : wpAny (model prog w) A (pyIter (.ref l)) Q E s := by
  have hlt : l < s.heap.objs.size := by obtain ⟨_, e, _⟩ := hl; exact Heap.lt_size e
  exact wpAny_pyIter_list hl (h _ rfl ⟨⟨_, Heap.get?_push_size _ rfl, rfl, rfl⟩, hl.push _⟩ (Nat.ne_of_lt hlt))
theorem truth_bools {prog : Program} {w : World} {A : Around} {bs : List Bool} {its : List Value} (e : its = bs.map Value.bool) :
    TruthOf prog w A (fun i v => its.toArray[i]? = some v) (fun i => bs.getD i false) := fun i v s Q E hv hq => by
  have hv' : its[i]? = some v := by simpa using hv
  rw [e, List.getElem?_map] at hv'
  obtain ⟨b, hb, rfl⟩ := Option.map_eq_some_iff.mp hv'
  have hg : bs.getD i false = b := by rw [List.getD_eq_getElem?_getD, hb] <;> rfl
  have hq' : Q (bs.getD i false) s := hq
  rw [hg] at hq'
  exact wpAny_truthy_bool hq'
theorem all_range : ∀ bs : List Bool, (List.range bs.length).all (fun i => bs.getD i false) = bs.all id
  | [] => rfl
  | b :: bs => by
    rw [List.length_cons, List.range_succ_eq_map, List.all_cons, List.all_map, List.all_cons, ← all_range bs]
    all_goals rfl
section
variable {X : Cx}
def rAll (K : PySem.W.Frag) : List V → Hp → VK → Prop := fun vs H Q => ∃ (a : Addr) (bs : List Bool), vs = [V.ref a] ∧ SqL K H a (bs.map V.bl) ∧ Q (.bl (bs.all id)) H
theorem cr_all (hc : X.calm = true) : CallR X (.builtin "all") (rAll X.K) := by
  intro pins s σ H vs us Q I r h
  obtain ⟨a, bs, rfl, hs, q⟩ := h
  obtain ⟨its, rv, hl, _⟩ := I.list hs
  rw [Vals.ref1 r]
  have hb := rv.bls
  refine call_all_walk (iter_any hl.isList fun s₂ e2 st hne => ?_)
  subst e2
  refine ⟨_, _, _, _, _, _, _, rfl, Walks.list (A := X.A.in1) (I.ok.hd hc) _ a hne its.toArray, st, truth_bools hb, fun h' tk hk => ?_⟩
  refine ⟨.bl _, H, I.kept fun b o eo => hk b o (fun hmem => ?_) (Heap.get?_push_of_some _ eo), ?_, q⟩
  · rcases List.mem_cons.mp hmem with e1 | hmem
    · exact absurd (e1 ▸ Heap.lt_size eo) (Nat.lt_irrefl _)
    · cases hmem
  · show Value.bool _ = Value.bool _
    rw [← all_range, hb, List.size_toArray, List.length_map]
end
/-! ### == and != of data at any depth: none, bools, ints, texts, lists, tuples -/
mutual
inductive Dp (K : PySem.W.Frag) (H : Hp) : V → PyData → Prop
  | non : Dp K H .non .none
  | bl (b : Bool) : Dp K H (.bl b) (.bool b)
  | int (i : Int) : Dp K H (.int i) (.int i)
  | str (x : Str) : Dp K H (.str x) (.str x)
  | lst {a : Addr} {xs : List V} {ds : List PyData} : SqL K H a xs → DpAll K H xs ds → Dp K H (.ref a) (.list ds)
  | tup {a : Addr} {xs : List V} {ds : List PyData} : SqT K H a xs → DpAll K H xs ds → Dp K H (.ref a) (.tuple ds)
inductive DpAll (K : PySem.W.Frag) (H : Hp) : List V → List PyData → Prop
  | nil : DpAll K H [] []
  | cons {v : V} {vs : List V} {d : PyData} {ds : List PyData} : Dp K H v d → DpAll K H vs ds → DpAll K H (v :: vs) (d :: ds)
end
section
variable {X : Cx} {pins : List (Addr × Obj)} {σ : St} {H : Hp} {s : Shared}
mutual
theorem Dp.reads (I : Inv X pins σ H s) : ∀ (d : PyData) (v : V) (u : Value), Dp X.K H v d → RelV v u → ∃ as, Reads s.heap u d as
  | .none, _, _, h, r => by
    cases h
    cases r
    exact ⟨_, Reads.none⟩
  | .bool b, _, _, h, r => by
    cases h
    cases r
    exact ⟨_, Reads.bool b⟩
  | .int i, _, _, h, r => by
    cases h
    obtain ⟨t, rfl⟩ := r
    exact ⟨_, Reads.int i t⟩
  | .str x, _, _, h, r => by
    cases h
    obtain ⟨t, rfl⟩ := r
    exact ⟨_, Reads.str x t⟩
  | .list ds, _, _, h, r => by
    cases h with
    | lst hs ha =>
      cases r
      obtain ⟨its, rv, ⟨o, n, ho, hc, _, hd⟩, _⟩ := I.list hs
      obtain ⟨as, hr⟩ := Dp.readsAll I ds _ its ha rv
      exact ⟨_, Reads.list ho hc hd hr⟩
  | .tuple ds, _, _, h, r => by
    cases h with
    | tup hs ha =>
      cases r
      obtain ⟨its, rv, ⟨o, ho, hc, n, hd⟩, _⟩ := I.tuple hs
      obtain ⟨as, hr⟩ := Dp.readsAll I ds _ its ha rv
      exact ⟨_, Reads.tuple ho hc hd hr⟩
  | .dict _, _, _, h, _ => by cases h
theorem Dp.readsAll (I : Inv X pins σ H s) : ∀ (ds : List PyData) (vs : List V) (us : List Value), DpAll X.K H vs ds → Vals vs us → ∃ as, ReadsAll s.heap us ds as
  | [], _, _, h, r => by
    cases h
    cases r
    exact ⟨_, ReadsAll.nil⟩
  | d :: ds, _, _, h, r => by
    cases h with
    | cons h1 h2 =>
      cases r with
      | cons r1 r2 =>
        obtain ⟨as, q1⟩ := Dp.reads I d _ _ h1 r1
        obtain ⟨bs, q2⟩ := Dp.readsAll I ds _ _ h2 r2
        exact ⟨_, ReadsAll.cons q1 q2⟩
end
end
section
variable {X : Cx}
def rEqD (K : PySem.W.Frag) : R2 := fun x y H Q => ∃ d e, Dp K H x d ∧ Dp K H y e ∧ SeqAt.shaped d = true ∧ SeqAt.shaped e = true ∧ Q (.bl (PyData.eqv d e)) H
def rNeD (K : PySem.W.Frag) : R2 := fun x y H Q => ∃ d e, Dp K H x d ∧ Dp K H y e ∧ SeqAt.shaped d = true ∧ SeqAt.shaped e = true ∧ Q (.bl (!PyData.eqv d e)) H
theorem op_eqD (hu : X.A.units + 64 < cLine) : OpR X (compareOp .Eq) (rEqD X.K) := by
  intro pins s σ H x y v u Q I rx ry h
  obtain ⟨d, e, hd, he, sd, se, q⟩ := h
  obtain ⟨as, r1⟩ := Dp.reads I d x v hd rx
  obtain ⟨bs, r2⟩ := Dp.reads I e y u he ry
  exact SeqAt.compareEq_shaped r1 r2 sd se hu ⟨.bl _, H, I, rfl, q⟩
theorem op_neD (hu : X.A.units + 64 < cLine) : OpR X (compareOp .NotEq) (rNeD X.K) := by
  intro pins s σ H x y v u Q I rx ry h
  obtain ⟨d, e, hd, he, sd, se, q⟩ := h
  obtain ⟨as, r1⟩ := Dp.reads I d x v hd rx
  obtain ⟨bs, r2⟩ := Dp.reads I e y u he ry
  exact SeqAt.compareNe_shaped r1 r2 sd se hu ⟨.bl _, H, I, rfl, q⟩
end
end L2
namespace L2
open PySem PySem.Spec PyProof.Rows
abbrev CellAt (h : Heap) (c : Addr) (v : Option Value) : Prop := h.IsCell c v
def relS (scope sc : Scope) : Scope :=
  { scope with names := scope.names.map fun (n, k) => if (k == .free && sc.kind == .function && sc.names.lookup n == some .cell) then (n, .cell) else (n, k) }
def cloFrom (cells : List (Str × Addr)) : List (Str × NameKind) → List (Str × Addr) → List (Str × Addr)
  | [], acc => acc
  | (n, k) :: r, acc => if k == .free then cloFrom cells r ((n, (cells.lookup n).getD 0) :: acc) else cloFrom cells r acc
theorem closure_loop (env : Env) (f : Str × NameKind → List (Str × Addr) → Sem (ForInStep (List (Str × Addr))))
    (hf : ∀ n k c, f (n, k) c = if k == .free then (do let a ← cellOf env n; pure (.yield ((n, a) :: c))) else pure (.yield c)) :
    ∀ (names : List (Str × NameKind)) (acc : List (Str × Addr)), (∀ y ∈ names, y.2 = .free → ∃ c, env.cells.lookup y.1 = some c) → forIn names acc f = pure (cloFrom env.cells names acc)
  | [], acc, _ => by rw [List.forIn_nil]; rfl
  | (n, k) :: r, acc, h => by
    rw [List.forIn_cons, hf]
    have ih := fun acc => closure_loop env f hf r acc fun y hy => h y (List.mem_cons_of_mem _ hy)
    unfold cloFrom
    by_cases hk : (k == NameKind.free) = true
    · rw [if_pos hk, if_pos hk]
      obtain ⟨c, hc⟩ := h (n, k) List.mem_cons_self (by simpa using hk)
      have e : cellOf env n = pure c := by unfold cellOf; rw [hc]
      rw [e]
      have e2 : (env.cells.lookup n).getD 0 = c := by rw [hc]; rfl
      rw [e2]
      exact ih _
    · rw [if_neg hk, if_neg hk]
      exact ih _
theorem closure_ok {scope : Scope} {env : Env} (h : ∀ y ∈ scope.names, y.2 = .free → ∃ c, env.cells.lookup y.1 = some c) : closureFor scope env = pure (cloFrom env.cells scope.names []) := by
  simp only [closureFor]
  rw [closure_loop env _ (fun n k c => rfl) scope.names [] h]
  rfl
theorem mem_lookup {α : Type} : ∀ {l : List (Str × α)} {n : Str} {c : α}, (n, c) ∈ l → ∃ c', l.lookup n = some c'
  | (k, v) :: r, n, c, h => by
    rw [List.lookup_cons]
    cases hb : n == k with
    | true => exact ⟨_, rfl⟩
    | false =>
      rcases List.mem_cons.mp h with e | h
      · cases e; simp at hb
      · exact mem_lookup h
theorem cloFrom_mem {cells : List (Str × Addr)} : ∀ {names : List (Str × NameKind)} {acc : List (Str × Addr)} {n : Str} {c : Addr}, (n, c) ∈ cloFrom cells names acc → (n, c) ∈ acc ∨ ((n, .free) ∈ names ∧ c = (cells.lookup n).getD 0)
  | [], _, _, _, h => .inl h
  | (m, k) :: r, acc, n, c, h => by
    unfold cloFrom at h
    split at h
    · rename_i hk
      have hk : k = .free := by simpa using hk
      rcases cloFrom_mem h with h | ⟨h1, h2⟩
      · rcases List.mem_cons.mp h with e | h
        · cases e; exact .inr ⟨hk ▸ List.mem_cons_self, rfl⟩
        · exact .inl h
      · exact .inr ⟨List.mem_cons_of_mem _ h1, h2⟩
    · rcases cloFrom_mem h with h | ⟨h1, h2⟩
      · exact .inl h
      · exact .inr ⟨List.mem_cons_of_mem _ h1, h2⟩
theorem cloFrom_acc {cells : List (Str × Addr)} : ∀ {names : List (Str × NameKind)} {acc : List (Str × Addr)} {p : Str × Addr}, p ∈ acc → p ∈ cloFrom cells names acc
  | [], _, _, h => h
  | (m, k) :: r, acc, p, h => by
    unfold cloFrom
    split
    · exact cloFrom_acc (List.mem_cons_of_mem _ h)
    · exact cloFrom_acc h
theorem cloFrom_has {cells : List (Str × Addr)} : ∀ {names : List (Str × NameKind)} {acc : List (Str × Addr)} {n : Str}, (n, .free) ∈ names → (n, (cells.lookup n).getD 0) ∈ cloFrom cells names acc
  | (m, k) :: r, acc, n, h => by
    unfold cloFrom
    rcases List.mem_cons.mp h with e | h
    · cases e
      exact cloFrom_acc List.mem_cons_self
    · split
      · exact cloFrom_has h
      · exact cloFrom_has h
theorem cells_mem : ∀ {names : List (Str × NameKind)} {h : Heap} {acc : List (Str × Addr)} {x : Str} {c : Addr}, (x, c) ∈ cellsFrom h.objs.size names acc →
    (x, c) ∈ acc ∨ ((x, .cell) ∈ names ∧ h.objs.size ≤ c ∧ CellAt (pushCells h names) c none)
  | [], _, _, _, _, h => .inl h
  | (n, k) :: r, h, acc, x, c, hm => by
    unfold cellsFrom at hm
    unfold pushCells
    split at hm
    · rename_i hk
      rw [if_pos hk]
      have hk : k = .cell := by simpa using hk
      rw [← Heap.size_push h { cls := .type "cell", data := .cell none }] at hm
      rcases cells_mem hm with hm | ⟨h1, h2, h3⟩
      · rcases List.mem_cons.mp hm with e | hm
        · cases e
          exact .inr ⟨hk ▸ List.mem_cons_self, Nat.le_refl _, _, pushCells_keeps r _ _ _ (Heap.get?_push_size _ rfl), rfl⟩
        · exact .inl hm
      · rw [Heap.size_push] at h2
        exact .inr ⟨List.mem_cons_of_mem _ h1, Nat.le_of_succ_le h2, h3⟩
    · rename_i hk
      rw [if_neg hk]
      rcases cells_mem hm with hm | ⟨h1, h2, h3⟩
      · exact .inl hm
      · exact .inr ⟨List.mem_cons_of_mem _ h1, h2, h3⟩
theorem cells_acc : ∀ {names : List (Str × NameKind)} {n : Nat} {acc : List (Str × Addr)} {p : Str × Addr}, p ∈ acc → p ∈ cellsFrom n names acc
  | [], _, _, _, h => h
  | (m, k) :: r, n, acc, p, h => by
    unfold cellsFrom
    split
    · exact cells_acc (List.mem_cons_of_mem _ h)
    · exact cells_acc h
theorem cells_has : ∀ {names : List (Str × NameKind)} {n : Nat} {acc : List (Str × Addr)} {x : Str}, (x, .cell) ∈ names → ∃ c, (x, c) ∈ cellsFrom n names acc
  | (m, k) :: r, n, acc, x, h => by
    unfold cellsFrom
    rcases List.mem_cons.mp h with e | h
    · cases e
      exact ⟨n, cells_acc List.mem_cons_self⟩
    · split
      · exact cells_has h
      · exact cells_has h
theorem cells_inj : ∀ {names : List (Str × NameKind)} {h : Heap} {acc : List (Str × Addr)} {x y : Str} {c : Addr}, (∀ p ∈ acc, p.2 < h.objs.size) → (∀ x y c, (x, c) ∈ acc → (y, c) ∈ acc → x = y) →
    (x, c) ∈ cellsFrom h.objs.size names acc → (y, c) ∈ cellsFrom h.objs.size names acc → x = y
  | [], _, _, _, _, _, _, hi, h1, h2 => hi _ _ _ h1 h2
  | (n, k) :: r, h, acc, x, y, c, hl, hi, h1, h2 => by
    unfold cellsFrom at h1 h2
    split at h1
    · rename_i hk
      rw [if_pos hk] at h2
      rw [← Heap.size_push h { cls := .type "cell", data := .cell none }] at h1 h2
      refine cells_inj (h := h.push _) (fun p hp => ?_) (fun x y c a b => ?_) h1 h2
      · rw [Heap.size_push]
        rcases List.mem_cons.mp hp with rfl | hp
        · exact Nat.lt_succ_self _
        · exact Nat.lt_succ_of_lt (hl p hp)
      · rcases List.mem_cons.mp a with e | a <;> rcases List.mem_cons.mp b with e' | b
        · cases e; cases e'; rfl
        · cases e; exact absurd (hl _ b) (Nat.lt_irrefl _)
        · cases e'; exact absurd (hl _ a) (Nat.lt_irrefl _)
        · exact hi _ _ _ a b
    · rename_i hk
      rw [if_neg hk] at h2
      exact cells_inj hl hi h1 h2
theorem newEnv_comp {M : Model} {A : Around} {E : Value → Shared → Prop} {s : Shared} {scope : Scope} {globals : Addr} {closure : List (Str × Addr)} {qual : Str} {func : Option Addr} {code : Value} {around : Env} {builtins : Addr} {Q : Env → Shared → Prop}
    (h : Q (newEnv scope s.heap.objs.size globals (cellsFrom (s.heap.objs.size + 1) scope.names closure) qual func code (some around) builtins)
      { s with heap := pushCells (s.heap.push { cls := .type "dict", data := .dict #[] }) scope.names }) :
    wpAny M A (newFunctionEnv scope globals closure [] qual func code (some around) builtins) Q E s := by
  simp only [newFunctionEnv, Option.isSome_some, if_true]
  refine wpAny_bind (wpAny_alloc ?_)
  refine wpAny_bind (wpAny_layCells _ (fun n k c => rfl) scope.names closure _ _ ?_)
  rw [show ({ s with heap := s.heap.push { cls := .type "dict", data := .dict #[] } } : Shared).heap.objs.size = s.heap.objs.size + 1 from Heap.size_push ..]
  rw [List.forIn_nil]
  exact wpAny_bind (wpAny_pure (wpAny_pure h))
/-- every name of the written scope, in the scope that runs -/
theorem lookup_relS {sc : Scope} : ∀ {names : List (Str × NameKind)} {x : Str} {k : NameKind},
    (names.map fun (n, k) => if (k == NameKind.free && sc.kind == .function && sc.names.lookup n == some .cell) then (n, NameKind.cell) else (n, k)).lookup x = some k →
    ∃ k', names.lookup x = some k' ∧ (k = k' ∨ (k' = .free ∧ k = .cell))
  | [], _, _, h => by simp at h
  | (n, k₀) :: r, x, k, h => by
    have ih := @lookup_relS sc r x k
    have h' : List.lookup x ((if (k₀ == NameKind.free && sc.kind == .function && sc.names.lookup n == some .cell) = true then (n, NameKind.cell) else (n, k₀)) :: (r.map _)) = some k := h
    cases hx : x == n with
    | true =>
      simp only [List.lookup_cons, hx]
      by_cases hc : (k₀ == NameKind.free && sc.kind == .function && sc.names.lookup n == some .cell) = true
      · rw [if_pos hc] at h'
        simp only [List.lookup_cons, hx] at h'
        cases h'
        simp only [Bool.and_eq_true, beq_iff_eq] at hc
        exact ⟨k₀, rfl, .inr ⟨hc.1.1, rfl⟩⟩
      · rw [if_neg hc] at h'
        simp only [List.lookup_cons, hx] at h'
        cases h'
        exact ⟨_, rfl, .inl rfl⟩
    | false =>
      simp only [List.lookup_cons, hx]
      by_cases hc : (k₀ == NameKind.free && sc.kind == .function && sc.names.lookup n == some .cell) = true
      · rw [if_pos hc] at h'
        simp only [List.lookup_cons, hx] at h'
        exact ih h'
      · rw [if_neg hc] at h'
        simp only [List.lookup_cons, hx] at h'
        exact ih h'
/-- the names of a comprehension's block: its own (with their places in N), or captured -/
structure BlkOk (N : List Str) (sc scope : Scope) (own : List (Str × Nat)) : Prop where
  kind : scope.kind = .function
  uniq : ∀ y ∈ scope.names, scope.names.lookup y.1 = some y.2
  ix : ∀ p ∈ own, N[p.2]? = some p.1
  free : ∀ y ∈ scope.names, y.2 = .free → sc.names.lookup y.1 = some .cell ∨ sc.names.lookup y.1 = some .free
  own : ∀ y ∈ scope.names, y.2 = .local ∨ y.2 = .cell → y.1 ∈ own.map (·.1) ∨ y.1 ∉ N
/-- the slots of the block's own names forgotten -/
def wipe (σ : St) : List Nat → St
  | [] => σ
  | v :: vs => (wipe σ vs).set v none
theorem wipe_length (σ : St) : ∀ vs : List Nat, (wipe σ vs).length = σ.length
  | [] => rfl
  | v :: vs => by unfold wipe; rw [List.length_set, wipe_length σ vs]
theorem wipe_some {σ : St} {i : Nat} {x : V} : ∀ {vs : List Nat}, (wipe σ vs)[i]? = some (some x) → σ[i]? = some (some x) ∧ i ∉ vs
  | [], h => ⟨h, by simp⟩
  | v :: vs, h => by
    unfold wipe at h
    by_cases hi : v = i
    · subst hi
      by_cases hv : v < (wipe σ vs).length
      · rw [List.getElem?_set_self hv] at h; cases h
      · rw [List.getElem?_eq_none (by simpa using hv)] at h; cases h
    · rw [List.getElem?_set_ne hi] at h
      obtain ⟨h1, h2⟩ := wipe_some h
      exact ⟨h1, by simp only [List.mem_cons, not_or]; exact ⟨fun e => hi e.symm, h2⟩⟩
/-- the context of a block that starts at s, its iterator's objects at fp -/
abbrev Cx.blk (X : Cx) (s : Shared) (H : Hp) (scope : Scope) (cenv : Env) (fp : List Addr) : Cx := { X with s_0 := s, H_0 := H, env := cenv, outer := X.stack, ex := fp, fn := fun x => scope.names.lookup x == some .cell, pn := [], xe := fun _ _ => False }
section
variable {X : Cx} {pins : List (Addr × Obj)} {σ : St} {H : Hp} {s : Shared}
theorem block_start {scope : Scope} {own : List (Str × Nat)} {fp : List Addr} (I : Inv X pins σ H s) (ok : BlkOk X.N X.env.scope scope own) (hN : X.N.Nodup) (hfp : ∀ b ∈ fp, FpOk X pins H b ∧ b < s.heap.objs.size) :
    Inv (X.blk s H scope (compEnvC scope (cellsFrom (s.heap.objs.size + 1) scope.names (cloFrom X.env.cells scope.names [])) s.heap.objs.size X.env) fp) [] (wipe σ (own.map (·.2))) H { s with heap := pushCells (s.heap.push { cls := .type "dict", data := .dict #[] }) scope.names } := by
  have hfree : ∀ y ∈ scope.names, y.2 = .free → ∃ c, X.env.cells.lookup y.1 = some c := fun y hy e => by
    rcases ok.free y hy e with k | k
    · exact I.ok.has _ (.inl k)
    · exact I.ok.has _ (.inr k)
  generalize hcenv : compEnvC scope (cellsFrom (s.heap.objs.size + 1) scope.names (cloFrom X.env.cells scope.names [])) s.heap.objs.size X.env = cenv
  have kp : ∀ b o, s.heap.get? b = some o → (pushCells (s.heap.push { cls := .type "dict", data := .dict #[] }) scope.names).get? b = some o := fun b o e => pushCells_keeps _ _ _ _ (Heap.get?_push_of_some _ e)
  have hL : cenv.locals = s.heap.objs.size := by rw [← hcenv]; rfl
  have hcl : cenv.cells = cellsFrom (s.heap.objs.size + 1) scope.names (cloFrom X.env.cells scope.names []) := by rw [← hcenv]; rfl
  have hsc : cenv.scope = relS scope X.env.scope := by rw [← hcenv]; rfl
  rw [← Heap.size_push s.heap { cls := .type "dict", data := .dict #[] }] at hcl
  have cm : ∀ {y c}, (y, c) ∈ cloFrom X.env.cells scope.names [] → X.env.cells.lookup y = some c ∧ c < s.heap.objs.size := fun {y c} hm => by
    rcases cloFrom_mem hm with hm | ⟨h1, rfl⟩
    · cases hm
    · obtain ⟨c, hc⟩ := hfree _ h1 rfl
      rw [hc]
      obtain ⟨w, z⟩ := I.cell _ _ hc
      exact ⟨rfl, z.lt⟩
  have mem : ∀ {y c}, cenv.cells.lookup y = some c → (X.env.cells.lookup y = some c ∧ c < s.heap.objs.size) ∨ (s.heap.objs.size + 1 ≤ c ∧ CellAt (pushCells (s.heap.push { cls := .type "dict", data := .dict #[] }) scope.names) c none) := fun {y c} e => by
    rw [hcl] at e
    rcases cells_mem (PySem.mem_of_lookup e) with hm | ⟨_, h2, h3⟩
    · exact .inl (cm hm)
    · rw [Heap.size_push] at h2; exact .inr ⟨h2, h3⟩
  have look : ∀ {y}, scope.names.lookup y = some .free → ∃ c, cenv.cells.lookup y = some c ∧ X.env.cells.lookup y = some c := fun {y} hl => by
    have hy : (y, NameKind.free) ∈ scope.names := PySem.mem_of_lookup hl
    obtain ⟨c', e'⟩ := mem_lookup (cells_acc (names := scope.names) (n := (s.heap.push { cls := .type "dict", data := .dict #[] }).objs.size) (cloFrom_has (cells := X.env.cells) (acc := []) hy))
    rw [← hcl] at e'
    refine ⟨c', e', ?_⟩
    rw [hcl] at e'
    rcases cells_mem (PySem.mem_of_lookup e') with hm | ⟨h1, _, _⟩
    · exact (cm hm).1
    · have := ok.uniq _ h1
      rw [hl] at this; cases this
  have okB : (X.blk s H scope cenv fp).Ok := by
    refine ⟨I.ok.mod, by show cenv.scope.kind = _; rw [hsc]; exact ok.kind, by show cenv.globals = _; rw [← hcenv]; exact I.ok.glob, by show cenv.builtins = _; rw [← hcenv]; exact I.ok.blt, by show s.heap.objs.size ≤ cenv.locals; rw [hL]; exact Nat.le_refl _,
      fun y z c e1 e2 => ?_, fun y hy => ?_, fun y c z e => ?_, I.ok.hd, I.ok.frames, .inl rfl, fun b hb => ⟨?_, fun y c e z => ?_⟩, I.bs, Nat.le_trans I.ok.bsz I.sz, fun b o e hb => ?_, fun b hb z => ?_, I.stack, I.stkFree⟩
    · have e1 : cenv.cells.lookup y = some c := e1
      have e2 : cenv.cells.lookup z = some c := e2
      rw [hcl] at e1 e2
      refine cells_inj (fun p hp => ?_) (fun y z c a b => I.ok.inj y z c (cm a).1 (cm b).1) (PySem.mem_of_lookup e1) (PySem.mem_of_lookup e2)
      rw [Heap.size_push]
      exact Nat.lt_succ_of_lt (cm (y := p.1) (c := p.2) hp).2
    · show ∃ c, cenv.cells.lookup y = some c
      have key : ∀ k, cenv.kindOf y = some k → (k = .cell ∨ k = .free) → ∃ c, cenv.cells.lookup y = some c := fun k hk hk' => by
        unfold Env.kindOf at hk
        rw [hsc] at hk
        obtain ⟨k', e, r⟩ := lookup_relS hk
        have : k' = .cell ∨ k' = .free := by
          rcases r with rfl | ⟨rfl, _⟩
          · exact hk'
          · exact .inr rfl
        rcases this with rfl | rfl
        · obtain ⟨c, hm⟩ := cells_has (n := (s.heap.push { cls := .type "dict", data := .dict #[] }).objs.size) (acc := cloFrom X.env.cells scope.names []) (PySem.mem_of_lookup e)
          obtain ⟨c', e'⟩ := mem_lookup hm
          exact ⟨c', by rw [hcl]; exact e'⟩
        · obtain ⟨c, h1, _⟩ := look e
          exact ⟨c, h1⟩
      rcases hy with hy | hy
      · exact key _ hy (.inl rfl)
      · exact key _ hy (.inr rfl)
    · have z : (scope.names.lookup y == some NameKind.cell) = true := z
      have z : scope.names.lookup y = some .cell := by simpa using z
      have e : cenv.cells.lookup y = some c := e
      rw [hcl] at e
      rcases cells_mem (PySem.mem_of_lookup e) with hm | ⟨_, h2, _⟩
      · rcases cloFrom_mem hm with hm | ⟨h1, _⟩
        · cases hm
        · have q := ok.uniq _ h1
          rw [z] at q; cases q
      · rw [Heap.size_push] at h2
        exact Nat.le_of_succ_le h2
    · show b ≠ cenv.locals
      rw [hL]; exact Nat.ne_of_lt (hfp b hb).2
    · have e : cenv.cells.lookup y = some c := e
      rcases mem e with ⟨h1, _⟩ | ⟨h1, _⟩
      · exact (hfp b hb).1.2.2.2.2.1 y c h1 z
      · have h2 : s.heap.objs.size + 1 ≤ b := by rw [← z]; exact h1
        exact absurd (Nat.lt_of_lt_of_le (hfp b hb).2 (Nat.le_of_succ_le h2)) (Nat.lt_irrefl _)
    · rcases (hfp b hb).1.2.2.2.1 with z | z
      · exact I.ok.noex b o e z
      · exact absurd (Nat.lt_of_lt_of_le (Heap.lt_size e) (Nat.le_trans I.ok.bsz z)) (Nat.lt_irrefl _)
    · rcases List.mem_cons.mp (I.stkSub b z) with z | z
      · exact (hfp b hb).1.2.1 z
      · exact (hfp b hb).1.2.2.1 z
  refine ⟨okB, rfl, I.bare, Un.kept kp, ⟨fun _ => none, ?_, fun i y av e1 e2 e3 => ?_⟩, fun y c e => ?_, ?_, fun y c e => ?_, fun p hp => ?_, I.hok.kept kp, by rw [wipe_length]; exact I.len⟩
  · show Heap.Ns _ cenv.locals _
    rw [hL]
    exact Heap.Ns.keeps (Heap.Ns.new ..) fun b o e => pushCells_keeps _ _ _ _ e
  · obtain ⟨e2, hne⟩ := wipe_some e2
    have hfr : scope.names.lookup y = some .free ∧ (cenv.kindOf y = some .cell ∨ cenv.kindOf y = some .free) := by
      have key : ∀ k, cenv.scope.names.lookup y = some k → k = .local ∨ k = .cell ∨ k = .free → scope.names.lookup y = some .free ∧ (cenv.kindOf y = some .cell ∨ cenv.kindOf y = some .free) := fun k hk hk' => by
        have hk0 := hk
        rw [hsc] at hk
        obtain ⟨k', e, r⟩ := lookup_relS hk
        have no : ¬ (k' = .local ∨ k' = .cell) := fun hh => by
          rcases ok.own _ (PySem.mem_of_lookup e) hh with e' | e'
          · obtain ⟨p, hp, hpy⟩ := List.mem_map.mp e'
            have e3 := ok.ix p hp
            have : p.1 = y := hpy
            rw [this] at e3
            exact hne (List.mem_map.mpr ⟨p, hp, nodup_ix hN e3 e1⟩)
          · exact e' (List.mem_of_getElem? e1)
        rcases r with rfl | ⟨rfl, rfl⟩
        · rcases hk' with rfl | rfl | rfl
          · exact absurd (.inl rfl) no
          · exact absurd (.inr rfl) no
          · exact ⟨e, .inr hk0⟩
        · exact ⟨e, .inl hk0⟩
      have e3 : Vis cenv.scope y := e3
      rcases e3 with e3 | e3 | e3
      · exact key _ e3 (.inl rfl)
      · exact key _ e3 (.inr (.inl rfl))
      · exact key _ e3 (.inr (.inr rfl))
    obtain ⟨m, hn, hl⟩ := I.loc
    have hvis : Vis X.env.scope y := (ok.free _ (PySem.mem_of_lookup hfr.1) rfl).elim (fun k => .inr (.inl k)) (fun k => .inr (.inr k))
    obtain ⟨w, r, q⟩ := hl i y av e1 e2 hvis
    refine ⟨w, r, .inr ⟨hfr.2, ?_⟩⟩
    obtain ⟨c, h1, h2⟩ := look hfr.1
    rcases q with ⟨k, _⟩ | ⟨_, c', e', z⟩
    · have k : X.env.scope.names.lookup y = some .local := k
      rcases ok.free _ (PySem.mem_of_lookup hfr.1) rfl with k' | k' <;> rw [show X.env.scope.names.lookup y = _ from k'] at k <;> cases k
    · rw [h2] at e'; cases e'
      exact ⟨c, h1, z.keeps kp⟩
  · have e : cenv.cells.lookup y = some c := e
    rcases mem e with ⟨h1, _⟩ | ⟨_, z⟩
    · obtain ⟨w, z⟩ := I.cell y c h1
      exact ⟨w, z.keeps kp⟩
    · exact ⟨_, z⟩
  · show H cenv.locals = none
    rw [hL]; exact I.hok.fresh (Nat.le_refl _)
  · have e : cenv.cells.lookup y = some c := e
    rcases mem e with ⟨h1, _⟩ | ⟨h1, _⟩
    · exact I.freeC y c h1
    · exact I.hok.fresh (Nat.le_of_succ_le h1)
  · exact absurd (show p ∈ ([] : List (Addr × Obj)) ++ [] from hp) (by simp)
/-- an item appended to a tracked list -/
theorem app_ok {E : Value → Shared → Prop} {D : Addr} {xs : List V} {y : V} {v : Value} {Q : Value → Shared → Prop} (I : Inv X pins σ H s) (hD : H D = some (.lst xs)) (hz : xs.length < sizeLine) (r : RelV y v)
    (h : ∀ s', Inv X pins σ (upd H D (.lst (xs ++ [y]))) s' → Q .none s') : wpAny (model X.prog X.w) X.A (call (.builtin "list.append") [.ref D, v]) Q E s := by
  obtain ⟨hz', its, n, ri, e⟩ := I.hok D _ hD
  have hl := ri.length
  refine append_at (hsz := by rw [List.size_toArray]; omega) e fun h' sb ho' => ?_
  refine h { s with heap := h' } (I.write (t' := s.toks) (by rw [hD]; trivial) (.inl rfl) (fun b u hb q => (sb.2 b hb).trans q) ⟨_, ho'⟩ ⟨by rw [List.length_append]; exact hz, its ++ [v], n + 1, ri.append (.cons r .nil), ?_⟩)
  rw [ho']
  simp
/-- a clause's tests -/
def PTs (X : Cx) (ifs : List Expr) (t : TT) : Prop :=
  ∀ (pins : List (Addr × Obj)) (s : Shared) (σ : St) (H : Hp) (Q : Bool → Hp → Prop), Inv X pins σ H s → t σ H Q →
    wpAny (model X.prog X.w) X.A (forIn ifs true fun c r => if r = true then do let ok ← isTrue c X.env (eval c X.env); pure (ForInStep.yield ok) else pure (ForInStep.yield r)) (TP X pins σ Q) X.xe s
def tYes : TT := fun _ H Q => Q true H
theorem pts_nil : PTs X [] tYes := fun _ _ _ H _ I h => wpAny_tests_nil ⟨H, I, h⟩
theorem pts_one {c : Expr} {t : TT} (h : PT X c t) : PTs X [c] t := fun pins s σ H Q I hw => wpAny_tests_one (h pins s σ H Q I hw)
end
theorem thnF {α : Type} {t : Sem α} {Q Q' : α → Shared → Prop} {M : Model} {A : Around} {E : Value → Shared → Prop} {s : Shared} (h : wpAny M A t Q (fun _ _ => False) s) (hQ : ∀ a s, Q a s → Q' a s) : wpAny M A t Q' E s := wpAny_mono h hQ fun _ _ z => False.elim z
/-- the loop of a list comprehension's block, the target of any form (codeAny_compLoop_tests asks a target that no tuple goes to; statement and proof follow it, PyProof/CompMap.lean:41-61, with the step letOwnedTupleGo kept) -/
theorem compLoop_any {prog : Program} {w : World} {A : Around} {R : Result → Shared → Prop} {s : Shared} {elt target iter : Expr} {ifs : List Expr} {scope : Scope} {pos : Pos} {it acc : Value} {env : Env} (I : Nat → Shared → Prop)
    (turn : ∀ n s, I n s → wpAny (model prog w) A (pyNext it) (fun r s₁ => match r with
      | none => R (.ok .next) s₁
      | some v => wpAny (model prog w) A (letOwnedTupleGo target it v) (fun _ s₁' => wpAny (model prog w) A (assign target env v) (fun _ s₂ =>
          wpAny (model prog w) A (forIn ifs true fun c r => if r = true then do let ok ← isTrue c env (eval c env); pure (ForInStep.yield ok) else pure (ForInStep.yield r)) (fun ok s₃ =>
            if ok = true then wpAny (model prog w) A (eval elt env) (fun x s₄ =>
              wpAny (model prog w) A (call (.builtin "list.append") [acc, x]) (fun _ s₅ => ∃ m, m < n ∧ I m s₅) (notedBy (model prog w) A env fun e s' => R (.error e) s') s₄) (notedBy (model prog w) A env fun e s' => R (.error e) s') s₃
            else ∃ m, m < n ∧ I m s₃) (notedBy (model prog w) A env fun e s' => R (.error e) s') s₂) (notedBy (model prog w) A env fun e s' => R (.error e) s') s₁') (notedBy (model prog w) A env fun e s' => R (.error e) s') s₁) (notedBy (model prog w) A env fun e s' => R (.error e) s') s)
    (n : Nat) (h : I n s) :
    codeAny (model prog w) A (.compLoop (.ListComp elt [⟨target, iter, ifs, 0⟩] scope pos) 0 it acc env) R s := by
  refine codeAny_loop rfl I (fun n s hI => ?_) n h
  show wpAny _ A ((compTurn (.ListComp elt [⟨target, iter, ifs, 0⟩] scope pos) 0 it acc env).onRaise (fun x => do noteFrame x env; theTreesLotGoes x)) _ _ s
  refine wpAny_noted ?_
  rw [compTurn_list]
  refine wpAny_bind (wpAny_standAt (wpAny_bind (wpAny_mono (turn n s hI) (fun r s₁ h₁ => ?_) fun _ _ h' => h')))
  cases r with
  | none => exact wpAny_pure h₁
  | some v =>
    refine wpAny_bind (wpAny_mono h₁ (fun _ s₁' h₁' => ?_) fun _ _ h' => h')
    refine wpAny_bind (wpAny_mono h₁' (fun _ s₂ h₂ => wpAny_bind (wpAny_mono h₂ (fun ok s₃ h₃ => ?_) fun _ _ h' => h')) fun _ _ h' => h')
    cases ok with
    | false => exact wpAny_pure ⟨rfl, h₃⟩
    | true =>
      exact wpAny_bind (wpAny_bind (wpAny_mono h₃ (fun x s₄ h₄ => wpAny_bind (wpAny_mono h₄ (fun _ s₅ h₅ => wpAny_pure (wpAny_pure ⟨rfl, h₅⟩)) fun _ _ h' => h')) fun _ _ h' => h'))
section
variable {X : Cx}
/-- [elt for target in iter if ..]: D the new list; W by the turn and a measure, Nx what a turn is to reach -/
def tLc (wi : TI) (g : TG) (tt : TT) (te : TE) (vs : List Nat) : TE := fun σ H Q => wi σ H fun J H1 => ∀ D, H1 D = none → ∃ W : Nat → Nat → Hp → Prop, (∃ m, W 0 m (upd H1 D (.lst []))) ∧ ∀ i m H, W i m H →
  (J.stop i H ∧ Q (.ref D) H) ∨ (J.go i H ∧ ∃ Nx : Hp → Prop, (∀ H', Nx H' → ∃ m', m' < m ∧ W (i + 1) m' H') ∧ ∀ x H', J.yld i H x H' → g x (wipe σ vs) H' fun σ2 H2 => wipe σ2 vs = wipe σ vs ∧ tt σ2 H2 fun b H3 =>
    if b = true then te σ2 H3 fun y H4 => ∃ acc, H4 D = some (.lst acc) ∧ acc.length < sizeLine ∧ Nx (upd H4 D (.lst (acc ++ [y]))) else Nx H3)
theorem lc_core {pins : List (Addr × Obj)} {s : Shared} {σ : St} {H : Hp} {Q : VK} {elt tg iter : Expr} {ifs : List Expr} {scope : Scope} {own : List (Str × Nat)} {pos pos' : Pos} {wi : TI} {g : TG} {tt : TT} {te : TE} {use : Option (Value → Sem Unit)} {Qf : Value → Shared → Prop}
    (hc : X.calm = true) (hN : X.N.Nodup) (I : Inv X pins σ H s) (hi : PI X tg iter wi) (ok : BlkOk X.N X.env.scope scope own)
    (hg : ∀ (s : Shared) (H : Hp) (C : Addr) (cl : List (Str × Addr)) (fp : List Addr), PG (X.blk s H scope (compEnvC scope cl C X.env) fp) tg g) (ht : ∀ (s : Shared) (H : Hp) (C : Addr) (cl : List (Str × Addr)) (fp : List Addr), PTs (X.blk s H scope (compEnvC scope cl C X.env) fp) ifs tt)
    (he : ∀ (s : Shared) (H : Hp) (C : Addr) (cl : List (Str × Addr)) (fp : List Addr), PE (X.blk s H scope (compEnvC scope cl C X.env) fp) elt te) (hs : ∀ x, foldedSetIterable iter X.env x = pure x)
    (h : tLc wi g tt te (own.map (·.2)) σ H Q)
    (hRR : ∀ D C s' m H', Inv X pins σ H' s' → Q (.ref D) H' → s'.heap.Ns C m → FpOk X pins H' C → compPost (model X.prog X.w) X.A X.xe use Qf (.ref D) C (.ok .next) s') :
    wpAny (model X.prog X.w) X.A (comprehension (.ListComp elt [⟨tg, iter, ifs, 0⟩] scope pos) scope X.env pos' (newList []) false (eval iter X.env) use) Qf X.xe s := by
  have hfree : ∀ y ∈ scope.names, y.2 = .free → ∃ c, X.env.cells.lookup y.1 = some c := fun y hy e => by
    rcases ok.free y hy e with k | k
    · exact I.ok.has _ (.inl k)
    · exact I.ok.has _ (.inr k)
  refine wpAny_comprehension_free (use := use) rfl hs (closure_ok hfree) ok.kind (fun y hy e => by rw [ok.uniq y hy, e])
    (thn (hi pins s σ H _ I h) fun xv s1 hx => thn hx fun itv s2 h2 => ?_)
  obtain ⟨it, fp, tn, J, H2, e, I2, T, st2, f2, q⟩ := h2
  subst e
  refine wpAny_newObj_type (newEnv_comp ?_) (by show 0 ≤ sizeLine; decide)
  generalize hD : s2.heap.objs.size = D
  have hDn : H2 D = none := I2.hok.fresh (Nat.le_of_eq hD)
  obtain ⟨W, ⟨m0, w0⟩, turn⟩ := q D hDn
  -- the new list
  generalize hs3 : ({ s2 with heap := s2.heap.push { cls := .type "list", data := .seq ([] : List Value).toArray } } : Shared) = s3
  have I3 : Inv X pins σ (upd H2 D (.lst [])) s3 := by
    rw [← hs3]
    refine I2.laid (t' := s2.toks) (fun b o e => Heap.get?_push_of_some _ e) (Nat.le_of_eq hD) ⟨Nat.zero_le _, [], 0, .nil, ?_⟩
    rw [← hD]
    exact Heap.get?_push_size _ rfl
  have h3 : s3.heap = s2.heap.push { cls := .type "list", data := .seq ([] : List Value).toArray } := by rw [← hs3]
  have sz : ∀ b ∈ fp, b < s2.heap.objs.size := fun b hb => by
    obtain ⟨o, e, _⟩ := T.obj _ _ st2 b hb
    exact Heap.lt_size e
  have f3 : ∀ b ∈ fp, FpOk X pins (upd H2 D (.lst [])) b ∧ b < s3.heap.objs.size := fun b hb => by
    have hlt := sz b hb
    refine ⟨⟨?_, (f2 b hb).2⟩, by rw [h3, Heap.size_push]; exact Nat.lt_succ_of_lt hlt⟩
    rw [upd_ne (by rw [← hD]; exact Nat.ne_of_lt hlt)]
    exact (f2 b hb).1
  have st3 : tn 0 s3.heap := T.keep _ _ _ st2 fun b _ o e => by rw [h3]; exact Heap.get?_push_of_some _ e
  have I4 := block_start I3 ok hN f3
  have pg := hg s3 (upd H2 D (.lst [])) s3.heap.objs.size (cellsFrom (s3.heap.objs.size + 1) scope.names (cloFrom X.env.cells scope.names [])) fp
  have pt := ht s3 (upd H2 D (.lst [])) s3.heap.objs.size (cellsFrom (s3.heap.objs.size + 1) scope.names (cloFrom X.env.cells scope.names [])) fp
  have pe := he s3 (upd H2 D (.lst [])) s3.heap.objs.size (cellsFrom (s3.heap.objs.size + 1) scope.names (cloFrom X.env.cells scope.names [])) fp
  show codeAny _ _ (.compStart (.ListComp elt [⟨tg, iter, ifs, 0⟩] scope pos) 0 (.ref it) (.ref D) (compEnvC scope (cellsFrom (s3.heap.objs.size + 1) scope.names (cloFrom X.env.cells scope.names [])) s3.heap.objs.size X.env)) (compPost (model X.prog X.w) X.A X.xe use Qf (.ref D) s3.heap.objs.size) { s3 with heap := pushCells (s3.heap.push { cls := .type "dict", data := .dict #[] }) scope.names }
  have nfp : ∀ b ∈ fp, (upd H2 D (.lst [])) b = none := fun b hb => (f3 b hb).1.1
  generalize hce : compEnvC scope (cellsFrom (s3.heap.objs.size + 1) scope.names (cloFrom X.env.cells scope.names [])) s3.heap.objs.size X.env = ce at I4 pg pt pe ⊢
  have cL : ce.locals = s3.heap.objs.size := by subst hce; rfl
  generalize hH3 : upd H2 D (.lst []) = H3 at I3 I4 pg pt pe w0 nfp f3
  generalize hs4 : ({ s3 with heap := pushCells (s3.heap.push { cls := .type "dict", data := .dict #[] }) scope.names } : Shared) = s4 at I4 ⊢
  have st4 : tn 0 s4.heap := T.keep _ _ _ st3 fun b _ o e => by rw [← hs4]; exact pushCells_keeps _ _ _ _ (Heap.get?_push_of_some _ e)
  have stat : ∀ {σ' : St} {H' : Hp} {s' : Shared}, Inv (X.blk s3 H3 scope ce fp) [] σ' H' s' → (∀ b ∈ fp, H' b = none) → ∀ b ∈ fp, FpOk (X.blk s3 H3 scope ce fp) [] H' b := fun {σ' H' s'} I' hn b hb =>
    ⟨hn b hb, (I'.ok.exf b hb).1, I'.ok.exfs b hb, .inl hb, fun x c e => (I'.ok.exf b hb).2 x c e, fun p hp => absurd (show p ∈ ([] : List (Addr × Obj)) ++ [] from hp) (by simp)⟩
  have loop : codeAny (model X.prog X.w) X.A (.compLoop (.ListComp elt [⟨tg, iter, ifs, 0⟩] scope pos) 0 (.ref it) (.ref D) ce) (compPost (model X.prog X.w) X.A X.xe use Qf (.ref D) s3.heap.objs.size) s4 := by
    refine compLoop_any (fun n s' => ∃ i H', Inv (X.blk s3 H3 scope ce fp) [] (wipe σ (own.map (·.2))) H' s' ∧ tn i s'.heap ∧ (∀ b ∈ fp, H' b = none) ∧ W i n H') ?_ m0 ⟨0, H3, I4, st4, nfp, w0⟩
    rintro n s5 ⟨i, H5, I5, st5, n5, w5⟩
    rcases turn i n H5 w5 with ⟨stop, qq⟩ | ⟨go, Nx, hNx, step⟩
    · have td := T.done (X.blk s3 H3 scope ce fp) rfl rfl rfl hc i [] s5 _ H5 (fun _ _ => False) I5 (stat I5 n5) st5 stop
      refine thnF td fun r s6 ⟨hr, I6⟩ => ?_
      subst hr
      -- back in the def's context
      have I7 : Inv X pins σ H5 s6 := I3.call' (ch := fp) I6.os I6.base I6.hok I6.bare fun b hb => ⟨(f3 b hb).1.2.2.2.1, (f3 b hb).1.2.1, (f3 b hb).1.2.2.2.2.1, (f3 b hb).1.2.2.2.2.2⟩
      have nC : H5 s3.heap.objs.size = none := by
        have z : H5 ce.locals = none := I6.free
        rw [cL] at z
        exact z
      obtain ⟨m, hn, _⟩ := I6.loc
      have hn : s6.heap.Ns ce.locals m := hn
      rw [cL] at hn
      exact hRR D s3.heap.objs.size s6 m H5 I7 qq hn (I3.fpOk (Nat.le_refl _) nC)
    · have ti := T.item (X.blk s3 H3 scope ce fp) rfl rfl rfl hc i [] s5 _ H5 (fun _ _ => False) I5 (stat I5 n5) st5 go
      refine thnF ti fun r s6 ⟨u, hr, h6⟩ => ?_
      subst hr
      refine thnF h6 fun _ s7 ⟨x, H7, I7, r7, y7, st7, n7⟩ => ?_
      have I7' := I7.pinned (stat I7 n7) (T.obj _ _ st7)
      refine thnF (pg _ s7 _ H7 x u _ I7' r7 (step x H7 y7)) fun _ s8 ⟨σ8, H8, I8, hw8, q8⟩ => ?_
      refine thnF (pt _ s8 σ8 H8 _ I8 q8) fun b s9 ⟨H9, I9, q9⟩ => ?_
      -- the turn's end
      have fin : ∀ {s' : Shared} {H' : Hp}, Inv (X.blk s3 H3 scope ce fp) ([] ++ pinsAt fp s7.heap) σ8 H' s' → Nx H' → ∃ m, m < n ∧ ∃ i H', Inv (X.blk s3 H3 scope ce fp) [] (wipe σ (own.map (·.2))) H' s' ∧ tn i s'.heap ∧ (∀ b ∈ fp, H' b = none) ∧ W i m H' := fun {s' H'} I' nx => by
        obtain ⟨m', hm, w'⟩ := hNx H' nx
        have pin' : ∀ b ∈ fp, ∀ o, s7.heap.get? b = some o → s'.heap.get? b = some o ∧ H' b = none := fun b hb o e =>
          let z := I'.pin (b, o) (List.mem_append_right _ (List.mem_append_right _ (mem_pinsAt hb e)))
          ⟨z.1, z.2.1⟩
        have hl : (wipe σ (own.map (·.2))).length = σ8.length := by rw [← hw8, wipe_length]
        refine ⟨m', hm, i + 1, H', (I'.unpinned (pins := [])).weak hl (fun j v e => ?_), T.keep _ _ _ st7 fun b hb o e => (pin' b hb o e).1, fun b hb => ?_, w'⟩
        · rw [← hw8] at e
          exact (wipe_some e).1
        · obtain ⟨o, e, _⟩ := T.obj _ _ st7 b hb
          exact (pin' b hb o e).2
      cases b with
      | false =>
        simp only [Bool.false_eq_true, if_false] at q9 ⊢
        exact fin I9 q9
      | true =>
        simp only [if_true] at q9 ⊢
        refine thnF (pe _ s9 σ8 H9 _ I9 q9) fun z s10 ⟨yv, H10, I10, r10, acc, hD10, hz10, nx⟩ => ?_
        exact app_ok (X := X.blk s3 H3 scope ce fp) I10 hD10 hz10 r10 fun s11 I11 => fin I11 nx
  exact codeAny_compStart_list loop (T.self X.A 0 _ _ _ st4 loop)
/-- as a value -/
theorem pe_lc {elt tg iter : Expr} {ifs : List Expr} {scope : Scope} {own : List (Str × Nat)} {pos : Pos} {wi : TI} {g : TG} {tt : TT} {te : TE} (hc : X.calm = true) (hN : X.N.Nodup) (hi : PI X tg iter wi) (ok : BlkOk X.N X.env.scope scope own)
    (hg : ∀ (s : Shared) (H : Hp) (C : Addr) (cl : List (Str × Addr)) (fp : List Addr), PG (X.blk s H scope (compEnvC scope cl C X.env) fp) tg g) (ht : ∀ (s : Shared) (H : Hp) (C : Addr) (cl : List (Str × Addr)) (fp : List Addr), PTs (X.blk s H scope (compEnvC scope cl C X.env) fp) ifs tt)
    (he : ∀ (s : Shared) (H : Hp) (C : Addr) (cl : List (Str × Addr)) (fp : List Addr), PE (X.blk s H scope (compEnvC scope cl C X.env) fp) elt te) (hs : ∀ x, foldedSetIterable iter X.env x = pure x := by intro _; rfl) :
    PE X (.ListComp elt [⟨tg, iter, ifs, 0⟩] scope pos) (tLc wi g tt te (own.map (·.2))) := by
  intro pins s σ H Q I h
  rw [eval_ListComp]
  refine lc_core hc hN I hi ok hg ht he hs h fun D C s' m H' I' q hn f => ⟨m, hn, fun h'' sb => ?_⟩
  obtain ⟨f0, f1, f2, f3, f4, f5⟩ := f
  exact ⟨.ref D, H', I'.turned (t' := s'.toks) (fun b o hb e => (sb.2 b hb).trans e) f0 f1 f3 f4 f5, rfl, q⟩
/-- name = [..] on one line, the name a local -/
theorem ps_setLc {i : Nat} {y : Str} {py : Pos} {elt tg iter : Expr} {ifs : List Expr} {scope : Scope} {own : List (Str × Nat)} {pos spos : Pos} {wi : TI} {g : TG} {tt : TT} {te : TE} (hc : X.calm = true) (hN : X.N.Nodup) (hy : X.N[i]? = some y) (hyl : X.env.scope.names.lookup y = some .local)
    (hsw : swapsWith (.ListComp elt [⟨tg, iter, ifs, 0⟩] scope pos) (some (.Name y py)) spos.line X.env = pure true) (hi : PI X tg iter wi) (ok : BlkOk X.N X.env.scope scope own)
    (hg : ∀ (s : Shared) (H : Hp) (C : Addr) (cl : List (Str × Addr)) (fp : List Addr), PG (X.blk s H scope (compEnvC scope cl C X.env) fp) tg g) (ht : ∀ (s : Shared) (H : Hp) (C : Addr) (cl : List (Str × Addr)) (fp : List Addr), PTs (X.blk s H scope (compEnvC scope cl C X.env) fp) ifs tt)
    (he : ∀ (s : Shared) (H : Hp) (C : Addr) (cl : List (Str × Addr)) (fp : List Addr), PE (X.blk s H scope (compEnvC scope cl C X.env) fp) elt te) (hs : ∀ x, foldedSetIterable iter X.env x = pure x := by intro _; rfl) :
    PS X (.Assign [.Name y py] (.ListComp elt [⟨tg, iter, ifs, 0⟩] scope pos) spos) (tAsg (tLc wi g tt te (own.map (·.2))) (gName i)) := by
  intro pins s σ H D I h
  rw [exec_Assign_Name_used _ _ _ _ hsw]
  refine wpAny_bind (wpAny_standAt (wpAny_bind ?_))
  show wpAny _ X.A (do let _ ← comprehension (.ListComp elt [⟨tg, iter, ifs, 0⟩] scope pos) scope X.env (firstIterPos [⟨tg, iter, ifs, 0⟩] pos) (newList []) false (eval iter X.env) (some (assign (.Name y py) X.env))) _ _ s
  have h : tLc wi g tt te (own.map (·.2)) σ H (fun x H1 => gName i x σ H1 D.nx) := h
  refine wpAny_bind (thn (lc_core (Qf := fun _ s' => SP X pins D .next s') hc hN I hi ok hg ht he hs h fun L C s' m H' I' q hn f => ?_) fun _ s' hq => wpAny_pure (wpAny_pure hq))
  show wpAny _ _ (assign (.Name y py) X.env (.ref L)) _ _ _
  refine wpAny_assign_Name (store_ok2 (v := V.ref L) I' hN hy (.inl hyl) rfl (fun s2 I2 ⟨a, sb, ha⟩ => ?_) (.inr hyl))
  obtain ⟨f0, f1, f2, f3, f4, f5⟩ := f
  have haC : C ≠ a := by
    rcases ha with z | z
    · rw [z]; exact f1
    · exact fun e => f4 y a z e.symm
  refine ⟨m, hn.sameBut sb haC, fun h3 sb3 => ?_⟩
  exact ⟨_, H', I2.turned (t' := s2.toks) (fun b o hb e => (sb3.2 b hb).trans e) f0 f1 f3 f4 f5, q⟩
theorem sw_true {elt : Expr} {gs : List Comprehension} {scope : Scope} {pos py : Pos} {y : Str} {l : Nat} {env : Env} (hk : env.scope.kind = .function) (hy : env.scope.names.lookup y = some .local) (hl : (py.line == pos.line) = true)
    (ha : (scope.names.any fun (n, k) => n == y && (k == .local || k == .cell)) = false) : swapsWith (.ListComp elt gs scope pos) (some (.Name y py)) l env = pure true := by
  have ky : env.kindOf y = some .local := hy
  have hb : env.blockKind = .function := by unfold Env.blockKind; rw [hk]; rfl
  unfold swapsWith
  simp only [hb, ky, ha, Expr.pos, hl]
  rfl
end
/-! ### the forms one uses -/
/-- over a list that the block leaves as it is -/
theorem lc_list {K : PySem.W.Frag} {a : Addr} {xs : List V} {g : TG} {tt : TT} {te : TE} {vs : List Nat} {σ : St} {H1 : Hp} {D : Addr} {Qd : Hp → Prop} (Pv : Nat → Hp → Prop) (h0 : Pv 0 (upd H1 D (.lst []))) (hl : ∀ i H, i ≤ xs.length → Pv i H → SqL K H a xs)
    (hs : ∀ i x H, xs[i]? = some x → Pv i H → g x (wipe σ vs) H fun σ2 H2 => wipe σ2 vs = wipe σ vs ∧ tt σ2 H2 fun b H3 =>
      if b = true then te σ2 H3 fun y H4 => ∃ acc, H4 D = some (.lst acc) ∧ acc.length < sizeLine ∧ Pv (i + 1) (upd H4 D (.lst (acc ++ [y]))) else Pv (i + 1) H3) (hd : ∀ H, Pv xs.length H → Qd H) :
    ∃ W : Nat → Nat → Hp → Prop, (∃ m, W 0 m (upd H1 D (.lst []))) ∧ ∀ i m H, W i m H →
      ((Itl K a).stop i H ∧ Qd H) ∨ ((Itl K a).go i H ∧ ∃ Nx : Hp → Prop, (∀ H', Nx H' → ∃ m', m' < m ∧ W (i + 1) m' H') ∧ ∀ x H', (Itl K a).yld i H x H' → g x (wipe σ vs) H' fun σ2 H2 => wipe σ2 vs = wipe σ vs ∧ tt σ2 H2 fun b H3 =>
        if b = true then te σ2 H3 fun y H4 => ∃ acc, H4 D = some (.lst acc) ∧ acc.length < sizeLine ∧ Nx (upd H4 D (.lst (acc ++ [y]))) else Nx H3) := by
  refine ⟨fun i m H => m = xs.length - i ∧ i ≤ xs.length ∧ Pv i H, ⟨xs.length, by simp, Nat.zero_le _, h0⟩, ?_⟩
  rintro i m H ⟨rfl, hi, p⟩
  have q := hl i H hi p
  by_cases hlt : i < xs.length
  · refine .inr ⟨⟨xs, xs[i], q, by simp [hlt]⟩, Pv (i + 1), fun H' p' => ⟨xs.length - (i + 1), by omega, rfl, hlt, p'⟩, fun x H' y => ?_⟩
    obtain ⟨e, y⟩ := y
    subst e
    exact hs i x _ (y xs q) p
  · have e : i = xs.length := by omega
    subst e
    exact .inl ⟨⟨xs, q, Nat.le_refl _⟩, hd H p⟩
def blkC (N : List Str) (sc scope : Scope) (own : List (Str × Nat)) : Bool :=
  (match scope.kind with | .function => true | _ => false) && (scope.names.all fun y => decide (scope.names.lookup y.1 = some y.2)) && (own.all fun p => decide (N[p.2]? = some p.1)) &&
    (scope.names.all fun y => match y.2 with
      | .free => (match sc.names.lookup y.1 with | some .cell => true | some .free => true | _ => false)
      | .local => decide (y.1 ∈ own.map (·.1)) || decide (y.1 ∉ N)
      | .cell => decide (y.1 ∈ own.map (·.1)) || decide (y.1 ∉ N)
      | _ => true)
theorem blkOk_by {N : List Str} {sc scope : Scope} {own : List (Str × Nat)} (h : blkC N sc scope own = true) : BlkOk N sc scope own := by
  unfold blkC at h
  simp only [Bool.and_eq_true, List.all_eq_true, decide_eq_true_eq] at h
  obtain ⟨⟨⟨h1, h2⟩, h3⟩, h4⟩ := h
  refine ⟨?_, h2, h3, fun y hy e => ?_, fun y hy e => ?_⟩
  · split at h1
    · assumption
    · cases h1
  · have q := h4 y hy
    simp only [e] at q
    split at q <;> first | exact .inl (by assumption) | exact .inr (by assumption) | cases q
  · have q := h4 y hy
    rcases e with e | e <;> (simp only [e, Bool.or_eq_true, decide_eq_true_eq] at q; exact q)
end L2
namespace L2
open PySem PySem.Spec PyProof.Rows
section
variable {prog : Program} {w : World} {A : Around} {R : Result → Shared → Prop} {s : Shared} {elt t0 i0 t1 i1 : Expr} {ifs0 ifs1 : List Expr} {scope : Scope} {pos : Pos} {it acc : Value} {env : Env}
end
section
variable {X : Cx}
end
end L2
namespace L2
open PySem PySem.Spec PyProof.Rows
/-! ### lists of pairs as tables -/
section
variable {κ : Type} [DecidableEq κ]
def valV (kvs : List (κ × V)) (k : κ) : Option V := (kvs.find? fun kv => decide (kv.1 = k)).map (·.2)
/-- in its place, or at the end -/
def putK (kvs : List (κ × V)) (k : κ) (v : V) : List (κ × V) :=
  if (kvs.any fun kv => decide (kv.1 = k)) = true then kvs.map (fun kv => if kv.1 = k then (kv.1, v) else kv) else kvs ++ [(k, v)]
theorem valV_nil {k : κ} : valV ([] : List (κ × V)) k = none := rfl
theorem valV_pos {p : κ × V} {r : List (κ × V)} {k : κ} (e : p.1 = k) : valV (p :: r) k = some p.2 := by simp [valV, List.find?_cons, e]
theorem valV_neg {p : κ × V} {r : List (κ × V)} {k : κ} (e : ¬ p.1 = k) : valV (p :: r) k = valV r k := by simp [valV, List.find?_cons, e]
theorem valV_any (k : κ) : ∀ kvs : List (κ × V), (kvs.any fun kv => decide (kv.1 = k)) = (valV kvs k).isSome
  | [] => rfl
  | p :: r => by
    rw [List.any_cons]
    by_cases e : p.1 = k
    · simp only [valV_pos e, decide_eq_true e, Bool.true_or, Option.isSome_some]
    · rw [valV_neg e, decide_eq_false e, Bool.false_or]; exact valV_any k r
theorem valV_map (k j : κ) (y : V) : ∀ kvs : List (κ × V), valV (kvs.map fun kv => if kv.1 = k then (kv.1, y) else kv) j = (valV kvs j).map fun x => if j = k then y else x
  | [] => rfl
  | p :: r => by
    have ih := valV_map k j y r
    rw [List.map_cons]
    by_cases h : p.1 = k
    · rw [if_pos h]
      by_cases e : p.1 = j
      · rw [valV_pos (p := (p.1, y)) e, valV_pos e, Option.map_some, if_pos (e.symm.trans h)]
      · rw [valV_neg (p := (p.1, y)) e, valV_neg e, ih]
    · rw [if_neg h]
      by_cases e : p.1 = j
      · rw [valV_pos (p := p) e, valV_pos e, Option.map_some, if_neg (fun z => h (e.trans z))]
      · rw [valV_neg (p := p) e, valV_neg e, ih]
theorem valV_snoc (k j : κ) (y : V) : ∀ kvs : List (κ × V), valV kvs k = none → valV (kvs ++ [(k, y)]) j = if j = k then some y else valV kvs j
  | [], _ => by
    by_cases e : k = j
    · rw [if_pos e.symm]; exact valV_pos (p := (k, y)) e
    · rw [if_neg (fun z => e z.symm)]; exact valV_neg (p := (k, y)) e
  | p :: r, hn => by
    rw [List.cons_append]
    have hk : ¬ p.1 = k := fun z => by rw [valV_pos z] at hn; cases hn
    rw [valV_neg hk] at hn
    have ih := valV_snoc k j y r hn
    by_cases e : p.1 = j
    · rw [valV_pos e, valV_pos e, if_neg (fun z => hk (e.trans z))]
    · rw [valV_neg e, valV_neg e, ih]
theorem valV_put (kvs : List (κ × V)) (k j : κ) (y : V) : valV (putK kvs k y) j = if j = k then some y else valV kvs j := by
  unfold putK
  by_cases a : (kvs.any fun kv => decide (kv.1 = k)) = true
  · rw [if_pos a, valV_map]
    rw [valV_any] at a
    by_cases e : j = k
    · obtain ⟨x, hx⟩ := Option.isSome_iff_exists.mp a
      rw [if_pos e, e, hx, Option.map_some, if_pos rfl]
    · rw [if_neg e]
      cases valV kvs j with
      | none => rfl
      | some x => rw [Option.map_some, if_neg e]
  · rw [if_neg a]
    refine valV_snoc k j y kvs ?_
    rw [valV_any] at a
    cases q : valV kvs k with
    | none => rfl
    | some x => rw [q] at a; exact (a rfl).elim
theorem length_putK (kvs : List (κ × V)) (k : κ) (v : V) : (putK kvs k v).length ≤ kvs.length + 1 := by
  unfold putK
  split
  · rw [List.length_map]; omega
  · rw [List.length_append, List.length_cons, List.length_nil]; omega
theorem RelO.isSome_eq {o : Option V} {u : Option Value} (r : RelO o u) : o.isSome = u.isSome := by
  cases o with
  | none => cases u with
    | none => rfl
    | some _ => exact (show False from r).elim
  | some _ => cases u with
    | none => exact (show False from r).elim
    | some _ => rfl
theorem RelO.getD {o : Option V} {u : Option Value} {d : V} {d' : Value} (r : RelO o u) (rd : RelV d d') : RelV (o.getD d) (u.getD d') := by
  cases o with
  | none => cases u with
    | none => exact rd
    | some _ => exact (show False from r).elim
  | some _ => cases u with
    | none => exact (show False from r).elim
    | some _ => exact r
/-- raw tables of the same keys -/
theorem KV.val {kvs : List (κ × V)} {vs : List (κ × Value)} (r : KV kvs vs) (k : κ) : RelO (valV kvs k) (valueAt vs k) := by
  unfold KV at r
  induction r with
  | nil => exact True.intro
  | @cons p q ps qs h t ih =>
    obtain ⟨h1, h2⟩ := h
    by_cases e : p.1 = k
    · have e' : q.1 = k := h1.symm.trans e
      have b : valueAt (q :: qs) k = some q.2 := by simp [valueAt, List.find?_cons, e']
      rw [valV_pos e, b]; exact h2
    · have e' : ¬ q.1 = k := fun z => e (h1.trans z)
      have b : valueAt (q :: qs) k = valueAt qs k := by simp [valueAt, List.find?_cons, e']
      rw [valV_neg e, b]; exact ih
theorem KV.any {kvs : List (κ × V)} {vs : List (κ × Value)} (r : KV kvs vs) (k : κ) : (kvs.any fun kv => decide (kv.1 = k)) = vs.any fun kv => decide (kv.1 = k) := by
  unfold KV at r
  induction r with
  | nil => rfl
  | cons h t ih => rw [List.any_cons, List.any_cons, ih, h.1]
theorem KV.repl {kvs : List (κ × V)} {vs : List (κ × Value)} (r : KV kvs vs) (k : κ) {y : V} {u : Value} (ry : RelV y u) :
    KV (kvs.map fun kv => if kv.1 = k then (kv.1, y) else kv) (vs.map fun kv => if kv.1 = k then (kv.1, u) else kv) := by
  unfold KV at r ⊢
  induction r with
  | nil => exact .nil
  | @cons p q ps qs h t ih =>
    rw [List.map_cons, List.map_cons]
    refine .cons ?_ ih
    obtain ⟨h1, h2⟩ := h
    by_cases e : p.1 = k
    · rw [if_pos e, if_pos (h1.symm.trans e)]; exact ⟨h1, ry⟩
    · rw [if_neg e, if_neg (fun z => e (h1.trans z))]; exact ⟨h1, h2⟩
theorem KV.put {kvs : List (κ × V)} {vs : List (κ × Value)} (r : KV kvs vs) (k : κ) {y : V} {u : Value} (ry : RelV y u) : KV (putK kvs k y) (stored vs k u) := by
  unfold putK stored
  rw [r.any k]
  by_cases e : (vs.any fun kv => decide (kv.1 = k)) = true
  · rw [if_pos e, if_pos e]; exact r.repl k ry
  · rw [if_neg e, if_neg e]; exact Paired.snoc r ⟨rfl, ry⟩
theorem KV.length {kvs : List (κ × V)} {vs : List (κ × Value)} (r : KV kvs vs) : kvs.length = vs.length := Paired.length r
end
/-! ### a tracked dict, its keys ints and texts or tuples of these -/
theorem kV_is {P : Program} {w : World} {k : Key} {u : Value} (r : RelV (kV k) u) : (mixKind P w).is k u = true := by
  cases k with
  | inl i => obtain ⟨t, e⟩ := (show ∃ t, u = Value.int i t from r); subst e; exact mixKind_int P w i t
  | inr x => obtain ⟨t, e⟩ := (show ∃ t, u = Value.str x t from r); subst e; exact mixKind_str P w x t
theorem items_are {P : Program} {w : World} : ∀ {ks : List Key} {us : List Value}, Vals (ks.map kV) us → ItemsAre (mixKind P w) ks us
  | [], _, r => by rw [List.map_nil] at r; cases r; exact .nil
  | k :: ks, _, r => by
    rw [List.map_cons] at r
    cases r with
    | cons h t => exact .cons (kV_is h) (items_are t)
/-- raw entries of a dict with tuple keys -/
abbrev KT (H : Hp) : List (List Key × V) → List (List Key × Addr × Value) → Prop := Paired fun p q => p.1 = q.1 ∧ H q.2.1 = some (.tup (p.1.map kV)) ∧ RelV p.2 q.2.2
theorem KT.val {H : Hp} {kvs : List (List Key × V)} {xs : List (List Key × Addr × Value)} (r : KT H kvs xs) (k : List Key) : RelO (valV kvs k) ((atKey xs k).map (·.2)) := by
  induction r with
  | nil => exact True.intro
  | @cons p q ps qs h t ih =>
    obtain ⟨h1, _, h2⟩ := h
    by_cases e : p.1 = k
    · have e' : q.1 = k := h1.symm.trans e
      have b : atKey (q :: qs) k = some q.2 := by simp [atKey, List.find?_cons, e']
      rw [valV_pos e, b]; exact h2
    · have e' : ¬ q.1 = k := fun z => e (h1.trans z)
      have b : atKey (q :: qs) k = atKey qs k := by simp [atKey, List.find?_cons, e']
      rw [valV_neg e, b]; exact ih
theorem KT.repl {H : Hp} {kvs : List (List Key × V)} {xs : List (List Key × Addr × Value)} (r : KT H kvs xs) (k : List Key) {y : V} {u : Value} (ry : RelV y u) :
    KT H (kvs.map fun kv => if kv.1 = k then (kv.1, y) else kv) (xs.map (putAt k u)) := by
  induction r with
  | nil => exact .nil
  | @cons p q ps qs h t ih =>
    rw [List.map_cons, List.map_cons]
    refine .cons ?_ ih
    obtain ⟨h1, h2, h3⟩ := h
    unfold putAt
    by_cases e : p.1 = k
    · rw [if_pos e, if_pos (h1.symm.trans e)]; exact ⟨h1, h2, ry⟩
    · rw [if_neg e, if_neg (fun z => e (h1.trans z))]; exact ⟨h1, h2, h3⟩
theorem KT.put {H : Hp} {kvs : List (List Key × V)} {xs : List (List Key × Addr × Value)} (r : KT H kvs xs) (k : List Key) {b : Addr} {y : V} {u : Value} (hb : H b = some (.tup (k.map kV))) (ry : RelV y u) :
    KT H (putK kvs k y) (storedH xs k b u) := by
  have e : (kvs.any fun kv => decide (kv.1 = k)) = (atKey xs k).isSome := by
    rw [valV_any, (r.val k).isSome_eq, Option.isSome_map]
  unfold putK storedH
  rw [e]
  by_cases q : (atKey xs k).isSome = true
  · rw [if_pos q, if_pos q]; exact r.repl k ry
  · rw [if_neg q, if_neg q]; exact Paired.snoc r ⟨rfl, hb, ry⟩
theorem KT.keeps {H H' : Hp} {kvs : List (List Key × V)} {xs : List (List Key × Addr × Value)} (r : KT H kvs xs) (ht : ∀ b ys, H b = some (.tup ys) → H' b = some (.tup ys)) : KT H' kvs xs :=
  Paired.mapP r fun _ _ z => ⟨z.1, ht _ _ z.2.1, z.2.2⟩
section
variable {P : Program} {w : World} {H : Hp} {h : Heap} {a : Addr}
theorem rd_of {u : HO} (ok : HOk P w H h) (e : Rd H a u) : ObjOk P w H h a u := e.ok ok
theorem dk_rd {kvs : List (Key × V)} (ok : HOk P w H h) (e : Rd H a (.dK kvs)) : kvs.length ≤ sizeLine ∧ (a == sysModules) = false ∧ ∃ vs, KV kvs vs ∧ h.DictOf (mixKind P w) a vs :=
  show ObjOk P w H h a (.dK kvs) from rd_of ok e
theorem dk_of {kvs : List (Key × V)} (ok : HOk P w H h) (e : H a = some (.dK kvs)) : kvs.length ≤ sizeLine ∧ (a == sysModules) = false ∧ ∃ vs, KV kvs vs ∧ h.DictOf (mixKind P w) a vs := dk_rd ok (.inl e)
/-- a tracked tuple of ints and texts is a key -/
theorem key_of {ks : List Key} (ok : HOk P w H h) (e : H a = some (.tup (ks.map kV))) : (tupleKind (mixKind P w)).is h ks a := by
  obtain ⟨_, its, r, o, h1, h2, n, h3⟩ := (show ObjOk P w H h a (.tup (ks.map kV)) from ok a _ e)
  exact ⟨o, its.toArray, n, h1, h2, h3, by simpa using items_are r⟩
theorem dt_rd {kvs : List (List Key × V)} (ok : HOk P w H h) (e : Rd H a (.dT kvs)) : kvs.length ≤ sizeLine ∧ (a == sysModules) = false ∧
    ∃ xs, KT H kvs xs ∧ h.DictOfH (tupleKind (mixKind P w)) a xs := by
  obtain ⟨z, y, xs, r, o, es, ep, h1, h2, h3, h4, h5⟩ := (show ObjOk P w H h a (.dT kvs) from rd_of ok e)
  refine ⟨z, y, xs, r, o, es, ep, h1, h2, h3, h4, fun x hx => ?_, h5⟩
  have all : ∀ {l : List (List Key × V)} {m : List (List Key × Addr × Value)}, KT H l m → ∀ x ∈ m, (tupleKind (mixKind P w)).is h x.1 x.2.1 := by
    intro l m q
    induction q with
    | nil => intro x hx; exact nomatch hx
    | @cons p q ps qs hq t ih =>
      intro x hx
      rcases List.mem_cons.mp hx with e | hx
      · subst e
        exact key_of ok (by rw [← hq.1]; exact hq.2.1)
      · exact ih x hx
  exact all r x hx
theorem dt_of {kvs : List (List Key × V)} (ok : HOk P w H h) (e : H a = some (.dT kvs)) : kvs.length ≤ sizeLine ∧ (a == sysModules) = false ∧
    ∃ xs, KT H kvs xs ∧ h.DictOfH (tupleKind (mixKind P w)) a xs := dt_rd ok (.inl e)
end
/-- what the dict at a holds at the key y -/
def DGet (H : Hp) (a : Addr) (y : V) (r : Option V) : Prop :=
  (∃ kvs k, Rd H a (.dK kvs) ∧ y = kV k ∧ r = valV kvs k) ∨ ∃ kvs k b, Rd H a (.dT kvs) ∧ y = .ref b ∧ H b = some (.tup (k.map kV)) ∧ r = valV kvs k
/-- the heap behind a[y] = v -/
def DPut (H : Hp) (a : Addr) (y v : V) (H' : Hp) : Prop :=
  (∃ kvs k, H a = some (.dK kvs) ∧ y = kV k ∧ kvs.length < sizeLine ∧ H' = upd H a (.dK (putK kvs k v))) ∨
  ∃ kvs k b, H a = some (.dT kvs) ∧ y = .ref b ∧ H b = some (.tup (k.map kV)) ∧ kvs.length < sizeLine ∧ H' = upd H a (.dT (putK kvs k v))
theorem DGet.t {H : Hp} {a b : Addr} {kvs : List (List Key × V)} {k : List Key} (e : H a = some (.dT kvs)) (eb : H b = some (.tup (k.map kV))) : DGet H a (.ref b) (valV kvs k) := .inr ⟨kvs, k, b, .inl e, rfl, eb, rfl⟩
theorem DPut.t {H : Hp} {a b : Addr} {kvs : List (List Key × V)} {k : List Key} {v : V} (e : H a = some (.dT kvs)) (eb : H b = some (.tup (k.map kV))) (hl : kvs.length < sizeLine) :
    DPut H a (.ref b) v (upd H a (.dT (putK kvs k v))) := .inr ⟨kvs, k, b, e, rfl, eb, hl, rfl⟩
section
variable {X : Cx} {pins : List (Addr × Obj)} {σ : St} {H : Hp} {s : Shared} {a : Addr} {y v : V} {u r : Value} {o : Option V} {A : Around} {E : Value → Shared → Prop}
theorem Inv.big (I : Inv X pins σ H s) : sysModules < s.heap.objs.size := by
  have h : mainGlobals < s.heap.objs.size := (I.mod.glob.keeps I.bk).lt
  exact Nat.lt_trans (by decide) h
/-- d[y], there -/
theorem d_getItem {Q : Value → Shared → Prop} (hu : A.units + 1 < cLine) (I : Inv X pins σ H s) (g : DGet H a y (some v)) (ry : RelV y u) (h : ∀ w' s', Inv X pins σ H s' → RelV v w' → Q w' s') :
    wpAny (model X.prog X.w) A (getItem (.ref a) u) Q E s := by
  rcases g with ⟨kvs, k, e, ey, l⟩ | ⟨kvs, k, b, e, ey, eb, l⟩
  · subst ey
    obtain ⟨z, hd, vs, rel, dd⟩ := dk_rd I.hok e
    obtain ⟨w', hw, rw'⟩ := RelO.some_of (v := v) (o := valueAt vs k) (by rw [l]; exact rel.val k)
    exact wpAny_getItem_of (kV_is ry) dd.mapOf hw (h w' _ (I.tok _) rw')
  · subst ey
    cases (show u = Value.ref b from ry)
    obtain ⟨z, hd, xs, rel, dd⟩ := dt_rd I.hok e
    obtain ⟨w', hw, rw'⟩ := RelO.some_of (v := v) (o := (atKey xs k).map (·.2)) (by rw [l]; exact rel.val k)
    obtain ⟨p, hp, hp2⟩ := Option.map_eq_some_iff.mp hw
    refine wpAny_getItem_heap (tupleKind_room_in1 hu) (key_of I.hok eb) dd hp ?_
    rw [hp2]
    exact h w' _ (I.tok _) rw'
/-- y in d -/
theorem d_in {Q : Value → Shared → Prop} (hu : A.units + 1 < cLine) (I : Inv X pins σ H s) (g : DGet H a y o) (ry : RelV y u) (h : ∀ s', Inv X pins σ H s' → Q (.bool o.isSome) s') :
    wpAny (model X.prog X.w) A (compareOp .In u (.ref a)) Q E s := by
  rcases g with ⟨kvs, k, e, ey, l⟩ | ⟨kvs, k, b, e, ey, eb, l⟩
  · subst ey
    obtain ⟨z, hd, vs, rel, dd⟩ := dk_rd I.hok e
    refine wpAny_in_of (kV_is ry) hd dd.mapOf ?_
    rw [← (rel.val k).isSome_eq, ← l]
    exact h _ (I.tok _)
  · subst ey
    cases (show u = Value.ref b from ry)
    obtain ⟨z, hd, xs, rel, dd⟩ := dt_rd I.hok e
    refine wpAny_in_heap (tupleKind_room_in1 hu) (key_of I.hok eb) hd dd ?_
    have q := (rel.val k).isSome_eq
    rw [Option.isSome_map] at q
    rw [← q, ← l]
    exact h _ (I.tok _)
/-- a dict's object is replaced -/
theorem d_write {h' : Heap} {t' : Nat} {ob : HO} (I : Inv X pins σ H s) (mu : Mut (H a)) (hs : Heap.SameBut a s.heap h') (he : ∃ q, h'.get? a = some q) (new : ObjOk X.prog X.w (upd H a ob) h' a ob) :
    Inv X pins σ (upd H a ob) { s with heap := h', toks := t' } :=
  I.write (x := a) (e := a) mu (.inl rfl) (fun b q hb z => (hs.2 b hb).trans z) he new
theorem dk_new {P : Program} {w : World} {H' : Hp} {h' : Heap} {kvs : List (Key × V)} {vs : List (Key × Value)} (z : kvs.length ≤ sizeLine) (hd : (a == sysModules) = false) (rel : KV kvs vs) (dd : h'.DictOf (mixKind P w) a vs) :
    ObjOk P w H' h' a (.dK kvs) := ⟨z, hd, vs, rel, dd⟩
/-- d[y] = v -/
theorem d_setItem {H' : Hp} {Q : Unit → Shared → Prop} (hu : A.units + 1 < cLine) (I : Inv X pins σ H s) (g : DPut H a y v H') (ry : RelV y u) (rv : RelV v r) (h : ∀ s', Inv X pins σ H' s' → Q () s') :
    wpAny (model X.prog X.w) A (setItem (.ref a) u r) Q E s := by
  rcases g with ⟨kvs, k, e, ey, l, eH⟩ | ⟨kvs, k, b, e, ey, eb, l, eH⟩
  · subst ey eH
    obtain ⟨z, hd, vs, rel, dd⟩ := dk_of I.hok e
    have hz : vs.length ≤ sizeLine := by rw [← rel.length]; exact z
    have hl : (putK kvs k v).length ≤ sizeLine := by have := length_putK kvs k v; omega
    refine wpAny_setItem_pairs (hsz := hz) (kV_is ry) dd fun h' dd' hs => h _ ?_
    have he : ∃ q, h'.get? a = some q := let ⟨q, _, _, hq, _⟩ := dd'; ⟨q, hq⟩
    exact d_write I (by rw [e]; exact True.intro) hs he (dk_new hl hd (rel.put k rv) dd')
  · subst ey eH
    cases (show u = Value.ref b from ry)
    obtain ⟨z, hd, xs, rel, dd⟩ := dt_of I.hok e
    have hz : xs.length ≤ sizeLine := by rw [← Paired.length rel]; exact z
    have hl : (putK kvs k v).length ≤ sizeLine := by have := length_putK kvs k v; omega
    refine wpAny_setItem_heap (hsz := hz) (tupleKind_room_in1 hu) (key_of I.hok eb) dd fun h' dd' hs => h _ ?_
    obtain ⟨q, es, ep, hq, h2, h3, h4, _, h5⟩ := dd'
    refine d_write I (by rw [e]; exact True.intro) hs ⟨q, hq⟩ ⟨hl, hd, _, (rel.put k eb rv).keeps fun c ys ec => ?_, q, es, ep, hq, h2, h3, h4, h5⟩
    rw [upd_ne (ne_of ec e (fun z => nomatch z))]
    exact ec
end
section
variable {X : Cx} {pins : List (Addr × Obj)} {σ : St} {H : Hp} {s : Shared} {a : Addr} {kvs : List (Key × V)} {k : Key} {u : Value} {A : Around} {E : Value → Shared → Prop}
end
/-! ### readings and rules -/
/-- the element of a subscription, not a slice -/
def NoSl (i : Expr) : Prop := ∀ ov iv, subscripted i false ov iv = operate [ov, iv] (getItem ov iv)
theorem subD_of {prog : Program} {w : World} {A : Around} {E : Value → Shared → Prop} {s : Shared} {env : Env} {value slice : Expr} {pos : Pos} {T id : String} {Q : Value → Shared → Prop}
    (hl : typeLookup (.type T) "__getitem__" = pure (some (.builtin id))) (hs : NoSl slice)
    (h : wpAny (model prog w) A (eval value env) (fun o s₁ => wpAny (model prog w) A (eval slice env) (fun i s₂ => s₂.TypeIs o T ∧ wpAny (model prog w) A (getItem o i) Q E s₂) E s₁) E s) :
    wpAny (model prog w) A (eval (.Subscript value slice pos) env) Q E s := by
  refine Subscript_ (wpAny_mono h (fun o s₁ h₁ => wpAny_mono h₁ (fun i s₂ h₂ => ?_) fun _ _ x => x) fun _ _ x => x)
  obtain ⟨hT, h₂⟩ := h₂
  unfold subscriptTail
  refine wpAny_bind ?_
  rw [getitemInPython_of_ne hT.not_modules]
  refine wpAny_bind (wpAny_specialOf hT hl ?_)
  have fin : wpAny (model prog w) A (subscripted slice false o i) (fun r s₃ => wpAny (model prog w) A (letTemporaryGo value o r >>= fun _ => pure r) Q E s₃) E s₂ := by
    rw [hs o i]
    exact wpAny_operating (wpAny_mono h₂ (fun r s₃ h₃ => wpAny_bind (wpAny_letTemporaryGo (wpAny_pure h₃))) fun _ _ x => x)
  first
    | exact wpAny_pure (wpAny_bind fin)
    | exact wpAny_bind (wpAny_pure (wpAny_bind fin))
    | exact wpAny_bind fin
theorem dict_typeIs {X : Cx} {pins : List (Addr × Obj)} {σ : St} {H : Hp} {s : Shared} {a : Addr} {y : V} {o : Option V} (I : Inv X pins σ H s) (g : DGet H a y o) : s.TypeIs (.ref a) "dict" := by
  rcases g with ⟨kvs, k, e, _, _⟩ | ⟨kvs, k, b, e, _, _, _⟩
  · obtain ⟨_, _, vs, _, dd⟩ := dk_rd I.hok e
    exact dd.typeIs
  · obtain ⟨_, _, xs, _, dd⟩ := dt_rd I.hok e
    exact dd.typeIs
/-- d[y] -/
def tDGet (td ty : TE) : TE := fun σ H Q => td σ H fun x H1 => ty σ H1 fun y H2 => ∃ a v, x = .ref a ∧ DGet H2 a y (some v) ∧ Q v H2
/-- y in d, y not in d -/
def tDIn (ty td : TE) : TE := fun σ H Q => ty σ H fun y H1 => td σ H1 fun x H2 => ∃ a o, x = .ref a ∧ DGet H2 a y o ∧ Q (.bl o.isSome) H2
/-- d[y] = v -/
def sDPut (td ty tv : TE) : TS := fun D σ H => tv σ H fun v H1 => td σ H1 fun x H2 => ty σ H2 fun y H3 => ∃ a H4, x = .ref a ∧ DPut H3 a y v H4 ∧ D.nx σ H4
section
variable {X : Cx} {o i e value : Expr} {pos pos' tpos : Pos} {td ty tv : TE}
theorem pe_dget (hu : X.A.units + 1 < cLine) (ho : PE X o td) (hi : PE X i ty) (hs : NoSl i) : PE X (.Subscript o i pos) (tDGet td ty) := by
  intro pins s σ H Q I h
  refine subD_of PySem.F.slot_dict_getitem.lookup hs (thn (ho pins s σ H _ I h) fun u s1 ⟨x, H1, I1, rx, q1⟩ => thn (hi pins s1 σ H1 _ I1 q1) fun iv s2 ⟨y, H2, I2, ry, a, v, ex, g, q2⟩ => ?_)
  subst ex
  obtain rfl : u = Value.ref a := rx
  exact ⟨dict_typeIs I2 g, d_getItem hu I2 g ry fun w' s3 I3 rw' => ⟨v, H2, I3, rw', q2⟩⟩
theorem pc_din (hu : X.A.units + 1 < cLine) (hi : PE X i ty) (ho : PE X o td) : PC X .In i o (tDIn ty td) := by
  intro pins s σ H Q I h
  refine thn (hi pins s σ H _ I h) fun iv s1 ⟨y, H1, I1, ry, q1⟩ => thn (ho pins s1 σ H1 _ I1 q1) fun u s2 ⟨x, H2, I2, rx, a, ov, ex, g, q2⟩ => ?_
  subst ex
  obtain rfl : u = Value.ref a := rx
  exact d_in hu I2 g ry fun s3 I3 => ⟨.bl ov.isSome, H2, I3, rfl, q2⟩
theorem ps_dput (hu : X.A.units + 1 < cLine) (ho : PE X o td) (hi : PE X i ty) (hv : PE X value tv) (hs : swapsWith value (some (.Subscript o i pos')) pos.line X.env = pure false) :
    PS X (.Assign [.Subscript o i pos'] value pos) (sDPut td ty tv) := by
  intro pins s σ H D I h
  refine wpAny_Assign_Subscript (thn (hv pins s σ H _ I h) fun r s1 ⟨v, H1, I1, rv, q1⟩ => thn (ho pins s1 σ H1 _ I1 q1) fun u s2 ⟨x, H2, I2, rx, q2⟩ => thn (hi pins s2 σ H2 _ I2 q2) fun iv s3 ⟨y, H3, I3, ry, a, H4, ex, g, q3⟩ => ?_) hs
  subst ex
  obtain rfl : u = Value.ref a := rx
  exact d_setItem hu I3 g ry rv fun s4 I4 => ⟨σ, H4, I4, q3⟩
end
/-! ### displays -/
theorem dt_empty {P : Program} {w : World} {H : Hp} (h : Heap) (hb : sysModules < h.objs.size) : ObjOk P w H (h.push { cls := .type "dict", data := .dict #[] }) h.objs.size (.dT []) :=
  ⟨Nat.zero_le _, beq_eq_false_iff_ne.mpr (Ne.symm (Nat.ne_of_lt hb)), [], .nil, _, #[], 0, Heap.get?_push_size _ rfl, ⟨rfl, rfl, rfl⟩, rfl, rfl, List.nodup_nil⟩
def tDNewT : TE := fun _ H Q => ∀ p, H p = none → Q (.ref p) (upd H p (.dT []))
section
variable {X : Cx} {pos : Pos}
theorem pe_dnewT : PE X (.Dict [] [] pos) tDNewT := fun pins s σ H Q I h =>
  wpAny_Dict_empty ⟨.ref s.heap.objs.size, _, I.laid (a := s.heap.objs.size) (o := .dT []) (t' := s.toks) (fun _ _ q => Heap.get?_push_of_some _ q) (Nat.le_refl _) (dt_empty s.heap I.big), rfl, h _ (I.hok.fresh (Nat.le_refl _))⟩
end
/-! ### methods -/
/-- a method call o.m(e) of a built-in, with one argument: what must be seen of the text -/
structure M1 (X : Cx) (o : Expr) (m : Str) (apos : Pos) (e : Expr) (cpos : Pos) : Prop where
  base : attributeBase o m X.env (eval o X.env) = eval o X.env
  few : ((backTo cpos (starEach [e] X.env)).all (fun x => !x.1) && (backToKw cpos (keywordEach [] X.env)).all (fun x => x.1.isSome)
    && decide (([e] : List Expr).length + ([] : List Keyword).length + (if ([] : List Keyword).isEmpty then 0 else 1) < 30)) = true
  line : (apos.endLine == cpos.line) = true
  trees : backTo cpos (starEach [e] X.env) = [(false, eval e X.env)]
structure M2 (X : Cx) (o : Expr) (m : Str) (apos : Pos) (e f : Expr) (cpos : Pos) : Prop where
  base : attributeBase o m X.env (eval o X.env) = eval o X.env
  few : ((backTo cpos (starEach [e, f] X.env)).all (fun x => !x.1) && (backToKw cpos (keywordEach [] X.env)).all (fun x => x.1.isSome)
    && decide (([e, f] : List Expr).length + ([] : List Keyword).length + (if ([] : List Keyword).isEmpty then 0 else 1) < 30)) = true
  line : (apos.endLine == cpos.line) = true
  trees : backTo cpos (starEach [e, f] X.env) = [(false, eval e X.env), (false, eval f X.env)]
/-- a is a dict, whatever its keys -/
def IsD (H : Hp) (a : Addr) : Prop := (∃ kvs, Rd H a (.dK kvs)) ∨ ∃ kvs, Rd H a (.dT kvs)
theorem isD_at {X : Cx} {pins : List (Addr × Obj)} {σ : St} {H : Hp} {s : Shared} {a : Addr} (I : Inv X pins σ H s) (d : IsD H a) :
    s.TypeIs (.ref a) "dict" ∧ (∀ b, Value.ref a = .ref b → ∃ ob, s.heap.get? b = some ob ∧ ob.dict = none) ∧ (a == sysModules) = false := by
  rcases d with ⟨kvs, e⟩ | ⟨kvs, e⟩
  · obtain ⟨_, hd, vs, _, dd⟩ := dk_rd I.hok e
    refine ⟨dd.typeIs, fun b q => ?_, hd⟩
    cases q
    obtain ⟨ob, _, _, h1, h2, _⟩ := dd
    exact ⟨ob, h1, h2.2.1⟩
  · obtain ⟨_, hd, xs, _, dd⟩ := dt_rd I.hok e
    refine ⟨dd.typeIs, fun b q => ?_, hd⟩
    cases q
    obtain ⟨ob, _, _, h1, h2, _⟩ := dd
    exact ⟨ob, h1, h2.2.1⟩
section
variable {X : Cx} {pins : List (Addr × Obj)} {σ : St} {H : Hp} {s : Shared} {a : Addr} {y d : V} {u r : Value} {o : Option V} {A : Around} {E : Value → Shared → Prop}
/-- d.get(y, x) -/
theorem d_get2 {Q : Value → Shared → Prop} (hu : A.units + 1 < cLine) (I : Inv X pins σ H s) (g : DGet H a y o) (ry : RelV y u) (rd : RelV d r) (h : ∀ w' s', Inv X pins σ H s' → RelV (o.getD d) w' → Q w' s') :
    wpAny (model X.prog X.w) A (call (.builtin "dict.get") [.ref a, u, r]) Q E s := by
  rcases g with ⟨kvs, k, e, ey, l⟩ | ⟨kvs, k, b, e, ey, eb, l⟩
  · subst ey
    obtain ⟨z, hd, vs, rel, dd⟩ := dk_rd I.hok e
    refine call_meetsIn PySem.F.slot_dict_get dd.typeIs PySem.F.entry_dict_get (PySem.F.args_dict_get_3 _ _ _) (meets_dict_get_default (mixKind X.prog X.w) a (kV_is ry) hd r) ⟨_, dd.mapOf, h _ _ (I.tok _) ?_⟩
    rw [l]
    exact (rel.val k).getD rd
  · subst ey
    cases (show u = Value.ref b from ry)
    obtain ⟨z, hd, xs, rel, dd⟩ := dt_rd I.hok e
    refine call_meetsIn PySem.F.slot_dict_get dd.typeIs PySem.F.entry_dict_get (PySem.F.args_dict_get_3 _ _ _) (meetsH_dict_get_default (tupleKind (mixKind X.prog X.w)) a b hd r) ⟨tupleKind_room_in1 hu, k, xs, key_of I.hok eb, dd, h _ _ (I.tok _) ?_⟩
    rw [l]
    exact (rel.val k).getD rd
end
def tDGet2 (td ty tx : TE) : TE := fun σ H Q => td σ H fun x H1 => ∃ a, x = .ref a ∧ IsD H1 a ∧ ty σ H1 fun y H2 => tx σ H2 fun z H3 => ∃ o, DGet H3 a y o ∧ Q (o.getD z) H3
section
variable {X : Cx} {o e f : Expr} {apos cpos : Pos} {td ty tx : TE}
theorem pe_dget2 (hu : X.A.units + 1 < cLine) (ho : PE X o td) (he : PE X e ty) (hf : PE X f tx) (m : M2 X o "get" apos e f cpos) : PE X (.Call (.Attribute o "get" apos) [e, f] [] cpos) (tDGet2 td ty tx) := by
  intro pins s σ H Q I h
  refine wpAny_Call_method m.base m.few m.line PySem.F.plainAttrs_dict PySem.F.slot_dict_get PySem.F.type_dict_get (thn (ho pins s σ H _ I h) fun u s1 ⟨x, H1, I1, rx, a, ex, d, q1⟩ => ?_)
  subst ex
  obtain rfl : u = Value.ref a := rx
  obtain ⟨t1, t2, _⟩ := isD_at I1 d
  refine ⟨t1, t2, ?_⟩
  rw [m.trees]
  refine Calls.callWith_builtin rfl (Calls.evalArgs_plain (Calls.spliced_cons (thn (he pins s1 σ H1 _ I1 q1) fun iv s2 ⟨y, H2, I2, ry, q2⟩ =>
    Calls.spliced_cons (thn (hf pins s2 σ H2 _ I2 q2) fun fv s3 ⟨z, H3, I3, rz, ov, g, q3⟩ => Calls.spliced_nil ?_))))
  exact d_get2 hu I3 g ry rz fun w' s4 I4 rw' => ⟨_, H3, I4, rw', q3⟩
end
/-! ### dict(d): a copy -/
section
variable {X : Cx} {pins : List (Addr × Obj)} {σ : St} {H : Hp} {s : Shared} {a : Addr} {kvs : List (Key × V)} {A : Around} {E : Value → Shared → Prop}
end
section
variable {X : Cx} {pins : List (Addr × Obj)} {σ : St} {H : Hp} {s : Shared} {a : Addr} {y : V} {u : Value} {A : Around} {E : Value → Shared → Prop}
end
end L2
namespace L2
open PySem PySem.Spec PyProof.Rows
section
variable {prog : Program} {w : World} {A : Around} {E : Value → Shared → Prop}
end
section
variable {X : Cx}
end
end L2
namespace L2
open PySem PySem.Spec PyProof.Rows
section
variable {X : Cx} {pins : List (Addr × Obj)} {σ : St} {H : Hp} {s : Shared} {h' : Heap}
/-- several records of ours have turned -/
theorem Inv.turnedL {t' : Nat} {ch : List Addr} (I : Inv X pins σ H s) (k : ∀ b o, b ∉ ch → s.heap.get? b = some o → h'.get? b = some o) (hf : ∀ b ∈ ch, FpOk X pins H b) : Inv X pins σ H { s with heap := h', toks := t' } := by
  have nit : ∀ b u, H b = some u → b ∉ ch := fun b u e z => by
    have q := (hf b z).1
    rw [q] at e; cases e
  refine I.step (g' := s.gens) (d' := s.drawn) (ch := ch) (fun b hb => ⟨(hf b hb).2.2.2.1, (hf b hb).2.1, (hf b hb).2.2.2.2.1, (hf b hb).2.2.2.2.2⟩) (fun b o _ _ hc e _ => k b o hc e) (fun b o _ _ hc e _ => ⟨o.slots, k b o hc e⟩)
    (fun _ _ _ _ n => n) (fun b o hc e => ⟨o, k b o hc e⟩) (fun _ _ e => e) (fun _ _ _ e => e) (fun b ps e => ⟨#[], by rw [e]; simp⟩) (fun m hm => ?_) (fun b u e => ?_) I.bare
  · obtain ⟨o, es, ep, ho, r⟩ := hm
    exact ⟨o, es, ep, k _ o (fun z => (hf _ z).2.1 rfl) ho, r⟩
  · refine (I.hok b u e).stay (fun c v hc q => k c v ?_ q) (fun _ q => q) fun _ _ q => q
    rcases hc with z | z
    · rw [z]; exact nit b u e
    · exact nit c _ z
/-- .. and one new object is laid -/
theorem Inv.turnedNew {t' : Nat} {ch : List Addr} {T : Addr} {ob : HO} (I : Inv X pins σ H s) (k : ∀ b o, b ∉ ch → s.heap.get? b = some o → h'.get? b = some o) (hf : ∀ b ∈ ch, FpOk X pins H b) (hT : s.heap.objs.size ≤ T)
    (new : ObjOk X.prog X.w (upd H T ob) h' T ob) : Inv X pins σ (upd H T ob) { s with heap := h', toks := t' } := by
  have hn : H T = none := I.hok.fresh hT
  have nit : ∀ b u, H b = some u → b ∉ ch := fun b u e z => by
    have q := (hf b z).1
    rw [q] at e; cases e
  refine I.step (g' := s.gens) (d' := s.drawn) (ch := ch) (fun b hb => ⟨(hf b hb).2.2.2.1, (hf b hb).2.1, (hf b hb).2.2.2.2.1, (hf b hb).2.2.2.2.2⟩) (fun b o _ _ hc e _ => k b o hc e) (fun b o _ _ hc e _ => ⟨o.slots, k b o hc e⟩)
    (fun b o _ e n => ?_) (fun b o hc e => ⟨o, k b o hc e⟩) (fun b xs e => ?_) (fun b o u e => ?_) (fun b ps e => ⟨#[], ?_⟩) (fun m hm => ?_) (fun b u e => ?_) I.bare
  · rw [upd_ne (Nat.ne_of_lt (Nat.lt_of_lt_of_le (Heap.lt_size e) hT))]; exact n
  · rw [upd_ne (ne_of_none e hn)]; exact e
  · rw [upd_ne (ne_of_none e hn)]; exact e
  · rw [upd_ne (ne_of_none e hn), e]; simp
  · obtain ⟨o, es, ep, ho, r⟩ := hm
    exact ⟨o, es, ep, k _ o (fun z => (hf _ z).2.1 rfl) ho, r⟩
  · by_cases hb : b = T
    · subst hb
      rw [upd_same] at e
      cases e
      exact new
    · rw [upd_ne hb] at e
      refine (I.hok b u e).stay (fun c v hc q => k c v ?_ q) (fun c q => by rw [upd_ne (ne_of_none q hn)]; exact q) fun c xs q => by rw [upd_ne (ne_of_none q hn)]; exact q
      rcases hc with z | z
      · rw [z]; exact nit b u e
      · exact nit c _ z
/-! ### locking a thing while a statement runs -/
end
section
variable {X : Cx}
/-! ### one iterator just laid -/
theorem pi_one {tg : Expr} {pins : List (Addr × Obj)} {σ : St} {H : Hp} {s : Shared} {R : It → Hp → Prop} {J : It} {tn : Nat → Heap → Prop} {tk : Nat} (I : Inv X pins σ H s) (o : Obj)
    (T : Turn X.prog X.w X.K tg J [s.heap.objs.size] s.heap.objs.size tn) (st : tn 0 (s.heap.push o)) (q : R J H) : PIE X pins σ tg R (.ref s.heap.objs.size) { s with heap := s.heap.push o, toks := tk } := by
  refine ⟨s.heap.objs.size, [s.heap.objs.size], tn, J, H, rfl, I.kept fun b ob e => Heap.get?_push_of_some _ e, T, st, fun b hb => ?_, q⟩
  have e : b = s.heap.objs.size := by simpa using hb
  subst e
  exact I.fpOk (Nat.le_refl _) (I.hok.fresh (Nat.le_refl _))
end
/-! ### range with a step -/
/-- lo, lo + c, .. (n of them) -/
def Itc (lo c : Int) (n : Nat) : It := ⟨fun i _ => i < n, fun i H x H' => H' = H ∧ x = .int (lo + (i : Nat) * c), fun i _ => n ≤ i⟩
theorem turn_rangeC {P : Program} {w : World} {K : PySem.W.Frag} {tg : Expr} (it : Addr) (lo c : Int) (n : Nat) : Turn P w K tg (Itc lo c n) [it] it (fun i h => IsRangeIter h it (lo + (i : Nat) * c) ((n : Int) - (i : Nat)) c) where
  mem := by simp
  obj := fun i h st b hb => by
    have e : b = it := by simpa using hb
    subst e
    exact ⟨_, st, fun v z => nomatch z⟩
  keep := fun i h h' st k => k it (by simp) _ st
  item := by
    intro X hP hw hK hc i pins s σ H E I hf st hg
    subst hP hw hK
    obtain ⟨f0, f1, f2, f3, f4, f5⟩ := hf it (by simp)
    have W := Walks.range (prog := X.prog) (w := X.w) (I.ok.hd hc) it lo c n
    refine W.item i s _ _ hg st fun v h' tk hv st' kk => ?_
    obtain ⟨t, rfl⟩ := hv
    have I1 : Inv X pins σ H { s with heap := h', toks := tk } := I.turned (fun b o hb e => kk b o (by simpa using hb) e) f0 f1 f3 f4 f5
    exact ⟨_, rfl, go_of (s := { s with heap := h', toks := tk }) (n := "range_iterator") st' rfl rfl (by decide) ⟨.int (lo + (i : Nat) * c), H, I1, ⟨t, rfl⟩, ⟨rfl, rfl⟩, st', fun b hb => (hf b hb).1⟩⟩
  done := by
    intro X hP hw hK hc i pins s σ H E I hf st hg
    subst hP hw hK
    obtain ⟨f0, f1, f2, f3, f4, f5⟩ := hf it (by simp)
    exact wpAny_pyNext_range_end (I.ok.hd hc) st (by have : n ≤ i := hg; omega) fun h' eb => ⟨rfl, I.turned (t' := s.toks) (fun b o hb e => eb b o hb e) f0 f1 f3 f4 f5⟩
  self := fun A i s Q E st h => wpAny_pyIter_rangeiter st h
/-- range(i, j, c): small bounds, n items -/
def RgC (i j c : Int) (n : Nat) : Prop := c ≠ 0 ∧ c.natAbs < 1073741824 ∧ Builtin.Range.small i j c = true ∧ Builtin.Range.rangeSize i j c = n
theorem RgC.neg {i j : Int} (ha : -(2 ^ 62) ≤ i) (ha' : i < 2 ^ 62) (hb : -(2 ^ 62) ≤ j) (hb' : j < 2 ^ 62) : RgC i j (-1) (i - j).toNat :=
  ⟨by decide, by decide, PySem.W.small_down ha ha' hb hb', PySem.W.rangeSize_downNat i j⟩
def iRng3 (ta : TA) : TI := fun σ H R => ta σ H fun vs H1 => ∃ (i j c : Int) (n : Nat), vs = [.int i, .int j, .int c] ∧ RgC i j c n ∧ R (Itc i c n) H1
section
variable {X : Cx} {tg : Expr}
theorem pi_range3 {a b c : Expr} {ta : TA} {p pos : Pos} (hg : Gl X "range") (hm : X.mg "range" = none) (ha : PA X [a, b, c] ta)
    (hs : starEach [a, b, c] X.env = (false, eval a X.env) :: starEach [b, c] X.env := by rfl) (hpl : (backTo pos (starEach [b, c] X.env)).any (·.1) = false := by rfl) :
    PI X tg (.Call (.Name "range" p) [a, b, c] [] pos) (iRng3 ta) := by
  intro pins s σ H R I h
  refine Call_ (ld_blt I hg hm boot_range (PyProof.Rows.callWith_type1 (thn (ha pos pins s σ H _ I h) fun us s1 ⟨vs, H1, I1, r1, q1⟩ => ?_) hs hpl))
  obtain ⟨i, j, k, n, e, ⟨c0, c1, c2, c3⟩, q⟩ := q1
  subst e
  cases r1 with
  | cons r rr =>
    cases rr with
    | cons r' rr =>
      cases rr with
      | cons r'' rr =>
        cases rr
        obtain ⟨t, rfl⟩ := r
        obtain ⟨t', rfl⟩ := r'
        obtain ⟨t'', rfl⟩ := r''
        refine call_range_3 c0 ?_ (.inl (PyProof.noPylong_small c1))
        refine wpAny_pyIter_range (IsRange.new ..) c2 ?_
        have I2 : Inv X pins σ H1 { s1 with heap := s1.heap.push { cls := .type "range", data := .fields #[.int i t, .int j t', .int k t''] } } := I1.kept (t' := s1.toks) fun b o e => Heap.get?_push_of_some _ e
        refine pi_one (tk := s1.toks) I2 _ (turn_rangeC _ i k n) ?_ q
        have e1 : i + ((0 : Nat) : Int) * k = i := by simp
        have e2 : (n : Int) - ((0 : Nat) : Int) = Builtin.Range.rangeSize i j k := by rw [c3]; simp
        show IsRangeIter _ _ (i + ((0 : Nat) : Int) * k) ((n : Int) - ((0 : Nat) : Int)) k
        rw [e1, e2]
        exact Heap.get?_push_size _ rfl
end
/-- the turns of a step range, for the for loop -/
theorem for_rangeC {lo c : Int} {n : Nat} {g : TG} {tb : TS} {D : Ends} {σ : St} {H : Hp} (Pv : Nat → St → Hp → Prop) (h0 : Pv 0 σ H)
    (hs : ∀ i σ H, i < n → Pv i σ H → g (.int (lo + (i : Nat) * c)) σ H fun σ2 H2 => tb { D with nx := Pv (i + 1), ct := Pv (i + 1), bk := D.nx } σ2 H2) (hd : ∀ σ H, Pv n σ H → D.nx σ H) :
    ∃ W : Nat → Nat → St → Hp → Prop, (∃ m, W 0 m σ H) ∧ ∀ i m σ H, W i m σ H →
      ((Itc lo c n).stop i H ∧ D.nx σ H) ∨ ((Itc lo c n).go i H ∧ ∃ N : St → Hp → Prop, (∀ σ' H', N σ' H' → ∃ m', m' < m ∧ W (i + 1) m' σ' H') ∧ ∀ x H', (Itc lo c n).yld i H x H' → g x σ H' fun σ2 H2 => tb { D with nx := N, ct := N, bk := D.nx } σ2 H2) := by
  refine ⟨fun i m σ H => m = n - i ∧ i ≤ n ∧ Pv i σ H, ⟨n, by simp, Nat.zero_le _, h0⟩, ?_⟩
  rintro i m σ H ⟨rfl, hi, p⟩
  by_cases hlt : i < n
  · refine .inr ⟨hlt, Pv (i + 1), fun σ' H' p' => ⟨n - (i + 1), by omega, rfl, hlt, p'⟩, fun x H' y => ?_⟩
    obtain ⟨e, y⟩ := y
    subst e y
    exact hs i σ _ hlt p
  · have e : i = n := by omega
    subst e
    exact .inl ⟨Nat.le_refl _, hd σ H p⟩
/-! ### reversed(list) -/
section
variable {X : Cx} {tg : Expr}
end
/-! ### a str -/
/-! ### a dict's keys: any dict's entries -/
section
variable {prog : Program} {w : World} {A : Around} {E : Value → Shared → Prop} {s : Shared}
end
/-! ### a locked dict -/
section
variable {X : Cx} {pins : List (Addr × Obj)} {σ : St} {H : Hp} {s : Shared} {d : Addr} {o : Obj}
end
section
variable {P : Program} {w : World} {K : PySem.W.Frag} {tg : Expr} {d : Addr} {o : Obj} {es : Array DictEntry} {ep : Nat}
end
/-! ### for k in d, d.keys(), d.values(), d.items() -/
section
variable {X : Cx} {tg e : Expr} {td : TE} {apos cpos : Pos}
end
/-! ### enumerate(list) -/
/-- the list at a as it stands at each turn, each item in a new pair -/
def Ite (K : PySem.W.Frag) (a : Addr) : It :=
  ⟨fun i H => ∃ (xs : List V) (x : V), SqL K H a xs ∧ xs[i]? = some x, fun i H v H' => ∃ T x, v = .ref T ∧ H T = none ∧ H' = upd H T (.tup [.int (i : Nat), x]) ∧ ∀ xs, SqL K H a xs → xs[i]? = some x, fun i H => ∃ xs : List V, SqL K H a xs ∧ xs.length ≤ i⟩
theorem turn_enum {P : Program} {w : World} {K : PySem.W.Frag} {elts : List Expr} {kk : Nat} {tpos : Pos} (a e it : Addr) :
    Turn P w K (.Tuple elts kk tpos) (Ite K a) [e, it] e (fun i h => (∃ old, IsEnum h e it ((i : Nat) : Int) old) ∧ h.IsListIter it a i ∧ e ≠ it) where
  mem := by simp
  obj := fun i h st b hb => by
    obtain ⟨⟨old, he⟩, ⟨o, ho, hc, hd⟩, _⟩ := st
    have e' : b = e ∨ b = it := by simpa using hb
    rcases e' with z | z
    · rw [z]; exact ⟨_, he, fun v q => nomatch q⟩
    · rw [z]; exact ⟨o, ho, fun v q => by rw [hd] at q; cases q⟩
  keep := fun i h h' st k => let ⟨⟨old, he⟩, hi, hne⟩ := st; ⟨⟨old, k e (by simp) _ he⟩, hi.at fun o q => k it (by simp) o q, hne⟩
  item := by
    intro X hP hw hK hc i pins s σ H E I hf st hg
    subst hP hw hK
    obtain ⟨⟨old, he⟩, hit, hne⟩ := st
    obtain ⟨xs, x, hq, hx⟩ := hg
    obtain ⟨its, rv, p, hz⟩ := I.list hq
    obtain ⟨u, hu, ru⟩ := rv.get hx
    have hel : e < s.heap.objs.size := Heap.lt_size he
    have hil : it < s.heap.objs.size := by obtain ⟨_, q, _⟩ := hit; exact Heap.lt_size q
    refine wpAny_pyNext_enum_item he hit p.isList (x := u) (by simpa using hu) hne fun h' ho hit' hT hsz hk => ?_
    refine ⟨_, rfl, wpAny_letOwnedTupleGo_enum (s := { s with heap := h', toks := s.toks + 1 }) ho fun h'' he' sb => ?_⟩
    have hT2 : h''.get? s.heap.objs.size = some { cls := .type "tuple", data := .seq #[.int i s.toks, u] } := (sb.2 _ (Nat.ne_of_gt hel)).trans hT
    have new : ObjOk X.prog X.w (upd H s.heap.objs.size (.tup [.int (i : Nat), x])) h'' s.heap.objs.size (.tup [.int (i : Nat), x]) :=
      ⟨by show 2 ≤ sizeLine; decide, [.int i s.toks, u], .cons ⟨_, rfl⟩ (.cons ru .nil), ⟨_, hT2, rfl, _, rfl⟩⟩
    have I1 : Inv X pins σ (upd H s.heap.objs.size (.tup [.int (i : Nat), x])) { s with heap := h'', toks := s.toks + 1 } :=
      I.turnedNew (ch := [e, it]) (fun b ob hb q => (sb.2 b (fun z => hb (by simp [z]))).trans (hk b ob (fun z => hb (by simp [z])) (fun z => hb (by simp [z])) q)) hf (Nat.le_refl _) new
    refine ⟨.ref s.heap.objs.size, _, I1, rfl, ⟨_, x, rfl, I.hok.fresh (Nat.le_refl _), rfl, fun ys hy => by rw [I.list_inj hy hq]; exact hx⟩, ⟨⟨u, ?_⟩, hit'.at fun o q => (sb.2 it (Ne.symm hne)).trans q, hne⟩, fun b hb => ?_⟩
    · have e1 : ((i + 1 : Nat) : Int) = (i : Int) + 1 := by omega
      rw [e1]; exact he'
    · have hb' : b < s.heap.objs.size := by
        have e' : b = e ∨ b = it := by simpa using hb
        rcases e' with z | z
        · rw [z]; exact hel
        · rw [z]; exact hil
      rw [upd_ne (Nat.ne_of_lt hb')]
      exact (hf b hb).1
  done := by
    intro X hP hw hK hc i pins s σ H E I hf st hg
    subst hP hw hK
    obtain ⟨⟨old, he⟩, hit, hne⟩ := st
    obtain ⟨xs, hq, hx⟩ := hg
    obtain ⟨its, rv, p, hz⟩ := I.list hq
    obtain ⟨f0, f1, f2, f3, f4, f5⟩ := hf it (by simp)
    have hl := rv.length
    exact wpAny_pyNext_enum_end (I.ok.hd hc) he hit p.isList (by simp; omega) fun h' eb => ⟨rfl, I.turned (t' := s.toks) (fun b o hb q => eb b o hb q) f0 f1 f3 f4 f5⟩
  self := fun A i s Q E st h => let ⟨⟨_, he⟩, _⟩ := st; wpAny_pyIter_enum he h
def iEnum (K : PySem.W.Frag) (ta : TA) : TI := fun σ H R => ta σ H fun vs H1 => ∃ a xs, vs = [.ref a] ∧ SqL K H1 a xs ∧ R (Ite K a) H1
theorem pi_enum {X : Cx} {e : Expr} {ta : TA} {p pos tpos : Pos} {elts : List Expr} {kk : Nat} (hg : Gl X "enumerate") (hm : X.mg "enumerate" = none) (ha : PA X [e] ta) (hs : starEach [e] X.env = [(false, eval e X.env)] := by rfl) :
    PI X (.Tuple elts kk tpos) (.Call (.Name "enumerate" p) [e] [] pos) (iEnum X.K ta) := by
  intro pins s σ H R I h
  refine Call_ (ld_blt I hg hm boot_enumerate (PyProof.Rows.callWith_type1 (thn (ha pos pins s σ H _ I h) fun us s1 ⟨vs, H1, I1, r1, q1⟩ => ?_) hs rfl))
  obtain ⟨a, xs, ex, hq, q⟩ := q1
  subst ex
  cases r1 with
  | cons r rr =>
    cases rr
    cases r
    obtain ⟨its, rv, p', hz⟩ := I1.list hq
    refine call_enumerate_list p'.isList fun h' he hit hsz hk => wpAny_pyIter_enum he ?_
    have I2 : Inv X pins σ H1 { s1 with heap := h' } := I1.kept (t' := s1.toks) hk
    refine ⟨s1.heap.objs.size + 1, [s1.heap.objs.size + 1, s1.heap.objs.size], _, _, H1, rfl, I2, turn_enum a (s1.heap.objs.size + 1) s1.heap.objs.size, ⟨⟨.none, he⟩, hit, Nat.succ_ne_self _⟩, fun b hb => ?_, q⟩
    have e' : b = s1.heap.objs.size + 1 ∨ b = s1.heap.objs.size := by simpa using hb
    have hle : s1.heap.objs.size ≤ b := by
      rcases e' with z | z
      · rw [z]; exact Nat.le_add_right _ _
      · rw [z]; exact Nat.le_refl _
    exact I1.fpOk hle (I1.hok.fresh hle)
/-! ### zip(list, list) -/
theorem boot_zip5 : bootBuiltins "zip" = some (.type "zip") := by decide +kernel
/-- the lists at a and b as they stand at each turn, the items in new pairs -/
def Itz (K : PySem.W.Frag) (a b : Addr) : It :=
  ⟨fun i H => ∃ (xs ys : List V) (x y : V), SqL K H a xs ∧ SqL K H b ys ∧ xs[i]? = some x ∧ ys[i]? = some y,
    fun i H v H' => ∃ T x y, v = .ref T ∧ H T = none ∧ H' = upd H T (.tup [x, y]) ∧ (∀ xs, SqL K H a xs → xs[i]? = some x) ∧ ∀ ys, SqL K H b ys → ys[i]? = some y,
    fun i H => ∃ xs ys : List V, SqL K H a xs ∧ SqL K H b ys ∧ (xs.length ≤ i ∨ ys.length ≤ i)⟩
theorem turn_zip {P : Program} {w : World} {K : PySem.W.Frag} {elts : List Expr} {kk : Nat} {tpos : Pos} {a b z TI TO i1 i2 : Addr} (D : ZipApart z TI TO i1 i2 a b) :
    Turn P w K (.Tuple elts kk tpos) (Itz K a b) [z, TI, TO, i1, i2] z (fun i h => IsZip h z TI TO .none ∧ IsPair h TI (.ref i1) (.ref i2) ∧ (∃ x y, IsPair h TO x y) ∧ h.IsListIter i1 a i ∧ h.IsListIter i2 b i) where
  mem := by simp
  obj := fun i h st c hc => by
    obtain ⟨hz, hTI, ⟨x, y, hTO⟩, ⟨o1, e1, _, d1⟩, ⟨o2, e2, _, d2⟩⟩ := st
    have e' : c = z ∨ c = TI ∨ c = TO ∨ c = i1 ∨ c = i2 := by simpa using hc
    rcases e' with q | q | q | q | q
    · rw [q]; exact ⟨_, hz, fun v q => nomatch q⟩
    · rw [q]; exact ⟨_, hTI, fun v q => nomatch q⟩
    · rw [q]; exact ⟨_, hTO, fun v q => nomatch q⟩
    · rw [q]; exact ⟨o1, e1, fun v q => by rw [d1] at q; cases q⟩
    · rw [q]; exact ⟨o2, e2, fun v q => by rw [d2] at q; cases q⟩
  keep := fun i h h' st k => by
    obtain ⟨hz, hTI, ⟨x, y, hTO⟩, h1, h2⟩ := st
    exact ⟨k z (by simp) _ hz, k TI (by simp) _ hTI, ⟨x, y, k TO (by simp) _ hTO⟩, h1.at fun o q => k i1 (by simp) o q, h2.at fun o q => k i2 (by simp) o q⟩
  item := by
    intro X hP hw hK hc i pins s σ H E I hf st hg
    subst hP hw hK
    obtain ⟨hz, hTI, ⟨x0, y0, hTO⟩, h1, h2⟩ := st
    obtain ⟨xs, ys, x, y, hqx, hqy, hx, hy⟩ := hg
    obtain ⟨its, rv, p, _⟩ := I.list hqx
    obtain ⟨its2, rv2, p2, _⟩ := I.list hqy
    obtain ⟨u, hu, ru⟩ := rv.get hx
    obtain ⟨u2, hu2, ru2⟩ := rv2.get hy
    have hzl : z < s.heap.objs.size := Heap.lt_size hz
    refine wpAny_pyNext_zip_item D hz hTI hTO h1 h2 p.isList p2.isList (x := u) (y := u2) (by simpa using hu) (by simpa using hu2) fun h' z' TO' h1' h2' hT hsz hk => ?_
    refine ⟨_, rfl, wpAny_letOwnedTupleGo_zip (s := { s with heap := h' }) z' fun h'' z'' sb => ?_⟩
    have hT2 : h''.get? s.heap.objs.size = some { cls := .type "tuple", data := .seq #[u, u2] } := (sb.2 _ (Nat.ne_of_gt hzl)).trans hT
    have new : ObjOk X.prog X.w (upd H s.heap.objs.size (.tup [x, y])) h'' s.heap.objs.size (.tup [x, y]) :=
      ⟨by show 2 ≤ sizeLine; decide, [u, u2], .cons ru (.cons ru2 .nil), ⟨_, hT2, rfl, _, rfl⟩⟩
    have I1 : Inv X pins σ (upd H s.heap.objs.size (.tup [x, y])) { s with heap := h'' } :=
      I.turnedNew (t' := s.toks) (ch := [z, TI, TO, i1, i2]) (fun c o hb q => (sb.2 c (fun q' => hb (by simp [q']))).trans (hk c o (fun q' => hb (by simp [q'])) (fun q' => hb (by simp [q'])) (fun q' => hb (by simp [q'])) (fun q' => hb (by simp [q'])) q)) hf (Nat.le_refl _) new
    refine ⟨.ref s.heap.objs.size, _, I1, rfl, ⟨_, x, y, rfl, I.hok.fresh (Nat.le_refl _), rfl, fun l hl => by rw [I.list_inj hl hqx]; exact hx, fun l hl => by rw [I.list_inj hl hqy]; exact hy⟩, ⟨z'', ?_, ⟨u, u2, ?_⟩, ?_, ?_⟩, fun c hcm => ?_⟩
    · exact (sb.2 _ D.TIz).trans (hk _ _ D.TIz D.TITO D.TIi1 D.TIi2 hTI)
    · exact (sb.2 _ D.TOz).trans TO'
    · exact h1'.at fun o q => (sb.2 _ D.i1z).trans q
    · exact h2'.at fun o q => (sb.2 _ D.i2z).trans q
    · have hlt : c < s.heap.objs.size := by
        have e' : c = z ∨ c = TI ∨ c = TO ∨ c = i1 ∨ c = i2 := by simpa using hcm
        rcases e' with q | q | q | q | q
        · rw [q]; exact hzl
        · rw [q]; exact Heap.lt_size hTI
        · rw [q]; exact Heap.lt_size hTO
        · rw [q]; obtain ⟨_, e1, _⟩ := h1; exact Heap.lt_size e1
        · rw [q]; obtain ⟨_, e2, _⟩ := h2; exact Heap.lt_size e2
      rw [upd_ne (Nat.ne_of_lt hlt)]
      exact (hf c hcm).1
  done := by
    intro X hP hw hK hc i pins s σ H E I hf st hg
    subst hP hw hK
    obtain ⟨hz, hTI, ⟨x0, y0, hTO⟩, h1, h2⟩ := st
    obtain ⟨xs, ys, hqx, hqy, hend⟩ := hg
    obtain ⟨its, rv, p, _⟩ := I.list hqx
    obtain ⟨its2, rv2, p2, _⟩ := I.list hqy
    have l1 := rv.length
    have l2 := rv2.length
    have he : its.toArray[i]? = none ∨ its2.toArray[i]? = none := by
      rcases hend with q | q
      · exact .inl (by simp; omega)
      · exact .inr (by simp; omega)
    exact wpAny_pyNext_zip_end (I.ok.hd hc) D hz hTI hTO h1 h2 p.isList p2.isList he fun h' hk => ⟨rfl, I.turnedL (t' := s.toks) (ch := [z, TI, TO, i1, i2]) (fun c o hb q =>
      hk c o (fun q' => hb (by simp [q'])) (fun q' => hb (by simp [q'])) (fun q' => hb (by simp [q'])) (fun q' => hb (by simp [q'])) q) hf⟩
  self := fun A i s Q E st h => wpAny_pyIter_zip st.1 h
def iZip (K : PySem.W.Frag) (ta : TA) : TI := fun σ H R => ta σ H fun vs H1 => ∃ a b xs ys, vs = [.ref a, .ref b] ∧ SqL K H1 a xs ∧ SqL K H1 b ys ∧ R (Itz K a b) H1
theorem pi_zip {X : Cx} {e e2 : Expr} {ta : TA} {p pos tpos : Pos} {elts : List Expr} {kk : Nat} (hg : Gl X "zip") (hm : X.mg "zip" = none) (ha : PA X [e, e2] ta)
    (hs : starEach [e, e2] X.env = (false, eval e X.env) :: starEach [e2] X.env := by rfl) (hpl : (backTo pos (starEach [e2] X.env)).any (·.1) = false := by rfl) :
    PI X (.Tuple elts kk tpos) (.Call (.Name "zip" p) [e, e2] [] pos) (iZip X.K ta) := by
  intro pins s σ H R I h
  refine Call_ (ld_blt I hg hm boot_zip5 (PyProof.Rows.callWith_type1 (thn (ha pos pins s σ H _ I h) fun us s1 ⟨vs, H1, I1, r1, q1⟩ => ?_) hs hpl))
  obtain ⟨a, b, xs, ys, ex, hqx, hqy, q⟩ := q1
  subst ex
  cases r1 with
  | cons r rr =>
    cases rr with
    | cons r' rr =>
      cases rr
      cases r
      cases r'
      obtain ⟨its, rv, p1, _⟩ := I1.list hqx
      obtain ⟨its2, rv2, p2, _⟩ := I1.list hqy
      have la : a < s1.heap.objs.size := p1.lt
      have lb : b < s1.heap.objs.size := p2.lt
      refine call_zip_2 p1.isList p2.isList fun h' hz hTI hTO h1 h2 hsz hk => wpAny_pyIter_zip hz ?_
      have I2 : Inv X pins σ H1 { s1 with heap := h' } := I1.kept (t' := s1.toks) hk
      refine ⟨s1.heap.objs.size + 4, [s1.heap.objs.size + 4, s1.heap.objs.size + 2, s1.heap.objs.size + 3, s1.heap.objs.size, s1.heap.objs.size + 1], _, _, H1, rfl, I2, turn_zip (PySem.W.ktu_apart s1.heap.objs.size a b la lb), ⟨hz, hTI, ⟨_, _, hTO⟩, h1, h2⟩, fun c hcm => ?_, q⟩
      have e' : c = s1.heap.objs.size + 4 ∨ c = s1.heap.objs.size + 2 ∨ c = s1.heap.objs.size + 3 ∨ c = s1.heap.objs.size ∨ c = s1.heap.objs.size + 1 := by simpa using hcm
      have hle : s1.heap.objs.size ≤ c := by
        rcases e' with z | z | z | z | z
        · rw [z]; exact Nat.le_add_right _ _
        · rw [z]; exact Nat.le_add_right _ _
        · rw [z]; exact Nat.le_add_right _ _
        · rw [z]; exact Nat.le_refl _
        · rw [z]; exact Nat.le_add_right _ _
      exact I1.fpOk hle (I1.hok.fresh hle)
end L2
section 
namespace Bits
open PySem PyProof.Rows
end Bits
end 
section 
namespace TL
open PySem PySem.Builtin PySem.Builtin.Str PySem.StrLaws
/-! ### the list functions -/
/-! ### the model's split and partition are these -/
/-! ### computing spl and par -/
/-! ### digits -/
/-! ### words: x.split() -/
end TL
end 
namespace L2
open PySem PySem.Spec PyProof.Rows
section
variable {X : Cx} {pins : List (Addr × Obj)} {σ : St} {H : Hp} {s : Shared} {Q : VK}
end
section
variable {X : Cx}
/-! ### of a text alone -/
/-! ### of a text and a text -/
end
section
variable {X : Cx} {o e : Expr} {to te : TE}
end
end L2
namespace L2
open PySem PySem.Spec PyProof.Rows
section
variable {X : Cx}
end
/-! ### slices of a text -/
end L2
namespace Att
open PySem PySem.W PySem.Calls PyProof.Rows
/-! ### the script -/
/-! ### the attachment: holds_open's last premise (the goal 'hc' behind k_head) from a wpAny of the law's body -/
/-! ### rules over ANY heap (no ledger) from facts about the written part K: the library's own take a ledger (News) for what they write -/
section
variable {prog : Program} {w : World} {A : Around} {E : Value → Shared → Prop} {s : Shared} {K : Frag}
/-! the whole heap as the ledger: makes every rule that writes through a ledger a rule over any heap -/
end
end Att
namespace L2
open PySem PySem.Spec PyProof.Rows
end L2
namespace L2
open PySem PySem.Spec PyProof.Rows
end L2
/- THE LAST THEOREM (shape; LID, My.* are yours):
   My.Adr: a structure of the addresses that your layer names (classes, functions); My.Txt K t: a structure (Prop) of the equations over K;
   My.txt_mk : {K} {implicit addresses ..} (e1 : nsIn K mainGlobals "law" = some (some (.ref f))) (e2 : K.lookup f = some ⟨oc, od, .func (fnOf "law" "law" params body scope dV kV doc pm an cdv ct), sl⟩) (e3 : codeIn K cdv "law" = true) .. : ∃ t, My.Txt K t
set_option maxRecDepth 100000 in
set_option maxHeartbeats 0 in
theorem PySem.Challenge.cw_LID_holds : PySem.Challenge.rw_LID.Holds := by
  w_on; o_law; k_head; (case hw => w_witness2)
  k_fill
  refine L2.walk_of (l := PySem.Challenge.rw_LID) (n := 63) (k := 40) (x := "script") (CX := fun w => ..) (sp := fun _ => My.sp_law) rfl (by decide) rfl ⟨rfl, by decide, by decide⟩ (fun w h Y => PySem.W.kIn_of Y) ?F ?S ?C
  case F =>
    intro w mg fa h KX G hmg
    have T : ∃ t, My.Txt (L2.KOf KX) t := by
      dsimp only [L2.KOf]                          -- K must stand as «<heap const> w.params» for k_is
      refine' My.txt_mk ?e1 ?e2 ?e3 ..
      (case e1 => PySem.W.k_is)                    -- in the order: a name -> its address -> its object -> its parts
      (case e2 => PySem.W.k_is)
      ..
    obtain ⟨t, T⟩ := T
    have e0 := hmg.symm.trans (PySem.W.mg_of KX G T.law)
    cases e0                                       -- fa is the law's own address
    exact ⟨_, fun s u => .of_eq rfl, fun base kb nb => My.law_fn T kb nb⟩     -- if «.of_eq rfl» comes too early: refine' ⟨_, ?b, fun base kb nb => My.law_fn T kb nb⟩; exact fun s u => .of_eq rfl
  case S => exact fun w H a ns hl hO hS => ..
  case C => exact ..
(the tactic k_is has no namespace: write k_is) -/
section
set_option Elab.async false
set_option linter.all false
set_option maxRecDepth 100000
set_option maxHeartbeats 2000000
namespace L2
open PySem PySem.Spec PyProof.Rows
open PySem.W (WData Codec OpenSpec Well WellAll ReadsW ReadsAllW)
/-! ### an answer as data -/
mutual
/-- x stands for the datum d, lists and tuples all the way -/
inductive Dw (K : PySem.W.Frag) (H : Hp) : V → WData → Prop
  | non : Dw K H .non .none
  | bl (b : Bool) : Dw K H (.bl b) (.bool b)
  | int (i : Int) : Dw K H (.int i) (.int i)
  | str (x : Str) : Dw K H (.str x) (.str x)
  | byt (b : Array UInt8) : Dw K H (.byt b) (.bytes b.toList)
  | lst {a : Addr} {xs : List V} {ds : List WData} : SqL K H a xs → DwAll K H xs ds → Dw K H (.ref a) (.list ds)
  | tup {a : Addr} {xs : List V} {ds : List WData} : SqT K H a xs → DwAll K H xs ds → Dw K H (.ref a) (.tuple ds)
inductive DwAll (K : PySem.W.Frag) (H : Hp) : List V → List WData → Prop
  | nil : DwAll K H [] []
  | cons {v : V} {vs : List V} {d : WData} {ds : List WData} : Dw K H v d → DwAll K H vs ds → DwAll K H (v :: vs) (d :: ds)
end
theorem dw_ints {K : PySem.W.Frag} {H : Hp} : ∀ ns : List Int, DwAll K H (ns.map V.int) (ns.map WData.int)
  | [] => .nil
  | n :: r => .cons (.int n) (dw_ints r)
theorem ints_dw {K : PySem.W.Frag} {H : Hp} : ∀ (ns : List Int) (xs : List V), DwAll K H xs (ns.map WData.int) → xs = ns.map V.int
  | [], xs, h => by
    cases h
    rfl
  | n :: r, xs, h => by
    cases h with
    | cons h1 h2 =>
      cases h1
      rw [ints_dw r _ h2] <;> rfl
section
variable {P : Program} {w : World} {K : PySem.W.Frag} {H : Hp} {h : Heap} {R : PySem.W.WRecords} {cl : Str → Option Addr}
theorem sqL_at {a : Addr} {xs : List V} (hok : HOk P w H h) (KX : K.In h) (q : SqL K H a xs) : ∃ (its : List Value) (o : Obj) (n : Nat), Vals xs its ∧ h.get? a = some o ∧ o.cls = .type "list" ∧ o.data = .seq its.toArray n := by
  rcases q with q | ⟨o, its, n, e, hc, _, hd, _, hv⟩
  · obtain ⟨_, its, n, hv, e⟩ := (show ObjOk P w H h a (.lst xs) from q.ok hok)
    exact ⟨its, _, n, hv, e, rfl, rfl⟩
  · exact ⟨its.toList, o, n, hv, KX _ _ e, hc, by simp [hd]⟩
theorem sqT_at {a : Addr} {xs : List V} (hok : HOk P w H h) (KX : K.In h) (q : SqT K H a xs) : ∃ (its : List Value) (o : Obj) (n : Nat), Vals xs its ∧ h.get? a = some o ∧ o.cls = .type "tuple" ∧ o.data = .seq its.toArray n := by
  rcases q with q | ⟨o, its, n, e, hc, hd, _, hv⟩
  · obtain ⟨_, its, hv, o, e, hc, n, hd⟩ := (show ObjOk P w H h a (.tup xs) from q.ok hok)
    exact ⟨its, o, n, hv, e, hc, hd⟩
  · exact ⟨its.toList, o, n, hv, KX _ _ e, hc, by simp [hd]⟩
mutual
theorem Dw.reads (hok : HOk P w H h) (KX : K.In h) : ∀ (d : WData) (v : V) (u : Value), Dw K H v d → RelV v u → ∃ as, ReadsW R cl h u d as
  | .none, _, _, x, r => by
    cases x
    cases r
    exact ⟨_, ReadsW.none⟩
  | .bool b, _, _, x, r => by
    cases x
    cases r
    exact ⟨_, ReadsW.bool b⟩
  | .int i, _, _, x, r => by
    cases x
    obtain ⟨t, rfl⟩ := r
    exact ⟨_, ReadsW.int i t⟩
  | .str s, _, _, x, r => by
    cases x
    obtain ⟨t, rfl⟩ := r
    exact ⟨_, ReadsW.str s t⟩
  | .bytes b, _, _, x, r => by
    cases x
    obtain ⟨t, rfl⟩ := r
    exact ⟨_, ReadsW.bytes _ t⟩
  | .list ds, _, _, x, r => by
    cases x with
    | lst hs ha =>
      cases r
      obtain ⟨its, o, n, rv, ho, hc, hd⟩ := sqL_at hok KX hs
      obtain ⟨as, hr⟩ := Dw.readsAll hok KX ds _ its ha rv
      exact ⟨_, ReadsW.list ho hc hd hr⟩
  | .tuple ds, _, _, x, r => by
    cases x with
    | tup hs ha =>
      cases r
      obtain ⟨its, o, n, rv, ho, hc, hd⟩ := sqT_at hok KX hs
      obtain ⟨as, hr⟩ := Dw.readsAll hok KX ds _ its ha rv
      exact ⟨_, ReadsW.tuple ho hc hd hr⟩
  | .float _, _, _, x, _ => by cases x
  | .dict _, _, _, x, _ => by cases x
  | .bytearray _, _, _, x, _ => by cases x
  | .set _, _, _, x, _ => by cases x
  | .frozenset _, _, _, x, _ => by cases x
  | .obj _ _, _, _, x, _ => by cases x
theorem Dw.readsAll (hok : HOk P w H h) (KX : K.In h) : ∀ (ds : List WData) (vs : List V) (us : List Value), DwAll K H vs ds → Vals vs us → ∃ as, ReadsAllW R cl h us ds as
  | [], _, _, x, r => by
    cases x
    cases r
    exact ⟨_, ReadsAllW.nil⟩
  | d :: ds, _, _, x, r => by
    cases x with
    | cons h1 h2 =>
      cases r with
      | cons r1 r2 =>
        obtain ⟨as, q1⟩ := Dw.reads hok KX d _ _ h1 r1
        obtain ⟨bs, q2⟩ := Dw.readsAll hok KX ds _ _ h2 r2
        exact ⟨_, ReadsAllW.cons q1 q2⟩
end
end
/-! ### the arguments -/
mutual
/-- data that a codec tells -/
def plW : WData → Bool
  | .none => true
  | .bool _ => true
  | .int _ => true
  | .str _ => true
  | .bytes _ => true
  | .list xs => plWs xs
  | .tuple xs => plWs xs
  | _ => false
def plWs : List WData → Bool
  | [] => true
  | x :: r => plW x && plWs r
end
theorem plWs_map {α : Type} {f : α → WData} (h : ∀ a, plW (f a) = true) : ∀ l : List α, plWs (l.map f) = true
  | [] => rfl
  | x :: r => by
    show (plW (f x) && plWs (r.map f)) = true
    rw [h x, plWs_map h r] <;> rfl
theorem pl_enc : ∀ (c : Codec) (a : c.denote), plW (c.enc a) = true
  | .unit, _ => rfl
  | .bool, _ => rfl
  | .int _ _, _ => rfl
  | .nat _ _, _ => rfl
  | .u8, _ => rfl
  | .bytes _ _, _ => rfl
  | .text _ _ _ _, _ => rfl
  | .list _ _ c, a => plWs_map (fun x => pl_enc c x) a
  | .pair c d, a => by
    show (plW (c.enc a.1) && (plW (d.enc a.2) && true)) = true
    rw [pl_enc c a.1, pl_enc d a.2] <;> rfl
  | .triple c d e, a => by
    show (plW (c.enc a.1) && (plW (d.enc a.2.1) && (plW (e.enc a.2.2) && true))) = true
    rw [pl_enc c a.1, pl_enc d a.2.1, pl_enc e a.2.2] <;> rfl
  | .option c, none => rfl
  | .option c, some x => pl_enc c x
theorem pl_encAll : ∀ (cs : List Codec) (a : Codec.denoteAll cs), plWs (Codec.encAll cs a) = true
  | [], _ => rfl
  | c :: cs, a => by
    show (plW (c.enc a.1) && plWs (Codec.encAll cs a.2)) = true
    rw [pl_enc c a.1, pl_encAll cs a.2] <;> rfl
theorem weight_mem : ∀ {xs : List WData} {d : WData}, d ∈ xs → d.weight ≤ WData.weightAll xs
  | [], d, h => absurd h (by simp)
  | x :: r, d, h => by
    show d.weight ≤ x.weight + 1 + WData.weightAll r
    rcases List.mem_cons.mp h with e | m
    · rw [e]
      omega
    · have z := weight_mem m
      omega
def toV : Value → V
  | .none => .non
  | .bool b => .bl b
  | .int i _ => .int i
  | .str x _ => .str x
  | .bytes b _ => .byt b
  | .ref a => .ref a
  | _ => .non
/-- a value of the arguments, its objects among A -/
def OkU (A : List Addr) : Value → Prop
  | .none => True
  | .bool _ => True
  | .int _ _ => True
  | .str _ _ => True
  | .bytes _ _ => True
  | .ref a => a ∈ A
  | _ => False
theorem OkU.mono {A B : List Addr} (h : ∀ a ∈ A, a ∈ B) : ∀ {u : Value}, OkU A u → OkU B u := fun {u} x => by
  cases u with
  | ref a => exact h a x
  | none => trivial
  | bool b => trivial
  | int i t => trivial
  | str s t => trivial
  | bytes b t => trivial
  | _ => exact False.elim x
theorem relV_toV {A : List Addr} {u : Value} (x : OkU A u) : RelV (toV u) u := by
  cases u with
  | ref a => rfl
  | none => rfl
  | bool b => rfl
  | int i t => exact ⟨t, rfl⟩
  | str s t => exact ⟨t, rfl⟩
  | bytes b t => exact ⟨t, rfl⟩
  | _ => exact False.elim x
theorem vals_toV {A : List Addr} : ∀ {vs : List Value}, (∀ u ∈ vs, OkU A u) → Vals (vs.map toV) vs
  | [], _ => .nil
  | u :: r, h => .cons (relV_toV (h u (List.mem_cons_self ..))) (vals_toV fun x hx => h x (List.mem_cons_of_mem _ hx))
/-- an object of the arguments -/
def ArgOb (h : Heap) (A : List Addr) (a : Addr) : Prop := ∃ vs : List Value, vs.length ≤ sizeLine ∧ (∀ u ∈ vs, OkU A u) ∧
  (h.get? a = some { cls := .type "list", data := .seq vs.toArray } ∨ h.get? a = some { cls := .type "tuple", data := .seq vs.toArray })
theorem ArgOb.mono {h : Heap} {A B : List Addr} {a : Addr} (k : ∀ a ∈ A, a ∈ B) (x : ArgOb h A a) : ArgOb h B a := by
  obtain ⟨vs, h1, h2, h3⟩ := x
  exact ⟨vs, h1, fun u hu => (h2 u hu).mono k, h3⟩
theorem wellAll_len {P : Params} {h : Heap} : ∀ {vs : List Value} {ds : List WData}, WellAll P h vs ds → vs.length = ds.length
  | _, _, .nil => rfl
  | _, _, .cons _ b => by
    show _ + 1 = _ + 1
    rw [wellAll_len b]
theorem well_list {P : Params} {h : Heap} {v : Value} {ds : List WData} (x : Well P h v (.list ds)) : ∃ (a : Addr) (vs : List Value), v = .ref a ∧ h.get? a = some { cls := .type "list", data := .seq vs.toArray } ∧ WellAll P h vs ds := by
  cases x with
  | list ho hall => exact ⟨_, _, rfl, ho, hall⟩
theorem well_tuple {P : Params} {h : Heap} {v : Value} {ds : List WData} (x : Well P h v (.tuple ds)) : ∃ (a : Addr) (vs : List Value), v = .ref a ∧ h.get? a = some { cls := .type "tuple", data := .seq vs.toArray } ∧ WellAll P h vs ds := by
  cases x with
  | tuple ho hall => exact ⟨_, _, rfl, ho, hall⟩
theorem well_cons {P : Params} {h : Heap} {us : List Value} {d : WData} {ds : List WData} (x : WellAll P h us (d :: ds)) : ∃ (v : Value) (vs : List Value), us = v :: vs ∧ Well P h v d ∧ WellAll P h vs ds := by
  cases x with
  | cons a b => exact ⟨_, _, rfl, a, b⟩
theorem line_of {n : Nat} (h : n ≤ 1048576) : n ≤ sizeLine := Nat.le_trans h (by decide)
section
variable {P : Params} {h : Heap}
mutual
theorem area_one : ∀ (d : WData) (v : Value), Well P h v d → plW d = true → d.weight ≤ 1048576 → ∃ A : List Addr, OkU A v ∧ ∀ a ∈ A, ArgOb h A a
  | .none, _, x, _, _ => by
    cases x
    exact ⟨[], trivial, fun a m => absurd m (by simp)⟩
  | .bool b, _, x, _, _ => by
    cases x
    exact ⟨[], trivial, fun a m => absurd m (by simp)⟩
  | .int i, _, x, _, _ => by
    cases x
    exact ⟨[], trivial, fun a m => absurd m (by simp)⟩
  | .str s, _, x, _, _ => by
    cases x
    exact ⟨[], trivial, fun a m => absurd m (by simp)⟩
  | .bytes b, _, x, _, _ => by
    cases x
    exact ⟨[], trivial, fun a m => absurd m (by simp)⟩
  | .list ds, _, x, p, z => by
    obtain ⟨a, vs, rfl, ho, hall⟩ := well_list x
    have z2 : WData.weightAll ds ≤ 1048576 := z
    obtain ⟨A, h1, h2⟩ := area_all ds _ hall p fun d hd => Nat.le_trans (weight_mem hd) z2
    have k : ∀ b ∈ A, b ∈ a :: A := fun b hb => List.mem_cons_of_mem _ hb
    refine ⟨a :: A, List.mem_cons_self .., fun b hb => ?_⟩
    rcases List.mem_cons.mp hb with e | m
    · rw [e]
      exact ⟨vs, line_of (by rw [wellAll_len hall]; exact Nat.le_trans (PySem.W.length_le_weightAllW ds) z2), fun u hu => (h1 u hu).mono k, .inl ho⟩
    · exact (h2 b m).mono k
  | .tuple ds, _, x, p, z => by
    obtain ⟨a, vs, rfl, ho, hall⟩ := well_tuple x
    have z2 : WData.weightAll ds ≤ 1048576 := z
    obtain ⟨A, h1, h2⟩ := area_all ds _ hall p fun d hd => Nat.le_trans (weight_mem hd) z2
    have k : ∀ b ∈ A, b ∈ a :: A := fun b hb => List.mem_cons_of_mem _ hb
    refine ⟨a :: A, List.mem_cons_self .., fun b hb => ?_⟩
    rcases List.mem_cons.mp hb with e | m
    · rw [e]
      exact ⟨vs, line_of (by rw [wellAll_len hall]; exact Nat.le_trans (PySem.W.length_le_weightAllW ds) z2), fun u hu => (h1 u hu).mono k, .inr ho⟩
    · exact (h2 b m).mono k
  | .float _, _, _, p, _ => Bool.noConfusion (show false = true from p)
  | .dict _, _, _, p, _ => Bool.noConfusion (show false = true from p)
  | .bytearray _, _, _, p, _ => Bool.noConfusion (show false = true from p)
  | .set _, _, _, p, _ => Bool.noConfusion (show false = true from p)
  | .frozenset _, _, _, p, _ => Bool.noConfusion (show false = true from p)
  | .obj _ _, _, _, p, _ => Bool.noConfusion (show false = true from p)
theorem area_all : ∀ (ds : List WData) (vs : List Value), WellAll P h vs ds → plWs ds = true → (∀ d ∈ ds, d.weight ≤ 1048576) → ∃ A : List Addr, (∀ u ∈ vs, OkU A u) ∧ ∀ a ∈ A, ArgOb h A a
  | [], _, x, _, _ => by
    cases x
    exact ⟨[], fun u m => absurd m (by simp), fun a m => absurd m (by simp)⟩
  | d :: ds, _, x, p, z => by
    obtain ⟨v, vs, rfl, x1, x2⟩ := well_cons x
    have q : plW d = true ∧ plWs ds = true := Bool.and_eq_true_iff.mp p
    obtain ⟨A, a1, a2⟩ := area_one d v x1 q.1 (z d (List.mem_cons_self ..))
    obtain ⟨B, b1, b2⟩ := area_all ds vs x2 q.2 fun e he => z e (List.mem_cons_of_mem _ he)
    have kA : ∀ b ∈ A, b ∈ A ++ B := fun b hb => List.mem_append.mpr (.inl hb)
    have kB : ∀ b ∈ B, b ∈ A ++ B := fun b hb => List.mem_append.mpr (.inr hb)
    refine ⟨A ++ B, fun u hu => ?_, fun b hb => ?_⟩
    · rcases List.mem_cons.mp hu with e | m
      · rw [e]
        exact a1.mono kA
      · exact (b1 u m).mono kB
    · rcases List.mem_append.mp hb with m | m
      · exact (a2 b m).mono kA
      · exact (b2 b m).mono kB
end
end
/-- what is tracked of an argument's object -/
def hoOf (o : Obj) : Option HO := match o.data with
  | .seq vs _ => if (o.cls == Value.type "list") = true then some (.frz o (.lst (vs.toList.map toV))) else some (.frz o (.tup (vs.toList.map toV)))
  | _ => none
def argH (K : PySem.W.Frag) (h : Heap) (A : List Addr) : Hp := fun b => if b ∈ A then (if (K.lookup b).isNone = true then (h.get? b).bind hoOf else none) else none
/-- nothing is tracked but what is known to the object -/
def OnlyF (H : Hp) : Prop := ∀ b, H b = none ∨ ∃ o u, H b = some (.frz o u)
theorem hoOf_lst (vs : List Value) : hoOf { cls := .type "list", data := .seq vs.toArray } = some (.frz { cls := .type "list", data := .seq vs.toArray } (.lst (vs.map toV))) := by
  show (if (Value.type "list" == Value.type "list") = true then some (HO.frz { cls := .type "list", data := .seq vs.toArray } (.lst (vs.toArray.toList.map toV))) else some (HO.frz { cls := .type "list", data := .seq vs.toArray } (.tup (vs.toArray.toList.map toV)))) = _
  rw [if_pos (beq_self_eq_true _)]
theorem hoOf_tup (vs : List Value) : hoOf { cls := .type "tuple", data := .seq vs.toArray } = some (.frz { cls := .type "tuple", data := .seq vs.toArray } (.tup (vs.map toV))) := by
  show (if (Value.type "tuple" == Value.type "list") = true then some (HO.frz { cls := .type "tuple", data := .seq vs.toArray } (.lst (vs.toArray.toList.map toV))) else some (HO.frz { cls := .type "tuple", data := .seq vs.toArray } (.tup (vs.toArray.toList.map toV)))) = _
  rw [if_neg (by decide)]
section
variable {P : Program} {w : World} {K : PySem.W.Frag} {h : Heap} {A : List Addr}
theorem argH_at {b : Addr} {o : Obj} (hb : b ∈ A) (hk : K.lookup b = none) (e : h.get? b = some o) : argH K h A b = hoOf o := by
  unfold argH
  rw [if_pos hb, hk, if_pos (show (none : Option Obj).isNone = true from rfl), e] <;> rfl
theorem of_argH {b : Addr} {u : HO} (q : argH K h A b = some u) : b ∈ A ∧ K.lookup b = none := by
  unfold argH at q
  by_cases hb : b ∈ A
  · rw [if_pos hb] at q
    cases hk : K.lookup b with
    | none => exact ⟨hb, rfl⟩
    | some o =>
      rw [hk, if_neg (by simp)] at q
      cases q
  · rw [if_neg hb] at q
    cases q
/-- what stands tracked -/
theorem argH_is (ar : ∀ a ∈ A, ArgOb h A a) {b : Addr} {u : HO} (q : argH K h A b = some u) : K.lookup b = none ∧ ∃ vs : List Value, vs.length ≤ sizeLine ∧ (∀ u ∈ vs, OkU A u) ∧
    ((h.get? b = some { cls := .type "list", data := .seq vs.toArray } ∧ u = .frz { cls := .type "list", data := .seq vs.toArray } (.lst (vs.map toV))) ∨
     (h.get? b = some { cls := .type "tuple", data := .seq vs.toArray } ∧ u = .frz { cls := .type "tuple", data := .seq vs.toArray } (.tup (vs.map toV)))) := by
  obtain ⟨hb, hk⟩ := of_argH q
  obtain ⟨vs, h1, h2, h3⟩ := ar b hb
  refine ⟨hk, vs, h1, h2, ?_⟩
  rcases h3 with e | e
  · rw [argH_at hb hk e, hoOf_lst] at q
    exact .inl ⟨e, (Option.some.inj q).symm⟩
  · rw [argH_at hb hk e, hoOf_tup] at q
    exact .inr ⟨e, (Option.some.inj q).symm⟩
theorem argH_only (ar : ∀ a ∈ A, ArgOb h A a) : OnlyF (argH K h A) := fun b => by
  cases q : argH K h A b with
  | none => exact .inl rfl
  | some u =>
    obtain ⟨_, vs, _, _, ⟨_, e⟩ | ⟨_, e⟩⟩ := argH_is ar q
    · exact .inr ⟨_, _, by rw [e]⟩
    · exact .inr ⟨_, _, by rw [e]⟩
theorem argH_ok (ar : ∀ a ∈ A, ArgOb h A a) : HOk P w (argH K h A) h := fun b u q => by
  obtain ⟨_, vs, h1, h2, ⟨e, rfl⟩ | ⟨e, rfl⟩⟩ := argH_is ar q
  · exact ⟨e, by rw [List.length_map]; exact h1, vs, _, vals_toV h2, e⟩
  · exact ⟨e, by rw [List.length_map]; exact h1, vs, vals_toV h2, _, e, rfl, _, rfl⟩
theorem seq_inj {c c' : Value} {vs us : List Value} (e : (some { cls := c, data := .seq vs.toArray } : Option Obj) = some { cls := c', data := .seq us.toArray }) : c = c' ∧ vs = us := by
  have e1 := Option.some.inj e
  have e2 : c = c' := congrArg Obj.cls e1
  have e3 : Data.seq vs.toArray = Data.seq us.toArray := congrArg Obj.data e1
  injection e3 with e4
  refine ⟨e2, ?_⟩
  have e5 := congrArg Array.toList e4
  simpa using e5
/-- a list argument -/
theorem argL (KX : K.In h) (ar : ∀ a ∈ A, ArgOb h A a) {a : Addr} {vs : List Value} (ha : a ∈ A) (e : h.get? a = some { cls := .type "list", data := .seq vs.toArray }) : (∀ u ∈ vs, OkU A u) ∧ SqL K (argH K h A) a (vs.map toV) := by
  obtain ⟨us, h1, h2, h3⟩ := ar a ha
  have hu : us = vs := by
    rcases h3 with q | q
    · rw [e] at q
      exact (seq_inj q).2.symm
    · rw [e] at q
      exact absurd (Value.type.inj (seq_inj q).1) (by decide)
  subst hu
  refine ⟨h2, ?_⟩
  cases hk : K.lookup a with
  | none => exact .inl (.inr ⟨_, by rw [argH_at ha hk e, hoOf_lst]⟩)
  | some o =>
    have e2 := KX a o hk
    rw [e] at e2
    obtain rfl := Option.some.inj e2
    exact .inr ⟨_, us.toArray, _, hk, rfl, rfl, rfl, by rw [List.size_toArray]; exact h1, by simpa using vals_toV h2⟩
theorem argT (KX : K.In h) (ar : ∀ a ∈ A, ArgOb h A a) {a : Addr} {vs : List Value} (ha : a ∈ A) (e : h.get? a = some { cls := .type "tuple", data := .seq vs.toArray }) : (∀ u ∈ vs, OkU A u) ∧ SqT K (argH K h A) a (vs.map toV) := by
  obtain ⟨us, h1, h2, h3⟩ := ar a ha
  have hu : us = vs := by
    rcases h3 with q | q
    · rw [e] at q
      exact absurd (Value.type.inj (seq_inj q).1) (by decide)
    · rw [e] at q
      exact (seq_inj q).2.symm
  subst hu
  refine ⟨h2, ?_⟩
  cases hk : K.lookup a with
  | none => exact .inl (.inr ⟨_, by rw [argH_at ha hk e, hoOf_tup]⟩)
  | some o =>
    have e2 := KX a o hk
    rw [e] at e2
    obtain rfl := Option.some.inj e2
    exact .inr ⟨_, us.toArray, _, hk, rfl, rfl, by rw [List.size_toArray]; exact h1, by simpa using vals_toV h2⟩
mutual
theorem dw_one {Pm : Params} (KX : K.In h) (ar : ∀ a ∈ A, ArgOb h A a) : ∀ (d : WData) (v : Value), Well Pm h v d → plW d = true → OkU A v → Dw K (argH K h A) (toV v) d
  | .none, _, x, _, _ => by
    cases x
    exact .non
  | .bool b, _, x, _, _ => by
    cases x
    exact .bl b
  | .int i, _, x, _, _ => by
    cases x
    exact .int i
  | .str s, _, x, _, _ => by
    cases x
    exact .str s
  | .bytes b, _, x, _, _ => by
    cases x
    have z := Dw.byt (K := K) (H := argH K h A) b.toArray
    exact z
  | .list ds, _, x, p, hu => by
    obtain ⟨a, vs, rfl, ho, hall⟩ := well_list x
    obtain ⟨h2, hs⟩ := argL KX ar hu ho
    exact .lst hs (dw_all KX ar ds _ hall p h2)
  | .tuple ds, _, x, p, hu => by
    obtain ⟨a, vs, rfl, ho, hall⟩ := well_tuple x
    obtain ⟨h2, hs⟩ := argT KX ar hu ho
    exact .tup hs (dw_all KX ar ds _ hall p h2)
  | .float _, _, _, p, _ => Bool.noConfusion (show false = true from p)
  | .dict _, _, _, p, _ => Bool.noConfusion (show false = true from p)
  | .bytearray _, _, _, p, _ => Bool.noConfusion (show false = true from p)
  | .set _, _, _, p, _ => Bool.noConfusion (show false = true from p)
  | .frozenset _, _, _, p, _ => Bool.noConfusion (show false = true from p)
  | .obj _ _, _, _, p, _ => Bool.noConfusion (show false = true from p)
theorem dw_all {Pm : Params} (KX : K.In h) (ar : ∀ a ∈ A, ArgOb h A a) : ∀ (ds : List WData) (vs : List Value), WellAll Pm h vs ds → plWs ds = true → (∀ u ∈ vs, OkU A u) → DwAll K (argH K h A) (vs.map toV) ds
  | [], _, x, _, _ => by
    cases x
    exact .nil
  | d :: ds, _, x, p, hu => by
    obtain ⟨v, vs, rfl, x1, x2⟩ := well_cons x
    have q : plW d = true ∧ plWs ds = true := Bool.and_eq_true_iff.mp p
    exact .cons (dw_one KX ar d v x1 q.1 (hu _ (List.mem_cons_self ..))) (dw_all KX ar ds vs x2 q.2 fun u m => hu u (List.mem_cons_of_mem _ m))
end
end
/-! ### the call -/
theorem spec_call {P : Program} {w : World} {K : PySem.W.Frag} {mg mb : Str → Option Value} {CX : CXT} {k : Nat} {fa : Addr} {fd : FuncData} {ps : List Str} {sp : Sp} {s₁ : Shared} {vals : List Value} {ds : List WData} {R : PySem.W.WRecords} {cl : Str → Option Addr} {d0 : WData}
    (KX : K.In s₁.heap) (hns : s₁.heap.Ns mainGlobals mg) (hb : s₁.heap.Ns builtinsNs mb) (hbb : ∀ x : Str, x ≠ "__name__" → mb x = bootBuiltins x) (hlim : s₁.heap.NoLimit) (hg : s₁.gens = #[])
    (hwl : WellAll w.params s₁.heap vals ds) (hpl : plWs ds = true) (hwt : ∀ d ∈ ds, d.weight ≤ 1048576) (hr : Room k callerA)
    (F : ∀ base : Heap, K.In base → base.Ns mainGlobals mg → FnOk P w K mg base CX k fa fd ps sp) (hbind : ∀ (s : Shared) (us : List Value), us.length = ps.length → BindsTo s fd ⟨us, []⟩ (ps.zip us)) (hlen : ds.length = ps.length)
    (hsp : ∀ (H : Hp) (xs : List V), OnlyF H → DwAll K H xs ds → sp xs H (fun v H' => Dw K H' v d0) fun _ _ _ => False)
    (hCX : ∀ H e s', CX [] H s₁ (fun _ _ _ => False) e s' → False) :
    codeAny (model P w) callerA (.call (.ref fa) ⟨vals, []⟩) (fun r s' => ∃ u as, r = .ok (.ret u) ∧ ReadsW R cl s'.heap u d0 as ∧ OldK s₁.heap s'.heap ∧ s'.os = s₁.os ∧ AllBare s'.gens) s₁ := by
  obtain ⟨A, ho, ar⟩ := area_all ds vals hwl hpl hwt
  have hO : OnlyF (argH K s₁.heap A) := argH_only ar
  have hok : HOk P w (argH K s₁.heap A) s₁.heap := argH_ok ar
  have hS := dw_all KX ar ds vals hwl hpl ho
  have hV := vals_toV ho
  have hK : ∀ b u, argH K s₁.heap A b = some u → K.lookup b = none := fun b u q => (argH_is ar q).1
  have noA : ∀ {b : Addr} {o : Obj} {es : Array DictEntry} {ep : Nat}, s₁.heap.get? b = some o → o.data = .dict es ep → argH K s₁.heap A b = none := fun {b o es ep} e d => by
    cases q : argH K s₁.heap A b with
    | none => rfl
    | some u =>
      obtain ⟨_, vs, _, _, ⟨e2, _⟩ | ⟨e2, _⟩⟩ := argH_is ar q
      · rw [e2] at e
        cases e
        have d' : Data.seq vs.toArray _ = Data.dict es ep := d
        cases d'
      · rw [e2] at e
        cases e
        have d' : Data.seq vs.toArray _ = Data.dict es ep := d
        cases d'
  generalize argH K s₁.heap A = H at hO hok hS hK noA
  have base_of : ∀ {b : Addr} {o : Obj}, s₁.heap.get? b = some o → H b = none → (hidT s₁.heap H).get? b = some o := fun e n => hidT_get e n
  have nsK : ∀ {b : Addr} {m : Str → Option Value}, s₁.heap.Ns b m → (hidT s₁.heap H).Ns b m := fun {b m} ⟨o, es, ep, e, d, r⟩ => ⟨o, es, ep, base_of e (noA e d), d, r⟩
  have nK : ∀ b o, K.lookup b = some o → H b = none := fun b o e => by
    cases q : H b with
    | none => rfl
    | some u =>
      rw [hK b u q] at e
      cases e
  have hKb : K.In (hidT s₁.heap H) := fun b o e => base_of (KX b o e) (nK b o e)
  have hM : Mod K mg (hidT s₁.heap H) := ⟨hKb, nsK hns, ⟨mb, nsK hb, hbb⟩, let ⟨mc, h1, h2⟩ := hlim; ⟨mc, nsK h1, h2⟩⟩
  have e0 : Env0 P w K mg (hidT s₁.heap H) callerA [] s₁ H := ⟨rfl, hM, fun b o e => of_hidT e, Nat.le_of_eq (hidT_size _ _), trivial, fun b hb => absurd (show b ∈ ([] : List Addr) from hb) (by simp), hok, .of_eq hg⟩
  have hl : vals.length = ps.length := by rw [wellAll_len hwl]; exact hlen
  refine codeAny_mono ((F _ hKb (nsK hns)).run callerA [] s₁ H ⟨vals, []⟩ vals (vals.map toV) _ _ hr e0 (hbind s₁ vals hl) hV (hsp H _ hO hS)) fun r s' x => ?_
  cases r with
  | error e => exact (hCX H e s' x).elim
  | ok fl =>
    cases fl with
    | next => exact False.elim x
    | brk => exact False.elim x
    | cont => exact False.elim x
    | ret u =>
      obtain ⟨v, H', os, bare, un, hok', r', q⟩ := x
      have kept : ∀ b o, s₁.heap.get? b = some o → s'.heap.get? b = some o := fun b o e => by
        cases q2 : H b with
        | none => exact un.keep b o e q2 (by intro z; exact absurd (show b ∈ ([] : List Addr) from z) (by simp)) (by simp)
        | some u2 =>
          rcases hO b with z | ⟨ob, u3, z⟩
          · rw [q2] at z
            cases z
          · have z2 := un.frzs b ob _ z
            obtain ⟨e1, _⟩ := hok b _ z
            obtain ⟨e2, _⟩ := hok' b _ z2
            rw [e] at e1
            cases e1
            exact e2
      have KX' : K.In s'.heap := fun b o e => kept b o (KX b o e)
      obtain ⟨as, hrd⟩ := Dw.reads (R := R) (cl := cl) hok' KX' d0 v u q r'
      exact ⟨u, as, rfl, hrd, OldK.of_keep kept, os, bare⟩
/-! ### the row -/
theorem layable_weight {ds : List WData} (h : WData.layableAll ds = true) : ∀ d ∈ ds, d.weight ≤ 1048576 := fun d hd =>
  (PySem.W.layableW_iff.mp (List.all_eq_true.mp h d hd)).2.2
theorem encAll_len : ∀ (cs : List Codec) (a : Codec.denoteAll cs), (Codec.encAll cs a).length = cs.length
  | [], _ => rfl
  | c :: cs, a => by
    show (Codec.encAll cs a.2).length + 1 = cs.length + 1
    rw [encAll_len cs a.2]
/-- the goal that k_headS leaves (case hc), from the promise of the row's def: whatever the arguments that the codecs let and the row asks for, the def gives what stands for enc (f ..) -/
theorem walk_spec {r : OpenSpec} {k : Nat} {q : Program} {loose : List Str} {XP : (Str → Option Value) → Heap → Prop} {YP : World → Heap → Prop} {d : DefRec} {K : Params → PySem.W.Frag} {CX : World → CXT} {ps : List Str} {sp : World → Sp}
    (hwell : r.wellSaid = true) (hdf : d.params.defaults = []) (hlen : r.args.length = ps.length) (hr : Room k callerA)
    (hY : ∀ (w : World) (h : Heap), YP w h → (K w.params).In h)
    (F : ∀ (w : World) (mg : Str → Option Value) (fa : Addr) (h : Heap), YP w h → (K w.params).In h → h.Ns mainGlobals mg → mg d.name = some (.ref fa) →
      ∃ fd : FuncData, (∀ (s : Shared) (us : List Value), us.length = ps.length → BindsTo s fd ⟨us, []⟩ (ps.zip us)) ∧
        ∀ base : Heap, (K w.params).In base → base.Ns mainGlobals mg → FnOk r.prog w (K w.params) mg base (CX w) k fa fd ps (sp w))
    (hsp : ∀ (w : World) (H : Hp) (xs : List V) (a : Codec.denoteAll r.args), OnlyF H → Codec.withinAll r.args a = true → Codec.app r.args r.asked a = true → DwAll (K w.params) H xs (Codec.encAll r.args a) →
      sp w xs H (fun v H' => Dw (K w.params) H' v (r.ret.enc (Codec.app r.args r.f a))) fun _ _ _ => False)
    (hCX : ∀ (w : World) (H : Hp) (s : Shared) (e : Value) (s' : Shared), CX w [] H s (fun _ _ _ => False) e s' → False) :
    PySem.W.WalkOS q loose XP YP r d [] (fun f vs => PySem.call f vs) := by
  intro w s_0 s₁ mg mb G Y fa o pm cd doc dV kV ho hd hcd hD hmg hg args vals as hpre hlay hrd hwl hlo
  obtain ⟨a, e1, e2⟩ := PySem.W.os_pre_some hpre
  obtain ⟨e3, hwi⟩ := Codec.encAll_of_decAll r.args args a e1
  subst e3
  have KX := hY w _ Y
  obtain ⟨fd, hb, hF⟩ := F w mg fa _ Y KX G.T.g hmg
  refine PySem.W.enter_call (codeAny_mono (spec_call (R := []) (cl := classAt s_0.heap) (d0 := r.ret.enc (Codec.app r.args r.f a)) KX G.T.g G.T.b G.T.builtins G.T.nolimit hg hwl (pl_encAll _ _) (layable_weight hlay) hr hF hb (by rw [encAll_len]; exact hlen)
    (fun H xs hO hS => hsp w H xs a hO hwi e2 hS) fun H e s' => hCX w H s₁ e s') fun r' s' hq => ?_)
  obtain ⟨u, as', rfl, h1, h2, h3, h4⟩ := hq
  exact ⟨.inl ⟨u, _, as', rfl, fun _ => rfl, h1, (OpenSpec.post_iff hwell hwi _ _).mpr rfl, fun z => Bool.noConfusion (show false = true from z)⟩, h2, h3, h4⟩
/-- the same where the promise hangs on the written part alone -/
theorem walk_specK {r : OpenSpec} {k : Nat} {q : Program} {loose : List Str} {XP : (Str → Option Value) → Heap → Prop} {YP : World → Heap → Prop} {d : DefRec} {K : Params → PySem.W.Frag} {CX : CXT} {ps : List Str} {sp : PySem.W.Frag → Sp}
    (hwell : r.wellSaid = true) (hdf : d.params.defaults = []) (hlen : r.args.length = ps.length) (hr : Room k callerA)
    (hY : ∀ (w : World) (h : Heap), YP w h → (K w.params).In h)
    (F : ∀ (w : World) (mg : Str → Option Value) (fa : Addr) (h : Heap), YP w h → (K w.params).In h → h.Ns mainGlobals mg → mg d.name = some (.ref fa) →
      ∃ fd : FuncData, (∀ (s : Shared) (us : List Value), us.length = ps.length → BindsTo s fd ⟨us, []⟩ (ps.zip us)) ∧
        ∀ base : Heap, (K w.params).In base → base.Ns mainGlobals mg → FnOk r.prog w (K w.params) mg base CX k fa fd ps (sp (K w.params)))
    (hsp : ∀ (K : PySem.W.Frag) (H : Hp) (xs : List V) (a : Codec.denoteAll r.args), OnlyF H → Codec.withinAll r.args a = true → Codec.app r.args r.asked a = true → DwAll K H xs (Codec.encAll r.args a) →
      sp K xs H (fun v H' => Dw K H' v (r.ret.enc (Codec.app r.args r.f a))) fun _ _ _ => False)
    (hCX : ∀ (H : Hp) (s : Shared) (e : Value) (s' : Shared), CX [] H s (fun _ _ _ => False) e s' → False) :
    PySem.W.WalkOS q loose XP YP r d [] (fun f vs => PySem.call f vs) :=
  walk_spec (K := K) (CX := fun _ => CX) (sp := fun w => sp (K w.params)) hwell hdf hlen hr hY F (fun w H xs a h1 h2 h3 h4 => hsp (K w.params) H xs a h1 h2 h3 h4) fun _ H s e s' => hCX H s e s'
end L2
end
/-! SHORT WORDS over the layer: a def of the text, its body, what a loop and a test want. -/
namespace L2
open PySem PySem.Spec PyProof.Rows
/-! ### the text by places -/
/-- the j-th statement of a class's body -/
def inClass (s : Stmt) (j : Nat) : Stmt := match s with
  | .ClassDef _ _ _ body _ _ _ _ _ _ _ => body.getD j (.Pass ⟨0, 0, 0, 0⟩)
  | _ => .Pass ⟨0, 0, 0, 0⟩
def defArgs (s : Stmt) : Arguments := match s with
  | .FunctionDef _ a _ _ _ _ _ _ _ _ => a
  | _ => { posonlyargs := [], args := [], vararg := none, kwonlyargs := [], kw_defaults := [], kwarg := none, defaults := [] }
def defBody (s : Stmt) : List Stmt := match s with
  | .FunctionDef _ _ b _ _ _ _ _ _ _ => b
  | _ => []
def defScope (s : Stmt) : Scope := match s with
  | .FunctionDef _ _ _ _ _ _ sc _ _ _ => sc
  | _ => { kind := .function, names := [], isGenerator := false, isCoroutine := false }
/-! ### no exception leaves a def -/
abbrev CX0 : CXT := fun _ _ _ _ _ _ => False
abbrev E0 : XK := fun _ _ _ => False
theorem pass0 {X : Cx} : Passes CX0 X E0 := fun _ _ _ _ _ _ _ h => h.elim
/-! ### a def (or method) of the text as it stands behind the top -/
structure Fun (K : PySem.W.Frag) (x qual : Str) (st : Stmt) (f : Addr) (fd : FuncData) : Prop where
  ex : ∃ (oc : Value) (od : Option Addr) (kV doc pm : Value) (an : Option Addr) (cdv ct : Value) (osl : Array (Option Value)),
    fd = PySem.W.fnOf x qual (defArgs st) (defBody st) (defScope st) .none kV doc pm an cdv ct ∧ K.lookup f = some ⟨oc, od, .func fd, osl⟩ ∧ PySem.W.codeIn K cdv qual = true
  kp : PySem.W.keepIn K (.ref f) = true
section
variable {P : Program} {w : World} {K : PySem.W.Frag} {mg : Str → Option Value} {base : Heap}
/-- THE RULE for a def: its body as a term of rules, and the reading of that term -/
theorem Fun.ok {x qual : Str} {st : Stmt} {f : Addr} {fd : FuncData} {N ps : List Str} {k : Nat} {sp : Sp} (F : Fun K x qual st f fd) (S : FnScope N ps (defScope st)) (len : ∀ vs H Q E, sp vs H Q E → vs.length = ps.length)
    (hbody : ∀ (cdv : Value) (A : Around) (outer : List Env) (s : Shared) (H : Hp) (vs : List V) (Q : VK) (E : XK), Room k (A.deeper (envOfC qual (defScope st) s.heap.objs.size f cdv)) → sp vs H Q E →
      ∃ t, PSs (cxOf CX0 P w K mg base N qual (defScope st) f cdv A outer s H E).nox (defBody st) t ∧ t { nx := fun _ H' => Q .non H', rt := Q } (start N vs) H) : FnOk P w K mg base CX0 (k + 1) f fd ps sp := by
  obtain ⟨oc, od, kV, doc, pm, an, cdv, ct, osl, rfl, lk, hcd⟩ := F.ex
  refine fn_of lk hcd S len fun A outer s H vs Q E hr hsp => ?_
  obtain ⟨t, h, q⟩ := hbody cdv A outer s H vs Q E hr hsp
  exact ⟨t, h.nox, q⟩
/-- how its arguments bind (no defaults): h is «fun _ _ _ _ _ _ us hl => match us, hl with | [_, _], _ => rfl», one _ a parameter -/
theorem Fun.binds {x qual : Str} {st : Stmt} {f : Addr} {fd : FuncData} {ps : List Str} (F : Fun K x qual st f fd)
    (h : ∀ (kV doc pm : Value) (an : Option Addr) (cdv ct : Value) (us : List Value), us.length = ps.length → bindArgs (PySem.W.fnOf x qual (defArgs st) (defBody st) (defScope st) .none kV doc pm an cdv ct) ⟨us, []⟩ = pure (ps.zip us)) : Binds K fd ps [] := by
  obtain ⟨oc, od, kV, doc, pm, an, cdv, ct, osl, rfl, lk, hcd⟩ := F.ex
  exact .all (h kV doc pm an cdv ct)
theorem fun_mk {x qual : Str} {st : Stmt} {f : Addr} {oc : Value} {od an : Option Addr} {osl : Array (Option Value)} {kV doc pm cdv ct : Value} (l : K.lookup f = some ⟨oc, od, .func (PySem.W.fnOf x qual (defArgs st) (defBody st) (defScope st) .none kV doc pm an cdv ct), osl⟩)
    (c : PySem.W.codeIn K cdv qual = true) (k : PySem.W.keepIn K (.ref f) = true) : Fun K x qual st f (PySem.W.fnOf x qual (defArgs st) (defBody st) (defScope st) .none kV doc pm an cdv ct) := ⟨⟨oc, od, kV, doc, pm, an, cdv, ct, osl, rfl, l, c⟩, k⟩
end
theorem hu_of {A : Around} {k : Nat} (hr : Room k A) : A.units + 1 < cLine := Nat.lt_of_le_of_lt (Nat.add_le_add_left (by decide : 1 ≤ 64) _) hr.units
/-! ### expressions in short: the name that stands in the i-th slot -/
section
variable {X : Cx}
theorem pv (i : Nat) {x : Str} {pos : Pos} (hN : X.N[i]? = some x := by rfl) (hv : Vis X.env.scope x := by first | exact Or.inl rfl | exact Or.inr (Or.inl rfl) | exact Or.inr (Or.inr rfl)) (hd : (x == ("__debug__" : Str)) = false := by decide)
    (hcd : (x == ("__classdict__" : Str)) = false := by decide) : PE X (.Name x pos) (tVar i) := pe_var hN hv hd hcd
end
/-! ### tests -/
theorem iteF {A B : Prop} (h : B) : if false = true then A else B := by
  rw [if_neg Bool.false_ne_true]
  exact h
theorem iteT {A B : Prop} (h : A) : if true = true then A else B := by
  rw [if_pos rfl]
  exact h
theorem ite2 {c A B : Prop} [Decidable c] (h1 : c → A) (h2 : ¬ c → B) : if c then A else B := by
  by_cases h : c
  · rw [if_pos h]
    exact h1 h
  · rw [if_neg h]
    exact h2 h
/-! ### heaps -/
/-- all that was tracked is as it was -/
def Same (H H' : Hp) : Prop := ∀ b o, H b = some o → H' b = some o
theorem Same.refl (H : Hp) : Same H H := fun _ _ h => h
theorem Same.trans {H H1 H2 : Hp} (a : Same H H1) (b : Same H1 H2) : Same H H2 := fun c o h => b c o (a c o h)
theorem Same.free {H H' : Hp} (e : Same H H') {l : Addr} (h : H' l = Option.none) : H l = Option.none := by
  cases q : H l with
  | none => rfl
  | some o =>
    rw [e l o q] at h
    cases h
theorem Same.seq {K : PySem.W.Frag} {H H' : Hp} {a : Addr} {xs : List V} (e : Same H H') (h : SqL K H a xs) : SqL K H' a xs := by
  rcases h with (h | ⟨o, h⟩) | h
  · exact .inl (.inl (e _ _ h))
  · exact .inl (.inr ⟨o, e _ _ h⟩)
  · exact .inr h
/-! ### a dict's pairs: keys that differ -/
section
variable {κ : Type} [DecidableEq κ]
end
/-! ### lists -/
/-- a new instance and its __init__ leave all that was tracked as it was -/
theorem Same.made {H H1 : Hp} {x dx C : Addr} (nx : H x = Option.none) (nd : H dx = Option.none) (k : ∀ b o, (upd (upd H dx (.own x)) x (.ins C dx [])) b = some o → b ≠ x → H1 b = some o) : Same H H1 := fun b o e =>
  k b o (by rw [upd_ne (ne_of_none e nx), upd_ne (ne_of_none e nd)]; exact e) (ne_of_none e nx)
end L2


section
set_option Elab.async false
set_option linter.all false
set_option maxRecDepth 100000
set_option maxHeartbeats 2000000
/-! zip of two tuples; a module's tuple as a dict's key. The library's zip rules are for lists: these follow them, with the tuple's iterator in the list's place. -/
namespace Nz
open PySem PySem.Spec PyProof.Rows L2
section
variable {pr : Program} {wd : World} {ar : Around} {Er : Value → Shared → Prop} {st : Shared}
theorem nextT_item {jt ad : Addr} {n : Nat} {its : Array Value} {vx : Value} {R : Value → Shared → Prop} (a1 : st.heap.IsTupleIter jt ad n) (a2 : st.heap.IsTuple ad its) (a3 : its[n]? = some vx)
    (k : ∀ hp, hp.IsTupleIter jt ad (n + 1) → Heap.SameBut jt st.heap hp → R vx { st with heap := hp }) : wpAny (model pr wd) ar (Builtin.SmallTypes.nextOf (.ref jt)) R Er st := by
  obtain ⟨ob, b1, b2, b3⟩ := id a1
  obtain ⟨ot, c1, _, nt, c2⟩ := a2
  unfold Builtin.SmallTypes.nextOf
  refine wpAny_bind (wpAny_callSpecial?_slot (name := Str.ofString "__next__") a1.typeIs PySem.F.slot_tuple_iterator_next (wpAny_call_entry PySem.F.slot_tuple_iterator_next a1.typeIs PySem.F.entry_tuple_iterator_next ?_ (PySem.F.args_tuple_iterator_next_1 _)))
  show wpAny _ _ (field (.ref jt) 0 >>= _) _ _ st
  refine wpAny_bind (wpAny_field b1 b3 (x := .ref ad) rfl ?_)
  show wpAny _ _ (if (Value.ref ad == Value.none) = true then _ else _) _ _ st
  rw [if_neg (show ¬ ((Value.ref ad == Value.none) = true) from Bool.false_ne_true)]
  show wpAny _ _ (field (.ref jt) 1 >>= _) _ _ st
  refine wpAny_bind (wpAny_field b1 b3 (x := .int n 0) rfl ?_)
  show wpAny _ _ (seqItems? (.ref ad) >>= _) _ _ st
  refine wpAny_bind (wpAny_seqItems c1 c2 ?_)
  simp only [Int.toNat_natCast, a3]
  refine wpAny_bind (wpAny_setField b1 b3 (by simp) (wpAny_pure ⟨vx, rfl, wpAny_pure (k _ ?_ (Heap.SameBut.update ..))⟩))
  exact ⟨_, Heap.get?_update_self _ b1 (Obj.isFreed_of_fields (Obj.data_mapFields b3 _)), (Obj.cls_mapFields ..).trans b2, by rw [Obj.data_mapFields b3]; simp [rawInt]⟩
theorem nextT_end {jt ad : Addr} {n : Nat} {its : Array Value} {R : Value → Shared → Prop} (hh : ar.handled = none) (a1 : st.heap.IsTupleIter jt ad n) (a2 : st.heap.IsTuple ad its) (a3 : its[n]? = none)
    (k : ∀ hp ex, Heap.ExtBut jt st.heap hp → (∃ ob, hp.get? ex = some ob ∧ ob.cls = .type "StopIteration") → Er (.ref ex) { st with heap := hp }) : wpAny (model pr wd) ar (Builtin.SmallTypes.nextOf (.ref jt)) R Er st := by
  obtain ⟨ob, b1, b2, b3⟩ := id a1
  obtain ⟨ot, c1, _, nt, c2⟩ := a2
  unfold Builtin.SmallTypes.nextOf
  refine wpAny_bind (wpAny_callSpecial?_slot (name := Str.ofString "__next__") a1.typeIs PySem.F.slot_tuple_iterator_next (wpAny_call_entry PySem.F.slot_tuple_iterator_next a1.typeIs PySem.F.entry_tuple_iterator_next ?_ (PySem.F.args_tuple_iterator_next_1 _)))
  show wpAny _ _ (field (.ref jt) 0 >>= _) _ _ st
  refine wpAny_bind (wpAny_field b1 b3 (x := .ref ad) rfl ?_)
  show wpAny _ _ (if (Value.ref ad == Value.none) = true then _ else _) _ _ st
  rw [if_neg (show ¬ ((Value.ref ad == Value.none) = true) from Bool.false_ne_true)]
  show wpAny _ _ (field (.ref jt) 1 >>= _) _ _ st
  refine wpAny_bind (wpAny_field b1 b3 (x := .int n 0) rfl ?_)
  show wpAny _ _ (seqItems? (.ref ad) >>= _) _ _ st
  refine wpAny_bind (wpAny_seqItems c1 c2 ?_)
  simp only [Int.toNat_natCast, a3]
  refine wpAny_bind (wpAny_rule (wpAny_bind (wpAny_setField b1 b3 (by simp) ?_)))
  show wpAny _ _ (newExc (.type "StopIteration") [] >>= _) _ _ _
  refine wpAny_bind ?_
  simp only [newExc, newTuple]
  refine wpAny_bind (wpAny_newObj_type ?_ (by size_fits))
  refine wpAny_bind (m := firstArgMember _ _) (wpAny_of_eq (a := Value.none) (by first | rfl | (simp only [firstArgMember]; rfl)) ?_)
  refine wpAny_newObj_type ?_ (by size_fits)
  simp only [raiseNew]
  refine wpAny_bind (wpAny_handled ?_)
  first | rw [show ar.in1.handled = none from hh] | rw [hh]
  refine wpAny_bind (wpAny_pure (wpAny_throw ?_))
  exact k _ _ (((Heap.SameBut.update ..).extBut.push _).push _) ⟨_, Heap.get?_push_size _ rfl, rfl⟩
theorem zipT_item {zz ti tp ja jb la lb : Addr} {m n : Nat} {xs ys : Array Value} {vx vy va vb : Value} {R : Value → Shared → Prop} (D : ZipApart zz ti tp ja jb la lb)
    (g1 : IsZip st.heap zz ti tp .none) (g2 : IsPair st.heap ti (.ref ja) (.ref jb)) (g3 : IsPair st.heap tp va vb)
    (p1 : st.heap.IsTupleIter ja la m) (p2 : st.heap.IsTupleIter jb lb n) (q1 : st.heap.IsTuple la xs) (q2 : st.heap.IsTuple lb ys) (ex : xs[m]? = some vx) (ey : ys[n]? = some vy)
    (k : ∀ hp, IsZip hp zz ti tp (rawInt st.heap.objs.size) → IsPair hp tp vx vy → hp.IsTupleIter ja la (m + 1) → hp.IsTupleIter jb lb (n + 1) → IsPair hp st.heap.objs.size vx vy → hp.objs.size = st.heap.objs.size + 1 →
      (∀ c o, c ≠ zz → c ≠ tp → c ≠ ja → c ≠ jb → st.heap.get? c = some o → hp.get? c = some o) → R (.ref st.heap.objs.size) { st with heap := hp }) :
    wpAny (model pr wd) ar (Builtin.«zip.__next__» ⟨[.ref zz], []⟩) (fun fin s' => ∃ v, fin = .done (.ret v) ∧ R v s') Er st := by
  show wpAny _ _ (field (.ref zz) 2 >>= _) _ _ _
  refine wpAny_bind (wpAny_field g1 rfl (x := .bool false) rfl ?_)
  show wpAny _ _ (field (.ref zz) 3 >>= _) _ _ _
  refine wpAny_bind (wpAny_field g1 rfl (x := .ref ti) rfl ?_)
  refine wpAny_bind (wpAny_seqItems g2 rfl ?_)
  show wpAny _ _ (Builtin.SmallTypes.ownedTupleIsFree (.ref zz) >>= _) _ _ _
  refine wpAny_bind ?_
  unfold Builtin.SmallTypes.ownedTupleIsFree
  refine wpAny_bind (wpAny_field g1 rfl (x := .none) rfl (wpAny_pure ?_))
  simp only [if_true]
  refine wpAny_bind (wpAny_rule ?_)
  refine wpAny_bind (wpAny_field g1 rfl (x := .ref tp) rfl ?_)
  refine wpAny_bind (wpAny_setField_rec g1 (by simp) fun k1 z1 s1 => ?_)
  replace z1 : IsZip k1 zz ti tp .ellipsis := z1
  refine wpAny_bind ?_
  simp only [List.zipIdx_cons, List.zipIdx_nil, List.forIn_cons, List.forIn_nil]
  refine wpAny_bind (wpAny_bind (wpAny_onRaise ?_))
  show wpAny _ _ (Builtin.SmallTypes.nextOf (.ref ja) >>= _) _ _ _
  refine wpAny_bind (nextT_item (p1.extBut s1.extBut D.i1z) (q1.extBut s1.extBut D.l1z) ex fun k2 p1b s2 => wpAny_pure ?_)
  have t2 : IsPair k2 tp va vb := s2.extBut _ _ D.TOi1 (s1.extBut _ _ D.TOz g3)
  refine wpAny_bind (wpAny_seqItems t2 rfl ?_)
  refine wpAny_bind (wpAny_updateSeq_pair t2 fun k3 t3 s3 => ?_)
  replace t3 : IsPair k3 tp vx vb := t3
  refine wpAny_bind (wpAny_letGo (wpAny_pure ?_))
  refine wpAny_bind (wpAny_bind (wpAny_onRaise ?_))
  show wpAny _ _ (Builtin.SmallTypes.nextOf (.ref jb) >>= _) _ _ _
  refine wpAny_bind (nextT_item (((p2.extBut s1.extBut D.i2z).extBut s2.extBut D.i12.symm).extBut s3.extBut D.TOi2.symm) (((q2.extBut s1.extBut D.l2z).extBut s2.extBut D.l2i1).extBut s3.extBut D.l2TO) ey fun k4 p2b s4 => wpAny_pure ?_)
  have t4 : IsPair k4 tp vx vb := s4.extBut _ _ D.TOi2 t3
  refine wpAny_bind (wpAny_seqItems t4 rfl ?_)
  refine wpAny_bind (wpAny_updateSeq_pair t4 fun k5 t5 s5 => ?_)
  replace t5 : IsPair k5 tp vx vy := t5
  refine wpAny_bind (wpAny_letGo (wpAny_pure (wpAny_pure ?_)))
  refine wpAny_bind (wpAny_seqItems t5 rfl ?_)
  refine wpAny_bind (wpAny_newTuple ?_)
  have esz : k5.objs.size = st.heap.objs.size := by rw [s5.1, s4.1, s3.1, s2.1, s1.1]
  have z5 : IsZip k5 zz ti tp .ellipsis := s5.extBut _ _ D.TOz.symm (s4.extBut _ _ D.i2z.symm (s3.extBut _ _ D.TOz.symm (s2.extBut _ _ D.i1z.symm z1)))
  have kp : ∀ c o, c ≠ zz → c ≠ tp → c ≠ ja → c ≠ jb → st.heap.get? c = some o → k5.get? c = some o := fun c o c1 c2 c3 c4 e => s5.extBut _ _ c2 (s4.extBut _ _ c4 (s3.extBut _ _ c2 (s2.extBut _ _ c3 (s1.extBut _ _ c1 e))))
  have p15 : k5.IsTupleIter ja la (m + 1) := ((p1b.extBut s3.extBut D.TOi1.symm).extBut s4.extBut D.i12).extBut s5.extBut D.TOi1.symm
  have p25 : k5.IsTupleIter jb lb (n + 1) := p2b.extBut s5.extBut D.TOi2.symm
  have lz : zz < k5.objs.size := Heap.lt_size z5
  show wpAny _ _ (Builtin.SmallTypes.ownedTupleHandOut (.ref zz) (.ref k5.objs.size) >>= _) _ _ _
  refine wpAny_bind ?_
  unfold Builtin.SmallTypes.ownedTupleHandOut
  have z6 : IsZip (k5.push { cls := .type "tuple", data := .seq #[vx, vy] }) zz ti tp .ellipsis := Heap.get?_push_of_some _ z5
  refine wpAny_bind (wpAny_setField_rec z6 (by simp) fun k7 z7 s7 => ?_)
  replace z7 : IsZip k7 zz ti tp (rawInt k5.objs.size) := z7
  refine wpAny_setField_rec z7 (by simp) fun k8 z8 s8 => ?_
  replace z8 : IsZip k8 zz ti tp (rawInt k5.objs.size) := z8
  have up : ∀ c o, c ≠ zz → k5.get? c = some o → k8.get? c = some o := fun c o c1 e => s8.extBut _ _ c1 (s7.extBut _ _ c1 (Heap.get?_push_of_some _ e))
  have t8 : IsPair k8 k5.objs.size vx vy := s8.extBut _ _ (Nat.ne_of_gt lz) (s7.extBut _ _ (Nat.ne_of_gt lz) (Heap.get?_push_size _ rfl))
  have e8 : k8.objs.size = k5.objs.size + 1 := by rw [s8.1, s7.1, Heap.size_push]
  rw [esz] at z8 t8 e8
  refine wpAny_pure ⟨_, rfl, ?_⟩
  show R (.ref k5.objs.size) _
  rw [esz]
  exact k k8 z8 (up _ _ D.TOz t5) (p15.at fun o e => up _ o D.i1z e) (p25.at fun o e => up _ o D.i2z e) t8 e8 fun c o c1 c2 c3 c4 e => up c o c1 (kp c o c1 c2 c3 c4 e)
theorem zipT_end {zz ti tp ja jb la lb : Addr} {m n : Nat} {xs ys : Array Value} {va vb : Value} {R : Fin → Shared → Prop} (hh : ar.handled = none) (D : ZipApart zz ti tp ja jb la lb)
    (g1 : IsZip st.heap zz ti tp .none) (g2 : IsPair st.heap ti (.ref ja) (.ref jb)) (g3 : IsPair st.heap tp va vb)
    (p1 : st.heap.IsTupleIter ja la m) (p2 : st.heap.IsTupleIter jb lb n) (q1 : st.heap.IsTuple la xs) (q2 : st.heap.IsTuple lb ys) (ee : xs[m]? = none ∨ ys[n]? = none)
    (k : ∀ hp ex, (∀ c o, c ≠ zz → c ≠ tp → c ≠ ja → c ≠ jb → st.heap.get? c = some o → hp.get? c = some o) → (∃ ob, hp.get? ex = some ob ∧ ob.cls = .type "StopIteration") → Er (.ref ex) { st with heap := hp }) :
    wpAny (model pr wd) ar (Builtin.«zip.__next__» ⟨[.ref zz], []⟩) R Er st := by
  show wpAny _ _ (field (.ref zz) 2 >>= _) _ _ _
  refine wpAny_bind (wpAny_field g1 rfl (x := .bool false) rfl ?_)
  show wpAny _ _ (field (.ref zz) 3 >>= _) _ _ _
  refine wpAny_bind (wpAny_field g1 rfl (x := .ref ti) rfl ?_)
  refine wpAny_bind (wpAny_seqItems g2 rfl ?_)
  show wpAny _ _ (Builtin.SmallTypes.ownedTupleIsFree (.ref zz) >>= _) _ _ _
  refine wpAny_bind ?_
  unfold Builtin.SmallTypes.ownedTupleIsFree
  refine wpAny_bind (wpAny_field g1 rfl (x := .none) rfl (wpAny_pure ?_))
  simp only [if_true]
  refine wpAny_bind (wpAny_rule ?_)
  refine wpAny_bind (wpAny_field g1 rfl (x := .ref tp) rfl ?_)
  refine wpAny_bind (wpAny_setField_rec g1 (by simp) fun k1 z1 s1 => ?_)
  replace z1 : IsZip k1 zz ti tp .ellipsis := z1
  refine wpAny_bind ?_
  simp only [List.zipIdx_cons, List.zipIdx_nil, List.forIn_cons, List.forIn_nil]
  refine wpAny_bind (wpAny_bind (wpAny_onRaise ?_))
  show wpAny _ _ (Builtin.SmallTypes.nextOf (.ref ja) >>= _) _ _ _
  cases hx : xs[m]? with
  | none =>
    refine wpAny_bind (nextT_end hh (p1.extBut s1.extBut D.i1z) (q1.extBut s1.extBut D.l1z) hx fun k2 ex s2 he => ?_)
    obtain ⟨oe, hoe, hce⟩ := he
    have z2 : IsZip k2 zz ti tp .ellipsis := s2 _ _ D.i1z.symm z1
    have nz : ex ≠ zz := fun q => by subst q; rw [z2] at hoe; cases hoe; simp at hce
    refine wpAny_setField_rec z2 (by simp) fun k3 _ s3 => k k3 ex (fun c o c1 _ c3 _ q => s3.extBut _ _ c1 (s2 _ _ c3 (s1.extBut _ _ c1 q))) ⟨oe, s3.extBut _ _ nz hoe, hce⟩
  | some vx =>
    have ey : ys[n]? = none := by rcases ee with q | q; rw [hx] at q; cases q; exact q
    refine wpAny_bind (nextT_item (p1.extBut s1.extBut D.i1z) (q1.extBut s1.extBut D.l1z) hx fun k2 p1b s2 => wpAny_pure ?_)
    have t2 : IsPair k2 tp va vb := s2.extBut _ _ D.TOi1 (s1.extBut _ _ D.TOz g3)
    refine wpAny_bind (wpAny_seqItems t2 rfl ?_)
    refine wpAny_bind (wpAny_updateSeq_pair t2 fun k3 t3 s3 => ?_)
    refine wpAny_bind (wpAny_letGo (wpAny_pure ?_))
    refine wpAny_bind (wpAny_bind (wpAny_onRaise ?_))
    show wpAny _ _ (Builtin.SmallTypes.nextOf (.ref jb) >>= _) _ _ _
    refine wpAny_bind (nextT_end hh (((p2.extBut s1.extBut D.i2z).extBut s2.extBut D.i12.symm).extBut s3.extBut D.TOi2.symm) (((q2.extBut s1.extBut D.l2z).extBut s2.extBut D.l2i1).extBut s3.extBut D.l2TO) ey fun k4 ex s4 he => ?_)
    obtain ⟨oe, hoe, hce⟩ := he
    have z4 : IsZip k4 zz ti tp .ellipsis := s4 _ _ D.i2z.symm (s3.extBut _ _ D.TOz.symm (s2.extBut _ _ D.i1z.symm z1))
    have nz : ex ≠ zz := fun q => by subst q; rw [z4] at hoe; cases hoe; simp at hce
    refine wpAny_setField_rec z4 (by simp) fun k5 _ s5 => k k5 ex (fun c o c1 c2 c3 c4 q => s5.extBut _ _ c1 (s4 _ _ c4 (s3.extBut _ _ c2 (s2.extBut _ _ c3 (s1.extBut _ _ c1 q))))) ⟨oe, s5.extBut _ _ nz hoe, hce⟩
theorem pyNextT_item {zz ti tp ja jb la lb : Addr} {m n : Nat} {xs ys : Array Value} {vx vy va vb : Value} {R : Option Value → Shared → Prop} (D : ZipApart zz ti tp ja jb la lb)
    (g1 : IsZip st.heap zz ti tp .none) (g2 : IsPair st.heap ti (.ref ja) (.ref jb)) (g3 : IsPair st.heap tp va vb)
    (p1 : st.heap.IsTupleIter ja la m) (p2 : st.heap.IsTupleIter jb lb n) (q1 : st.heap.IsTuple la xs) (q2 : st.heap.IsTuple lb ys) (ex : xs[m]? = some vx) (ey : ys[n]? = some vy)
    (k : ∀ hp, IsZip hp zz ti tp (rawInt st.heap.objs.size) → IsPair hp tp vx vy → hp.IsTupleIter ja la (m + 1) → hp.IsTupleIter jb lb (n + 1) → IsPair hp st.heap.objs.size vx vy → hp.objs.size = st.heap.objs.size + 1 →
      (∀ c o, c ≠ zz → c ≠ tp → c ≠ ja → c ≠ jb → st.heap.get? c = some o → hp.get? c = some o) → R (some (.ref st.heap.objs.size)) { st with heap := hp }) :
    wpAny (model pr wd) ar (pyNext (.ref zz)) R Er st := by
  have ty : st.TypeIs (.ref zz) "zip" := ⟨_, g1, rfl⟩
  unfold pyNext
  exact wpAny_bind (wpAny_attempt (wpAny_callSpecial?_slot (name := Str.ofString "__next__") ty PySem.F.slot_zip_next (wpAny_call_entry PySem.F.slot_zip_next ty PySem.F.entry_zip_next
    (zipT_item D g1 g2 g3 p1 p2 q1 q2 ex ey fun hp a1 a2 a3 a4 a5 a6 a7 => wpAny_pure (k hp a1 a2 a3 a4 a5 a6 a7)) (PySem.F.args_zip_next_1 _))))
theorem pyNextT_end {zz ti tp ja jb la lb : Addr} {m n : Nat} {xs ys : Array Value} {va vb : Value} {R : Option Value → Shared → Prop} (hh : ar.handled = none) (D : ZipApart zz ti tp ja jb la lb)
    (g1 : IsZip st.heap zz ti tp .none) (g2 : IsPair st.heap ti (.ref ja) (.ref jb)) (g3 : IsPair st.heap tp va vb)
    (p1 : st.heap.IsTupleIter ja la m) (p2 : st.heap.IsTupleIter jb lb n) (q1 : st.heap.IsTuple la xs) (q2 : st.heap.IsTuple lb ys) (ee : xs[m]? = none ∨ ys[n]? = none)
    (k : ∀ hp, (∀ c o, c ≠ zz → c ≠ tp → c ≠ ja → c ≠ jb → st.heap.get? c = some o → hp.get? c = some o) → R none { st with heap := hp }) : wpAny (model pr wd) ar (pyNext (.ref zz)) R Er st := by
  have ty : st.TypeIs (.ref zz) "zip" := ⟨_, g1, rfl⟩
  unfold pyNext
  refine wpAny_bind (wpAny_attempt (wpAny_callSpecial?_slot (name := Str.ofString "__next__") ty PySem.F.slot_zip_next (wpAny_call_entry PySem.F.slot_zip_next ty PySem.F.entry_zip_next
    (zipT_end hh D g1 g2 g3 p1 p2 q1 q2 ee fun hp ex hk he => ?_) (PySem.F.args_zip_next_1 _))))
  obtain ⟨ob, ho, hc⟩ := he
  refine wpAny_bind (wpAny_isInstance (T := "StopIteration") (b := true) ⟨ob, ho, hc⟩ isSubtype_stop ?_)
  exact wpAny_pure (k _ hk)
end
abbrev zT1 (h : Heap) (la : Addr) : Heap := h.push { cls := .type "tuple_iterator", data := .fields #[.ref la, .int 0 0] }
abbrev zT2 (h : Heap) (la lb : Addr) : Heap := (zT1 h la).push { cls := .type "tuple_iterator", data := .fields #[.ref lb, .int 0 0] }
abbrev zT3 (h : Heap) (la lb : Addr) : Heap := (zT2 h la lb).push { cls := .type "tuple", data := .seq #[.ref h.objs.size, .ref (zT1 h la).objs.size] }
abbrev zT4 (h : Heap) (la lb : Addr) : Heap := (zT3 h la lb).push { cls := .type "tuple", data := .seq #[.none, .none] }
abbrev zT5 (h : Heap) (la lb : Addr) : Heap := (zT4 h la lb).push { cls := .type "zip", data := .fields #[.none, .bool false, .bool false, .ref (zT2 h la lb).objs.size, .ref (zT3 h la lb).objs.size] }
theorem meets_zipT (la lb : Addr) (xs ys : Array Value) :
    Meets (Builtin.«zip.__new__» ⟨[.type "zip", .ref la, .ref lb], []⟩) (fun _ R s => s.heap.IsTuple la xs ∧ s.heap.IsTuple lb ys ∧
      R (.ok (.ret (.ref (zT4 s.heap la lb).objs.size))) { s with heap := zT5 s.heap la lb }) :=
  .of_wp fun prog w A R s h => by
    obtain ⟨hp, gg, dd, tt, oo⟩ := s
    obtain ⟨h1, h2, h⟩ := h
    have hsub := sub_zip
    have m1 : Heap.IsTuple (Shared.heap ⟨hp, gg, dd, tt, oo⟩) la xs := h1
    have m2 : Heap.IsTuple (Shared.heap ⟨hp.push { cls := .type "tuple_iterator", data := .fields #[.ref la, .int 0 0] }, gg, dd, tt, oo⟩) lb ys := Heap.IsTuple.push h2 _
    wp_walk using PySem.wpAny_pyIter_tuple m1, PySem.wpAny_pyIter_tuple m2
    exact ⟨_, rfl, h⟩
section
variable {pr : Program} {wd : World} {ar : Around} {Er : Value → Shared → Prop} {st : Shared}
theorem call_zipT {la lb : Addr} {xs ys : Array Value} {R : Value → Shared → Prop} (h1 : st.heap.IsTuple la xs) (h2 : st.heap.IsTuple lb ys)
    (k : ∀ hp, IsZip hp (st.heap.objs.size + 4) (st.heap.objs.size + 2) (st.heap.objs.size + 3) .none → IsPair hp (st.heap.objs.size + 2) (.ref st.heap.objs.size) (.ref (st.heap.objs.size + 1)) →
      IsPair hp (st.heap.objs.size + 3) .none .none → hp.IsTupleIter st.heap.objs.size la 0 → hp.IsTupleIter (st.heap.objs.size + 1) lb 0 → hp.objs.size = st.heap.objs.size + 5 →
      (∀ c o, st.heap.get? c = some o → hp.get? c = some o) → R (.ref (st.heap.objs.size + 4)) { st with heap := hp }) :
    wpAny (model pr wd) ar (call (.type "zip") [.ref la, .ref lb]) R Er st := by
  refine callType_new PySem.F.called_zip (by decide) (PySem.F.typeCall_zip_2 _ _) (PySem.F.newCall_zip_2 _ _) (fun obj => PySem.F.args_object_init_3 obj _ _) PySem.F.entry_zip_new (meets_zipT la lb xs ys) ⟨h1, h2, ?_⟩
  have z1 : (zT1 st.heap la).objs.size = st.heap.objs.size + 1 := Heap.size_push ..
  have z2 : (zT2 st.heap la lb).objs.size = st.heap.objs.size + 2 := by rw [Heap.size_push, z1]
  have z3 : (zT3 st.heap la lb).objs.size = st.heap.objs.size + 3 := by rw [Heap.size_push, z2]
  have z4 : (zT4 st.heap la lb).objs.size = st.heap.objs.size + 4 := by rw [Heap.size_push, z3]
  have z5 : (zT5 st.heap la lb).objs.size = st.heap.objs.size + 5 := by rw [Heap.size_push, z4]
  have g5 : (zT5 st.heap la lb).get? (zT4 st.heap la lb).objs.size = some _ := Heap.get?_push_size _ rfl
  have g4 : (zT5 st.heap la lb).get? (zT3 st.heap la lb).objs.size = some _ := Heap.get?_push_of_some _ (Heap.get?_push_size _ rfl)
  have g3 : (zT5 st.heap la lb).get? (zT2 st.heap la lb).objs.size = some _ := Heap.get?_push_of_some _ (Heap.get?_push_of_some _ (Heap.get?_push_size _ rfl))
  have g2 : (zT5 st.heap la lb).get? (zT1 st.heap la).objs.size = some _ := Heap.get?_push_of_some _ (Heap.get?_push_of_some _ (Heap.get?_push_of_some _ (Heap.get?_push_size _ rfl)))
  have g1 : (zT5 st.heap la lb).get? st.heap.objs.size = some _ := Heap.get?_push_of_some _ (Heap.get?_push_of_some _ (Heap.get?_push_of_some _ (Heap.get?_push_of_some _ (Heap.get?_push_size _ rfl))))
  show _ ∧ _
  rw [z2, z3, z4] at g5
  rw [z1, z2] at g3
  rw [z3] at g4
  rw [z1] at g2
  rw [z4]
  exact ⟨⟨_, g5, rfl⟩, k _ g5 g3 g4 ⟨_, g1, rfl, rfl⟩ ⟨_, g2, rfl, rfl⟩ z5 fun c o q => Heap.get?_push_of_some _ (Heap.get?_push_of_some _ (Heap.get?_push_of_some _ (Heap.get?_push_of_some _ (Heap.get?_push_of_some _ q))))⟩
end
/-- the tuples at a and b, the items in new pairs -/
def Izt (K : PySem.W.Frag) (a b : Addr) : It :=
  ⟨fun i H => ∃ (xs ys : List V) (x y : V), SqT K H a xs ∧ SqT K H b ys ∧ xs[i]? = some x ∧ ys[i]? = some y,
    fun i H v H' => ∃ T x y, v = .ref T ∧ H T = none ∧ H' = upd H T (.tup [x, y]) ∧ (∀ xs, SqT K H a xs → xs[i]? = some x) ∧ ∀ ys, SqT K H b ys → ys[i]? = some y,
    fun i H => ∃ xs ys : List V, SqT K H a xs ∧ SqT K H b ys ∧ (xs.length ≤ i ∨ ys.length ≤ i)⟩
theorem turn_zipT {P : Program} {w : World} {K : PySem.W.Frag} {elts : List Expr} {kk : Nat} {tpos : Pos} {a b zz ti tp ja jb : Addr} (D : ZipApart zz ti tp ja jb a b) :
    Turn P w K (.Tuple elts kk tpos) (Izt K a b) [zz, ti, tp, ja, jb] zz (fun i h => IsZip h zz ti tp .none ∧ IsPair h ti (.ref ja) (.ref jb) ∧ (∃ x y, IsPair h tp x y) ∧ h.IsTupleIter ja a i ∧ h.IsTupleIter jb b i) where
  mem := by simp
  obj := fun i h g c hc => by
    obtain ⟨g1, g2, ⟨x, y, g3⟩, ⟨o1, e1, _, d1⟩, ⟨o2, e2, _, d2⟩⟩ := g
    have e' : c = zz ∨ c = ti ∨ c = tp ∨ c = ja ∨ c = jb := by simpa using hc
    rcases e' with q | q | q | q | q
    · rw [q]; exact ⟨_, g1, fun v q => nomatch q⟩
    · rw [q]; exact ⟨_, g2, fun v q => nomatch q⟩
    · rw [q]; exact ⟨_, g3, fun v q => nomatch q⟩
    · rw [q]; exact ⟨o1, e1, fun v q => by rw [d1] at q; cases q⟩
    · rw [q]; exact ⟨o2, e2, fun v q => by rw [d2] at q; cases q⟩
  keep := fun i h h' g k => by
    obtain ⟨g1, g2, ⟨x, y, g3⟩, h1, h2⟩ := g
    exact ⟨k zz (by simp) _ g1, k ti (by simp) _ g2, ⟨x, y, k tp (by simp) _ g3⟩, h1.at fun o q => k ja (by simp) o q, h2.at fun o q => k jb (by simp) o q⟩
  item := by
    intro X hP hw hK hc i pins s σ H E I hf g hg
    subst hP hw hK
    obtain ⟨g1, g2, ⟨x0, y0, g3⟩, h1, h2⟩ := g
    obtain ⟨xs, ys, x, y, hqx, hqy, hx, hy⟩ := hg
    obtain ⟨its, rv, p, _⟩ := I.tuple hqx
    obtain ⟨its2, rv2, p2, _⟩ := I.tuple hqy
    obtain ⟨u, hu, ru⟩ := rv.get hx
    obtain ⟨u2, hu2, ru2⟩ := rv2.get hy
    have lz : zz < s.heap.objs.size := Heap.lt_size g1
    refine pyNextT_item D g1 g2 g3 h1 h2 (show s.heap.IsTuple a its.toArray from p) (show s.heap.IsTuple b its2.toArray from p2) (vx := u) (vy := u2) (by simpa using hu) (by simpa using hu2) fun hp z' t' h1' h2' hT hsz hk => ?_
    refine ⟨_, rfl, wpAny_letOwnedTupleGo_zip (s := { s with heap := hp }) z' fun hq z'' sb => ?_⟩
    have hT2 : hq.get? s.heap.objs.size = some { cls := .type "tuple", data := .seq #[u, u2] } := (sb.2 _ (Nat.ne_of_gt lz)).trans hT
    have new : ObjOk X.prog X.w (upd H s.heap.objs.size (.tup [x, y])) hq s.heap.objs.size (.tup [x, y]) := ⟨by show 2 ≤ sizeLine; decide, [u, u2], .cons ru (.cons ru2 .nil), ⟨_, hT2, rfl, _, rfl⟩⟩
    have I1 : Inv X pins σ (upd H s.heap.objs.size (.tup [x, y])) { s with heap := hq } := I.turnedNew (t' := s.toks) (ch := [zz, ti, tp, ja, jb])
      (fun c o hb q => (sb.2 c (fun q' => hb (by simp [q']))).trans (hk c o (fun q' => hb (by simp [q'])) (fun q' => hb (by simp [q'])) (fun q' => hb (by simp [q'])) (fun q' => hb (by simp [q'])) q)) hf (Nat.le_refl _) new
    refine ⟨.ref s.heap.objs.size, _, I1, rfl, ⟨_, x, y, rfl, I.hok.fresh (Nat.le_refl _), rfl, fun l hl => by rw [I.tuple_inj hl hqx]; exact hx, fun l hl => by rw [I.tuple_inj hl hqy]; exact hy⟩, ⟨z'', ?_, ⟨u, u2, ?_⟩, ?_, ?_⟩, fun c hcm => ?_⟩
    · exact (sb.2 _ D.TIz).trans (hk _ _ D.TIz D.TITO D.TIi1 D.TIi2 g2)
    · exact (sb.2 _ D.TOz).trans t'
    · exact h1'.at fun o q => (sb.2 _ D.i1z).trans q
    · exact h2'.at fun o q => (sb.2 _ D.i2z).trans q
    · have hlt : c < s.heap.objs.size := by
        have e' : c = zz ∨ c = ti ∨ c = tp ∨ c = ja ∨ c = jb := by simpa using hcm
        rcases e' with q | q | q | q | q
        · rw [q]; exact lz
        · rw [q]; exact Heap.lt_size g2
        · rw [q]; exact Heap.lt_size g3
        · rw [q]; obtain ⟨_, e1, _⟩ := h1; exact Heap.lt_size e1
        · rw [q]; obtain ⟨_, e2, _⟩ := h2; exact Heap.lt_size e2
      rw [upd_ne (Nat.ne_of_lt hlt)]
      exact (hf c hcm).1
  done := by
    intro X hP hw hK hc i pins s σ H E I hf g hg
    subst hP hw hK
    obtain ⟨g1, g2, ⟨x0, y0, g3⟩, h1, h2⟩ := g
    obtain ⟨xs, ys, hqx, hqy, hend⟩ := hg
    obtain ⟨its, rv, p, _⟩ := I.tuple hqx
    obtain ⟨its2, rv2, p2, _⟩ := I.tuple hqy
    have l1 := rv.length
    have l2 := rv2.length
    have he : its.toArray[i]? = none ∨ its2.toArray[i]? = none := by
      rcases hend with q | q
      · exact .inl (by simp; omega)
      · exact .inr (by simp; omega)
    exact pyNextT_end (I.ok.hd hc) D g1 g2 g3 h1 h2 (show s.heap.IsTuple a its.toArray from p) (show s.heap.IsTuple b its2.toArray from p2) he fun hp hk => ⟨rfl, I.turnedL (t' := s.toks) (ch := [zz, ti, tp, ja, jb])
      (fun c o hb q => hk c o (fun q' => hb (by simp [q'])) (fun q' => hb (by simp [q'])) (fun q' => hb (by simp [q'])) (fun q' => hb (by simp [q'])) q) hf⟩
  self := fun _ _ _ _ _ g h => wpAny_pyIter_zip g.1 h
def iZipT (K : PySem.W.Frag) (ta : TA) : TI := fun σ H R => ta σ H fun vs H1 => ∃ a b xs ys, vs = [.ref a, .ref b] ∧ SqT K H1 a xs ∧ SqT K H1 b ys ∧ R (Izt K a b) H1
theorem pi_zipT {X : Cx} {e e2 : Expr} {ta : TA} {p pos tpos : Pos} {elts : List Expr} {kk : Nat} (hg : Gl X "zip") (hm : X.mg "zip" = none) (ha : PA X [e, e2] ta)
    (hs : starEach [e, e2] X.env = (false, eval e X.env) :: starEach [e2] X.env := by rfl) (hpl : (backTo pos (starEach [e2] X.env)).any (·.1) = false := by rfl) :
    PI X (.Tuple elts kk tpos) (.Call (.Name "zip" p) [e, e2] [] pos) (iZipT X.K ta) := by
  intro pins s σ H R I h
  refine Call_ (ld_blt I hg hm boot_zip5 (PyProof.Rows.callWith_type1 (thn (ha pos pins s σ H _ I h) fun us s1 ⟨vs, H1, I1, r1, q1⟩ => ?_) hs hpl))
  obtain ⟨a, b, xs, ys, ex, hqx, hqy, q⟩ := q1
  subst ex
  cases r1 with
  | cons r rr =>
    cases rr with
    | cons r' rr =>
      cases rr
      cases r
      cases r'
      obtain ⟨its, rv, p1, _⟩ := I1.tuple hqx
      obtain ⟨its2, rv2, p2, _⟩ := I1.tuple hqy
      have m1 : s1.heap.IsTuple a its.toArray := p1
      have m2 : s1.heap.IsTuple b its2.toArray := p2
      have la : a < s1.heap.objs.size := by obtain ⟨_, z, _⟩ := m1; exact Heap.lt_size z
      have lb : b < s1.heap.objs.size := by obtain ⟨_, z, _⟩ := m2; exact Heap.lt_size z
      refine call_zipT m1 m2 fun hp g1 g2 g3 h1 h2 hsz hk => wpAny_pyIter_zip g1 ?_
      have I2 : Inv X pins σ H1 { s1 with heap := hp } := I1.kept (t' := s1.toks) hk
      refine ⟨s1.heap.objs.size + 4, [s1.heap.objs.size + 4, s1.heap.objs.size + 2, s1.heap.objs.size + 3, s1.heap.objs.size, s1.heap.objs.size + 1], _, _, H1, rfl, I2, turn_zipT (PySem.W.ktu_apart s1.heap.objs.size a b la lb), ⟨g1, g2, ⟨_, _, g3⟩, h1, h2⟩, fun c hcm => ?_, q⟩
      have hle : s1.heap.objs.size ≤ c := by
        have e' : c = s1.heap.objs.size + 4 ∨ c = s1.heap.objs.size + 2 ∨ c = s1.heap.objs.size + 3 ∨ c = s1.heap.objs.size ∨ c = s1.heap.objs.size + 1 := by simpa using hcm
        rcases e' with z | z | z | z | z <;> rw [z] <;> first | exact Nat.le_add_right _ _ | exact Nat.le_refl _
      exact I1.fpOk hle (I1.hok.fresh hle)
end Nz

end
section
set_option Elab.async false
set_option maxHeartbeats 1000000
set_option linter.all false
namespace Nc
open Uw22
/-! ### rows, place by place -/
/-- the most a row is off behind a cut, walked from the place (x, y) -/
def cost (d i : Nat) : Nat → Nat → List Nat → Nat
  | x, y, [] => off d i x y
  | x, y, c :: l => max (off d i x y) (cost d i (x + deep c) (y + in_ c) l)
theorem total_acc : ∀ (l : List Nat) (a : Nat), l.foldl (fun a b => a + b) a = a + total l
  | [], a => rfl
  | b :: l, a => by
    show l.foldl (fun a b => a + b) (a + b) = a + l.foldl (fun a b => a + b) (0 + b)
    rw [total_acc l (a + b), total_acc l (0 + b)]
    omega
theorem deepOf_cons (c : Nat) (l : List Nat) : deepOf (c :: l) = deep c + deepOf l := by
  show (l.map deep).foldl (fun a b => a + b) (0 + deep c) = _
  rw [total_acc]
  show 0 + deep c + deepOf l = _
  omega
theorem inOf_cons (c : Nat) (l : List Nat) : inOf (c :: l) = in_ c + inOf l := by
  show (l.map in_).foldl (fun a b => a + b) (0 + in_ c) = _
  rw [total_acc]
  show 0 + in_ c + inOf l = _
  omega
theorem deepOf_nil : deepOf [] = 0 := rfl
theorem inOf_nil : inOf [] = 0 := rfl
theorem max_acc : ∀ (l : List Nat) (a : Nat), l.foldl max a = max a (l.foldl max 0)
  | [], a => by show a = max a 0; omega
  | b :: l, a => by
    show l.foldl max (max a b) = max a (l.foldl max (max 0 b))
    rw [max_acc l (max a b), max_acc l (max 0 b)]
    omega
/-- the beginnings, from a place -/
theorem uneven_at (d i : Nat) : ∀ (l : List Nat) (x y : Nat),
    ((List.range (l.length + 1)).map fun k => off d i (x + deepOf (l.take k)) (y + inOf (l.take k))).foldl max 0 = cost d i x y l
  | [], x, y => by
    show max 0 (off d i (x + 0) (y + 0)) = off d i x y
    rw [Nat.add_zero, Nat.add_zero]
    omega
  | c :: l, x, y => by
    have e : ((List.range ((c :: l).length + 1)).map fun k => off d i (x + deepOf ((c :: l).take k)) (y + inOf ((c :: l).take k))) =
        off d i x y :: ((List.range (l.length + 1)).map fun k => off d i (x + deep c + deepOf (l.take k)) (y + in_ c + inOf (l.take k))) := by
      rw [List.length_cons, List.range_succ_eq_map, List.map_cons, List.map_map]
      refine congr (congrArg _ ?_) (List.map_congr_left fun k _ => ?_)
      · show off d i (x + 0) (y + 0) = _
        rw [Nat.add_zero, Nat.add_zero]
      · show off d i (x + deepOf (c :: l.take k)) (y + inOf (c :: l.take k)) = _
        rw [deepOf_cons, inOf_cons, Nat.add_assoc, Nat.add_assoc]
    rw [e, List.foldl_cons, max_acc, uneven_at d i l (x + deep c) (y + in_ c)]
    show max (max 0 _) _ = max _ _
    omega
theorem uneven_cost (d i : Nat) (l : List Nat) : uneven d i l = cost d i 0 0 l := by
  rw [← uneven_at]
  show ((List.range (l.length + 1)).map fun k => off d i (deepOf (l.take k)) (inOf (l.take k))).foldl max 0 = _
  simp only [Nat.zero_add]
/-! ### all rows that lead there -/
theorem dip {c : Nat} (h : c < 3) : deep c + in_ c = 2 := by
  unfold deep in_; omega
theorem to_enough : ∀ (n a b : Nat), a + b ≤ n → to_ n a b = to_ (a + b) a b
  | 0, a, b, h => by
    have e : a + b = 0 := by omega
    rw [e]
  | n + 1, a, b, h => by
    cases e : a + b with
    | zero =>
      have ha : a = 0 := by omega
      have hb : b = 0 := by omega
      subst ha hb
      rfl
    | succ m =>
      unfold to_
      by_cases hz : a = 0 ∧ b = 0
      · omega
      · rw [if_neg hz, if_neg hz]
        have q : ∀ c, c ∈ List.range 3 → (if deep c ≤ a ∧ in_ c ≤ b then (to_ n (a - deep c) (b - in_ c)).map fun l => c :: l else []) =
            (if deep c ≤ a ∧ in_ c ≤ b then (to_ m (a - deep c) (b - in_ c)).map fun l => c :: l else []) := fun c hc => by
          have hd := dip (List.mem_range.mp hc)
          by_cases hf : deep c ≤ a ∧ in_ c ≤ b
          · rw [if_pos hf, if_pos hf, to_enough n _ _ (by omega), to_enough m _ _ (by omega)]
          · rw [if_neg hf, if_neg hf]
        show List.flatMap _ [0, 1, 2] = List.flatMap _ [0, 1, 2]
        simp only [List.flatMap_cons, List.flatMap_nil]
        rw [q 0 (by decide), q 1 (by decide), q 2 (by decide)]
  termination_by n => n
/-- all rows from a place to (d, i), in order -/
def onRows (d i x y : Nat) : List (List Nat) := to_ ((d - x) + (i - y)) (d - x) (i - y)
/-- the rows that begin with c -/
def onBy (d i x y c : Nat) : List (List Nat) := if x + deep c ≤ d ∧ y + in_ c ≤ i then (onRows d i (x + deep c) (y + in_ c)).map fun l => c :: l else []
theorem onRows_goal (d i : Nat) : onRows d i d i = [[]] := by
  unfold onRows
  rw [Nat.sub_self, Nat.sub_self]
  rfl
theorem onRows_step {d i x y : Nat} (hx : x ≤ d) (hy : y ≤ i) (h : ¬ (x = d ∧ y = i)) : onRows d i x y = onBy d i x y 0 ++ (onBy d i x y 1 ++ onBy d i x y 2) := by
  have hb : ∀ c, c ∈ List.range 3 → ∀ m, (d - x) + (i - y) = m + 1 → (if deep c ≤ d - x ∧ in_ c ≤ i - y then (to_ m (d - x - deep c) (i - y - in_ c)).map fun l => c :: l else []) = onBy d i x y c := fun c hc m hm => by
    have hd := dip (List.mem_range.mp hc)
    unfold onBy onRows
    by_cases hf : deep c ≤ d - x ∧ in_ c ≤ i - y
    · rw [if_pos hf, if_pos (by omega), to_enough m _ _ (by omega)]
      have e1 : d - x - deep c = d - (x + deep c) := by omega
      have e2 : i - y - in_ c = i - (y + in_ c) := by omega
      rw [e1, e2]
    · rw [if_neg hf, if_neg (by omega)]
  obtain ⟨m, hm⟩ : ∃ m, (d - x) + (i - y) = m + 1 := ⟨(d - x) + (i - y) - 1, by omega⟩
  show to_ ((d - x) + (i - y)) (d - x) (i - y) = _
  rw [hm]
  unfold to_
  rw [if_neg (by omega)]
  show List.flatMap _ [0, 1, 2] = _
  simp only [List.flatMap_cons, List.flatMap_nil, List.append_nil]
  rw [hb 0 (by decide) m hm, hb 1 (by decide) m hm, hb 2 (by decide) m hm]
/-! ### the least of a list -/
def least : List Nat → Option Nat
  | [] => none
  | a :: l => match least l with
    | none => some a
    | some b => some (min a b)
def omin : Option Nat → Option Nat → Option Nat
  | none, o => o
  | some a, none => some a
  | some a, some b => some (min a b)
theorem omin_none (o : Option Nat) : omin o none = o := by cases o <;> rfl
theorem omin_assoc (a b c : Option Nat) : omin (omin a b) c = omin a (omin b c) := by
  cases a <;> cases b <;> cases c <;> simp [omin] <;> omega
theorem least_cons (a : Nat) (l : List Nat) : least (a :: l) = omin (some a) (least l) := by
  show (match least l with | none => some a | some b => some (min a b)) = _
  cases least l <;> rfl
theorem least_append : ∀ (l m : List Nat), least (l ++ m) = omin (least l) (least m)
  | [], m => rfl
  | a :: l, m => by rw [List.cons_append, least_cons, least_cons, least_append l m, omin_assoc]
theorem least_max (k : Nat) : ∀ l : List Nat, least (l.map (max k)) = (least l).map (max k)
  | [] => rfl
  | a :: l => by
    rw [List.map_cons, least_cons, least_cons, least_max k l]
    cases least l with
    | none => rfl
    | some b => simp [omin]; omega
theorem least_none {l : List Nat} (h : least l = none) : l = [] := by
  cases l with
  | nil => rfl
  | cons a l =>
    rw [least_cons] at h
    cases e : least l <;> rw [e] at h <;> cases h
theorem least_of {l : List Nat} {m : Nat} (h1 : m ∈ l) (h2 : ∀ y, y ∈ l → m ≤ y) : least l = some m := by
  induction l with
  | nil => cases h1
  | cons a l ih =>
    rw [least_cons]
    have ha := h2 a (List.mem_cons_self ..)
    rcases List.mem_cons.mp h1 with e | hm
    · subst e
      cases e : least l with
      | none => rfl
      | some b =>
        have hb : b ∈ l := by
          clear ih h1 h2 ha
          induction l generalizing b with
          | nil => cases e
          | cons c l ih =>
            rw [least_cons] at e
            cases e2 : least l with
            | none => rw [e2] at e; cases e; exact List.mem_cons_self ..
            | some b2 =>
              rw [e2] at e
              have e3 : min c b2 = b := Option.some.inj e
              by_cases hc : c ≤ b2
              · have : c = b := by omega
                rw [this]; exact List.mem_cons_self ..
              · have : b2 = b := by omega
                rw [← this]; exact List.mem_cons_of_mem _ (ih b2 e2)
        have := h2 b (List.mem_cons_of_mem _ hb)
        show some (min _ b) = _
        rw [Nat.min_eq_left this]
    · rw [ih hm fun y hy => h2 y (List.mem_cons_of_mem _ hy)]
      show some (min a m) = _
      rw [Nat.min_eq_right ha]
theorem least_mem : ∀ {l : List Nat} {m : Nat}, least l = some m → m ∈ l ∧ ∀ y, y ∈ l → m ≤ y
  | [], m, h => by cases h
  | a :: l, m, h => by
    rw [least_cons] at h
    cases e : least l with
    | none =>
      rw [e] at h
      cases h
      rw [least_none e]
      exact ⟨List.mem_cons_self .., fun y hy => by simp at hy; omega⟩
    | some b =>
      rw [e] at h
      have e3 : min a b = m := Option.some.inj h
      obtain ⟨h1, h2⟩ := least_mem e
      refine ⟨?_, fun y hy => ?_⟩
      · by_cases hc : a ≤ b
        · have : a = m := by omega
          rw [this]; exact List.mem_cons_self ..
        · have : b = m := by omega
          rw [← this]; exact List.mem_cons_of_mem _ h1
      · rcases List.mem_cons.mp hy with q | q
        · omega
        · have := h2 y q; omega
/-! ### how uneven the least uneven row from a place is -/
def leastAt (d i x y : Nat) : Option Nat := least ((onRows d i x y).map (cost d i x y))
/-- of the place that c leads to, if it is no farther than the goal -/
def leastBy (d i x y c : Nat) : Option Nat := if x + deep c ≤ d ∧ y + in_ c ≤ i then leastAt d i (x + deep c) (y + in_ c) else none
theorem least_by (d i x y c : Nat) : least ((onBy d i x y c).map (cost d i x y)) = (leastBy d i x y c).map (max (off d i x y)) := by
  unfold onBy leastBy
  by_cases h : x + deep c ≤ d ∧ y + in_ c ≤ i
  · rw [if_pos h, if_pos h, List.map_map]
    show least ((onRows d i (x + deep c) (y + in_ c)).map fun l => max (off d i x y) (cost d i (x + deep c) (y + in_ c) l)) = (least ((onRows d i (x + deep c) (y + in_ c)).map (cost d i (x + deep c) (y + in_ c)))).map (max (off d i x y))
    rw [← least_max, List.map_map]
    rfl
  · rw [if_neg h, if_neg h]
    rfl
theorem omin_map (k : Nat) (a b : Option Nat) : omin (a.map (max k)) (b.map (max k)) = (omin a b).map (max k) := by
  cases a <;> cases b <;> simp [omin] <;> omega
theorem leastAt_goal (d i : Nat) : leastAt d i d i = some (off d i d i) := by
  unfold leastAt
  rw [onRows_goal]
  rfl
theorem leastAt_step {d i x y : Nat} (hx : x ≤ d) (hy : y ≤ i) (h : ¬ (x = d ∧ y = i)) :
    leastAt d i x y = (omin (leastBy d i x y 0) (omin (leastBy d i x y 1) (leastBy d i x y 2))).map (max (off d i x y)) := by
  unfold leastAt
  rw [onRows_step hx hy h, List.map_append, List.map_append, least_append, least_append, least_by, least_by, least_by, omin_map, omin_map]
/-! ### how many rows from a place are nowhere more uneven than u -/
def good (d i u x y : Nat) : List (List Nat) := (onRows d i x y).filter fun l => decide (cost d i x y l ≤ u)
def goodBy (d i u x y c : Nat) : List (List Nat) := if x + deep c ≤ d ∧ y + in_ c ≤ i then (good d i u (x + deep c) (y + in_ c)).map fun l => c :: l else []
def countAt (d i u x y : Nat) : Nat := (good d i u x y).length
def countBy (d i u x y c : Nat) : Nat := if x + deep c ≤ d ∧ y + in_ c ≤ i then countAt d i u (x + deep c) (y + in_ c) else 0
theorem cost_ge (d i : Nat) : ∀ (x y : Nat) (l : List Nat), off d i x y ≤ cost d i x y l
  | x, y, [] => Nat.le_refl _
  | x, y, c :: l => Nat.le_max_left _ _
theorem good_off {d i u x y : Nat} (h : u < off d i x y) : good d i u x y = [] := by
  unfold good
  refine List.filter_eq_nil_iff.mpr fun l _ => ?_
  have := cost_ge d i x y l
  simp
  omega
theorem good_goal {d i u : Nat} (h : off d i d i ≤ u) : good d i u d i = [[]] := by
  unfold good
  rw [onRows_goal, List.filter_cons, if_pos (by show decide (off d i d i ≤ u) = true; exact decide_eq_true h)]
  rfl
theorem good_by {d i u x y c : Nat} (h : off d i x y ≤ u) : (onBy d i x y c).filter (fun l => decide (cost d i x y l ≤ u)) = goodBy d i u x y c := by
  unfold onBy goodBy
  by_cases hf : x + deep c ≤ d ∧ y + in_ c ≤ i
  · rw [if_pos hf, if_pos hf, List.filter_map]
    unfold good
    refine congrArg _ (List.filter_congr fun l _ => ?_)
    show decide (max (off d i x y) (cost d i (x + deep c) (y + in_ c) l) ≤ u) = _
    by_cases hq : cost d i (x + deep c) (y + in_ c) l ≤ u
    · rw [decide_eq_true hq, decide_eq_true (by omega)]
    · rw [decide_eq_false hq, decide_eq_false (by omega)]
  · rw [if_neg hf, if_neg hf]
    rfl
theorem good_step {d i u x y : Nat} (hx : x ≤ d) (hy : y ≤ i) (h : ¬ (x = d ∧ y = i)) (ho : off d i x y ≤ u) :
    good d i u x y = goodBy d i u x y 0 ++ (goodBy d i u x y 1 ++ goodBy d i u x y 2) := by
  rw [← good_by ho, ← good_by ho, ← good_by ho]
  show (onRows d i x y).filter _ = _
  rw [onRows_step hx hy h, List.filter_append, List.filter_append]
theorem goodBy_len (d i u x y c : Nat) : (goodBy d i u x y c).length = countBy d i u x y c := by
  unfold goodBy countBy countAt
  by_cases h : x + deep c ≤ d ∧ y + in_ c ≤ i
  · rw [if_pos h, if_pos h, List.length_map]
  · rw [if_neg h, if_neg h]
    rfl
theorem countAt_off {d i u x y : Nat} (h : u < off d i x y) : countAt d i u x y = 0 := by
  unfold countAt
  rw [good_off h]
  rfl
theorem countAt_goal {d i u : Nat} (h : off d i d i ≤ u) : countAt d i u d i = 1 := by
  unfold countAt
  rw [good_goal h]
  rfl
theorem countAt_step {d i u x y : Nat} (hx : x ≤ d) (hy : y ≤ i) (h : ¬ (x = d ∧ y = i)) (ho : off d i x y ≤ u) :
    countAt d i u x y = countBy d i u x y 0 + (countBy d i u x y 1 + countBy d i u x y 2) := by
  unfold countAt
  rw [good_step hx hy h ho, List.length_append, List.length_append, goodBy_len, goodBy_len, goodBy_len]
/-- the lowest cut that leads on -/
def firstCut (d i u x y : Nat) : Nat := if 0 < countBy d i u x y 0 then 0 else if 0 < countBy d i u x y 1 then 1 else 2
theorem firstCut_lt (d i u x y : Nat) : firstCut d i u x y < 3 := by
  unfold firstCut
  split
  · decide
  · split <;> decide
/-- the earliest row from a place: its first cut, then the earliest from where that leads -/
theorem good_head {d i u x y : Nat} (hx : x ≤ d) (hy : y ≤ i) (h : ¬ (x = d ∧ y = i)) (hc : 0 < countAt d i u x y) :
    0 < countBy d i u x y (firstCut d i u x y) ∧ x + deep (firstCut d i u x y) ≤ d ∧ y + in_ (firstCut d i u x y) ≤ i ∧ 0 < countAt d i u (x + deep (firstCut d i u x y)) (y + in_ (firstCut d i u x y)) ∧
      (good d i u x y).head? = ((good d i u (x + deep (firstCut d i u x y)) (y + in_ (firstCut d i u x y))).head?).map (fun l => firstCut d i u x y :: l) := by
  have ho : off d i x y ≤ u := by
    by_cases hq : u < off d i x y
    · rw [countAt_off hq] at hc; omega
    · omega
  have hs := countAt_step hx hy h ho
  have key : ∀ c, 0 < countBy d i u x y c → (x + deep c ≤ d ∧ y + in_ c ≤ i ∧ 0 < countAt d i u (x + deep c) (y + in_ c)) ∧ ∀ more, (goodBy d i u x y c ++ more).head? = ((good d i u (x + deep c) (y + in_ c)).head?).map (fun l => c :: l) := fun c hp => by
    unfold countBy at hp
    by_cases hf : x + deep c ≤ d ∧ y + in_ c ≤ i
    · rw [if_pos hf] at hp
      refine ⟨⟨hf.1, hf.2, hp⟩, fun more => ?_⟩
      unfold goodBy
      rw [if_pos hf]
      unfold countAt at hp
      cases e : good d i u (x + deep c) (y + in_ c) with
      | nil => rw [e] at hp; cases hp
      | cons l r => rfl
    · rw [if_neg hf] at hp
      omega
  have nil : ∀ c, ¬ 0 < countBy d i u x y c → goodBy d i u x y c = [] := fun c hn => by
    have := goodBy_len d i u x y c
    exact List.length_eq_zero_iff.mp (by omega)
  rw [good_step hx hy h ho]
  unfold firstCut
  by_cases h0 : 0 < countBy d i u x y 0
  · simp only [if_pos h0]
    obtain ⟨⟨k1, k2, k3⟩, k4⟩ := key 0 h0
    exact ⟨h0, k1, k2, k3, k4 _⟩
  · simp only [if_neg h0]
    rw [nil 0 h0, List.nil_append]
    by_cases h1 : 0 < countBy d i u x y 1
    · simp only [if_pos h1]
      obtain ⟨⟨k1, k2, k3⟩, k4⟩ := key 1 h1
      exact ⟨h1, k1, k2, k3, k4 _⟩
    · simp only [if_neg h1]
      have h2 : 0 < countBy d i u x y 2 := by omega
      rw [nil 1 h1, List.nil_append]
      obtain ⟨⟨k1, k2, k3⟩, k4⟩ := key 2 h2
      refine ⟨h2, k1, k2, k3, ?_⟩
      have := k4 []
      rw [List.append_nil] at this
      exact this
/-! ### the specification's fold -/
theorem fold_best (f : List Nat → Nat) : ∀ (L : List (List Nat)) (b : Best),
    L.foldl (fun (b : Option Best) l => let n := f l
      match b with
      | none => some ⟨n, 1, l⟩
      | some x => if n < x.uneven then some ⟨n, 1, l⟩ else if n = x.uneven then some ⟨x.uneven, x.many + 1, x.row⟩ else some x) (some b) =
    some (match least (L.map f) with
      | none => b
      | some m => if m < b.uneven then ⟨m, (L.filter fun l => decide (f l ≤ m)).length, ((L.filter fun l => decide (f l ≤ m)).head?).getD []⟩
        else ⟨b.uneven, b.many + (L.filter fun l => decide (f l ≤ b.uneven)).length, b.row⟩)
  | [], b => rfl
  | l :: L, b => by
    have ih := fold_best f L
    rw [List.foldl_cons, List.map_cons, least_cons]
    show L.foldl _ (if f l < b.uneven then some ⟨f l, 1, l⟩ else if f l = b.uneven then some ⟨b.uneven, b.many + 1, b.row⟩ else some b) = _
    by_cases h1 : f l < b.uneven
    · rw [if_pos h1, ih]
      refine congrArg some ?_
      cases e : least (L.map f) with
      | none =>
        have hL : L = [] := List.map_eq_nil_iff.mp (least_none e)
        subst hL
        simp [omin, h1, List.filter_cons]
      | some m =>
        have hm := (least_mem e).2
        simp only [omin]
        by_cases h2 : m < f l
        · rw [if_pos (show m < (⟨f l, 1, l⟩ : Best).uneven from h2)]
          have e2 : min (f l) m = m := by omega
          rw [e2, if_pos (by omega), List.filter_cons, if_neg (by simp; omega)]
        · rw [if_neg (show ¬ m < (⟨f l, 1, l⟩ : Best).uneven from h2)]
          have e2 : min (f l) m = f l := by omega
          rw [e2, if_pos h1, List.filter_cons, if_pos (by simp)]
          simp
          omega
    · rw [if_neg h1]
      by_cases h2 : f l = b.uneven
      · rw [if_pos h2, ih]
        refine congrArg some ?_
        cases e : least (L.map f) with
        | none =>
          have hL : L = [] := List.map_eq_nil_iff.mp (least_none e)
          subst hL
          simp [omin, h2]
        | some m =>
          simp only [omin]
          by_cases h3 : m < b.uneven
          · have e2 : min (f l) m = m := by omega
            rw [e2, if_pos h3, if_pos h3, List.filter_cons, if_neg (by simp; omega)]
          · have e2 : min (f l) m = b.uneven := by omega
            rw [e2, if_neg h3, if_neg (Nat.lt_irrefl _), List.filter_cons, if_pos (by simp; omega)]
            simp
            omega
      · rw [if_neg h2, ih]
        refine congrArg some ?_
        cases e : least (L.map f) with
        | none =>
          have hL : L = [] := List.map_eq_nil_iff.mp (least_none e)
          subst hL
          simp only [omin]
          rw [if_neg h1, List.filter_cons, if_neg (by simp; omega)]
          rfl
        | some m =>
          simp only [omin]
          by_cases h3 : m < b.uneven
          · have e2 : min (f l) m = m := by omega
            rw [e2, if_pos h3, if_pos h3, List.filter_cons, if_neg (by simp; omega)]
          · rw [if_neg h3, if_neg (by omega), List.filter_cons, if_neg (by simp; omega)]
theorem best_eq (d i : Nat) : best d i = (leastAt d i 0 0).map fun m => Best.mk m (countAt d i m 0 0) (((good d i m 0 0).head?).getD []) := by
  unfold leastAt countAt good onRows
  show (to_ (d + i) d i).foldl _ none = _
  rw [Nat.sub_zero, Nat.sub_zero]
  generalize to_ (d + i) d i = L
  have ec : ∀ l, uneven d i l = cost d i 0 0 l := uneven_cost d i
  cases L with
  | nil => rfl
  | cons l L =>
    rw [List.foldl_cons]
    show L.foldl _ (some (Best.mk (uneven d i l) 1 l)) = _
    refine (fold_best (uneven d i) L _).trans ?_
    have e0 : (uneven d i) = (cost d i 0 0) := funext ec
    rw [e0, List.map_cons, least_cons]
    cases e : least (L.map (cost d i 0 0)) with
    | none =>
      have hL : L = [] := List.map_eq_nil_iff.mp (least_none e)
      subst hL
      simp [omin, List.filter_cons]
    | some m =>
      simp only [omin, Option.map_some]
      refine congrArg some ?_
      by_cases h2 : m < cost d i 0 0 l
      · rw [if_pos (show m < (⟨cost d i 0 0 l, 1, l⟩ : Best).uneven from h2)]
        have e2 : min (cost d i 0 0 l) m = m := by omega
        rw [e2, List.filter_cons, if_neg (by simp; omega)]
      · rw [if_neg (show ¬ m < (⟨cost d i 0 0 l, 1, l⟩ : Best).uneven from h2)]
        have e2 : min (cost d i 0 0 l) m = cost d i 0 0 l := by omega
        rw [e2, List.filter_cons, if_pos (by simp)]
        simp
        omega
/-- where a row leads from a place -/
theorem leastAt_count {d i m x y : Nat} (h : leastAt d i x y = some m) : 0 < countAt d i m x y := by
  obtain ⟨h1, _⟩ := least_mem h
  obtain ⟨l, hl, e⟩ := List.mem_map.mp h1
  unfold countAt good
  refine List.length_pos_of_mem (a := l) (List.mem_filter.mpr ⟨hl, ?_⟩)
  simp
  omega
end Nc

end
section
set_option Elab.async false
set_option linter.all false
set_option maxHeartbeats 1000000
namespace Nc
open Uw22
/-! ### the places, from the goal back -/
def backs (d i : Nat) : List (Nat × Nat) := (List.range (d + 1)).flatMap fun a => (List.range (i + 1)).map fun b => (d - a, i - b)
def rank (d i x y : Nat) : Nat := (d - x) * (i + 1) + (i - y)
theorem pos_lt {a a' b b' m : Nat} (hb : b < m) (h : a < a' ∨ (a = a' ∧ b < b')) : a * m + b < a' * m + b' := by
  rcases h with h | ⟨rfl, h⟩
  · have h1 : (a + 1) * m ≤ a' * m := Nat.mul_le_mul_right m h
    rw [Nat.succ_mul] at h1
    omega
  · omega
theorem rank_lt {d i x y : Nat} : rank d i x y < (d + 1) * (i + 1) := by
  unfold rank
  have h := pos_lt (a := d - x) (a' := d + 1) (b := i - y) (b' := 0) (m := i + 1) (by omega) (.inl (by omega))
  omega
theorem rank_on {d i x y c : Nat} (hc : c < 3) (hx : x + deep c ≤ d) (hy : y + in_ c ≤ i) : rank d i (x + deep c) (y + in_ c) < rank d i x y := by
  unfold rank
  refine pos_lt (by omega) ?_
  match c, hc with
  | 0, _ => exact .inl (by unfold deep at *; omega)
  | 1, _ => exact .inl (by unfold deep at *; omega)
  | 2, _ => exact .inr (by unfold deep in_ at *; omega)
theorem rank_inj {d i x y x' y' : Nat} (hx : x ≤ d) (hy : y ≤ i) (hx' : x' ≤ d) (hy' : y' ≤ i) (h : rank d i x y = rank d i x' y') : x = x' ∧ y = y' := by
  unfold rank at h
  have key : ∀ a b a' b' : Nat, b < i + 1 → a * (i + 1) + b = a' * (i + 1) + b' → ¬ a < a' := fun a b a' b' hb e hl => by
    have := pos_lt (b' := b') hb (.inl hl)
    omega
  have h1 := key _ _ _ _ (by omega) h
  have h2 := key _ _ _ _ (by omega) h.symm
  have e : d - x = d - x' := by omega
  rw [e] at h
  omega
theorem backs_some (d i : Nat) : ∀ (n k : Nat) (p : Nat × Nat), n ≤ d + 1 →
    ((List.range n).flatMap fun a => (List.range (i + 1)).map fun b => (d - a, i - b))[k]? = some p → p.1 ≤ d ∧ p.2 ≤ i ∧ rank d i p.1 p.2 = k ∧ k < n * (i + 1)
  | 0, k, p, _, h => by simp at h
  | n + 1, k, p, hn, h => by
    have hlen : ∀ n, ((List.range n).flatMap fun a => (List.range (i + 1)).map fun b => (d - a, i - b)).length = n * (i + 1) := fun n => by
      induction n with
      | zero => simp
      | succ n ih => rw [List.range_succ (n := n), List.flatMap_append, List.length_append, ih, Nat.succ_mul]; simp
    rw [List.range_succ (n := n), List.flatMap_append] at h
    by_cases hk : k < n * (i + 1)
    · rw [List.getElem?_append_left (by rw [hlen]; exact hk)] at h
      obtain ⟨h1, h2, h3, h4⟩ := backs_some d i n k p (by omega) h
      exact ⟨h1, h2, h3, by rw [Nat.succ_mul]; omega⟩
    · rw [List.getElem?_append_right (by rw [hlen]; omega), hlen] at h
      rw [List.flatMap_cons, List.flatMap_nil, List.append_nil, List.getElem?_map] at h
      cases e : (List.range (i + 1))[k - n * (i + 1)]? with
      | none => rw [e] at h; cases h
      | some b =>
        rw [e] at h
        have hp : (d - n, i - b) = p := Option.some.inj h
        obtain ⟨hb, e2⟩ := List.getElem?_eq_some_iff.mp e
        rw [List.length_range] at hb
        rw [List.getElem_range] at e2
        subst hp
        refine ⟨by show d - n ≤ d; omega, by show i - b ≤ i; omega, ?_, by rw [Nat.succ_mul]; omega⟩
        show (d - (d - n)) * (i + 1) + (i - (i - b)) = k
        have e3 : d - (d - n) = n := by omega
        rw [e3]
        omega
theorem backs_get {d i k x y : Nat} (h : (backs d i)[k]? = some (x, y)) : x ≤ d ∧ y ≤ i ∧ rank d i x y = k := by
  obtain ⟨h1, h2, h3, _⟩ := backs_some d i (d + 1) k (x, y) (Nat.le_refl _) h
  exact ⟨h1, h2, h3⟩
theorem backs_len (d i : Nat) : (backs d i).length = (d + 1) * (i + 1) := by
  have hlen : ∀ n, ((List.range n).flatMap fun a => (List.range (i + 1)).map fun b => (d - a, i - b)).length = n * (i + 1) := fun n => by
    induction n with
    | zero => simp
    | succ n ih => rw [List.range_succ (n := n), List.flatMap_append, List.length_append, ih, Nat.succ_mul]; simp
  exact hlen _
theorem backs_le {d i : Nat} (hd : d ≤ 10) (hi : i ≤ 10) : (backs d i).length ≤ 121 := by
  rw [backs_len]
  exact Nat.le_trans (Nat.mul_le_mul (show d + 1 ≤ 11 by omega) (show i + 1 ≤ 11 by omega)) (by decide)
/-- the most a row is off, as an int -/
theorem off_int (d i x y : Nat) : ((off d i x y : Nat) : Int) = (if ((x : Int) * (i : Int) - (y : Int) * (d : Int)) < 0 then -((x : Int) * (i : Int) - (y : Int) * (d : Int)) else ((x : Int) * (i : Int) - (y : Int) * (d : Int))) := by
  unfold off
  have e1 : ((x * i : Nat) : Int) = (x : Int) * (i : Int) := by simp
  have e2 : ((y * d : Nat) : Int) = (y : Int) * (d : Int) := by simp
  rw [← e1, ← e2]
  generalize x * i = a
  generalize y * d = b
  split <;> omega
/-- the least of the places that the cuts lead to -/
def ons (d i x y n : Nat) : List Nat := (List.range n).filterMap (leastBy d i x y)
theorem ons3 (d i x y : Nat) : ons d i x y 3 = (leastBy d i x y 0).toList ++ ((leastBy d i x y 1).toList ++ (leastBy d i x y 2).toList) := by
  show List.filterMap _ [0, 1, 2] = _
  cases h0 : leastBy d i x y 0 <;> cases h1 : leastBy d i x y 1 <;> cases h2 : leastBy d i x y 2 <;> simp [h0, h1, h2]
theorem least_ons (d i x y : Nat) : least (ons d i x y 3) = omin (leastBy d i x y 0) (omin (leastBy d i x y 1) (leastBy d i x y 2)) := by
  rw [ons3]
  cases leastBy d i x y 0 <;> cases leastBy d i x y 1 <;> cases leastBy d i x y 2 <;> rfl
theorem ons_succ (d i x y n : Nat) : ons d i x y (n + 1) = ons d i x y n ++ (leastBy d i x y n).toList := by
  unfold ons
  rw [List.range_succ, List.filterMap_append]
  cases h : leastBy d i x y n <;> simp [h]
/-- no onward place: no row -/
theorem leastAt_empty {d i x y : Nat} (hx : x ≤ d) (hy : y ≤ i) (h : ¬ (x = d ∧ y = i)) (e : ons d i x y 3 = []) : leastAt d i x y = none := by
  rw [leastAt_step hx hy h, ← least_ons, e]
  rfl
theorem leastAt_some {d i x y m : Nat} (hx : x ≤ d) (hy : y ≤ i) (h : ¬ (x = d ∧ y = i)) (h1 : m ∈ ons d i x y 3) (h2 : ∀ z, z ∈ ons d i x y 3 → m ≤ z) : leastAt d i x y = some (max (off d i x y) m) := by
  rw [leastAt_step hx hy h, ← least_ons, least_of h1 h2]
  rfl
/-- the cuts that lead on -/
def cutsOn (d i u x y n : Nat) : List Nat := (List.range n).filter fun c => decide (0 < countBy d i u x y c)
theorem cutsOn_succ (d i u x y n : Nat) : cutsOn d i u x y (n + 1) = cutsOn d i u x y n ++ (if 0 < countBy d i u x y n then [n] else []) := by
  unfold cutsOn
  rw [List.range_succ, List.filter_append, List.filter_cons, List.filter_nil]
  by_cases h : 0 < countBy d i u x y n
  · rw [if_pos h, if_pos (decide_eq_true h)]
  · rw [if_neg h, if_neg (by simpa using h)]
theorem cutsOn_first {d i u x y m : Nat} (h1 : m ∈ cutsOn d i u x y 3) (h2 : ∀ z, z ∈ cutsOn d i u x y 3 → m ≤ z) : m = firstCut d i u x y := by
  unfold cutsOn at h1 h2
  obtain ⟨a1, a2⟩ := List.mem_filter.mp h1
  have a1 := List.mem_range.mp a1
  have a2 : 0 < countBy d i u x y m := of_decide_eq_true a2
  have all : ∀ c, c < 3 → 0 < countBy d i u x y c → m ≤ c := fun c hc hp => h2 c (List.mem_filter.mpr ⟨List.mem_range.mpr hc, decide_eq_true hp⟩)
  unfold firstCut
  by_cases h0 : 0 < countBy d i u x y 0
  · rw [if_pos h0]
    have := all 0 (by decide) h0
    omega
  · rw [if_neg h0]
    have n0 : m ≠ 0 := fun e => h0 (by rw [e] at a2; exact a2)
    by_cases h1 : 0 < countBy d i u x y 1
    · rw [if_pos h1]
      have := all 1 (by decide) h1
      omega
    · rw [if_neg h1]
      have n1 : m ≠ 1 := fun e => h1 (by rw [e] at a2; exact a2)
      omega
theorem cutsOn_ne {d i u x y : Nat} (hx : x ≤ d) (hy : y ≤ i) (h : ¬ (x = d ∧ y = i)) (hc : 0 < countAt d i u x y) : firstCut d i u x y ∈ cutsOn d i u x y 3 := by
  obtain ⟨h1, _⟩ := good_head hx hy h hc
  unfold cutsOn
  exact List.mem_filter.mpr ⟨List.mem_range.mpr (firstCut_lt ..), decide_eq_true h1⟩
/-- rows are short -/
theorem onRows_len {d i : Nat} : ∀ (n x y : Nat) (l : List Nat), x ≤ d → y ≤ i → (d - x) + (i - y) ≤ n → l ∈ onRows d i x y → 2 * l.length ≤ n
  | n, x, y, l, hx, hy, hn, h => by
    by_cases hg : x = d ∧ y = i
    · obtain ⟨rfl, rfl⟩ := hg
      rw [onRows_goal] at h
      have : l = [] := by simpa using h
      subst this
      exact Nat.zero_le _
    · rw [onRows_step hx hy hg] at h
      have key : ∀ c, c < 3 → l ∈ onBy d i x y c → 2 * l.length ≤ n := fun c hc hm => by
        unfold onBy at hm
        by_cases hf : x + deep c ≤ d ∧ y + in_ c ≤ i
        · rw [if_pos hf] at hm
          obtain ⟨r, hr, rfl⟩ := List.mem_map.mp hm
          have hd := dip hc
          have ih := onRows_len (n - 2) (x + deep c) (y + in_ c) r hf.1 hf.2 (by omega) hr
          show 2 * (r.length + 1) ≤ n
          omega
        · rw [if_neg hf] at hm
          cases hm
      rcases List.mem_append.mp h with h | h
      · exact key 0 (by decide) h
      · rcases List.mem_append.mp h with h | h
        · exact key 1 (by decide) h
        · exact key 2 (by decide) h
  termination_by n => n
  decreasing_by
    have hd := dip hc
    omega
theorem countBy_eq {d i u x y c : Nat} (h : x + deep c ≤ d ∧ y + in_ c ≤ i) : countBy d i u x y c = countAt d i u (x + deep c) (y + in_ c) := by
  unfold countBy
  rw [if_pos h]
theorem countBy_out {d i u x y c : Nat} (h : ¬ (x + deep c ≤ d ∧ y + in_ c ≤ i)) : countBy d i u x y c = 0 := by
  unfold countBy
  rw [if_neg h]
end Nc

end
section
set_option Elab.async false
set_option linter.all false
set_option maxRecDepth 100000
set_option maxHeartbeats 4000000
namespace Net
open PySem PySem.Spec PyProof.Rows L2
/-! ### the text by places -/
def top (i : Nat) : Stmt := PySem.Challenge.pw_netcuts_s01_answers.main.body.getD i (.Pass ⟨0, 0, 0, 0⟩)
abbrev sIsRow : Stmt := top 8
abbrev sDeep : Stmt := top 9
abbrev sIn : Stmt := top 10
abbrev sWays : Stmt := top 11
abbrev sBest : Stmt := top 16
abbrev sCheck : Stmt := top 17
abbrev sOff : Stmt := top 18
abbrev sBack : Stmt := top 19
abbrev sOnward : Stmt := top 20
abbrev sHowUn : Stmt := top 21
abbrev sLeast : Stmt := top 22
abbrev sCount : Stmt := top 23
abbrev sEarliest : Stmt := top 24
abbrev sUnit : Stmt := top 29
abbrev sUnitLen : Stmt := top 30
/-! ### what of the module is read -/
structure Tx (K : PySem.W.Frag) (mg : Str → Option Value) (aD aW aS : Addr) : Prop where
  mD : mg "DEPTHS" = some (.ref aD)
  tD : ∀ H, SqT K H aD [.int 2, .int 1, .int 0]
  mW : mg "WAYS_IN" = some (.ref aW)
  tW : ∀ H, SqT K H aW [.int 0, .int 1, .int 2]
  mS : mg "START" = some (.ref aS)
  tS : ∀ H, SqT K H aS [.int 0, .int 0]
  iOut : ∃ t, mg "OUT_OF_BOUNDS" = some (.int (-1) t)
  iElse : ∃ t, mg "LEADS_ELSEWHERE" = some (.int (-6) t)
  iCross : ∃ t, mg "SIDES_CROSS" = some (.int (-6) t)
  iHi : ∃ t, mg "HIGHEST_CUT" = some (.int 2 t)
  iMost : ∃ t, mg "MOST_CUTS" = some (.int 40 t)
  iFar : ∃ t, mg "FARTHEST_BEST" = some (.int 10 t)
  iFarC : ∃ t, mg "FARTHEST_CHECKED" = some (.int 1000 t)
  iWide : ∃ t, mg "WIDEST" = some (.int 1000 t)
  bLen : mg "len" = none
  bAll : mg "all" = none
  bSum : mg "sum" = none
  bAbs : mg "abs" = none
  bMin : mg "min" = none
  bMax : mg "max" = none
  bList : mg "list" = none
  bRange : mg "range" = none
  bZip : mg "zip" = none
  bEnum : mg "enumerate" = none
theorem boot_abs : bootBuiltins "abs" = some (.builtin "abs") := by decide +kernel
theorem boot_all : bootBuiltins "all" = some (.builtin "all") := by decide +kernel
section
variable {X : Cx} {x : Str} {pos : Pos}
theorem pe_gi {n : Int} (hg : Gl X x) (hm : ∃ t, X.mg x = some (.int n t)) (hd : (x == ("__debug__" : Str)) = false := by decide) : PE X (.Name x pos) (tC (.int n)) := by
  obtain ⟨t, h⟩ := hm
  exact pe_glob hg h ⟨t, rfl⟩ hd
theorem pe_gr {a : Addr} (hg : Gl X x) (hm : X.mg x = some (.ref a)) (hd : (x == ("__debug__" : Str)) = false := by decide) : PE X (.Name x pos) (tC (.ref a)) := pe_glob hg hm rfl hd
end
theorem Same.new {H H1 : Hp} {D : Addr} {o : HO} (s : Same H H1) (h : H1 D = none) : Same H (upd H1 D o) := fun b u e => by
  rw [upd_ne (ne_of_none (s b u e) h)]
  exact s b u e
theorem Same.ofNone {H : Hp} {D : Addr} {o : HO} (h : H D = none) : Same H (upd H D o) := Same.new (Same.refl H) h
/-- a new thing changed -/
theorem Same.chg {H H1 H2 : Hp} {D : Addr} {o : HO} (s : Same H H1) (h0 : H D = none) (e : H2 = upd H1 D o) : Same H H2 := fun b u q => by
  rw [e, upd_ne (ne_of_none q h0)]
  exact s b u q
theorem Same.tup {K : PySem.W.Frag} {H H' : Hp} {a : Addr} {xs : List V} (e : Same H H') (h : SqT K H a xs) : SqT K H' a xs := by
  rcases h with (h | ⟨o, h⟩) | h
  · exact .inl (.inl (e _ _ h))
  · exact .inl (.inr ⟨o, e _ _ h⟩)
  · exact .inr h
/-- a row of cuts, as values -/
def cutsV (l : List Nat) : List V := l.map fun (c : Nat) => V.int (c : Int)
theorem cutsV_get {l : List Nat} {i : Nat} {y : V} (h : (cutsV l)[i]? = some y) : ∃ c, l[i]? = some c ∧ y = V.int c := by
  unfold cutsV at h
  rw [List.getElem?_map] at h
  cases e : l[i]? with
  | none => rw [e] at h; cases h
  | some c => rw [e] at h; exact ⟨c, rfl, (Option.some.inj h).symm⟩
theorem take_snoc {α : Type} : ∀ {l : List α} {i : Nat} {x : α}, l[i]? = some x → l.take (i + 1) = l.take i ++ [x]
  | [], i, x, h => by simp at h
  | a :: l, 0, x, h => by
    have e : a = x := Option.some.inj h
    subst e
    rfl
  | a :: l, i + 1, x, h => by
    show a :: l.take (i + 1) = a :: l.take i ++ [x]
    rw [take_snoc (l := l) (i := i) (x := x) h]
    rfl
theorem small50 {n : Nat} (h : n ≤ 1000) : n < sizeLine := Nat.lt_of_le_of_lt h (by decide)
section
variable {P : Program} {w : World} {K : PySem.W.Frag} {mg : Str → Option Value} {base : Heap} {aD aW aS : Addr}
/-! ### how_deep, how_far_in -/
/-- the sum of a table's numbers over a row -/
def spTab (K : PySem.W.Frag) (f : Nat → Nat) : Sp := fun vs H Q _ => ∃ (a : Addr) (l : List Nat), vs = [.ref a] ∧ SqL K H a (cutsV l) ∧ (∀ c ∈ l, c ≤ 2) ∧ l.length ≤ 50 ∧ ∀ H' : Hp, Same H H' → Q (.int ((l.map fun c => (f c : Int)).sum)) H'
theorem scDeep : FnScope ["row", "cut"] ["row"] (defScope sDeep) := ⟨rfl, rfl, rfl, by decide +kernel, rfl, by decide +kernel, by decide +kernel⟩
theorem scIn : FnScope ["row", "cut"] ["row"] (defScope sIn) := ⟨rfl, rfl, rfl, by decide +kernel, rfl, by decide +kernel, by decide +kernel⟩
theorem tab_read {f : Nat → Nat} {aT : Addr} {D : Addr} {σ : L2.St} {H : Hp} {a : Addr} {l : List Nat} {t : V} {Q : Hp → Prop} (hT : ∀ H c, c ≤ 2 → ∃ xs, SqT K H aT xs ∧ xs[c]? = some (V.int (f c)))
    (hS : SqL K H a (cutsV l)) (hc : ∀ c ∈ l, c ≤ 2) (hl : l.length ≤ 50) (hD : H D = none) (k : ∀ H' : Hp, Same H H' → H' D = some (.lst (l.map fun c => V.int (f c))) → Q H') :
    ∃ W : Nat → Nat → Hp → Prop, (∃ m, W 0 m (upd H D (.lst []))) ∧ ∀ i m H, W i m H → ((Itl K a).stop i H ∧ Q H) ∨ ((Itl K a).go i H ∧ ∃ Nx : Hp → Prop, (∀ H', Nx H' → ∃ m', m' < m ∧ W (i + 1) m' H') ∧
      ∀ x H', (Itl K a).yld i H x H' → gName 1 x (wipe [some (.ref a), none] [1]) H' fun σ2 H2 => wipe σ2 [1] = wipe [some (.ref a), none] [1] ∧ tYes σ2 H2 fun b H3 =>
        if b = true then tOp (rIxT K) (tC (.ref aT)) (tVar 1) σ2 H3 fun y H4 => ∃ acc, H4 D = some (.lst acc) ∧ acc.length < sizeLine ∧ Nx (upd H4 D (.lst (acc ++ [y]))) else Nx H3) := by
  refine lc_list (xs := cutsV l) (fun i H' => Same H H' ∧ H' D = some (.lst ((l.take i).map fun c => V.int (f c)))) ⟨Same.ofNone hD, upd_same⟩ (fun i H' _ h => h.1.seq hS) ?_ ?_
  · rintro i x H' hx ⟨s1, hd⟩
    obtain ⟨c, e, rfl⟩ := cutsV_get hx
    obtain ⟨xs, hq, ha⟩ := hT H' c (hc c (List.mem_of_getElem? e))
    refine ⟨rfl, ?_⟩
    unfold tYes
    refine iteT ?_
    refine ⟨_, rfl, aT, xs, _, _, rfl, rfl, hq, atI_nat ha, _, hd, ?_, ?_, ?_⟩
    · rw [List.length_map, List.length_take]
      exact small50 (by omega)
    · exact Same.chg s1 hD rfl
    · rw [upd_same, take_snoc e, List.map_append]
      rfl
  · rintro H' ⟨s1, hd⟩
    refine k H' s1 ?_
    rw [hd]
    unfold cutsV
    rw [List.length_map, List.take_length]
theorem ok_deep {g : Addr} {fd : FuncData} (F : Fun K "how_deep" "how_deep" sDeep g fd) (T : Tx K mg aD aW aS) : FnOk P w K mg base CX0 1 g fd ["row"] (spTab K Uw22.deep) := by
  refine F.ok scDeep (fun vs H Q E h => ?_) (fun cdv A outer s H vs Q E hr h => ?_)
  · obtain ⟨a, l, rfl, _⟩ := h
    rfl
  · obtain ⟨a, l, rfl, hS, hc, hl, k⟩ := h
    refine ⟨_, pss_one (ps_ret (pe_callB (cr_sum rfl) rfl T.bSum boot_sum (pa_cons (pe_lc (own := [("cut", 1)]) (te := tOp (rIxT K) (tC (.ref aD)) (tVar 1)) rfl scDeep.nd (pi_list (pv 0)) (blkOk_by (by rfl))
      (fun _ _ _ _ _ => pg_name (i := 1) scDeep.nd rfl (Or.inl rfl)) (fun _ _ _ _ _ => pts_nil) (fun _ _ _ _ _ => pe_ix ix_tup (pe_gr rfl T.mD) (pv 1) (fun _ _ => rfl))) pa_nil))), ?_⟩
    refine ⟨_, rfl, a, rfl, ⟨_, hS⟩, fun D hD => ?_⟩
    refine tab_read (f := Uw22.deep) (aT := aD) (t := .non) (σ := []) (fun H c hc => ⟨_, T.tD H, ?_⟩) hS hc hl hD fun H' s1 hd => ?_
    · match c, hc with
      | 0, _ => rfl
      | 1, _ => rfl
      | 2, _ => rfl
    · refine ⟨D, l.map fun c => ((Uw22.deep c : Nat) : Int), rfl, SqL.of ?_, k H' s1⟩
      rw [hd, List.map_map]
      rfl
end
end Net

end
section
set_option Elab.async false
set_option linter.all false
set_option maxRecDepth 100000
set_option maxHeartbeats 4000000
namespace Net
open PySem PySem.Spec PyProof.Rows L2 Nc
/-! ### a module's tuple as a key -/
section
variable {X : Cx} {pins : List (Addr × Obj)} {σ : L2.St} {H : Hp} {s : Shared} {a b : Addr} {u : Value} {A : Around} {E : Value → Shared → Prop} {kvs : List (List Key × V)} {k : List Key}
theorem key_sq (I : Inv X pins σ H s) (e : SqT X.K H b (k.map kV)) : (tupleKind (mixKind X.prog X.w)).is s.heap k b := by
  obtain ⟨its, r, p, _⟩ := I.tuple e
  obtain ⟨o, h1, h2, n, h3⟩ := (show s.heap.IsTuple b its.toArray from p)
  exact ⟨o, its.toArray, n, h1, h2, h3, by simpa using items_are r⟩
theorem dm_getItem {v : V} {Q : Value → Shared → Prop} (hu : A.units + 1 < cLine) (I : Inv X pins σ H s) (e : H a = some (.dT kvs)) (eb : SqT X.K H b (k.map kV)) (l : valV kvs k = some v) (h : ∀ w' s', Inv X pins σ H s' → RelV v w' → Q w' s') :
    wpAny (model X.prog X.w) A (getItem (.ref a) (.ref b)) Q E s := by
  obtain ⟨z, hd, xs, rel, dd⟩ := dt_of I.hok e
  obtain ⟨w', hw, rw'⟩ := RelO.some_of (v := v) (o := (atKey xs k).map (·.2)) (by rw [← l]; exact rel.val k)
  obtain ⟨p, hp, hp2⟩ := Option.map_eq_some_iff.mp hw
  refine wpAny_getItem_heap (tupleKind_room_in1 hu) (key_sq I eb) dd hp ?_
  rw [hp2]
  exact h w' _ (I.tok _) rw'
theorem dm_get {Q : Value → Shared → Prop} (hu : A.units + 1 < cLine) (I : Inv X pins σ H s) (e : H a = some (.dT kvs)) (eb : SqT X.K H b (k.map kV)) (h : ∀ w' s', Inv X pins σ H s' → RelV ((valV kvs k).getD .non) w' → Q w' s') :
    wpAny (model X.prog X.w) A (call (.builtin "dict.get") [.ref a, .ref b]) Q E s := by
  obtain ⟨z, hd, xs, rel, dd⟩ := dt_of I.hok e
  refine call_meetsIn PySem.F.slot_dict_get dd.typeIs PySem.F.entry_dict_get (PySem.F.args_dict_get_2 _ _) (meetsH_dict_get (tupleKind (mixKind X.prog X.w)) a b hd) ⟨tupleKind_room_in1 hu, k, xs, key_sq I eb, dd, h _ _ (I.tok _) ?_⟩
  exact (rel.val k).getD rfl
end
def tMGet (K : PySem.W.Frag) (td ty : TE) : TE := fun σ H Q => td σ H fun x H1 => ty σ H1 fun y H2 => ∃ a b kvs k v, x = .ref a ∧ y = .ref b ∧ H2 a = some (.dT kvs) ∧ SqT K H2 b (k.map kV) ∧ valV kvs k = some v ∧ Q v H2
def tMGet1 (K : PySem.W.Frag) (td ty : TE) : TE := fun σ H Q => td σ H fun x H1 => ∃ a kvs, x = .ref a ∧ H1 a = some (.dT kvs) ∧ ty σ H1 fun y H2 => ∃ b k, y = .ref b ∧ H2 a = some (.dT kvs) ∧ SqT K H2 b (k.map kV) ∧ Q ((valV kvs k).getD .non) H2
section
variable {X : Cx} {o i e : Expr} {pos apos cpos : Pos} {td ty : TE}
theorem pe_mget (hu : X.A.units + 1 < cLine) (ho : PE X o td) (hi : PE X i ty) (hs : NoSl i) : PE X (.Subscript o i pos) (tMGet X.K td ty) := by
  intro pins s σ H Q I h
  refine subD_of PySem.F.slot_dict_getitem.lookup hs (thn (ho pins s σ H _ I h) fun u s1 ⟨x, H1, I1, rx, q1⟩ => thn (hi pins s1 σ H1 _ I1 q1) fun iv s2 ⟨y, H2, I2, ry, a, b, kvs, k, v, ex, ey, g, eb, l, q2⟩ => ?_)
  subst ex ey
  obtain rfl : u = Value.ref a := rx
  obtain rfl : iv = Value.ref b := ry
  exact ⟨(isD_at I2 (.inr ⟨kvs, .inl g⟩)).1, dm_getItem hu I2 g eb l fun w' s3 I3 rw' => ⟨v, H2, I3, rw', q2⟩⟩
theorem pe_mget1 (hu : X.A.units + 1 < cLine) (ho : PE X o td) (he : PE X e ty) (m : M1 X o "get" apos e cpos) : PE X (.Call (.Attribute o "get" apos) [e] [] cpos) (tMGet1 X.K td ty) := by
  intro pins s σ H Q I h
  refine wpAny_Call_method m.base m.few m.line PySem.F.plainAttrs_dict PySem.F.slot_dict_get PySem.F.type_dict_get (thn (ho pins s σ H _ I h) fun u s1 ⟨x, H1, I1, rx, a, kvs, ex, d, q1⟩ => ?_)
  subst ex
  obtain rfl : u = Value.ref a := rx
  obtain ⟨t1, t2, _⟩ := isD_at I1 (.inr ⟨kvs, .inl d⟩)
  refine ⟨t1, t2, ?_⟩
  rw [m.trees]
  refine Calls.callWith_builtin rfl (Calls.evalArgs_plain (Calls.spliced_cons (thn (he pins s1 σ H1 _ I1 q1) fun iv s2 ⟨y, H2, I2, ry, b, k, ey, g, eb, q2⟩ => Calls.spliced_nil ?_)))
  subst ey
  obtain rfl : iv = Value.ref b := ry
  exact dm_get hu I2 g eb fun w' s3 I3 rw' => ⟨_, H2, I3, rw', q2⟩
end
/-! ### a comprehension over anything -/
theorem lc_gen {J : It} {n : Nat} {g : TG} {tt : TT} {te : TE} {vs : List Nat} {σ : L2.St} {H1 : Hp} {D : Addr} {Qd : Hp → Prop} (Pv : Nat → Hp → Prop) (h0 : Pv 0 (upd H1 D (.lst []))) (hg : ∀ i H, i < n → Pv i H → J.go i H) (he : ∀ H, Pv n H → J.stop n H)
    (hs : ∀ i H x H', i < n → Pv i H → J.yld i H x H' → g x (wipe σ vs) H' fun σ2 H2 => wipe σ2 vs = wipe σ vs ∧ tt σ2 H2 fun b H3 =>
      if b = true then te σ2 H3 fun y H4 => ∃ acc, H4 D = some (.lst acc) ∧ acc.length < sizeLine ∧ Pv (i + 1) (upd H4 D (.lst (acc ++ [y]))) else Pv (i + 1) H3) (hd : ∀ H, Pv n H → Qd H) :
    ∃ W : Nat → Nat → Hp → Prop, (∃ m, W 0 m (upd H1 D (.lst []))) ∧ ∀ i m H, W i m H →
      (J.stop i H ∧ Qd H) ∨ (J.go i H ∧ ∃ Nx : Hp → Prop, (∀ H', Nx H' → ∃ m', m' < m ∧ W (i + 1) m' H') ∧ ∀ x H', J.yld i H x H' → g x (wipe σ vs) H' fun σ2 H2 => wipe σ2 vs = wipe σ vs ∧ tt σ2 H2 fun b H3 =>
        if b = true then te σ2 H3 fun y H4 => ∃ acc, H4 D = some (.lst acc) ∧ acc.length < sizeLine ∧ Nx (upd H4 D (.lst (acc ++ [y]))) else Nx H3) := by
  refine ⟨fun i m H => m = n - i ∧ i ≤ n ∧ Pv i H, ⟨n, by simp, Nat.zero_le _, h0⟩, ?_⟩
  rintro i m H ⟨rfl, hi, p⟩
  by_cases hlt : i < n
  · exact .inr ⟨hg i H hlt p, Pv (i + 1), fun H' p' => ⟨n - (i + 1), by omega, rfl, hlt, p'⟩, fun x H' y => hs i H x H' hlt p y⟩
  · have e : i = n := by omega
    subst e
    exact .inl ⟨he H p, hd H p⟩
/-! ### places -/
/-- the tuple of a place -/
abbrev plV (p : Nat × Nat) : List V := [.int (p.1 : Nat), .int (p.2 : Nat)]
abbrev plK (x y : Nat) : List Key := [Sum.inl (x : Int), Sum.inl (y : Int)]
structure PlT (H : Hp) (as : List Addr) (ps : List (Nat × Nat)) : Prop where
  len : as.length = ps.length
  at_ : ∀ (j : Nat) (p : Nat × Nat), ps[j]? = some p → ∃ a, as[j]? = some a ∧ H a = some (.tup (plV p))
theorem PlT.nil {H : Hp} : PlT H [] [] := ⟨rfl, fun j p h => by simp at h⟩
theorem PlT.same {H H' : Hp} {as : List Addr} {ps : List (Nat × Nat)} (q : PlT H as ps) (s : ∀ b xs, H b = some (.tup xs) → H' b = some (.tup xs)) : PlT H' as ps :=
  ⟨q.len, fun j p h => let ⟨a, h1, h2⟩ := q.at_ j p h; ⟨a, h1, s _ _ h2⟩⟩
theorem PlT.snoc {H : Hp} {as : List Addr} {ps : List (Nat × Nat)} {a : Addr} {p : Nat × Nat} (q : PlT H as ps) (h : H a = some (.tup (plV p))) : PlT H (as ++ [a]) (ps ++ [p]) := by
  refine ⟨by rw [List.length_append, List.length_append, q.len]; rfl, fun j p' h' => ?_⟩
  by_cases hj : j < ps.length
  · rw [List.getElem?_append_left hj] at h'
    obtain ⟨b, h1, h2⟩ := q.at_ j p' h'
    exact ⟨b, by rw [List.getElem?_append_left (by rw [q.len]; exact hj)]; exact h1, h2⟩
  · rw [List.getElem?_append_right (by omega)] at h'
    obtain ⟨hl, e⟩ := List.getElem?_eq_some_iff.mp h'
    have hz : j = ps.length := by
      have : j - ps.length < 1 := hl
      omega
    subst hz
    have e2 : p = p' := by simpa using h'
    subst e2
    exact ⟨a, by rw [← q.len]; simp, h⟩
theorem tups_upd {H : Hp} {l : Addr} {o : HO} (h : ∀ xs, H l ≠ some (.tup xs)) : ∀ b xs, H b = some (.tup xs) → (upd H l o) b = some (.tup xs) := fun b xs e => by
  rw [upd_ne (fun q => by subst q; exact h xs e)]
  exact e
theorem tups_new {H : Hp} {l : Addr} {o : HO} (h : H l = none) : ∀ b xs, H b = some (.tup xs) → (upd H l o) b = some (.tup xs) := tups_upd fun xs e => by rw [h] at e; cases e
theorem tups_lst {H : Hp} {l : Addr} {ys : List V} {o : HO} (h : H l = some (.lst ys)) : ∀ b xs, H b = some (.tup xs) → (upd H l o) b = some (.tup xs) := tups_upd fun xs e => by rw [h] at e; cases e
theorem Same.tups {H H' : Hp} (s : Same H H') : ∀ b xs, H b = some (.tup xs) → H' b = some (.tup xs) := fun b xs e => s b _ e
theorem tups_trans {H H1 H2 : Hp} (a : ∀ b xs, H b = some (.tup xs) → H1 b = some (.tup xs)) (c : ∀ b xs, H1 b = some (.tup xs) → H2 b = some (.tup xs)) : ∀ b xs, H b = some (.tup xs) → H2 b = some (.tup xs) := fun b xs e => c b xs (a b xs e)
section
variable {P : Program} {w : World} {K : PySem.W.Frag} {mg : Str → Option Value} {base : Heap} {aD aW aS : Addr}
/-! ### off_line -/
def spOff (K : PySem.W.Frag) : Sp := fun vs H Q _ => ∃ (p g : Addr) (x y d i : Nat), vs = [.ref p, .ref g] ∧ SqT K H p [.int x, .int y] ∧ SqT K H g [.int d, .int i] ∧ x ≤ 1000 ∧ y ≤ 1000 ∧ Q (.int (Uw22.off d i x y : Nat)) H
theorem scOff : FnScope ["place", "goal"] ["place", "goal"] (defScope sOff) := ⟨rfl, rfl, rfl, by decide +kernel, rfl, by decide +kernel, by decide +kernel⟩
theorem mul_small {x : Nat} {z : Int} (h : x ≤ 1000) : CMul (x : Int) z := .inl ⟨by omega, by omega⟩
theorem ok_off {g : Addr} {fd : FuncData} (F : Fun K "off_line" "off_line" sOff g fd) (T : Tx K mg aD aW aS) : FnOk P w K mg base CX0 1 g fd ["place", "goal"] (spOff K) := by
  refine F.ok scOff (fun vs H Q E h => ?_) (fun cdv A outer s H vs Q E hr h => ?_)
  · obtain ⟨p, g, x, y, d, i, rfl, _⟩ := h
    rfl
  · obtain ⟨p, g, x, y, d, i, rfl, hp, hg, hx, hy, k⟩ := h
    refine ⟨_, pss_one (ps_ret (pe_callB call_abs rfl T.bAbs boot_abs (pa_cons (pe_op op_sub (pe_op op_mul (pe_ix ix_tup (pv 0) pe_int (fun _ _ => rfl)) (pe_ix ix_tup (pv 1) pe_int (fun _ _ => rfl)))
      (pe_op op_mul (pe_ix ix_tup (pv 0) pe_int (fun _ _ => rfl)) (pe_ix ix_tup (pv 1) pe_int (fun _ _ => rfl)))) pa_nil))), ?_⟩
    refine ⟨_, rfl, p, _, _, _, rfl, rfl, hp, atI_nat (j := 0) rfl, _, rfl, g, _, _, _, rfl, rfl, hg, atI_nat (j := 1) rfl, _, _, rfl, rfl, mul_small hx, ?_⟩
    refine ⟨_, rfl, p, _, _, _, rfl, rfl, hp, atI_nat (j := 1) rfl, _, rfl, g, _, _, _, rfl, rfl, hg, atI_nat (j := 0) rfl, _, _, rfl, rfl, mul_small hy, ?_⟩
    refine ⟨_, _, rfl, rfl, _, rfl, ?_⟩
    rw [← off_int]
    exact k
/-! ### places_onward -/
def onw (x y n : Nat) : List (Nat × Nat) := (List.range n).map fun c => (x + Uw22.deep c, y + Uw22.in_ c)
theorem onw_succ (x y n : Nat) : onw x y (n + 1) = onw x y n ++ [(x + Uw22.deep n, y + Uw22.in_ n)] := by
  unfold onw
  rw [List.range_succ, List.map_append]
  rfl
def spOnward (K : PySem.W.Frag) : Sp := fun vs H Q _ => ∃ (p : Addr) (x y : Nat), vs = [.ref p] ∧ SqT K H p [.int x, .int y] ∧ ∀ (H' : Hp) (l : Addr) (as : List Addr), Same H H' → H l = none → H' l = some (.lst (as.map V.ref)) → PlT H' as (onw x y 3) → Q (.ref l) H'
theorem scOnward : FnScope ["place", "depth", "way_in"] ["place"] (defScope sOnward) := ⟨rfl, rfl, rfl, by decide +kernel, rfl, by decide +kernel, by decide +kernel⟩
theorem ok_onward {g : Addr} {fd : FuncData} (F : Fun K "places_onward" "places_onward" sOnward g fd) (T : Tx K mg aD aW aS) : FnOk P w K mg base CX0 1 g fd ["place"] (spOnward K) := by
  refine F.ok scOnward (fun vs H Q E h => ?_) (fun cdv A outer s H vs Q E hr h => ?_)
  · obtain ⟨p, x, y, rfl, _⟩ := h
    rfl
  · obtain ⟨p, x, y, rfl, hp, k⟩ := h
    refine ⟨_, pss_one (ps_ret (pe_lc (own := [("depth", 1), ("way_in", 2)]) (g := gTup K 2 (gCons (gName 1) (gCons (gName 2) gNil)))
      (te := tTup (tCons (tOp (rI0 fun i j => .int (i + j)) (tOp (rIxT K) (tVar 0) (tC (.int 0))) (tVar 1)) (tCons (tOp (rI0 fun i j => .int (i + j)) (tOp (rIxT K) (tVar 0) (tC (.int 1))) (tVar 2)) tNil)))
      rfl scOnward.nd (Nz.pi_zipT rfl T.bZip (pa_cons (pe_gr rfl T.mD) (pa_cons (pe_gr rfl T.mW) pa_nil))) (blkOk_by (by rfl))
      (fun _ _ _ _ _ => pg_tup rfl (pgs_cons (pg_name (i := 1) scOnward.nd rfl (Or.inl rfl)) (pgs_cons (pg_name (i := 2) scOnward.nd rfl (Or.inl rfl)) pgs_nil))) (fun _ _ _ _ _ => pts_nil)
      (fun _ _ _ _ _ => pe_tup (pa_cons (pe_op op_add (pe_ix ix_tup (pv 0) pe_int (fun _ _ => rfl)) (pv 1)) (pa_cons (pe_op op_add (pe_ix ix_tup (pv 0) pe_int (fun _ _ => rfl)) (pv 2)) pa_nil))))), ?_⟩
    refine ⟨aD, aW, _, _, rfl, T.tD H, T.tW H, fun D hD => ?_⟩
    refine lc_gen (n := 3) (fun j H' => Same H H' ∧ ∃ as : List Addr, H' D = some (.lst (as.map V.ref)) ∧ PlT H' as (onw x y j)) ⟨Same.ofNone hD, [], upd_same, .nil⟩ (fun j H' hj _ => ?_) (fun H' _ => ⟨_, _, T.tD H', T.tW H', .inl (Nat.le_refl _)⟩) ?_ ?_
    · match j, hj with
      | 0, _ => exact ⟨_, _, _, _, T.tD H', T.tW H', rfl, rfl⟩
      | 1, _ => exact ⟨_, _, _, _, T.tD H', T.tW H', rfl, rfl⟩
      | 2, _ => exact ⟨_, _, _, _, T.tD H', T.tW H', rfl, rfl⟩
    · rintro j H1 v H2 hj ⟨s1, as, hd, hP⟩ ⟨t, vx, vy, rfl, ht, rfl, ex, ey⟩
      have e1 : vx = V.int (Uw22.deep j : Nat) := by
        have := ex _ (T.tD H1)
        match j, hj with
        | 0, _ => exact (Option.some.inj this).symm
        | 1, _ => exact (Option.some.inj this).symm
        | 2, _ => exact (Option.some.inj this).symm
      have e2 : vy = V.int (Uw22.in_ j : Nat) := by
        have := ey _ (T.tW H1)
        match j, hj with
        | 0, _ => exact (Option.some.inj this).symm
        | 1, _ => exact (Option.some.inj this).symm
        | 2, _ => exact (Option.some.inj this).symm
      subst e1 e2
      have s2 : Same H1 (upd H1 t (.tup [.int (Uw22.deep j : Nat), .int (Uw22.in_ j : Nat)])) := Same.ofNone ht
      have hp1 := Same.tup (s1.trans s2) hp
      refine ⟨t, _, rfl, SqT.of upd_same, rfl, _, _, rfl, _, _, rfl, rfl, rfl, ?_⟩
      unfold tYes
      refine iteT ?_
      refine ⟨_, rfl, p, _, _, _, rfl, rfl, hp1, atI_nat (j := 0) rfl, _, rfl, _, _, rfl, rfl, _, rfl, p, _, _, _, rfl, rfl, hp1, atI_nat (j := 1) rfl, _, rfl, _, _, rfl, rfl, (by show 2 ≤ sizeLine; decide), fun q hq => ?_⟩
      have s3 : Same (upd H1 t (.tup [.int (Uw22.deep j : Nat), .int (Uw22.in_ j : Nat)])) (upd (upd H1 t (.tup [.int (Uw22.deep j : Nat), .int (Uw22.in_ j : Nat)])) q (.tup [.int ((x : Int) + (Uw22.deep j : Nat)), .int ((y : Int) + (Uw22.in_ j : Nat))])) := Same.ofNone hq
      have hd3 := s3 _ _ (s2 _ _ hd)
      refine ⟨_, hd3, ?_, Same.chg ((s1.trans s2).trans s3) hD rfl, as ++ [q], ?_, ?_⟩
      · rw [List.length_map, hP.len]
        unfold onw
        rw [List.length_map, List.length_range]
        exact small50 (by omega)
      · rw [upd_same, List.map_append]
        rfl
      · rw [onw_succ]
        refine PlT.snoc (hP.same (tups_trans (tups_trans (Same.tups s2) (Same.tups s3)) (tups_lst hd3))) ?_
        rw [upd_ne (fun z => by rw [z, s2 _ _ hd] at hq; cases hq), upd_same]
        simp
    · rintro H' ⟨s1, as, hd, hP⟩
      exact k H' D as s1 hD hd hP
end
end Net

end
section
set_option Elab.async false
set_option linter.all false
set_option maxRecDepth 100000
set_option maxHeartbeats 4000000
namespace Net
open PySem PySem.Spec PyProof.Rows L2 Nc
section
variable {P : Program} {w : World} {K : PySem.W.Frag} {mg : Str → Option Value} {base : Heap} {aD aW aS : Addr}
/-! ### places_back -/
def backRow (d i a n : Nat) : List (Nat × Nat) := (List.range n).map fun b => (d - a, i - b)
def backTo (d i n : Nat) : List (Nat × Nat) := (List.range n).flatMap fun a => backRow d i a (i + 1)
theorem backTo_succ (d i n : Nat) : backTo d i (n + 1) = backTo d i n ++ backRow d i n (i + 1) := by
  unfold backTo
  rw [List.range_succ (n := n), List.flatMap_append]
  simp
theorem backRow_succ (d i a n : Nat) : backRow d i a (n + 1) = backRow d i a n ++ [(d - a, i - n)] := by
  unfold backRow
  rw [List.range_succ, List.map_append]
  rfl
theorem backTo_all (d i : Nat) : backTo d i (d + 1) = backs d i := rfl
theorem backTo_len (d i n : Nat) : (backTo d i n).length = n * (i + 1) := by
  induction n with
  | zero => simp [backTo]
  | succ n ih => rw [backTo_succ, List.length_append, ih, Nat.succ_mul]; simp [backRow]
def spBack (K : PySem.W.Frag) : Sp := fun vs H Q _ => ∃ (g : Addr) (d i : Nat), vs = [.ref g] ∧ SqT K H g [.int d, .int i] ∧ d ≤ 10 ∧ i ≤ 10 ∧ ∀ (H' : Hp) (l : Addr) (as : List Addr), Same H H' → H l = none → H' l = some (.lst (as.map V.ref)) → PlT H' as (backs d i) → Q (.ref l) H'
theorem scBack : FnScope ["goal", "places", "depth", "way_in"] ["goal"] (defScope sBack) := ⟨rfl, rfl, rfl, by decide +kernel, rfl, by decide +kernel, by decide +kernel⟩
theorem ok_back {g : Addr} {fd : FuncData} (F : Fun K "places_back" "places_back" sBack g fd) (T : Tx K mg aD aW aS) : FnOk P w K mg base CX0 1 g fd ["goal"] (spBack K) := by
  refine F.ok scBack (fun vs H Q E h => ?_) (fun cdv A outer s H vs Q E hr h => ?_)
  · obtain ⟨g, d, i, rfl, _⟩ := h
    rfl
  · obtain ⟨g, d, i, rfl, hg, hd, hi, k⟩ := h
    refine ⟨_, pss_cons (ps_set (i := 1) scBack.nd rfl (Or.inl rfl) (pe_lst pa_nil))
      (pss_cons (ps_for PassesOwn.never rfl (pi_range3 rfl T.bRange (pa_cons (pe_ix ix_tup (pv 0) pe_int (fun _ _ => rfl)) (pa_cons (pe_un un_neg pe_int) (pa_cons (pe_un un_neg pe_int) pa_nil)))) (pg_name (i := 2) scBack.nd rfl (Or.inl rfl))
        (pss_one (ps_for PassesOwn.never rfl (pi_range3 rfl T.bRange (pa_cons (pe_ix ix_tup (pv 0) pe_int (fun _ _ => rfl)) (pa_cons (pe_un un_neg pe_int) (pa_cons (pe_un un_neg pe_int) pa_nil)))) (pg_name (i := 3) scBack.nd rfl (Or.inl rfl))
          (pss_one (ps_expr (pe_bm PySem.F.plainAttrs_list PySem.F.slot_list_append PySem.F.type_list_append mt_append (pv 1) (pa_cons (pe_tup (pa_cons (pv 2) (pa_cons (pv 3) pa_nil))) pa_nil)))))))
      (pss_one (ps_ret (pv 1)))), ?_⟩
    refine ⟨Nat.zero_le _, fun l hl => ?_⟩
    have s0 : Same H (upd H l (.lst [])) := Same.ofNone hl
    refine ⟨_, rfl, g, _, _, _, rfl, rfl, Same.tup s0 hg, atI_nat (j := 0) rfl, _, rfl, _, rfl, _, _, _, _, rfl, RgC.neg (by omega) (by omega) (by omega) (by omega), ?_⟩
    have ed : ((d : Int) - -1).toNat = d + 1 := by omega
    have ei : ((i : Int) - -1).toNat = i + 1 := by omega
    rw [ed]
    refine for_rangeC (fun n σ H' => ∃ (v2 v3 : Option V) (as : List Addr), σ = [some (.ref g), some (.ref l), v2, v3] ∧ Same H H' ∧ H' l = some (.lst (as.map V.ref)) ∧ PlT H' as (backTo d i n))
      ⟨none, none, [], rfl, s0, upd_same, .nil⟩ ?_ ?_
    · rintro n σ H1 hn ⟨v2, v3, as, rfl, s1, hl1, hP⟩
      refine ⟨_, rfl, g, _, _, _, rfl, rfl, Same.tup s1 hg, atI_nat (j := 1) rfl, _, rfl, _, rfl, _, _, _, _, rfl, RgC.neg (by omega) (by omega) (by omega) (by omega), ?_⟩
      rw [ei]
      have en : (d : Int) + (n : Nat) * -1 = ((d - n : Nat) : Int) := by omega
      rw [en]
      refine for_rangeC (fun m σ H' => ∃ (v3 : Option V) (as : List Addr), σ = [some (.ref g), some (.ref l), some (.int (d - n : Nat)), v3] ∧ Same H H' ∧ H' l = some (.lst (as.map V.ref)) ∧ PlT H' as (backTo d i n ++ backRow d i n m))
        ⟨v3, as, rfl, s1, hl1, by show PlT H1 as (backTo d i n ++ []); rw [List.append_nil]; exact hP⟩ ?_ ?_
      · rintro m σ H2 hm ⟨v3, as, rfl, s2, hl2, hP2⟩
        have em : (i : Int) + (m : Nat) * -1 = ((i - m : Nat) : Int) := by omega
        rw [em]
        refine ⟨_, rfl, .inl ⟨rfl, _, SqL.of hl2⟩, _, rfl, _, rfl, (by show 2 ≤ sizeLine; decide), fun q hq => ?_⟩
        have s3 : Same H2 (upd H2 q (.tup [.int (d - n : Nat), .int (i - m : Nat)])) := Same.ofNone hq
        have hl3 := s3 _ _ hl2
        refine ⟨l, _, _, rfl, rfl, hl3, ?_, ?_⟩
        · rw [List.length_map, hP2.len, List.length_append, backTo_len]
          have h1 : n * (i + 1) ≤ 11 * 11 := Nat.mul_le_mul (by omega) (by omega)
          refine small50 ?_
          unfold backRow
          rw [List.length_map, List.length_range]
          omega
        · refine ⟨_, as ++ [q], rfl, Same.chg (s2.trans s3) hl rfl, by rw [upd_same, List.map_append]; rfl, ?_⟩
          rw [backRow_succ, ← List.append_assoc]
          refine PlT.snoc (hP2.same (tups_trans (Same.tups s3) (tups_lst hl3))) ?_
          rw [upd_ne (fun z => by rw [z, hl2] at hq; cases hq), upd_same]
      · rintro σ H2 ⟨v3, as, rfl, s2, hl2, hP2⟩
        exact ⟨_, _, as, rfl, s2, hl2, by rw [backTo_succ]; exact hP2⟩
    · rintro σ H1 ⟨v2, v3, as, rfl, s1, hl1, hP⟩
      exact ⟨_, rfl, k H1 l as s1 hl hl1 (by rw [← backTo_all]; exact hP)⟩
/-! ### a dict of places -/
/-- what stands in it of the places that have been taken (k of them) -/
structure Tab (d i k : Nat) (f : Nat → Nat → Option V) (kvs : List (List Key × V)) : Prop where
  len : kvs.length ≤ k
  at_ : ∀ x y : Nat, valV kvs (plK x y) = if x ≤ d ∧ y ≤ i ∧ rank d i x y < k then f x y else none
theorem plK_inj {x y x' y' : Nat} (h : plK x y = plK x' y') : x = x' ∧ y = y' := by
  have h1 := (List.cons.inj h).1
  have h2 := (List.cons.inj (List.cons.inj h).2).1
  have e1 := Sum.inl.inj h1
  have e2 := Sum.inl.inj h2
  omega
theorem Tab.nil {d i : Nat} {f : Nat → Nat → Option V} : Tab d i 0 f [] := ⟨Nat.le_refl _, fun x y => by rw [valV_nil, if_neg (by omega)]⟩
theorem Tab.put {d i k x y : Nat} {f : Nat → Nat → Option V} {kvs : List (List Key × V)} {v : V} (t : Tab d i k f kvs) (hx : x ≤ d) (hy : y ≤ i) (hr : rank d i x y = k) (hf : f x y = some v) : Tab d i (k + 1) f (putK kvs (plK x y) v) := by
  refine ⟨by have := length_putK kvs (plK x y) v; have := t.len; omega, fun x' y' => ?_⟩
  rw [valV_put]
  by_cases e : plK x' y' = plK x y
  · obtain ⟨e1, e2⟩ := plK_inj e
    subst e1 e2
    rw [if_pos rfl, if_pos ⟨hx, hy, by omega⟩, hf]
  · rw [if_neg e, t.at_]
    by_cases q : x' ≤ d ∧ y' ≤ i ∧ rank d i x' y' < k
    · rw [if_pos q, if_pos ⟨q.1, q.2.1, by omega⟩]
    · rw [if_neg q, if_neg]
      rintro ⟨q1, q2, q3⟩
      have hz : rank d i x' y' = rank d i x y := by omega
      obtain ⟨e1, e2⟩ := rank_inj q1 q2 hx hy hz
      subst e1 e2
      exact e rfl
theorem Tab.skip {d i k x y : Nat} {f : Nat → Nat → Option V} {kvs : List (List Key × V)} (t : Tab d i k f kvs) (hx : x ≤ d) (hy : y ≤ i) (hr : rank d i x y = k) (hf : f x y = none) : Tab d i (k + 1) f kvs := by
  refine ⟨by have := t.len; omega, fun x' y' => ?_⟩
  rw [t.at_]
  by_cases q : x' ≤ d ∧ y' ≤ i ∧ rank d i x' y' < k
  · rw [if_pos q, if_pos ⟨q.1, q.2.1, by omega⟩]
  · rw [if_neg q]
    by_cases q2 : x' ≤ d ∧ y' ≤ i ∧ rank d i x' y' < k + 1
    · rw [if_pos q2]
      have hz : rank d i x' y' = rank d i x y := by omega
      obtain ⟨e1, e2⟩ := rank_inj q2.1 q2.2.1 hx hy hz
      subst e1 e2
      exact hf.symm
    · rw [if_neg q2]
theorem Tab.all {d i x y : Nat} {f : Nat → Nat → Option V} {kvs : List (List Key × V)} (t : Tab d i (backs d i).length f kvs) (hx : x ≤ d) (hy : y ≤ i) : valV kvs (plK x y) = f x y := by
  rw [t.at_, if_pos ⟨hx, hy, by rw [backs_len]; exact rank_lt⟩]
theorem Tab.out {d i k x y : Nat} {f : Nat → Nat → Option V} {kvs : List (List Key × V)} (t : Tab d i k f kvs) (h : ¬ (x ≤ d ∧ y ≤ i)) : valV kvs (plK x y) = none := by
  rw [t.at_, if_neg (by omega)]
/-- of an onward place -/
theorem Tab.on {d i k x y c : Nat} {f : Nat → Nat → Option V} {kvs : List (List Key × V)} (t : Tab d i k f kvs) (hc : c < 3) (hr : rank d i x y ≤ k) (h : x + Uw22.deep c ≤ d ∧ y + Uw22.in_ c ≤ i) : valV kvs (plK (x + Uw22.deep c) (y + Uw22.in_ c)) = f (x + Uw22.deep c) (y + Uw22.in_ c) := by
  rw [t.at_, if_pos ⟨h.1, h.2, Nat.lt_of_lt_of_le (rank_on hc h.1 h.2) hr⟩]
/-- all but one as it was -/
def SameBut (p : Addr) (H H' : Hp) : Prop := ∀ b o, H b = some o → b ≠ p → H' b = some o
theorem SameBut.same {p : Addr} {H H1 H2 : Hp} (a : SameBut p H H1) (s : Same H1 H2) : SameBut p H H2 := fun b o e n => s b o (a b o e n)
theorem SameBut.chg {p : Addr} {H H1 : Hp} {o : HO} (a : SameBut p H H1) : SameBut p H (upd H1 p o) := fun b u e n => by
  rw [upd_ne n]
  exact a b u e n
theorem SameBut.refl {p : Addr} {H : Hp} : SameBut p H H := fun _ _ e _ => e
theorem SameBut.out {p : Addr} {H0 H H' : Hp} (s : Same H0 H) (h : H0 p = none) (a : SameBut p H H') : Same H0 H' := fun b o e => a b o (s b o e) (ne_of_none e h)
theorem eqv_pl (a b c e : Int) : PyData.eqv (.tuple [.int a, .int b]) (.tuple [.int c, .int e]) = (decide (a = c) && decide (b = e)) := by
  rw [PyData.eqv]
  simp only [PyData.eqvAll, PyData.eqv, Bool.and_true]
  first | rfl | (simp only [Bool.beq_eq_decide_eq])
theorem shaped_pl (a b : Int) : SeqAt.shaped (.tuple [.int a, .int b]) = true := rfl
end
end Net

end
section
set_option Elab.async false
set_option linter.all false
set_option maxRecDepth 100000
set_option maxHeartbeats 4000000
namespace Net
open PySem PySem.Spec PyProof.Rows L2 Nc
theorem PlT.get {H : Hp} {as : List Addr} {ps : List (Nat × Nat)} {n : Nat} {v : V} (q : PlT H as ps) (h : (as.map V.ref)[n]? = some v) : ∃ a p, v = .ref a ∧ ps[n]? = some p ∧ H a = some (.tup (plV p)) := by
  rw [List.getElem?_map] at h
  cases e : as[n]? with
  | none => rw [e] at h; cases h
  | some a =>
    rw [e] at h
    have hn : n < ps.length := by rw [← q.len]; exact (List.getElem?_eq_some_iff.mp e).1
    obtain ⟨a', h1, h2⟩ := q.at_ n ps[n] (List.getElem?_eq_getElem hn)
    rw [e] at h1
    cases h1
    exact ⟨a, ps[n], (Option.some.inj h).symm, List.getElem?_eq_getElem hn, h2⟩
theorem onw_get {x y c : Nat} {p : Nat × Nat} (h : (onw x y 3)[c]? = some p) : c < 3 ∧ p = (x + Uw22.deep c, y + Uw22.in_ c) := by
  unfold onw at h
  rw [List.getElem?_map] at h
  cases e : (List.range 3)[c]? with
  | none => rw [e] at h; cases h
  | some b =>
    rw [e] at h
    obtain ⟨hb, e2⟩ := List.getElem?_eq_some_iff.mp e
    rw [List.getElem_range] at e2
    subst e2
    exact ⟨by simpa using hb, (Option.some.inj h).symm⟩
theorem Dp.pl {K : PySem.W.Frag} {H : Hp} {a : Addr} {x y : Int} (h : SqT K H a [.int x, .int y]) : Dp K H (.ref a) (.tuple [.int x, .int y]) := .tup h (.cons (.int x) (.cons (.int y) .nil))
def optV : Option Nat → V
  | none => .non
  | some m => .int (m : Nat)
def fLeast (d i x y : Nat) : Option V := (leastAt d i x y).map fun (m : Nat) => V.int (m : Int)
section
variable {P : Program} {w : World} {K : PySem.W.Frag} {mg : Str → Option Value} {base : Heap} {aD aW aS : Addr}
def spLeast (K : PySem.W.Frag) : Sp := fun vs H Q _ => ∃ (g : Addr) (d i : Nat), vs = [.ref g] ∧ SqT K H g [.int d, .int i] ∧ d ≤ 10 ∧ i ≤ 10 ∧ ∀ H' : Hp, Same H H' → Q (optV (leastAt d i 0 0)) H'
theorem scLeast : FnScope ["goal", "least", "place", "onward", "after"] ["goal"] (defScope sLeast) := ⟨rfl, rfl, rfl, by decide +kernel, rfl, by decide +kernel, by decide +kernel⟩
/-- the comprehension of a turn -/
theorem least_comp {d i x y k : Nat} {H : Hp} {l D ld : Addr} {as : List Addr} {kvs : List (List Key × V)} {v0 v2 v3 v4 : Option V} {Q : Hp → Prop} (hl : H l = some (.lst (as.map V.ref))) (hP : PlT H as (onw x y 3)) (hd : H ld = some (.dT kvs)) (t : Tab d i k (fLeast d i) kvs) (hr : rank d i x y = k)
    (hD : H D = none) (kk : ∀ H' : Hp, Same H H' → H' D = some (.lst ((ons d i x y 3).map fun (m : Nat) => V.int (m : Int))) → Q H') :
    ∃ W : Nat → Nat → Hp → Prop, (∃ m, W 0 m (upd H D (.lst []))) ∧ ∀ j m H, W j m H → ((Itl K l).stop j H ∧ Q H) ∨ ((Itl K l).go j H ∧ ∃ Nx : Hp → Prop, (∀ H', Nx H' → ∃ m', m' < m ∧ W (j + 1) m' H') ∧
      ∀ x H', (Itl K l).yld j H x H' → gName 4 x (wipe [v0, some (.ref ld), v2, v3, v4] [4]) H' fun σ2 H2 => wipe σ2 [4] = wipe [v0, some (.ref ld), v2, v3, v4] [4] ∧ tB (tDIn (tVar 4) (tVar 1)) σ2 H2 fun b H3 =>
        if b = true then tDGet (tVar 1) (tVar 4) σ2 H3 fun y H4 => ∃ acc, H4 D = some (.lst acc) ∧ acc.length < sizeLine ∧ Nx (upd H4 D (.lst (acc ++ [y]))) else Nx H3) := by
  refine lc_list (xs := as.map V.ref) (fun j H' => Same H H' ∧ H' D = some (.lst ((ons d i x y j).map fun (m : Nat) => V.int (m : Int)))) ⟨Same.ofNone hD, upd_same⟩ (fun j H' _ h => SqL.of (h.1 _ _ hl)) ?_ ?_
  · rintro j v H' hv ⟨s1, hd'⟩
    obtain ⟨a, p, rfl, hp, ha⟩ := hP.get hv
    obtain ⟨hj, rfl⟩ := onw_get hp
    have hx := s1 _ _ hd
    have hq := s1 _ _ ha
    refine ⟨rfl, _, rfl, _, rfl, ld, valV kvs (plK (x + Uw22.deep j) (y + Uw22.in_ j)), rfl, DGet.t (k := plK (x + Uw22.deep j) (y + Uw22.in_ j)) hx hq, _, rfl, ?_⟩
    have eL : valV kvs (plK (x + Uw22.deep j) (y + Uw22.in_ j)) = (leastBy d i x y j).map fun (m : Nat) => V.int (m : Int) := by
      unfold leastBy
      by_cases hf : x + Uw22.deep j ≤ d ∧ y + Uw22.in_ j ≤ i
      · rw [if_pos hf, t.on hj (Nat.le_of_eq hr) hf]
        rfl
      · rw [if_neg hf, t.out hf]
        rfl
    cases e : leastBy d i x y j with
    | none =>
      rw [eL, e]
      refine iteF ⟨s1, ?_⟩
      rw [hd', ons_succ, e]
      simp
    | some m =>
      rw [eL, e]
      refine iteT ?_
      refine ⟨_, rfl, _, rfl, ld, V.int (m : Nat), rfl, ?_, ?_⟩
      · have := DGet.t (k := plK (x + Uw22.deep j) (y + Uw22.in_ j)) hx hq
        rw [eL, e] at this
        exact this
      · refine ⟨_, hd', ?_, Same.chg s1 hD rfl, ?_⟩
        · rw [List.length_map]
          refine small50 (Nat.le_trans (List.length_filterMap_le _ _) ?_)
          rw [List.length_range]
          omega
        · rw [upd_same, ons_succ, e, List.map_append]
          rfl
  · rintro H' ⟨s1, hd'⟩
    refine kk H' s1 ?_
    rw [hd', List.length_map, hP.len]
    rfl
/-- a def of the module, as it is called -/
structure Cal (K : PySem.W.Frag) (mg : Str → Option Value) (nm : Str) (f : Addr) (fd : FuncData) (ps : List Str) : Prop where
  mg : mg nm = some (.ref f)
  kp : PySem.W.keepIn K (.ref f) = true
  bd : Binds K fd ps []
theorem max_int (a b : Nat) : (if ((b : Nat) : Int) > ((a : Nat) : Int) then ((b : Nat) : Int) else ((a : Nat) : Int)) = ((max a b : Nat) : Int) := by
  split <;> omega
theorem ok_least {f fB fO fN : Addr} {fd fdB fdO fdN : FuncData} (F : Fun K "least_uneven" "least_uneven" sLeast f fd) (T : Tx K mg aD aW aS)
    (GB : FnOk P w K mg base CX0 1 fB fdB ["goal"] (spBack K)) (CB : Cal K mg "places_back" fB fdB ["goal"]) (GO : FnOk P w K mg base CX0 1 fO fdO ["place", "goal"] (spOff K)) (CO : Cal K mg "off_line" fO fdO ["place", "goal"])
    (GN : FnOk P w K mg base CX0 1 fN fdN ["place"] (spOnward K)) (CN : Cal K mg "places_onward" fN fdN ["place"]) : FnOk P w K mg base CX0 2 f fd ["goal"] (spLeast K) := by
  refine F.ok scLeast (fun vs H Q E h => ?_) (fun cdv A outer s H vs Q E hr h => ?_)
  · obtain ⟨g, d, i, rfl, _⟩ := h
    rfl
  · obtain ⟨g, d, i, rfl, hg, hd, hi, k⟩ := h
    have hu := hu_of hr
    have hu64 := hr.units
    refine ⟨_, pss_cons (ps_set (i := 1) scLeast.nd rfl (Or.inr rfl) pe_dnewT)
      (pss_cons (ps_for PassesOwn.never rfl (pi_list (pe_call GB hr rfl CB.mg CB.kp CB.bd .nil pass0 (pa_cons (pv 0) pa_nil))) (pg_name (i := 2) scLeast.nd rfl (Or.inl rfl))
        (pss_cons (ps_setLc (i := 3) (own := [("after", 4)]) (te := tDGet (tVar 1) (tVar 4)) (tt := tB (tDIn (tVar 4) (tVar 1))) rfl scLeast.nd rfl rfl (sw_true rfl rfl rfl rfl) (pi_list (pe_call GN hr rfl CN.mg CN.kp CN.bd .nil pass0 (pa_cons (pv 2) pa_nil))) (blkOk_by (by rfl))
          (fun _ _ _ _ _ => pg_name (i := 4) scLeast.nd rfl (Or.inl rfl)) (fun _ _ _ _ _ => pts_one (pt_cmp (pc_din hu (pv 4) (pv 1)) rfl)) (fun _ _ _ _ _ => pe_dget hu (pv 1) (pv 4) (fun _ _ => rfl)))
        (pss_one (ps_if (pt_cmpR (op_eqD hu64) (pv 2) (pv 0) (nomark _))
          (pss_one (ps_dput hu (pv 1) (pv 2) (pe_call GO hr rfl CO.mg CO.kp CO.bd .nil pass0 (pa_cons (pv 2) (pa_cons (pv 0) pa_nil))) rfl))
          (pss_one (ps_if (pt_cmpR op_gt (pe_callB call_len_seq rfl T.bLen PySem.boot_len (pa_cons (pv 3) pa_nil)) pe_int (nomark _))
            (pss_one (ps_dput hu (pv 1) (pv 2) (pe_callB (call_max2 rfl) rfl T.bMax boot_max (pa_cons (pe_call GO hr rfl CO.mg CO.kp CO.bd .nil pass0 (pa_cons (pv 2) (pa_cons (pv 0) pa_nil))) (pa_cons (pe_callB (cr_min rfl) rfl T.bMin boot_min (pa_cons (pv 3) pa_nil)) pa_nil))) rfl))
            pss_nil))))))
      (pss_one (ps_ret (pe_mget1 hu (pv 1) (pe_gr rfl T.mS) ⟨rfl, rfl, rfl, rfl⟩)))), ?_⟩
    intro ld hld
    have s0 : Same H (upd H ld (.dT [])) := Same.ofNone hld
    refine ⟨_, rfl, g, d, i, rfl, Same.tup s0 hg, hd, hi, fun H2 l as s1 hl0 hl2 hP => ?_⟩
    have s2 : Same H H2 := s0.trans s1
    have hld2 : H2 ld = some (.dT []) := s1 _ _ upd_same
    have nl : l ≠ ld := ne_of hl2 hld2 (by intro z; cases z)
    refine ⟨l, rfl, ⟨_, SqL.of hl2⟩, for_list (K := K) (a := l) (xs := as.map V.ref) (fun n σ H' => ∃ (v2 v3 : Option V) (kvs : List (List Key × V)), σ = [some (.ref g), some (.ref ld), v2, v3, none] ∧ SameBut ld H2 H' ∧ H' ld = some (.dT kvs) ∧ Tab d i n (fLeast d i) kvs)
      ⟨none, none, [], rfl, SameBut.refl, hld2, Tab.nil⟩ (fun n σ H' _ ⟨_, _, _, _, sb, _⟩ => SqL.of (sb _ _ hl2 nl)) ?_ ?_⟩
    · rintro n v σ H3 hv ⟨v2, v3, kvs, rfl, sb, hd3, tb⟩
      obtain ⟨a, ⟨x, y⟩, rfl, hp, ha⟩ := hP.get hv
      obtain ⟨hx, hy, hr'⟩ := backs_get hp
      have na : a ≠ ld := ne_of ha hld2 (by intro z; cases z)
      have ha3 := sb _ _ ha na
      have hg3 : SqT K H3 g [.int d, .int i] := Same.tup (SameBut.out s2 hld sb) hg
      have len3 : kvs.length < sizeLine := small50 (by
        have h1 := tb.len
        have h2 : n < (backs d i).length := (List.getElem?_eq_some_iff.mp hp).1
        have h3 := backs_le hd hi
        omega)
      refine ⟨_, rfl, a, x, y, rfl, SqT.of ha3, fun H4 l4 as4 s4 hl4 hl4' hP4 => ?_⟩
      have hd4 := s4 _ _ hd3
      have ha4 := s4 _ _ ha3
      refine ⟨l4, rfl, ⟨_, SqL.of hl4'⟩, fun D hD => ?_⟩
      refine least_comp hl4' hP4 hd4 tb hr' hD fun H5 s5 hD5 => ?_
      have hd5 := s5 _ _ hd4
      have ha5 := s5 _ _ ha4
      have s35 : Same H3 H5 := s4.trans s5
      have hg5 := Same.tup s35 hg3
      refine ⟨_, rfl, _, rfl, _, _, Dp.pl (SqT.of ha5), Dp.pl hg5, shaped_pl _ _, shaped_pl _ _, _, rfl, ?_⟩
      rw [eqv_pl]
      have sbd : ∀ o, SameBut ld H2 (upd H5 ld o) := fun o => (sb.same s35).chg
      refine ite2 (fun c => ?_) (fun c => ?_)
      · have c : x = d ∧ y = i := by
          simp at c
          omega
        obtain ⟨rfl, rfl⟩ := c
        refine ⟨_, rfl, _, rfl, a, g, x, y, x, y, rfl, SqT.of ha5, hg5, by omega, by omega, ?_⟩
        refine ⟨_, rfl, _, rfl, ld, _, rfl, DPut.t (k := plK x y) hd5 ha5 len3, ?_⟩
        exact ⟨_, _, _, rfl, sbd _, upd_same, tb.put hx hy hr' (by unfold fLeast; rw [leastAt_goal]; rfl)⟩
      · have c : ¬ (x = d ∧ y = i) := by
          simp at c
          omega
        refine ⟨_, rfl, D, _, rfl, .inl (SqL.of hD5), _, _, rfl, rfl, _, rfl, ?_⟩
        rw [List.length_map]
        refine ite2 (fun c2 => ?_) (fun c2 => ?_)
        · have c2 : 0 < (ons d i x y 3).length := by
            have := of_decide_eq_true c2
            omega
          refine ⟨_, rfl, _, rfl, a, g, x, y, d, i, rfl, SqT.of ha5, hg5, by omega, by omega, ?_⟩
          refine ⟨_, rfl, D, (ons d i x y 3).map fun (m : Nat) => (m : Int), rfl, SqL.of (by rw [hD5, List.map_map]; rfl), by rw [List.length_map]; exact c2, fun m hm hall => ?_⟩
          obtain ⟨m', hm', rfl⟩ := List.mem_map.mp hm
          have hall' : ∀ z, z ∈ ons d i x y 3 → m' ≤ z := fun z hz => by
            have := hall _ (List.mem_map.mpr ⟨z, hz, rfl⟩)
            omega
          refine ⟨_, _, rfl, ?_⟩
          refine ⟨_, rfl, _, rfl, ld, _, rfl, DPut.t (k := plK x y) hd5 ha5 len3, ?_⟩
          refine ⟨_, _, _, rfl, sbd _, upd_same, tb.put hx hy hr' ?_⟩
          unfold fLeast
          rw [leastAt_some hx hy c hm' hall', max_int]
          rfl
        · have c2 : ons d i x y 3 = [] := by
            refine List.length_eq_zero_iff.mp ?_
            have c3 : ¬ 0 < (ons d i x y 3).length := fun z => c2 (decide_eq_true (by omega))
            omega
          exact ⟨_, _, kvs, rfl, sb.same s35, hd5, tb.skip hx hy hr' (by unfold fLeast; rw [leastAt_empty hx hy c c2]; rfl)⟩
    · rintro σ H3 ⟨v2, v3, kvs, rfl, sb, hd3, tb⟩
      rw [List.length_map, hP.len] at tb
      refine ⟨_, rfl, ld, kvs, rfl, hd3, aS, plK 0 0, rfl, hd3, T.tS H3, ?_⟩
      rw [tb.all (Nat.zero_le _) (Nat.zero_le _)]
      have e : (fLeast d i 0 0).getD .non = optV (leastAt d i 0 0) := by
        unfold fLeast
        cases leastAt d i 0 0 <;> rfl
      rw [e]
      exact k H3 (SameBut.out s2 hld sb)
end
end Net

end
section
set_option Elab.async false
set_option linter.all false
set_option maxRecDepth 100000
set_option maxHeartbeats 4000000
namespace Net
open PySem PySem.Spec PyProof.Rows L2 Nc
def fCount (d i u x y : Nat) : Option V := some (V.int (countAt d i u x y : Nat))
/-- what the dict gives of an onward place -/
theorem count_on {d i u k x y c : Nat} {kvs : List (List Key × V)} (t : Tab d i k (fCount d i u) kvs) (hc : c < 3) (hr : rank d i x y ≤ k) :
    (valV kvs (plK (x + Uw22.deep c) (y + Uw22.in_ c))).getD (.int 0) = V.int (countBy d i u x y c : Nat) := by
  by_cases hf : x + Uw22.deep c ≤ d ∧ y + Uw22.in_ c ≤ i
  · rw [t.on hc hr hf, countBy_eq hf]
    rfl
  · rw [t.out hf, countBy_out hf]
    rfl
section
variable {P : Program} {w : World} {K : PySem.W.Frag} {mg : Str → Option Value} {base : Heap} {aD aW aS : Addr}
def spCount (K : PySem.W.Frag) : Sp := fun vs H Q _ => ∃ (g : Addr) (d i u : Nat), vs = [.ref g, .int u] ∧ SqT K H g [.int d, .int i] ∧ d ≤ 10 ∧ i ≤ 10 ∧
  ∀ (H' : Hp) (c : Addr) (kvs : List (List Key × V)), Same H H' → H c = none → H' c = some (.dT kvs) → Tab d i (backs d i).length (fCount d i u) kvs → Q (.ref c) H'
theorem scCount : FnScope ["goal", "uneven", "counts", "place", "after"] ["goal", "uneven"] (defScope sCount) := ⟨rfl, rfl, rfl, by decide +kernel, rfl, by decide +kernel, by decide +kernel⟩
/-- the comprehension of a turn -/
theorem count_comp {d i u x y k : Nat} {H : Hp} {l D ld : Addr} {as : List Addr} {kvs : List (List Key × V)} {v0 v1 v3 v4 : Option V} {Q : Hp → Prop} (hl : H l = some (.lst (as.map V.ref))) (hP : PlT H as (onw x y 3)) (hd : H ld = some (.dT kvs)) (t : Tab d i k (fCount d i u) kvs) (hr : rank d i x y = k)
    (hD : H D = none) (kk : ∀ H' : Hp, Same H H' → H' D = some (.lst ((List.range 3).map fun c => V.int (countBy d i u x y c : Nat))) → Q H') :
    ∃ W : Nat → Nat → Hp → Prop, (∃ m, W 0 m (upd H D (.lst []))) ∧ ∀ j m H, W j m H → ((Itl K l).stop j H ∧ Q H) ∨ ((Itl K l).go j H ∧ ∃ Nx : Hp → Prop, (∀ H', Nx H' → ∃ m', m' < m ∧ W (j + 1) m' H') ∧
      ∀ x H', (Itl K l).yld j H x H' → gName 4 x (wipe [v0, v1, some (.ref ld), v3, v4] [4]) H' fun σ2 H2 => wipe σ2 [4] = wipe [v0, v1, some (.ref ld), v3, v4] [4] ∧ tYes σ2 H2 fun b H3 =>
        if b = true then tDGet2 (tVar 2) (tVar 4) (tC (.int 0)) σ2 H3 fun y H4 => ∃ acc, H4 D = some (.lst acc) ∧ acc.length < sizeLine ∧ Nx (upd H4 D (.lst (acc ++ [y]))) else Nx H3) := by
  refine lc_list (xs := as.map V.ref) (fun j H' => Same H H' ∧ H' D = some (.lst ((List.range j).map fun c => V.int (countBy d i u x y c : Nat)))) ⟨Same.ofNone hD, upd_same⟩ (fun j H' _ h => SqL.of (h.1 _ _ hl)) ?_ ?_
  · rintro j v H' hv ⟨s1, hd'⟩
    obtain ⟨a, p, rfl, hp, ha⟩ := hP.get hv
    obtain ⟨hj, rfl⟩ := onw_get hp
    have hx := s1 _ _ hd
    have hq := s1 _ _ ha
    refine ⟨rfl, ?_⟩
    unfold tYes
    refine iteT ?_
    refine ⟨_, rfl, ld, rfl, .inr ⟨kvs, .inl hx⟩, _, rfl, _, DGet.t (k := plK (x + Uw22.deep j) (y + Uw22.in_ j)) hx hq, ?_⟩
    rw [count_on t hj (Nat.le_of_eq hr)]
    refine ⟨_, hd', ?_, Same.chg s1 hD rfl, ?_⟩
    · rw [List.length_map, List.length_range]
      exact small50 (by omega)
    · rw [upd_same, List.range_succ, List.map_append]
      rfl
  · rintro H' ⟨s1, hd'⟩
    refine kk H' s1 ?_
    rw [hd', List.length_map, hP.len]
    rfl
theorem ok_count {f fB fO fN : Addr} {fd fdB fdO fdN : FuncData} (F : Fun K "count_onward" "count_onward" sCount f fd) (T : Tx K mg aD aW aS)
    (GB : FnOk P w K mg base CX0 1 fB fdB ["goal"] (spBack K)) (CB : Cal K mg "places_back" fB fdB ["goal"]) (GO : FnOk P w K mg base CX0 1 fO fdO ["place", "goal"] (spOff K)) (CO : Cal K mg "off_line" fO fdO ["place", "goal"])
    (GN : FnOk P w K mg base CX0 1 fN fdN ["place"] (spOnward K)) (CN : Cal K mg "places_onward" fN fdN ["place"]) : FnOk P w K mg base CX0 2 f fd ["goal", "uneven"] (spCount K) := by
  refine F.ok scCount (fun vs H Q E h => ?_) (fun cdv A outer s H vs Q E hr h => ?_)
  · obtain ⟨g, d, i, u, rfl, _⟩ := h
    rfl
  · obtain ⟨g, d, i, u, rfl, hg, hd, hi, k⟩ := h
    have hu := hu_of hr
    have hu64 := hr.units
    refine ⟨_, pss_cons (ps_set (i := 2) scCount.nd rfl (Or.inr rfl) pe_dnewT)
      (pss_cons (ps_for PassesOwn.never rfl (pi_list (pe_call GB hr rfl CB.mg CB.kp CB.bd .nil pass0 (pa_cons (pv 0) pa_nil))) (pg_name (i := 3) scCount.nd rfl (Or.inl rfl))
        (pss_one (ps_if (pt_cmpR op_gt (pe_call GO hr rfl CO.mg CO.kp CO.bd .nil pass0 (pa_cons (pv 3) (pa_cons (pv 0) pa_nil))) (pv 1) (nomark _))
          (pss_one (ps_dput hu (pv 2) (pv 3) pe_int rfl))
          (pss_one (ps_if (pt_cmpR (op_eqD hu64) (pv 3) (pv 0) (nomark _))
            (pss_one (ps_dput hu (pv 2) (pv 3) pe_int rfl))
            (pss_one (ps_dput hu (pv 2) (pv 3) (pe_callB (cr_sum rfl) rfl T.bSum boot_sum (pa_cons (pe_lc (own := [("after", 4)]) (te := tDGet2 (tVar 2) (tVar 4) (tC (.int 0))) rfl scCount.nd (pi_list (pe_call GN hr rfl CN.mg CN.kp CN.bd .nil pass0 (pa_cons (pv 3) pa_nil))) (blkOk_by (by rfl))
              (fun _ _ _ _ _ => pg_name (i := 4) scCount.nd rfl (Or.inl rfl)) (fun _ _ _ _ _ => pts_nil) (fun _ _ _ _ _ => pe_dget2 hu (pv 2) (pv 4) pe_int ⟨rfl, rfl, rfl, rfl⟩)) pa_nil)) rfl)))))))
      (pss_one (ps_ret (pv 2)))), ?_⟩
    intro ld hld
    have s0 : Same H (upd H ld (.dT [])) := Same.ofNone hld
    refine ⟨_, rfl, g, d, i, rfl, Same.tup s0 hg, hd, hi, fun H2 l as s1 hl0 hl2 hP => ?_⟩
    have s2 : Same H H2 := s0.trans s1
    have hld2 : H2 ld = some (.dT []) := s1 _ _ upd_same
    have nl : l ≠ ld := ne_of hl2 hld2 (by intro z; cases z)
    refine ⟨l, rfl, ⟨_, SqL.of hl2⟩, for_list (K := K) (a := l) (xs := as.map V.ref) (fun n σ H' => ∃ (v3 : Option V) (kvs : List (List Key × V)), σ = [some (.ref g), some (.int u), some (.ref ld), v3, none] ∧ SameBut ld H2 H' ∧ H' ld = some (.dT kvs) ∧ Tab d i n (fCount d i u) kvs)
      ⟨none, [], rfl, SameBut.refl, hld2, Tab.nil⟩ (fun n σ H' _ ⟨_, _, _, sb, _⟩ => SqL.of (sb _ _ hl2 nl)) ?_ ?_⟩
    · rintro n v σ H3 hv ⟨v3, kvs, rfl, sb, hd3, tb⟩
      obtain ⟨a, ⟨x, y⟩, rfl, hp, ha⟩ := hP.get hv
      obtain ⟨hx, hy, hr'⟩ := backs_get hp
      have na : a ≠ ld := ne_of ha hld2 (by intro z; cases z)
      have ha3 := sb _ _ ha na
      have hg3 : SqT K H3 g [.int d, .int i] := Same.tup (SameBut.out s2 hld sb) hg
      have len3 : kvs.length < sizeLine := small50 (by
        have h1 := tb.len
        have h2 : n < (backs d i).length := (List.getElem?_eq_some_iff.mp hp).1
        have h3 := backs_le hd hi
        omega)
      have sbd : ∀ o, SameBut ld H2 (upd H3 ld o) := fun o => sb.chg
      refine ⟨_, rfl, _, rfl, a, g, x, y, d, i, rfl, SqT.of ha3, hg3, by omega, by omega, ?_⟩
      refine ⟨_, rfl, _, _, rfl, rfl, _, rfl, ?_⟩
      refine ite2 (fun c => ?_) (fun c => ?_)
      · have c : u < Uw22.off d i x y := by
          have := of_decide_eq_true c
          omega
        refine ⟨_, rfl, _, rfl, ld, _, rfl, DPut.t (k := plK x y) hd3 ha3 len3, ?_⟩
        exact ⟨_, _, rfl, sbd _, upd_same, tb.put hx hy hr' (by unfold fCount; rw [countAt_off c]; rfl)⟩
      · have c : Uw22.off d i x y ≤ u := by
          have c3 : ¬ u < Uw22.off d i x y := fun z => c (decide_eq_true (by omega))
          omega
        refine ⟨_, rfl, _, rfl, _, _, Dp.pl (SqT.of ha3), Dp.pl hg3, shaped_pl _ _, shaped_pl _ _, _, rfl, ?_⟩
        rw [eqv_pl]
        refine ite2 (fun c2 => ?_) (fun c2 => ?_)
        · have c2 : x = d ∧ y = i := by
            simp at c2
            omega
          obtain ⟨rfl, rfl⟩ := c2
          refine ⟨_, rfl, _, rfl, ld, _, rfl, DPut.t (k := plK x y) hd3 ha3 len3, ?_⟩
          exact ⟨_, _, rfl, sbd _, upd_same, tb.put hx hy hr' (by unfold fCount; rw [countAt_goal c]; rfl)⟩
        · have c2 : ¬ (x = d ∧ y = i) := by
            simp at c2
            omega
          refine ⟨_, rfl, a, x, y, rfl, SqT.of ha3, fun H4 l4 as4 s4 hl4 hl4' hP4 => ?_⟩
          have hd4 := s4 _ _ hd3
          have ha4 := s4 _ _ ha3
          refine ⟨l4, rfl, ⟨_, SqL.of hl4'⟩, fun D hD => ?_⟩
          refine count_comp hl4' hP4 hd4 tb hr' hD fun H5 s5 hD5 => ?_
          have hd5 := s5 _ _ hd4
          have ha5 := s5 _ _ ha4
          refine ⟨D, (List.range 3).map fun c => ((countBy d i u x y c : Nat) : Int), rfl, SqL.of (by rw [hD5, List.map_map]; rfl), ?_⟩
          refine ⟨_, rfl, _, rfl, ld, _, rfl, DPut.t (k := plK x y) hd5 ha5 len3, ?_⟩
          refine ⟨_, _, rfl, (sb.same (s4.trans s5)).chg, upd_same, tb.put hx hy hr' ?_⟩
          unfold fCount
          rw [countAt_step hx hy c2 c]
          show some (V.int _) = some (V.int (([0, 1, 2] : List Nat).map fun c => ((countBy d i u x y c : Nat) : Int)).sum)
          simp only [List.map_cons, List.map_nil, List.sum_cons, List.sum_nil]
          congr 2
    · rintro σ H3 ⟨v3, kvs, rfl, sb, hd3, tb⟩
      rw [List.length_map, hP.len] at tb
      exact ⟨_, rfl, k H3 ld kvs (SameBut.out s2 hld sb) hld hd3 tb⟩
end
end Net

end
section
set_option Elab.async false
set_option linter.all false
set_option maxRecDepth 100000
set_option maxHeartbeats 4000000
namespace Net
open PySem PySem.Spec PyProof.Rows L2 Nc
theorem off_goal (d i : Nat) : Uw22.off d i d i = 0 := by
  unfold Uw22.off
  rw [Nat.mul_comm i d]
  omega
section
variable {P : Program} {w : World} {K : PySem.W.Frag} {mg : Str → Option Value} {base : Heap} {aD aW aS : Addr}
def spEarl (K : PySem.W.Frag) : Sp := fun vs H Q _ => ∃ (g c : Addr) (d i u : Nat) (kvs : List (List Key × V)), vs = [.ref g, .ref c] ∧ SqT K H g [.int d, .int i] ∧ d ≤ 10 ∧ i ≤ 10 ∧ H c = some (.dT kvs) ∧ Tab d i (backs d i).length (fCount d i u) kvs ∧ 0 < countAt d i u 0 0 ∧
  ∀ (H' : Hp) (l : Addr) (r : List Nat), Same H H' → H l = none → H' l = some (.lst (cutsV r)) → r.length ≤ 20 → (good d i u 0 0).head? = some r → Q (.ref l) H'
theorem scEarl : FnScope ["goal", "counts", "row", "place", "onward", "cut", "number", "after"] ["goal", "counts"] (defScope sEarliest) := ⟨rfl, rfl, rfl, by decide +kernel, rfl, by decide +kernel, by decide +kernel⟩
/-- the cuts that lead on, by their numbers -/
theorem earl_comp {d i u x y : Nat} {H : Hp} {l D c : Addr} {as : List Addr} {kvs : List (List Key × V)} {v0 v2 v3 v4 v5 v6 v7 : Option V} {Q : Hp → Prop} (hl : H l = some (.lst (as.map V.ref))) (hP : PlT H as (onw x y 3)) (hd : H c = some (.dT kvs)) (t : Tab d i (backs d i).length (fCount d i u) kvs)
    (hD : H D = none) (kk : ∀ H' : Hp, Same H H' → H' D = some (.lst (cutsV (cutsOn d i u x y 3))) → Q H') :
    ∃ W : Nat → Nat → Hp → Prop, (∃ m, W 0 m (upd H D (.lst []))) ∧ ∀ j m H, W j m H → ((Ite K l).stop j H ∧ Q H) ∨ ((Ite K l).go j H ∧ ∃ Nx : Hp → Prop, (∀ H', Nx H' → ∃ m', m' < m ∧ W (j + 1) m' H') ∧
      ∀ x H', (Ite K l).yld j H x H' → gTup K 2 (gCons (gName 6) (gCons (gName 7) gNil)) x (wipe [v0, some (.ref c), v2, v3, v4, v5, v6, v7] [6, 7]) H' fun σ2 H2 => wipe σ2 [6, 7] = wipe [v0, some (.ref c), v2, v3, v4, v5, v6, v7] [6, 7] ∧
        tTest (tOp (rI0 fun i j => .bl (decide (j < i))) (tDGet2 (tVar 1) (tVar 7) (tC (.int 0))) (tC (.int 0))) σ2 H2 fun b H3 =>
          if b = true then tVar 6 σ2 H3 fun y H4 => ∃ acc, H4 D = some (.lst acc) ∧ acc.length < sizeLine ∧ Nx (upd H4 D (.lst (acc ++ [y]))) else Nx H3) := by
  refine lc_gen (n := 3) (fun j H' => Same H H' ∧ H' D = some (.lst (cutsV (cutsOn d i u x y j)))) ⟨Same.ofNone hD, upd_same⟩ (fun j H' hj h => ?_) (fun H' h => ⟨_, SqL.of (h.1 _ _ hl), by rw [List.length_map, hP.len]; exact Nat.le_refl _⟩) ?_ ?_
  · have hn : j < (as.map V.ref).length := by
      rw [List.length_map, hP.len]
      exact hj
    exact ⟨_, (as.map V.ref)[j], SqL.of (h.1 _ _ hl), List.getElem?_eq_getElem hn⟩
  · rintro j H1 v H2 hj ⟨s1, hd'⟩ ⟨T, vx, rfl, hT, rfl, hv⟩
    have hv := hv _ (SqL.of (s1 _ _ hl))
    obtain ⟨a, p, rfl, hp, ha⟩ := hP.get hv
    obtain ⟨hj, rfl⟩ := onw_get hp
    have s2 : Same H1 (upd H1 T (.tup [.int (j : Nat), .ref a])) := Same.ofNone hT
    have s3 := s1.trans s2
    have hx := s3 _ _ hd
    have hq := s3 _ _ ha
    have hd2 := s2 _ _ hd'
    refine ⟨T, _, rfl, SqT.of upd_same, rfl, _, _, rfl, _, _, rfl, rfl, rfl, ?_⟩
    refine ⟨_, rfl, c, rfl, .inr ⟨kvs, .inl hx⟩, _, rfl, _, DGet.t (k := plK (x + Uw22.deep j) (y + Uw22.in_ j)) hx hq, ?_⟩
    rw [count_on t hj (by rw [backs_len]; exact Nat.le_of_lt rank_lt)]
    refine ⟨_, _, rfl, rfl, _, rfl, ?_⟩
    refine ite2 (fun h => ?_) (fun h => ?_)
    · have h : 0 < countBy d i u x y j := by
        have := of_decide_eq_true h
        omega
      refine ⟨_, rfl, _, hd2, ?_, Same.chg s3 hD rfl, ?_⟩
      · unfold cutsV
        rw [List.length_map]
        refine small50 (Nat.le_trans (List.length_filter_le _ _) ?_)
        rw [List.length_range]
        omega
      · rw [upd_same, cutsOn_succ, if_pos h]
        unfold cutsV
        rw [List.map_append]
        rfl
    · have h : ¬ 0 < countBy d i u x y j := fun z => h (decide_eq_true (by omega))
      refine ⟨s3, ?_⟩
      rw [hd2, cutsOn_succ, if_neg h, List.append_nil]
  · rintro H' ⟨s1, hd'⟩
    exact kk H' s1 hd'
theorem ok_earl {f fN : Addr} {fd fdN : FuncData} (F : Fun K "earliest_row" "earliest_row" sEarliest f fd) (T : Tx K mg aD aW aS)
    (GN : FnOk P w K mg base CX0 1 fN fdN ["place"] (spOnward K)) (CN : Cal K mg "places_onward" fN fdN ["place"]) : FnOk P w K mg base CX0 2 f fd ["goal", "counts"] (spEarl K) := by
  refine F.ok scEarl (fun vs H Q E h => ?_) (fun cdv A outer s H vs Q E hr h => ?_)
  · obtain ⟨g, c, d, i, u, kvs, rfl, _⟩ := h
    rfl
  · obtain ⟨g, c, d, i, u, kvs, rfl, hg, hd, hi, hc, tb, hpos, k⟩ := h
    have hu := hu_of hr
    have hu64 := hr.units
    refine ⟨_, pss_cons (ps_set (i := 2) scEarl.nd rfl (Or.inl rfl) (pe_lst pa_nil))
      (pss_cons (ps_set (i := 3) scEarl.nd rfl (Or.inl rfl) (pe_gr rfl T.mS))
      (pss_cons (ps_while PassesOwn.never (pt_cmpR (op_neD hu64) (pv 3) (pv 0) (nomark _))
        (pss_cons (ps_set (i := 4) scEarl.nd rfl (Or.inl rfl) (pe_call GN hr rfl CN.mg CN.kp CN.bd .nil pass0 (pa_cons (pv 3) pa_nil)))
        (pss_cons (ps_set (i := 5) scEarl.nd rfl (Or.inl rfl) (pe_callB (cr_min rfl) rfl T.bMin boot_min (pa_cons (pe_lc (own := [("number", 6), ("after", 7)]) (g := gTup K 2 (gCons (gName 6) (gCons (gName 7) gNil)))
          (tt := tTest (tOp (rI0 fun i j => .bl (decide (j < i))) (tDGet2 (tVar 1) (tVar 7) (tC (.int 0))) (tC (.int 0)))) (te := tVar 6) rfl scEarl.nd (pi_enum rfl T.bEnum (pa_cons (pv 4) pa_nil)) (blkOk_by (by rfl))
          (fun _ _ _ _ _ => pg_tup rfl (pgs_cons (pg_name (i := 6) scEarl.nd rfl (Or.inl rfl)) (pgs_cons (pg_name (i := 7) scEarl.nd rfl (Or.inl rfl)) pgs_nil)))
          (fun _ _ _ _ _ => pts_one (pt_cmpR op_gt (pe_dget2 hu (pv 1) (pv 7) pe_int ⟨rfl, rfl, rfl, rfl⟩) pe_int (nomark _))) (fun _ _ _ _ _ => pv 6)) pa_nil)))
        (pss_cons (ps_expr (pe_bm PySem.F.plainAttrs_list PySem.F.slot_list_append PySem.F.type_list_append mt_append (pv 2) (pa_cons (pv 5) pa_nil)))
        (pss_one (ps_set (i := 3) scEarl.nd rfl (Or.inl rfl) (pe_ix ix_list (pv 4) (pv 5) (fun _ _ => rfl))))))))
      (pss_one (ps_ret (pv 2))))), ?_⟩
    refine ⟨Nat.zero_le _, fun lr hlr => ?_⟩
    have s0 : Same H (upd H lr (.lst [])) := Same.ofNone hlr
    refine ⟨fun m σ H' => ∃ (p : Addr) (x y : Nat) (r : List Nat) (v4 v5 : Option V), σ = [some (.ref g), some (.ref c), some (.ref lr), some (.ref p), v4, v5, none, none] ∧ SqT K H' p [.int x, .int y] ∧ x ≤ d ∧ y ≤ i ∧ 0 < countAt d i u x y ∧ m = (d - x) + (i - y) ∧
      2 * r.length + ((d - x) + (i - y)) ≤ d + i ∧ Same H H' ∧ H' lr = some (.lst (cutsV r)) ∧ (good d i u 0 0).head? = ((good d i u x y).head?).map (fun l => r ++ l),
      ⟨_, aS, 0, 0, [], none, none, rfl, T.tS _, Nat.zero_le _, Nat.zero_le _, hpos, rfl, by simp, s0, upd_same, by cases (good d i u 0 0).head? <;> rfl⟩, ?_⟩
    rintro m σ H1 ⟨p, x, y, r, v4, v5, rfl, hp, hx, hy, hpos1, rfl, hlen, s1, hlr1, hhead⟩
    have hg1 := Same.tup s1 hg
    refine ⟨_, rfl, _, rfl, _, _, Dp.pl hp, Dp.pl hg1, shaped_pl _ _, shaped_pl _ _, _, rfl, ?_⟩
    rw [eqv_pl]
    refine ite2 (fun cc => ?_) (fun cc => ?_)
    · have cc : ¬ (x = d ∧ y = i) := by
        simp at cc
        omega
      obtain ⟨q1, q2, q3, q4, q5⟩ := good_head hx hy cc hpos1
      refine ⟨fun σ' H' => ∃ (p : Addr) (x' y' : Nat) (r : List Nat) (v4 v5 : Option V), (d - x') + (i - y') < (d - x) + (i - y) ∧ σ' = [some (.ref g), some (.ref c), some (.ref lr), some (.ref p), v4, v5, none, none] ∧ SqT K H' p [.int x', .int y'] ∧ x' ≤ d ∧ y' ≤ i ∧ 0 < countAt d i u x' y' ∧
        2 * r.length + ((d - x') + (i - y')) ≤ d + i ∧ Same H H' ∧ H' lr = some (.lst (cutsV r)) ∧ (good d i u 0 0).head? = ((good d i u x' y').head?).map (fun l => r ++ l),
        fun σ' H' ⟨p, x', y', r, v4, v5, h0, h1, h2, h3, h4, h5, h6, h7, h8, h9⟩ => ⟨_, h0, p, x', y', r, v4, v5, h1, h2, h3, h4, h5, rfl, h6, h7, h8, h9⟩, ?_⟩
      refine ⟨_, rfl, p, x, y, rfl, hp, fun H2 l as s2 hl0 hl2 hP => ?_⟩
      have hc2 := s2 _ _ (s1 _ _ hc)
      have hlr2 := s2 _ _ hlr1
      refine ⟨_, rfl, l, _, rfl, SqL.of hl2, fun D hD => ?_⟩
      refine earl_comp hl2 hP hc2 tb hD fun H3 s3 hD3 => ?_
      have hmem := cutsOn_ne hx hy cc hpos1
      refine ⟨D, (cutsOn d i u x y 3).map fun (n : Nat) => (n : Int), rfl, SqL.of (by rw [hD3]; unfold cutsV; rw [List.map_map]; rfl), by rw [List.length_map]; exact List.length_pos_of_mem hmem, fun mm hm hall => ?_⟩
      obtain ⟨m', hm', rfl⟩ := List.mem_map.mp hm
      have hall' : ∀ z, z ∈ cutsOn d i u x y 3 → m' ≤ z := fun z hz => by
        have := hall _ (List.mem_map.mpr ⟨z, hz, rfl⟩)
        omega
      have em := cutsOn_first hm' hall'
      subst em
      have hlr3 := s3 _ _ hlr2
      have hl3 := s3 _ _ hl2
      refine ⟨_, rfl, .inl ⟨rfl, _, SqL.of hlr3⟩, _, rfl, lr, _, _, rfl, rfl, hlr3, ?_, ?_⟩
      · unfold cutsV
        rw [List.length_map]
        exact small50 (by omega)
      · have nl : l ≠ lr := ne_of_none hlr1 hl0 |>.symm
        have hP3 := (hP.same (Same.tups s3)).same (tups_lst (o := .lst (cutsV r ++ [V.int (firstCut d i u x y : Nat)])) hlr3)
        obtain ⟨b, hb, hbt⟩ := hP3.at_ (firstCut d i u x y) (x + Uw22.deep (firstCut d i u x y), y + Uw22.in_ (firstCut d i u x y)) (by
          unfold onw
          rw [List.getElem?_map, List.getElem?_eq_getElem (by rw [List.length_range]; exact firstCut_lt ..)]
          simp)
        refine ⟨_, rfl, _, rfl, l, _, _, _, rfl, rfl, SqL.of (by rw [upd_ne nl]; exact hl3), atI_nat (v := V.ref b) (by rw [List.getElem?_map, hb]; rfl), ?_⟩
        have hdp := dip (firstCut_lt d i u x y)
        refine ⟨b, _, _, r ++ [firstCut d i u x y], _, _, by omega, rfl, SqT.of hbt, q2, q3, q4, ?_, Same.chg ((s1.trans s2).trans s3) hlr rfl, ?_, ?_⟩
        · rw [List.length_append]
          show 2 * (r.length + 1) + _ ≤ _
          omega
        · rw [upd_same]
          unfold cutsV
          rw [List.map_append]
          rfl
        · rw [hhead, q5, Option.map_map]
          congr 1
          funext z
          simp
    · have cc : x = d ∧ y = i := by
        simp at cc
        omega
      obtain ⟨rfl, rfl⟩ := cc
      refine ⟨_, rfl, k H1 lr r s1 hlr hlr1 (by omega) ?_⟩
      rw [hhead, good_goal (by rw [off_goal]; omega)]
      simp
end
end Net

end
section
set_option Elab.async false
set_option linter.all false
set_option maxRecDepth 100000
set_option maxHeartbeats 4000000
namespace Net
open PySem PySem.Spec PyProof.Rows L2 Nc
/-- what best answers -/
def bestOut (d i : Nat) : List Int := if 10 < d ∨ 10 < i then [-1] else match Uw22.best d i with
  | none => [-6]
  | some b => (b.uneven : Int) :: (b.many : Int) :: b.row.map fun (n : Nat) => (n : Int)
theorem bestOut_far {d i : Nat} (h : 10 < d ∨ 10 < i) : bestOut d i = [-1] := by
  unfold bestOut
  rw [if_pos h]
theorem bestOut_none {d i : Nat} (h : ¬ (10 < d ∨ 10 < i)) (e : leastAt d i 0 0 = none) : bestOut d i = [-6] := by
  unfold bestOut
  rw [if_neg h, best_eq, e]
  rfl
theorem bestOut_some {d i m : Nat} {r : List Nat} (h : ¬ (10 < d ∨ 10 < i)) (e : leastAt d i 0 0 = some m) (hr : (good d i m 0 0).head? = some r) : bestOut d i = (m : Int) :: (countAt d i m 0 0 : Int) :: r.map fun (n : Nat) => (n : Int) := by
  unfold bestOut
  rw [if_neg h, best_eq, e]
  show (m : Int) :: (countAt d i m 0 0 : Int) :: (((good d i m 0 0).head?).getD []).map (fun (n : Nat) => (n : Int)) = _
  rw [hr]
  rfl
section
variable {P : Program} {w : World} {K : PySem.W.Frag} {mg : Str → Option Value} {base : Heap} {aD aW aS : Addr}
/-- a new list of ints comes out, all else is as it was -/
def Out (H : Hp) (ns : List Int) (Q : VK) : Prop := ∀ (H' : Hp) (l : Addr), Same H H' → H l = none → H' l = some (.lst (ns.map V.int)) → Q (.ref l) H'
def spBest : Sp := fun vs H Q _ => ∃ d i : Nat, vs = [.int d, .int i] ∧ Out H (bestOut d i) Q
theorem scBest : FnScope ["depth", "way_in", "goal", "uneven", "counts"] ["depth", "way_in"] (defScope sBest) := ⟨rfl, rfl, rfl, by decide +kernel, rfl, by decide +kernel, by decide +kernel⟩
theorem ok_best {f fL fC fE : Addr} {fd fdL fdC fdE : FuncData} (F : Fun K "best" "best" sBest f fd) (T : Tx K mg aD aW aS)
    (GL : FnOk P w K mg base CX0 2 fL fdL ["goal"] (spLeast K)) (CL : Cal K mg "least_uneven" fL fdL ["goal"]) (GC : FnOk P w K mg base CX0 2 fC fdC ["goal", "uneven"] (spCount K)) (CC : Cal K mg "count_onward" fC fdC ["goal", "uneven"])
    (GE : FnOk P w K mg base CX0 2 fE fdE ["goal", "counts"] (spEarl K)) (CE : Cal K mg "earliest_row" fE fdE ["goal", "counts"]) : FnOk P w K mg base CX0 3 f fd ["depth", "way_in"] spBest := by
  refine F.ok scBest (fun vs H Q E h => ?_) (fun cdv A outer s H vs Q E hr h => ?_)
  · obtain ⟨d, i, rfl, _⟩ := h
    rfl
  · obtain ⟨d, i, rfl, k⟩ := h
    have hu := hu_of hr
    refine ⟨_, pss_cons (ps_if (PW.pt (pw_or (pt_cmpR op_gt (pv 0) (pe_gi rfl T.iFar) (nomark _)) (pw_or1 (pt_cmpR op_gt (pv 1) (pe_gi rfl T.iFar) (nomark _))))) (pss_one (ps_ret (pe_lst (pa_cons (pe_gi rfl T.iOut) pa_nil)))) pss_nil)
      (pss_cons (ps_set (i := 2) scBest.nd rfl (Or.inl rfl) (pe_tup (pa_cons (pv 0) (pa_cons (pv 1) pa_nil))))
      (pss_cons (ps_set (i := 3) scBest.nd rfl (Or.inl rfl) (pe_call GL hr rfl CL.mg CL.kp CL.bd .nil pass0 (pa_cons (pv 2) pa_nil)))
      (pss_cons (ps_if (pt_cmp (pc_isN (pv 3))) (pss_one (ps_ret (pe_lst (pa_cons (pe_gi rfl T.iElse) pa_nil)))) pss_nil)
      (pss_cons (ps_set (i := 4) scBest.nd rfl (Or.inl rfl) (pe_call GC hr rfl CC.mg CC.kp CC.bd .nil pass0 (pa_cons (pv 2) (pa_cons (pv 3) pa_nil))))
      (pss_one (ps_ret (pe_op op_cat (pe_lst (pa_cons (pv 3) (pa_cons (pe_mget hu (pv 4) (pe_gr rfl T.mS) (fun _ _ => rfl)) pa_nil))) (pe_call GE hr rfl CE.mg CE.kp CE.bd .nil pass0 (pa_cons (pv 2) (pa_cons (pv 4) pa_nil)))))))))), ?_⟩
    refine ⟨_, rfl, _, _, rfl, rfl, _, rfl, ?_⟩
    have out1 : ∀ {H1 : Hp} {z : Int}, Same H H1 → bestOut d i = [z] → ∀ p, H1 p = none → Q (.ref p) (upd H1 p (.lst [.int z])) := fun {H1 z} s1 e p hp => by
      refine k _ p (Same.new s1 hp) (Same.free s1 hp) ?_
      rw [upd_same, e]
      rfl
    by_cases hd : 10 < d
    · rw [decide_eq_true (show (10 : Int) < (d : Int) by omega)]
      refine iteT (iteT ⟨by show 1 ≤ sizeLine; decide, ?_⟩)
      exact out1 (Same.refl H) (bestOut_far (.inl hd))
    rw [decide_eq_false (show ¬ (10 : Int) < (d : Int) by omega)]
    refine iteF ⟨_, rfl, _, _, rfl, rfl, _, rfl, ?_⟩
    by_cases hi : 10 < i
    · rw [decide_eq_true (show (10 : Int) < (i : Int) by omega)]
      refine iteT ⟨by show 1 ≤ sizeLine; decide, ?_⟩
      exact out1 (Same.refl H) (bestOut_far (.inr hi))
    rw [decide_eq_false (show ¬ (10 : Int) < (i : Int) by omega)]
    have hn : ¬ (10 < d ∨ 10 < i) := by omega
    refine iteF ⟨_, rfl, _, rfl, (by show 2 ≤ sizeLine; decide), fun g hg => ?_⟩
    have s1 : Same H (upd H g (.tup [.int d, .int i])) := Same.ofNone hg
    refine ⟨_, rfl, g, d, i, rfl, SqT.of upd_same, by omega, by omega, fun H2 s2 => ?_⟩
    have hg2 := s2 _ _ upd_same
    refine ⟨_, rfl, _, rfl, ?_⟩
    cases e : leastAt d i 0 0 with
    | none =>
      refine iteT ⟨by show 1 ≤ sizeLine; decide, ?_⟩
      exact out1 (s1.trans s2) (bestOut_none hn e)
    | some m =>
      refine iteF ?_
      refine ⟨_, rfl, _, rfl, g, d, i, m, rfl, SqT.of hg2, by omega, by omega, fun H3 c kvs s3 hc0 hc3 tb => ?_⟩
      refine ⟨_, rfl, _, rfl, c, aS, kvs, plK 0 0, _, rfl, rfl, hc3, T.tS H3, tb.all (Nat.zero_le _) (Nat.zero_le _), (by show 2 ≤ sizeLine; decide), fun p hp => ?_⟩
      have s4 : Same H3 (upd H3 p (.lst [.int (m : Nat), .int (countAt d i m 0 0 : Nat)])) := Same.ofNone hp
      refine ⟨_, rfl, _, rfl, g, c, d, i, m, kvs, rfl, SqT.of (s4 _ _ (s3 _ _ hg2)), by omega, by omega, s4 _ _ hc3, tb, leastAt_count e, fun H5 l r s5 hl0 hl5 hlen hr' => ?_⟩
      refine ⟨p, l, _, _, rfl, rfl, s5 _ _ upd_same, hl5, ?_, fun q hq => ?_⟩
      · unfold cutsV
        rw [List.length_map]
        exact Nat.le_of_lt (small50 (by show 2 + r.length ≤ 1000; omega))
      · have s6 := ((((s1.trans s2).trans s3).trans s4).trans s5)
        refine k _ q (Same.new s6 hq) (Same.free s6 hq) ?_
        rw [upd_same, bestOut_some hn e hr']
        unfold cutsV
        simp
        rfl
end
end Net

end
section
set_option Elab.async false
set_option linter.all false
set_option maxRecDepth 100000
set_option maxHeartbeats 4000000
namespace Net
open PySem PySem.Spec PyProof.Rows L2 Nc
theorem sum_deep : ∀ l : List Nat, (l.map fun c => ((Uw22.deep c : Nat) : Int)).sum = ((Uw22.deepOf l : Nat) : Int)
  | [] => rfl
  | c :: l => by
    rw [List.map_cons, List.sum_cons, sum_deep l, deepOf_cons]
    omega
theorem sum_in : ∀ l : List Nat, (l.map fun c => ((Uw22.in_ c : Nat) : Int)).sum = ((Uw22.inOf l : Nat) : Int)
  | [] => rfl
  | c :: l => by
    rw [List.map_cons, List.sum_cons, sum_in l, inOf_cons]
    omega
section
variable {P : Program} {w : World} {K : PySem.W.Frag} {mg : Str → Option Value} {base : Heap} {aD aW aS : Addr}
theorem ok_in {g : Addr} {fd : FuncData} (F : Fun K "how_far_in" "how_far_in" sIn g fd) (T : Tx K mg aD aW aS) : FnOk P w K mg base CX0 1 g fd ["row"] (spTab K Uw22.in_) := by
  refine F.ok scIn (fun vs H Q E h => ?_) (fun cdv A outer s H vs Q E hr h => ?_)
  · obtain ⟨a, l, rfl, _⟩ := h
    rfl
  · obtain ⟨a, l, rfl, hS, hc, hl, k⟩ := h
    refine ⟨_, pss_one (ps_ret (pe_callB (cr_sum rfl) rfl T.bSum boot_sum (pa_cons (pe_lc (own := [("cut", 1)]) (te := tOp (rIxT K) (tC (.ref aW)) (tVar 1)) rfl scIn.nd (pi_list (pv 0)) (blkOk_by (by rfl))
      (fun _ _ _ _ _ => pg_name (i := 1) scIn.nd rfl (Or.inl rfl)) (fun _ _ _ _ _ => pts_nil) (fun _ _ _ _ _ => pe_ix ix_tup (pe_gr rfl T.mW) (pv 1) (fun _ _ => rfl))) pa_nil))), ?_⟩
    refine ⟨_, rfl, a, rfl, ⟨_, hS⟩, fun D hD => ?_⟩
    refine tab_read (f := Uw22.in_) (aT := aW) (t := .non) (σ := []) (fun H c hc => ⟨_, T.tW H, ?_⟩) hS hc hl hD fun H' s1 hd => ?_
    · match c, hc with
      | 0, _ => rfl
      | 1, _ => rfl
      | 2, _ => rfl
    · refine ⟨D, l.map fun c => ((Uw22.in_ c : Nat) : Int), rfl, SqL.of ?_, k H' s1⟩
      rw [hd, List.map_map]
      rfl
/-! ### is_row -/
def isRow (l : List Nat) : Bool := decide (l.length ≤ 40) && l.all fun c => decide (c ≤ 2)
def spIsRow (K : PySem.W.Frag) : Sp := fun vs H Q _ => ∃ (a : Addr) (l : List Nat), vs = [.ref a] ∧ SqL K H a (cutsV l) ∧ l.length ≤ 1000 ∧ ∀ H' : Hp, Same H H' → Q (.bl (isRow l)) H'
theorem scIsRow : FnScope ["numbers", "number"] ["numbers"] (defScope sIsRow) := ⟨rfl, rfl, rfl, by decide +kernel, rfl, by decide +kernel, by decide +kernel⟩
theorem ok_isRow {g : Addr} {fd : FuncData} (F : Fun K "is_row" "is_row" sIsRow g fd) (T : Tx K mg aD aW aS) : FnOk P w K mg base CX0 1 g fd ["numbers"] (spIsRow K) := by
  refine F.ok scIsRow (fun vs H Q E h => ?_) (fun cdv A outer s H vs Q E hr h => ?_)
  · obtain ⟨a, l, rfl, _⟩ := h
    rfl
  · obtain ⟨a, l, rfl, hS, hl, k⟩ := h
    refine ⟨_, pss_one (ps_ret (pe_and (pe_cmpR op_le (pe_callB call_len_seq rfl T.bLen PySem.boot_len (pa_cons (pv 0) pa_nil)) (pe_gi rfl T.iMost) (nomark _))
      (pe_one (pe_callB (cr_all rfl) rfl T.bAll boot_all (pa_cons (pe_lc (own := [("number", 1)]) (te := tOp (rI0 fun i j => .bl (decide (i ≤ j))) (tVar 1) (tC (.int 2))) rfl scIsRow.nd (pi_list (pv 0)) (blkOk_by (by rfl))
        (fun _ _ _ _ _ => pg_name (i := 1) scIsRow.nd rfl (Or.inl rfl)) (fun _ _ _ _ _ => pts_nil) (fun _ _ _ _ _ => pe_cmpR op_le (pv 1) (pe_gi rfl T.iHi) (nomark _))) pa_nil))))), ?_⟩
    refine ⟨_, rfl, a, _, rfl, .inl hS, _, _, rfl, rfl, _, rfl, ?_⟩
    have e1 : (cutsV l).length = l.length := by
      unfold cutsV
      rw [List.length_map]
    rw [e1]
    unfold isRow at k
    by_cases h40 : l.length ≤ 40
    · rw [decide_eq_true (show ((l.length : Nat) : Int) ≤ 40 by omega)]
      rw [decide_eq_true h40, Bool.true_and] at k
      refine iteT ⟨_, rfl, a, rfl, ⟨_, hS⟩, fun D hD => ?_⟩
      refine lc_list (xs := cutsV l) (fun i H' => Same H H' ∧ H' D = some (.lst (((l.take i).map fun c => decide (c ≤ 2)).map V.bl))) ⟨Same.ofNone hD, upd_same⟩ (fun i H' _ h => h.1.seq hS) ?_ ?_
      · rintro i x H' hx ⟨s1, hd⟩
        obtain ⟨c, e, rfl⟩ := cutsV_get hx
        refine ⟨rfl, ?_⟩
        unfold tYes
        refine iteT ?_
        refine ⟨_, rfl, _, _, rfl, rfl, _, hd, ?_, Same.chg s1 hD rfl, ?_⟩
        · rw [List.length_map, List.length_map, List.length_take]
          exact small50 (by omega)
        · rw [upd_same, take_snoc e, List.map_append, List.map_append]
          show some (HO.lst (_ ++ [V.bl (decide ((c : Int) ≤ 2))])) = some (HO.lst (_ ++ [V.bl (decide (c ≤ 2))]))
          have ec : decide ((c : Int) ≤ 2) = decide (c ≤ 2) := by
            by_cases hc : c ≤ 2
            · rw [decide_eq_true hc, decide_eq_true (by omega)]
            · rw [decide_eq_false hc, decide_eq_false (by omega)]
          rw [ec]
      · rintro H' ⟨s1, hd⟩
        rw [e1, List.take_length] at hd
        refine ⟨D, _, rfl, SqL.of hd, ?_⟩
        rw [List.all_map]
        exact k H' s1
    · rw [decide_eq_false (show ¬ ((l.length : Nat) : Int) ≤ 40 by omega)]
      rw [decide_eq_false h40, Bool.false_and] at k
      exact iteF (k H (Same.refl H))
end
end Net

end
section
set_option Elab.async false
set_option linter.all false
set_option maxRecDepth 100000
set_option maxHeartbeats 4000000
namespace Net
open PySem PySem.Spec PyProof.Rows L2 Nc
/-! ### Line: the list that was handed in, and where it is read -/
abbrev sLine : Stmt := top 40
abbrev sLInit : Stmt := inClass sLine 0
abbrev sLEnd : Stmt := inClass sLine 1
abbrev sLNum : Stmt := inClass sLine 2
abbrev sLRow : Stmt := inClass sLine 3
def lineF (a : Addr) (n : Nat) : List (Str × V) := putF "at" (.int (n : Nat)) (putF "calls" (.ref a) [])
theorem lineF_calls (a : Addr) (n : Nat) : (lineF a n).lookup ("calls" : Str) = some (.ref a) := by
  unfold lineF
  rw [lookup_putF, if_neg (by decide +kernel), lookup_putF, if_pos rfl]
theorem lineF_at (a : Addr) (n : Nat) : (lineF a n).lookup ("at" : Str) = some (.int (n : Nat)) := by
  unfold lineF
  rw [lookup_putF, if_pos rfl]
theorem lineF_no (a : Addr) (n : Nat) {m : Str} (h1 : ¬ m = "calls") (h2 : ¬ m = "at") : (lineF a n).lookup m = none := by
  unfold lineF
  rw [lookup_putF, if_neg h2, lookup_putF, if_neg h1]
  rfl
theorem lineF_put (a : Addr) (n m : Nat) : putF "at" (.int (m : Nat)) (lineF a n) = lineF a m := by
  have e : ∀ k : Nat, lineF a k = [(("calls" : Str), V.ref a), (("at" : Str), V.int (k : Nat))] := fun k => by
    unfold lineF
    show (if ("calls" : Str) = "at" then _ else _) = _
    rw [if_neg (by decide +kernel)]
    rfl
  rw [e n, e m]
  show (if ("calls" : Str) = "at" then _ else _) = _
  rw [if_neg (by decide +kernel)]
  show _ :: (if ("at" : Str) = "at" then _ else _) = _
  rw [if_pos rfl]
theorem lineF_len (a : Addr) (n : Nat) : (lineF a n).length < 1000 := by
  have h1 := length_putF ("at" : Str) (.int (n : Nat)) (putF "calls" (.ref a) [])
  have h2 := length_putF ("calls" : Str) (.ref a) []
  unfold lineF
  have h3 : ([] : List (Str × V)).length = 0 := rfl
  omega
/-- the line at p reads ns (the list at a) from its n-th number on -/
def LineAt (C : Addr) (H : Hp) (p a : Addr) (n : Nat) : Prop := ∃ dx, H p = some (.ins C dx (lineF a n))
structure TxL (K : PySem.W.Frag) (C : Addr) : Prop where
  cl : Cls K C
  nC : NoAttr K C "calls"
  nA : NoAttr K C "at"
/-- all but one as it was, the line read on -/
def intsV (ns : List Int) : List V := ns.map V.int
section
variable {P : Program} {w : World} {K : PySem.W.Frag} {mg : Str → Option Value} {base : Heap} {aD aW aS : Addr}
def spLInit (C : Addr) : Sp := fun vs H Q _ => ∃ (p a dx : Addr), vs = [.ref p, .ref a] ∧ H p = some (.ins C dx []) ∧ ∀ H' : Hp, LineAt C H' p a 0 → SameBut p H H' → Q .non H'
theorem scLInit : FnScope ["self", "calls"] ["self", "calls"] (defScope sLInit) := ⟨rfl, rfl, rfl, by decide +kernel, rfl, by decide +kernel, by decide +kernel⟩
theorem ok_lInit {f C : Addr} {fd : FuncData} (F : Fun K "__init__" "Line.__init__" sLInit f fd) (T : TxL K C) : FnOk P w K mg base CX0 1 f fd ["self", "calls"] (spLInit C) := by
  refine F.ok scLInit (fun vs H Q E h => ?_) (fun cdv A outer s H vs Q E hr h => ?_)
  · obtain ⟨p, a, dx, rfl, _⟩ := h
    rfl
  · obtain ⟨p, a, dx, rfl, hp, k⟩ := h
    refine ⟨_, pss_cons (ps_fld (pv 0) (pv 1) rfl) (pss_one (ps_fld (pv 0) pe_int rfl)), ?_⟩
    refine ⟨_, rfl, _, rfl, p, C, dx, [], rfl, hp, T.cl, T.nC, (by show 0 < 1000; decide), ?_⟩
    refine ⟨_, rfl, p, C, dx, _, rfl, upd_same, T.cl, T.nA, (by show 1 < 1000; decide), ?_⟩
    exact k _ ⟨dx, upd_same⟩ (SameBut.chg (SameBut.chg SameBut.refl))
def spLEnd (K : PySem.W.Frag) (C : Addr) : Sp := fun vs H Q _ => ∃ (p a : Addr) (n : Nat) (ns : List Int), vs = [.ref p] ∧ LineAt C H p a n ∧ SqL K H a (intsV ns) ∧ Q (.bl (decide (ns.length ≤ n))) H
theorem scLEnd : FnScope ["self"] ["self"] (defScope sLEnd) := ⟨rfl, rfl, rfl, by decide +kernel, rfl, by decide +kernel, by decide +kernel⟩
theorem ok_lEnd {f C : Addr} {fd : FuncData} (F : Fun K "is_ended" "Line.is_ended" sLEnd f fd) (T : TxL K C) (bL : mg "len" = none) : FnOk P w K mg base CX0 1 f fd ["self"] (spLEnd K C) := by
  refine F.ok scLEnd (fun vs H Q E h => ?_) (fun cdv A outer s H vs Q E hr h => ?_)
  · obtain ⟨p, a, n, ns, rfl, _⟩ := h
    rfl
  · obtain ⟨p, a, n, ns, rfl, ⟨dx, hp⟩, hS, k⟩ := h
    refine ⟨_, pss_one (ps_ret (pe_cmpR op_ge (pe_fld (pv 0) rfl) (pe_callB call_len_seq rfl bL PySem.boot_len (pa_cons (pe_fld (pv 0) rfl) pa_nil)) (nomark _))), ?_⟩
    refine ⟨_, rfl, p, C, dx, _, _, rfl, hp, T.cl, T.nA, lineF_at _ _, _, rfl, p, C, dx, _, _, rfl, hp, T.cl, T.nC, lineF_calls _ _, a, _, rfl, .inl hS, _, _, rfl, rfl, ?_⟩
    have e : decide (((intsV ns).length : Int) ≤ ((n : Nat) : Int)) = decide (ns.length ≤ n) := by
      unfold intsV
      rw [List.length_map]
      by_cases h : ns.length ≤ n
      · rw [decide_eq_true h, decide_eq_true (by omega)]
      · rw [decide_eq_false h, decide_eq_false (by omega)]
    show Q (V.bl (decide (((intsV ns).length : Int) ≤ ((n : Nat) : Int)))) H
    rw [e]
    exact k
def spLNum (K : PySem.W.Frag) (C : Addr) : Sp := fun vs H Q _ => ∃ (p a : Addr) (n : Nat) (ns : List Int) (z : Int), vs = [.ref p] ∧ LineAt C H p a n ∧ SqL K H a (intsV ns) ∧ ns[n]? = some z ∧ ∀ H' : Hp, LineAt C H' p a (n + 1) → SameBut p H H' → Q (.int z) H'
theorem scLNum : FnScope ["self", "number"] ["self"] (defScope sLNum) := ⟨rfl, rfl, rfl, by decide +kernel, rfl, by decide +kernel, by decide +kernel⟩
theorem ok_lNum {f C : Addr} {fd : FuncData} (F : Fun K "take_number" "Line.take_number" sLNum f fd) (T : TxL K C) : FnOk P w K mg base CX0 1 f fd ["self"] (spLNum K C) := by
  refine F.ok scLNum (fun vs H Q E h => ?_) (fun cdv A outer s H vs Q E hr h => ?_)
  · obtain ⟨p, a, n, ns, z, rfl, _⟩ := h
    rfl
  · obtain ⟨p, a, n, ns, z, rfl, ⟨dx, hp⟩, hS, hz, k⟩ := h
    refine ⟨_, pss_cons (ps_set (i := 1) scLNum.nd rfl (Or.inl rfl) (pe_ix ix_list (pe_fld (pv 0) rfl) (pe_fld (pv 0) rfl) (fun _ _ => rfl)))
      (pss_cons (ps_fld (pv 0) (pe_op op_add (pe_fld (pv 0) rfl) pe_int) rfl) (pss_one (ps_ret (pv 1)))), ?_⟩
    refine ⟨_, rfl, p, C, dx, _, _, rfl, hp, T.cl, T.nC, lineF_calls _ _, _, rfl, p, C, dx, _, _, rfl, hp, T.cl, T.nA, lineF_at _ _, a, _, _, _, rfl, rfl, hS, atI_nat (v := V.int z) (by unfold intsV; rw [List.getElem?_map, hz]; rfl), ?_⟩
    refine ⟨_, rfl, p, C, dx, _, _, rfl, hp, T.cl, T.nA, lineF_at _ _, _, _, rfl, rfl, _, rfl, p, C, dx, _, rfl, hp, T.cl, T.nA, lineF_len _ _, ?_⟩
    refine ⟨_, rfl, k _ ⟨dx, ?_⟩ (SameBut.chg SameBut.refl)⟩
    rw [upd_same]
    exact congrArg (fun q => some (HO.ins C dx q)) (lineF_put a n (n + 1))
theorem cutV_mid (ns : List Int) {n m : Nat} (h : n + m ≤ ns.length) : cutV (intsV ns) (some (n : Int)) (some ((n : Int) + (m : Int))) = intsV ((ns.drop n).take m) := by
  unfold cutV
  have e2 : ((n : Int) + (m : Int)) = (((n + m : Nat)) : Int) := by omega
  have el : (intsV ns).length = ns.length := by
    unfold intsV
    rw [List.length_map]
  rw [e2, HT.sIx_nat, HT.sIx_nat, el, Nat.min_eq_left (show n ≤ ns.length by omega), Nat.min_eq_left h]
  have e3 : n + m - n = m := by omega
  rw [e3]
  unfold intsV
  rw [List.map_take, List.map_drop]
def spLRow (K : PySem.W.Frag) (C : Addr) : Sp := fun vs H Q _ => ∃ (p a : Addr) (n m : Nat) (ns : List Int), vs = [.ref p] ∧ LineAt C H p a n ∧ SqL K H a (intsV ns) ∧ ns[n]? = some (m : Int) ∧ n + 1 + m ≤ ns.length ∧
  ∀ (H' : Hp) (q : Addr), LineAt C H' p a (n + 1 + m) → SameBut p H H' → H q = none → H' q = some (.lst (intsV ((ns.drop (n + 1)).take m))) → Q (.ref q) H'
theorem scLRow : FnScope ["self", "length", "row"] ["self"] (defScope sLRow) := ⟨rfl, rfl, rfl, by decide +kernel, rfl, by decide +kernel, by decide +kernel⟩
/-- a list that is read stays so where all but an instance stays -/
theorem SameBut.seq {H H' : Hp} {p a C dx : Addr} {fs : List (Str × V)} {xs : List V} (s : SameBut p H H') (hp : H p = some (.ins C dx fs)) (h : SqL K H a xs) : SqL K H' a xs := by
  rcases h with (h | ⟨o, h⟩) | h
  · exact .inl (.inl (s _ _ h (ne_of h hp (by intro z; cases z))))
  · exact .inl (.inr ⟨o, s _ _ h (ne_of h hp (by intro z; cases z))⟩)
  · exact .inr h
theorem ok_lRow {f C fN : Addr} {fd fdN : FuncData} (F : Fun K "take_row" "Line.take_row" sLRow f fd) (T : TxL K C) (GN : FnOk P w K mg base CX0 1 fN fdN ["self"] (spLNum K C)) (bN : Binds K fdN ["self"] []) (mN : Meth K C "take_number" fN) :
    FnOk P w K mg base CX0 2 f fd ["self"] (spLRow K C) := by
  refine F.ok scLRow (fun vs H Q E h => ?_) (fun cdv A outer s H vs Q E hr h => ?_)
  · obtain ⟨p, a, n, m, ns, rfl, _⟩ := h
    rfl
  · obtain ⟨p, a, n, m, ns, rfl, ⟨dx, hp⟩, hS, hz, hm, k⟩ := h
    refine ⟨_, pss_cons (ps_set (i := 1) scLRow.nd rfl (Or.inl rfl) (pe_meth0 (pv 0) T.cl mN GN hr bN .nil pass0))
      (pss_cons (ps_set (i := 2) scLRow.nd rfl (Or.inl rfl) (pe_slice sl_list (pe_fld (pv 0) rfl) (po_some (pe_fld (pv 0) rfl)) (po_some (pe_op op_add (pe_fld (pv 0) rfl) (pv 1)))))
      (pss_cons (ps_fld (pv 0) (pe_op op_add (pe_fld (pv 0) rfl) (pv 1)) rfl) (pss_one (ps_ret (pv 2))))), ?_⟩
    refine ⟨_, rfl, p, dx, _, rfl, hp, lineF_no _ _ (by decide +kernel) (by decide +kernel), p, a, n, ns, _, rfl, ⟨dx, hp⟩, hS, hz, ?_⟩
    rintro H1 ⟨dx1, hp1⟩ sb1
    have hS1 := SameBut.seq sb1 hp hS
    refine ⟨_, rfl, p, C, dx1, _, _, rfl, hp1, T.cl, T.nC, lineF_calls _ _, _, rfl, p, C, dx1, _, _, rfl, hp1, T.cl, T.nA, lineF_at _ _, _, rfl, _, rfl, p, C, dx1, _, _, rfl, hp1, T.cl, T.nA, lineF_at _ _, _, rfl, _, _, rfl, rfl, _, rfl, a, _, rfl, hS1, fun q hq => ?_⟩
    rw [cutV_mid ns hm]
    have npq : p ≠ q := ne_of_none hp1 hq
    have hp2 : (upd H1 q (.lst (intsV ((ns.drop (n + 1)).take m)))) p = some (.ins C dx1 (lineF a (n + 1))) := by rw [upd_ne npq]; exact hp1
    refine ⟨_, rfl, p, C, dx1, _, _, rfl, hp2, T.cl, T.nA, lineF_at _ _, _, rfl, _, _, rfl, rfl, _, rfl, p, C, dx1, _, rfl, hp2, T.cl, T.nA, lineF_len _ _, ?_⟩
    have hq0 : H q = none := by
      cases e : H q with
      | none => rfl
      | some o =>
        rw [sb1 q o e npq.symm] at hq
        cases hq
    refine ⟨_, rfl, k _ q ⟨dx1, ?_⟩ ((sb1.same (Same.ofNone hq)).chg) hq0 ?_⟩
    · rw [upd_same]
      exact congrArg (fun z => some (HO.ins C dx1 z)) (lineF_put a (n + 1) (n + 1 + m))
    · rw [upd_ne npq.symm, upd_same]
end
end Net

end
section
set_option Elab.async false
set_option linter.all false
set_option maxRecDepth 100000
set_option maxHeartbeats 4000000
namespace Net
open PySem PySem.Spec PyProof.Rows L2 Nc
/-! ### Panel -/
abbrev sPanel : Stmt := top 27
abbrev sPInit : Stmt := inClass sPanel 0
abbrev sPBegins : Stmt := inClass sPanel 1
abbrev sPLeft : Stmt := inClass sPanel 2
abbrev sPRight : Stmt := inClass sPanel 3
abbrev sPWidths : Stmt := inClass sPanel 4
abbrev sPBy : Stmt := inClass sPanel 5
def panF (wd : Nat) (al ar : Addr) : List (Str × V) := [(("width" : Str), V.int (wd : Nat)), (("left_side" : Str), V.ref al), (("right_side" : Str), V.ref ar)]
theorem wl : ¬ (("width" : Str) = "left_side") := by decide +kernel
theorem wr : ¬ (("width" : Str) = "right_side") := by decide +kernel
theorem lr : ¬ (("left_side" : Str) = "right_side") := by decide +kernel
theorem putF_pos {f g : Str} {v x : V} {r : List (Str × V)} (h : g = f) : putF f v ((g, x) :: r) = (g, v) :: r := by
  show (if g = f then (g, v) :: r else (g, x) :: putF f v r) = _
  rw [if_pos h]
theorem putF_neg {f g : Str} {v x : V} {r : List (Str × V)} (h : ¬ g = f) : putF f v ((g, x) :: r) = (g, x) :: putF f v r := by
  show (if g = f then (g, v) :: r else (g, x) :: putF f v r) = _
  rw [if_neg h]
theorem panF_w (wd w' : Nat) (al ar : Addr) : putF "width" (.int (w' : Nat)) (panF wd al ar) = panF w' al ar := putF_pos rfl
theorem panF_l (wd : Nat) (al ar b : Addr) : putF "left_side" (.ref b) (panF wd al ar) = panF wd b ar := by
  unfold panF
  rw [putF_neg wl, putF_pos rfl]
theorem panF_r (wd : Nat) (al ar b : Addr) : putF "right_side" (.ref b) (panF wd al ar) = panF wd al b := by
  unfold panF
  rw [putF_neg wr, putF_neg lr, putF_pos rfl]
theorem lookup_pos {f g : Str} {v : V} {r : List (Str × V)} (h : f = g) : List.lookup f ((g, v) :: r) = some v := by
  rw [List.lookup_cons, beq_iff_eq.mpr h]
theorem lookup_neg {f g : Str} {v : V} {r : List (Str × V)} (h : ¬ f = g) : List.lookup f ((g, v) :: r) = List.lookup f r := by
  rw [List.lookup_cons, beq_eq_false_iff_ne.mpr h]
theorem panF_width (wd : Nat) (al ar : Addr) : (panF wd al ar).lookup ("width" : Str) = some (.int (wd : Nat)) := lookup_pos rfl
theorem panF_left (wd : Nat) (al ar : Addr) : (panF wd al ar).lookup ("left_side" : Str) = some (.ref al) := by
  unfold panF
  rw [lookup_neg (fun e => wl e.symm), lookup_pos rfl]
theorem panF_right (wd : Nat) (al ar : Addr) : (panF wd al ar).lookup ("right_side" : Str) = some (.ref ar) := by
  unfold panF
  rw [lookup_neg (fun e => wr e.symm), lookup_neg (fun e => lr e.symm), lookup_pos rfl]
theorem panF_no (wd : Nat) (al ar : Addr) {m : Str} (h1 : ¬ m = "width") (h2 : ¬ m = "left_side") (h3 : ¬ m = "right_side") : (panF wd al ar).lookup m = none := by
  unfold panF
  rw [lookup_neg h1, lookup_neg h2, lookup_neg h3]
  rfl
theorem panF_len (wd : Nat) (al ar : Addr) : (panF wd al ar).length < 1000 := by
  show 3 < 1000
  decide
/-- a row that is not refused -/
structure RowOk (l : List Nat) : Prop where
  len : l.length ≤ 40
  cuts : ∀ c ∈ l, c ≤ 2
/-- the panel at p is S; its sides are none of B -/
structure PanAt (C : Addr) (B : Addr → Prop) (H : Hp) (p : Addr) (S : Uw22.Panel) : Prop where
  at_ : ∃ (dx al ar : Addr), H p = some (.ins C dx (panF S.wide al ar)) ∧ H al = some (.lst (cutsV S.left)) ∧ H ar = some (.lst (cutsV S.right)) ∧ ¬ B al ∧ ¬ B ar
  wide : S.wide ≤ 1000
  left : RowOk S.left
  right : RowOk S.right
theorem PanAt.same {C p : Addr} {B : Addr → Prop} {H H' : Hp} {S : Uw22.Panel} (q : PanAt C B H p S) (s : Same H H') : PanAt C B H' p S := by
  obtain ⟨⟨dx, al, ar, h1, h2, h3, h4⟩, a, b, c⟩ := q
  exact ⟨⟨dx, al, ar, s _ _ h1, s _ _ h2, s _ _ h3, h4⟩, a, b, c⟩
/-- what a call answers, and the panel behind it -/
def Stepped (C : Addr) (B : Addr → Prop) (H : Hp) (p : Addr) (S : Uw22.Panel) (c : Uw22.Call) (Q : VK) : Prop :=
  ∀ (H' : Hp) (q : Addr), SameBut p H H' → PanAt C B H' p (Uw22.step S c).1 → H q = none → H' q = some (.lst (intsV (Uw22Neutral.out (Uw22.step S c).2))) → Q (.ref q) H'
structure TxP (K : PySem.W.Frag) (C : Addr) : Prop where
  cl : Cls K C
  nW : NoAttr K C "width"
  nL : NoAttr K C "left_side"
  nR : NoAttr K C "right_side"
theorem SameBut.free {p q : Addr} {H H' : Hp} {o : HO} (s : SameBut p H H') (hq : H' q = none) (hp : H' p = some o) : H q = none := by
  cases e : H q with
  | none => rfl
  | some u =>
    rw [s q u e (fun z => by rw [z, hp] at hq; cases hq)] at hq
    cases hq
section
variable {P : Program} {w : World} {K : PySem.W.Frag} {mg : Str → Option Value} {base : Heap} {aD aW aS : Addr}
def spPInit (C : Addr) : Sp := fun vs H Q _ => ∃ (p dx : Addr), vs = [.ref p] ∧ H p = some (.ins C dx []) ∧ ∀ H' : Hp, PanAt C (fun _ => False) H' p Uw22.init → SameBut p H H' → Q .non H'
theorem scPInit : FnScope ["self"] ["self"] (defScope sPInit) := ⟨rfl, rfl, rfl, by decide +kernel, rfl, by decide +kernel, by decide +kernel⟩
theorem row_nil : RowOk [] := ⟨Nat.zero_le _, fun c h => by cases h⟩
theorem ok_pInit {f C : Addr} {fd : FuncData} (F : Fun K "__init__" "Panel.__init__" sPInit f fd) (T : TxP K C) : FnOk P w K mg base CX0 1 f fd ["self"] (spPInit C) := by
  refine F.ok scPInit (fun vs H Q E h => ?_) (fun cdv A outer s H vs Q E hr h => ?_)
  · obtain ⟨p, dx, rfl, _⟩ := h
    rfl
  · obtain ⟨p, dx, rfl, hp, k⟩ := h
    refine ⟨_, pss_cons (ps_fld (pv 0) pe_int rfl) (pss_cons (ps_fld (pv 0) (pe_lst pa_nil) rfl) (pss_one (ps_fld (pv 0) (pe_lst pa_nil) rfl))), ?_⟩
    refine ⟨_, rfl, p, C, dx, [], rfl, hp, T.cl, T.nW, (by show 0 < 1000; decide), ?_⟩
    refine ⟨Nat.zero_le _, fun al hal => ?_⟩
    have npl : p ≠ al := fun z => by rw [← z, upd_same] at hal; cases hal
    refine ⟨_, rfl, p, C, dx, _, rfl, (by rw [upd_ne npl, upd_same]), T.cl, T.nL, (by show 1 < 1000; decide), ?_⟩
    refine ⟨Nat.zero_le _, fun ar har => ?_⟩
    have npr : p ≠ ar := fun z => by rw [← z, upd_same] at har; cases har
    have nlr : al ≠ ar := fun z => by rw [← z, upd_ne npl.symm, upd_same] at har; cases har
    refine ⟨_, rfl, p, C, dx, _, rfl, (by rw [upd_ne npr, upd_same]), T.cl, T.nR, (by show 2 < 1000; decide), ?_⟩
    refine k _ ⟨⟨dx, al, ar, ?_, ?_, ?_, (fun z => z), (fun z => z)⟩, Nat.zero_le _, row_nil, row_nil⟩ ?_
    · rw [upd_same]
      show some (HO.ins C dx (putF "right_side" (.ref ar) (putF "left_side" (.ref al) (putF "width" (.int 0) [])))) = some (HO.ins C dx (panF 0 al ar))
      show some (HO.ins C dx (putF "right_side" (.ref ar) (putF "left_side" (.ref al) [(("width" : Str), V.int 0)]))) = some (HO.ins C dx (panF 0 al ar))
      rw [putF_neg wl]
      show some (HO.ins C dx (putF "right_side" (.ref ar) [(("width" : Str), V.int 0), (("left_side" : Str), V.ref al)])) = some (HO.ins C dx (panF 0 al ar))
      rw [putF_neg wr, putF_neg lr]
      rfl
    · rw [upd_ne npl.symm, upd_ne nlr, upd_ne npl.symm, upd_same]
      rfl
    · rw [upd_ne npr.symm, upd_same]
      rfl
    · refine SameBut.chg fun b o e n => ?_
      have h1 : b ≠ al := fun z => by
        rw [← z] at hal npl
        rw [upd_ne npl.symm, e] at hal
        cases hal
      have h2 : b ≠ ar := fun z => by
        rw [← z] at har npr
        rw [upd_ne npr.symm, upd_ne h1, upd_ne npr.symm, e] at har
        cases har
      rw [upd_ne h2, upd_ne n, upd_ne h1, upd_ne n]
      exact e
/-! ### begins -/
theorem step_begins_no {S : Uw22.Panel} {n : Nat} (h : 1000 < n) : Uw22.step S (.begins n) = (S, Uw22.ok (-1)) := if_pos h
theorem step_begins {S : Uw22.Panel} {n : Nat} (h : ¬ 1000 < n) : Uw22.step S (.begins n) = (⟨n, [], []⟩, Uw22.ok 0) := if_neg h
theorem notB {B : Addr → Prop} {H : Hp} {a : Addr} (h : ∀ b, B b → ∃ o, H b = some o) (e : H a = none) : ¬ B a := fun z => by
  obtain ⟨o, q⟩ := h a z
  rw [q] at e
  cases e
/-- a refusal: a new list of one number, all else as it was -/
theorem refused {C p : Addr} {B : Addr → Prop} {H H1 : Hp} {S : Uw22.Panel} {c : Uw22.Call} {z : Int} {Q : VK} (k : Stepped C B H p S c Q) (hP : PanAt C B H p S) (s : Same H H1) (e : Uw22.step S c = (S, Uw22.ok z)) : ∀ q, H1 q = none → Q (.ref q) (upd H1 q (.lst [.int z])) := fun q hq => by
  refine k _ q (fun b o e _ => Same.new s hq b o e) ?_ (Same.free s hq) ?_
  · rw [e]
    exact hP.same (Same.new s hq)
  · rw [upd_same, e]
    rfl
def spPBegins (C : Addr) : Sp := fun vs H Q _ => ∃ (p : Addr) (B : Addr → Prop) (S : Uw22.Panel) (n : Nat), vs = [.ref p, .int n] ∧ (∀ b, B b → ∃ o, H b = some o) ∧ PanAt C B H p S ∧ Stepped C B H p S (.begins n) Q
theorem scPBegins : FnScope ["self", "width"] ["self", "width"] (defScope sPBegins) := ⟨rfl, rfl, rfl, by decide +kernel, rfl, by decide +kernel, by decide +kernel⟩
theorem ok_pBegins {f C : Addr} {fd : FuncData} (F : Fun K "begins" "Panel.begins" sPBegins f fd) (T : TxP K C) (M : Tx K mg aD aW aS) : FnOk P w K mg base CX0 1 f fd ["self", "width"] (spPBegins C) := by
  refine F.ok scPBegins (fun vs H Q E h => ?_) (fun cdv A outer s H vs Q E hr h => ?_)
  · obtain ⟨p, B, S, n, rfl, _⟩ := h
    rfl
  · obtain ⟨p, B, S, n, rfl, hB, hP, k⟩ := h
    refine ⟨_, pss_cons (ps_if (pt_cmpR op_gt (pv 1) (pe_gi rfl M.iWide) (nomark _)) (pss_one (ps_ret (pe_lst (pa_cons (pe_gi rfl M.iOut) pa_nil)))) pss_nil)
      (pss_cons (ps_fld (pv 0) (pv 1) rfl) (pss_cons (ps_fld (pv 0) (pe_lst pa_nil) rfl) (pss_cons (ps_fld (pv 0) (pe_lst pa_nil) rfl) (pss_one (ps_ret (pe_lst (pa_cons pe_int pa_nil))))))), ?_⟩
    refine ⟨_, rfl, _, _, rfl, rfl, _, rfl, ?_⟩
    by_cases h : 1000 < n
    · rw [decide_eq_true (show (1000 : Int) < (n : Int) by omega)]
      exact iteT ⟨by show 1 ≤ sizeLine; decide, refused k hP (Same.refl H) (step_begins_no h)⟩
    rw [decide_eq_false (show ¬ (1000 : Int) < (n : Int) by omega)]
    obtain ⟨⟨dx, al0, ar0, hp, hl0, hr0, _⟩, _, _, _⟩ := hP
    refine iteF ⟨_, rfl, _, rfl, p, C, dx, _, rfl, hp, T.cl, T.nW, panF_len _ _ _, ?_⟩
    rw [panF_w]
    refine ⟨Nat.zero_le _, fun al hal => ?_⟩
    have npl : p ≠ al := fun z => by rw [← z, upd_same] at hal; cases hal
    have hal0 : H al = none := by rw [upd_ne npl.symm] at hal; exact hal
    refine ⟨_, rfl, p, C, dx, _, rfl, (by rw [upd_ne npl, upd_same]), T.cl, T.nL, panF_len _ _ _, ?_⟩
    rw [panF_l]
    refine ⟨Nat.zero_le _, fun ar har => ?_⟩
    have npr : p ≠ ar := fun z => by rw [← z, upd_same] at har; cases har
    have nlr : al ≠ ar := fun z => by rw [← z, upd_ne npl.symm, upd_same] at har; cases har
    have har0 : H ar = none := by rw [upd_ne npr.symm, upd_ne nlr.symm, upd_ne npr.symm] at har; exact har
    refine ⟨_, rfl, p, C, dx, _, rfl, (by rw [upd_ne npr, upd_same]), T.cl, T.nR, panF_len _ _ _, ?_⟩
    rw [panF_r]
    refine ⟨by show 1 ≤ sizeLine; decide, fun q hq => ?_⟩
    have npq : p ≠ q := fun z => by rw [← z, upd_same] at hq; cases hq
    have nlq : al ≠ q := fun z => by rw [← z, upd_ne npl.symm, upd_ne nlr, upd_ne npl.symm, upd_same] at hq; cases hq
    have nrq : ar ≠ q := fun z => by rw [← z, upd_ne npr.symm, upd_same] at hq; cases hq
    have hq0 : H q = none := by rw [upd_ne npq.symm, upd_ne nrq.symm, upd_ne npq.symm, upd_ne nlq.symm, upd_ne npq.symm] at hq; exact hq
    refine k _ q (fun b o e nb => ?_) ?_ hq0 ?_
    · rw [upd_ne (ne_of_none e hq0), upd_ne nb, upd_ne (ne_of_none e har0), upd_ne nb, upd_ne (ne_of_none e hal0), upd_ne nb]
      exact e
    · rw [step_begins h]
      refine ⟨⟨dx, al, ar, ?_, ?_, ?_, notB hB hal0, notB hB har0⟩, by show n ≤ 1000; omega, row_nil, row_nil⟩
      · rw [upd_ne npq, upd_same]
      · rw [upd_ne nlq, upd_ne npl.symm, upd_ne nlr, upd_ne npl.symm, upd_same]
        rfl
      · rw [upd_ne nrq, upd_ne npr.symm, upd_same]
        rfl
    · rw [upd_same, step_begins h]
      rfl
/-! ### left, right -/
theorem isRow_ok {l : List Nat} (h : isRow l = true) : RowOk l := by
  unfold isRow at h
  rw [Bool.and_eq_true] at h
  exact ⟨of_decide_eq_true h.1, fun c hc => of_decide_eq_true (List.all_eq_true.mp h.2 c hc)⟩
theorem isRow_iff (l : List Nat) : (Uw22.cuts l = false ∨ Uw22.CUTS < l.length) ↔ isRow l = false := by
  unfold isRow Uw22.cuts Uw22.CUTS
  cases l.all (fun c => decide (c ≤ 2)) <;> simp
theorem step_left_no {S : Uw22.Panel} {l : List Nat} (h : isRow l = false) : Uw22.step S (.left l) = (S, Uw22.ok (-1)) := if_pos ((isRow_iff l).mpr h)
theorem step_left {S : Uw22.Panel} {l : List Nat} (h : isRow l = true) : Uw22.step S (.left l) = ({ S with left := l }, ⟨(Uw22.deepOf l : Nat), [Uw22.inOf l]⟩) := if_neg (fun z => by rw [(isRow_iff l).mp z] at h; cases h)
theorem step_right_no {S : Uw22.Panel} {l : List Nat} (h : isRow l = false) : Uw22.step S (.right l) = (S, Uw22.ok (-1)) := if_pos ((isRow_iff l).mpr h)
theorem step_right {S : Uw22.Panel} {l : List Nat} (h : isRow l = true) : Uw22.step S (.right l) = ({ S with right := l }, ⟨(Uw22.deepOf l : Nat), [Uw22.inOf l]⟩) := if_neg (fun z => by rw [(isRow_iff l).mp z] at h; cases h)
def spPSide (K : PySem.W.Frag) (C : Addr) (mk : List Nat → Uw22.Call) : Sp := fun vs H Q _ => ∃ (p a : Addr) (B : Addr → Prop) (S : Uw22.Panel) (l : List Nat), vs = [.ref p, .ref a] ∧ (∀ b, B b → ∃ o, H b = some o) ∧ PanAt C B H p S ∧ SqL K H a (cutsV l) ∧ l.length ≤ 50 ∧ Stepped C B H p S (mk l) Q
theorem scPLeft : FnScope ["self", "cuts"] ["self", "cuts"] (defScope sPLeft) := ⟨rfl, rfl, rfl, by decide +kernel, rfl, by decide +kernel, by decide +kernel⟩
theorem scPRight : FnScope ["self", "cuts"] ["self", "cuts"] (defScope sPRight) := ⟨rfl, rfl, rfl, by decide +kernel, rfl, by decide +kernel, by decide +kernel⟩
theorem ok_pLeft {f C fR fD fI : Addr} {fd fdR fdD fdI : FuncData} (F : Fun K "left" "Panel.left" sPLeft f fd) (T : TxP K C) (M : Tx K mg aD aW aS)
    (GR : FnOk P w K mg base CX0 1 fR fdR ["numbers"] (spIsRow K)) (CR : Cal K mg "is_row" fR fdR ["numbers"]) (GD : FnOk P w K mg base CX0 1 fD fdD ["row"] (spTab K Uw22.deep)) (CD : Cal K mg "how_deep" fD fdD ["row"])
    (GI : FnOk P w K mg base CX0 1 fI fdI ["row"] (spTab K Uw22.in_)) (CI : Cal K mg "how_far_in" fI fdI ["row"]) : FnOk P w K mg base CX0 2 f fd ["self", "cuts"] (spPSide K C .left) := by
  refine F.ok scPLeft (fun vs H Q E h => ?_) (fun cdv A outer s H vs Q E hr h => ?_)
  · obtain ⟨p, a, B, S, l, rfl, _⟩ := h
    rfl
  · obtain ⟨p, a, B, S, l, rfl, hB, hP, hS, hlen, k⟩ := h
    refine ⟨_, pss_cons (ps_if (pt_not (pt_val (pe_call GR hr rfl CR.mg CR.kp CR.bd .nil pass0 (pa_cons (pv 1) pa_nil)))) (pss_one (ps_ret (pe_lst (pa_cons (pe_gi rfl M.iOut) pa_nil)))) pss_nil)
      (pss_cons (ps_fld (pv 0) (pe_callTy call_list_of rfl M.bList PyProof.Rows.boot_list (pa_cons (pv 1) pa_nil)) rfl)
      (pss_one (ps_ret (pe_lst (pa_cons (pe_call GD hr rfl CD.mg CD.kp CD.bd .nil pass0 (pa_cons (pv 1) pa_nil)) (pa_cons (pe_call GI hr rfl CI.mg CI.kp CI.bd .nil pass0 (pa_cons (pv 1) pa_nil)) pa_nil)))))), ?_⟩
    refine ⟨_, rfl, a, l, rfl, hS, by omega, fun H1 s1 => ⟨_, rfl, ?_⟩⟩
    cases e : isRow l with
    | false => exact iteT ⟨by show 1 ≤ sizeLine; decide, refused k hP s1 (step_left_no e)⟩
    | true =>
      have rk := isRow_ok e
      have hP1 := hP.same s1
      obtain ⟨⟨dx, al0, ar, hp, hl0, hr0, _, hB2⟩, hw, hl, hr1⟩ := hP1
      refine iteF ⟨_, rfl, a, _, rfl, .inl (s1.seq hS), fun al hal => ?_⟩
      have npl : p ≠ al := ne_of_none hp hal
      refine ⟨_, rfl, p, C, dx, _, rfl, (by rw [upd_ne npl]; exact hp), T.cl, T.nL, panF_len _ _ _, ?_⟩
      rw [panF_l]
      have sb : SameBut p H (upd (upd H1 al (.lst (cutsV l))) p (.ins C dx (panF S.wide al ar))) := SameBut.chg fun b o q n => Same.new s1 hal b o q
      have nar : ar ≠ al := ne_of_none hr0 hal
      have npa : ar ≠ p := fun z => by rw [z, hp] at hr0; cases hr0
      have P2 : PanAt C B (upd (upd H1 al (.lst (cutsV l))) p (.ins C dx (panF S.wide al ar))) p { S with left := l } := by
        refine ⟨⟨dx, al, ar, upd_same, ?_, ?_, notB hB (Same.free s1 hal), hB2⟩, hw, rk, hr1⟩
        · rw [upd_ne npl.symm, upd_same]
        · rw [upd_ne npa, upd_ne nar]
          exact hr0
      obtain ⟨⟨dx0, _, _, hp0, _⟩, _, _, _⟩ := hP
      have hS2 := SameBut.seq sb hp0 hS
      have hal0 : H al = none := Same.free s1 hal
      revert sb P2 hS2
      generalize (upd (upd H1 al (.lst (cutsV l))) p (.ins C dx (panF S.wide al ar))) = H2
      intro sb P2 hS2
      refine ⟨_, rfl, a, l, rfl, hS2, rk.cuts, hlen, fun H3 s3 => ?_⟩
      refine ⟨_, rfl, a, l, rfl, s3.seq hS2, rk.cuts, hlen, fun H4 s4 => ⟨by show 2 ≤ sizeLine; decide, fun q hq => ?_⟩⟩
      rw [sum_deep, sum_in]
      have s24 := s3.trans s4
      obtain ⟨⟨_, _, _, hp2, _⟩, _, _, _⟩ := id P2
      refine k _ q ((sb.same s24).same (Same.ofNone hq)) ?_ (SameBut.free (sb.same s24) hq (s24 _ _ hp2)) ?_
      · rw [step_left e]
        exact P2.same (Same.new s24 hq)
      · rw [upd_same, step_left e]
        rfl
theorem ok_pRight {f C fR fD fI : Addr} {fd fdR fdD fdI : FuncData} (F : Fun K "right" "Panel.right" sPRight f fd) (T : TxP K C) (M : Tx K mg aD aW aS)
    (GR : FnOk P w K mg base CX0 1 fR fdR ["numbers"] (spIsRow K)) (CR : Cal K mg "is_row" fR fdR ["numbers"]) (GD : FnOk P w K mg base CX0 1 fD fdD ["row"] (spTab K Uw22.deep)) (CD : Cal K mg "how_deep" fD fdD ["row"])
    (GI : FnOk P w K mg base CX0 1 fI fdI ["row"] (spTab K Uw22.in_)) (CI : Cal K mg "how_far_in" fI fdI ["row"]) : FnOk P w K mg base CX0 2 f fd ["self", "cuts"] (spPSide K C .right) := by
  refine F.ok scPRight (fun vs H Q E h => ?_) (fun cdv A outer s H vs Q E hr h => ?_)
  · obtain ⟨p, a, B, S, l, rfl, _⟩ := h
    rfl
  · obtain ⟨p, a, B, S, l, rfl, hB, hP, hS, hlen, k⟩ := h
    refine ⟨_, pss_cons (ps_if (pt_not (pt_val (pe_call GR hr rfl CR.mg CR.kp CR.bd .nil pass0 (pa_cons (pv 1) pa_nil)))) (pss_one (ps_ret (pe_lst (pa_cons (pe_gi rfl M.iOut) pa_nil)))) pss_nil)
      (pss_cons (ps_fld (pv 0) (pe_callTy call_list_of rfl M.bList PyProof.Rows.boot_list (pa_cons (pv 1) pa_nil)) rfl)
      (pss_one (ps_ret (pe_lst (pa_cons (pe_call GD hr rfl CD.mg CD.kp CD.bd .nil pass0 (pa_cons (pv 1) pa_nil)) (pa_cons (pe_call GI hr rfl CI.mg CI.kp CI.bd .nil pass0 (pa_cons (pv 1) pa_nil)) pa_nil)))))), ?_⟩
    refine ⟨_, rfl, a, l, rfl, hS, by omega, fun H1 s1 => ⟨_, rfl, ?_⟩⟩
    cases e : isRow l with
    | false => exact iteT ⟨by show 1 ≤ sizeLine; decide, refused k hP s1 (step_right_no e)⟩
    | true =>
      have rk := isRow_ok e
      have hP1 := hP.same s1
      obtain ⟨⟨dx, ar, al0, hp, hr0, hl0, hB2, _⟩, hw, hr1, hl⟩ := hP1
      refine iteF ⟨_, rfl, a, _, rfl, .inl (s1.seq hS), fun al hal => ?_⟩
      have npl : p ≠ al := ne_of_none hp hal
      refine ⟨_, rfl, p, C, dx, _, rfl, (by rw [upd_ne npl]; exact hp), T.cl, T.nR, panF_len _ _ _, ?_⟩
      rw [panF_r]
      have sb : SameBut p H (upd (upd H1 al (.lst (cutsV l))) p (.ins C dx (panF S.wide ar al))) := SameBut.chg fun b o q n => Same.new s1 hal b o q
      have nar : ar ≠ al := ne_of_none hr0 hal
      have npa : ar ≠ p := fun z => by rw [z, hp] at hr0; cases hr0
      have P2 : PanAt C B (upd (upd H1 al (.lst (cutsV l))) p (.ins C dx (panF S.wide ar al))) p { S with right := l } := by
        refine ⟨⟨dx, ar, al, upd_same, ?_, ?_, hB2, notB hB (Same.free s1 hal)⟩, hw, hr1, rk⟩
        · rw [upd_ne npa, upd_ne nar]
          exact hr0
        · rw [upd_ne npl.symm, upd_same]
      obtain ⟨⟨dx0, _, _, hp0, _⟩, _, _, _⟩ := hP
      have hS2 := SameBut.seq sb hp0 hS
      have hal0 : H al = none := Same.free s1 hal
      revert sb P2 hS2
      generalize (upd (upd H1 al (.lst (cutsV l))) p (.ins C dx (panF S.wide ar al))) = H2
      intro sb P2 hS2
      refine ⟨_, rfl, a, l, rfl, hS2, rk.cuts, hlen, fun H3 s3 => ?_⟩
      refine ⟨_, rfl, a, l, rfl, s3.seq hS2, rk.cuts, hlen, fun H4 s4 => ⟨by show 2 ≤ sizeLine; decide, fun q hq => ?_⟩⟩
      rw [sum_deep, sum_in]
      have s24 := s3.trans s4
      obtain ⟨⟨_, _, _, hp2, _⟩, _, _, _⟩ := id P2
      refine k _ q ((sb.same s24).same (Same.ofNone hq)) ?_ (SameBut.free (sb.same s24) hq (s24 _ _ hp2)) ?_
      · rw [step_right e]
        exact P2.same (Same.new s24 hq)
      · rw [upd_same, step_right e]
        rfl
end
end Net

end
section
set_option Elab.async false
set_option linter.all false
set_option maxHeartbeats 1000000
namespace Nf
open PyUw22
abbrev stp : Uw22.Panel → List (List Int) → Uw22.Panel × List Int := fun s c => Uw22Neutral.step s (c.headD [])
/-- what is still to be told, from a panel on -/
def rest (S : Uw22.Panel) (raw : List (List (List Int))) : List Int := PyFlat.told (PyFlat.played stp S (raw.map whole))
def asInts (l : List Nat) : List Int := l.map fun (n : Nat) => (n : Int)
/-- how a call stands in the list -/
inductive Reads : List Int → Uw22.Call → List Int → Prop
  | begins (n : Nat) (t : List Int) : Reads (0 :: (n : Int) :: t) (.begins n) t
  | left (l : List Nat) (t : List Int) : l.length ≤ 50 → Reads (1 :: (l.length : Int) :: (asInts l ++ t)) (.left l) t
  | right (l : List Nat) (t : List Int) : l.length ≤ 50 → Reads (2 :: (l.length : Int) :: (asInts l ++ t)) (.right l) t
  | best (d i : Nat) (t : List Int) : Reads (3 :: (d : Int) :: (i : Int) :: t) (.best d i) t
  | check (d i : Nat) (l : List Nat) (t : List Int) : l.length ≤ 50 → Reads (4 :: (d : Int) :: (i : Int) :: (l.length : Int) :: (asInts l ++ t)) (.check d i l) t
  | unit (l : List Nat) (t : List Int) : l.length ≤ 50 → Reads (5 :: (l.length : Int) :: (asInts l ++ t)) (.unit l) t
  | widths (t : List Int) : Reads (6 :: t) .widths t
theorem toNat_ints : ∀ (l : List Int), (∀ z ∈ l, 0 ≤ z) → asInts (l.map Int.toNat) = l
  | [], _ => rfl
  | z :: l, h => by
    have h1 := h z (List.mem_cons_self ..)
    have ih := toNat_ints l fun y hy => h y (List.mem_cons_of_mem _ hy)
    unfold asInts at *
    rw [List.map_cons, List.map_cons, ih]
    congr 1
    omega
theorem ints_toNat : ∀ (l : List Nat), (asInts l).map Int.toNat = l
  | [] => rfl
  | z :: l => by
    have ih := ints_toNat l
    unfold asInts at *
    rw [List.map_cons, List.map_cons, ih]
    rfl
/-- numbers that may be handed in -/
def Fine (l : List Int) : Prop := ∀ z ∈ l, 0 ≤ z ∧ z ≤ 4294967295
theorem Fine.tail {z : Int} {l : List Int} (h : Fine (z :: l)) : Fine l := fun y hy => h y (List.mem_cons_of_mem _ hy)
theorem Fine.all {l : List Int} (h : Fine l) : l.all Uw22Neutral.nat = true := List.all_eq_true.mpr fun z hz => by
  obtain ⟨h1, h2⟩ := h z hz
  unfold Uw22Neutral.nat
  rw [decide_eq_true h1, decide_eq_true (show z < 2 ^ 32 by omega)]
  rfl
theorem Fine.nat {z : Int} {l : List Int} (h : Fine (z :: l)) : ∃ n : Nat, z = (n : Int) := ⟨z.toNat, by have := (h z (List.mem_cons_self ..)).1; omega⟩
theorem callOf_eq {l : List Int} (h : Fine l) : Uw22Neutral.callOf l = Uw22Neutral.callIn (l.map Int.toNat) := by
  unfold Uw22Neutral.callOf
  rw [if_neg (by rw [h.all]; decide)]
/-- the head of what is told -/
theorem rest_cons {S : Uw22.Panel} {c : List (List Int)} {raw : List (List (List Int))} {u : Uw22.Call} (h : Uw22Neutral.callOf ((whole c).headD []) = some u) :
    rest S (c :: raw) = ((Uw22Neutral.out (Uw22.step S u).2).length : Int) :: (Uw22Neutral.out (Uw22.step S u).2 ++ rest (Uw22.step S u).1 raw) := by
  have e : stp S (whole c) = ((Uw22.step S u).1, Uw22Neutral.out (Uw22.step S u).2) := by
    show Uw22Neutral.step S ((whole c).headD []) = _
    unfold Uw22Neutral.step
    rw [h]
  show PyFlat.told ((stp S (whole c)).2 :: PyFlat.played stp (stp S (whole c)).1 (raw.map whole)) = _
  rw [e]
  rfl
theorem row_of {l x t : List Int} (h : PyFlat.row l = some (x, t)) (hf : Fine l) : ∃ m : Nat, l = (m : Int) :: (x ++ t) ∧ x.length = m := by
  cases l with
  | nil => cases h
  | cons n r =>
    have h : (if 0 ≤ n ∧ n.toNat ≤ r.length then some (r.take n.toNat, r.drop n.toNat) else none) = some (x, t) := h
    by_cases hc : 0 ≤ n ∧ n.toNat ≤ r.length
    · rw [if_pos hc] at h
      cases h
      refine ⟨n.toNat, ?_, ?_⟩
      · rw [List.take_append_drop]
        congr 1
        omega
      · rw [List.length_take]
        omega
    · rw [if_neg hc] at h
      cases h
theorem rows1 {l t : List Int} {xs : List (List Int)} (h : PyFlat.rows 1 l = some (xs, t)) (hf : Fine l) : ∃ (x : List Int) (m : Nat), xs = [x] ∧ l = (m : Int) :: (x ++ t) ∧ x.length = m := by
  unfold PyFlat.rows at h
  cases e : PyFlat.row l with
  | none => rw [e] at h; cases h
  | some p =>
    obtain ⟨x, s⟩ := p
    rw [e] at h
    cases h
    obtain ⟨m, h1, h2⟩ := row_of e hf
    exact ⟨x, m, rfl, h1, h2⟩
theorem lists1 {lo hi : Int} {a b : Nat} {r : List Int} (h : PyInside.lists [(lo, hi, a, b)] [r] = true) : r.length ≤ b := by
  unfold PyInside.lists at h
  simp only [Bool.and_eq_true, decide_eq_true_eq] at h
  exact h.1.1.2
theorem call_of {p : Int} {r t : List Int} {c : List (List Int)} {n k : Nat} (h : PyFlat.call shape (p :: r) = some (c, t)) (hs : shape p = some (n, k)) : n ≤ r.length ∧ ∃ xs, PyFlat.rows k (r.drop n) = some (xs, t) ∧ c = (p :: r.take n) :: xs := by
  have h : (match shape p with
    | none => none
    | some (n, k) => if r.length < n then none else match PyFlat.rows k (r.drop n) with
      | none => none
      | some (xs, t) => some ((p :: r.take n) :: xs, t)) = some (c, t) := h
  rw [hs] at h
  have h : (if r.length < n then none else match PyFlat.rows k (r.drop n) with
      | none => none
      | some (xs, t) => some ((p :: r.take n) :: xs, t)) = some (c, t) := h
  by_cases hl : r.length < n
  · rw [if_pos hl] at h
    cases h
  · rw [if_neg hl] at h
    refine ⟨by omega, ?_⟩
    cases e : PyFlat.rows k (r.drop n) with
    | none => rw [e] at h; cases h
    | some q =>
      obtain ⟨xs, t'⟩ := q
      rw [e] at h
      cases h
      exact ⟨xs, rfl, rfl⟩
theorem rows0 {l t : List Int} {xs : List (List Int)} (h : PyFlat.rows 0 l = some (xs, t)) : xs = [] ∧ l = t := by
  unfold PyFlat.rows at h
  cases h
  exact ⟨rfl, rfl⟩
theorem Fine.app {x t : List Int} (h : Fine (x ++ t)) : Fine x ∧ Fine t := ⟨fun z hz => h z (List.mem_append_left _ hz), fun z hz => h z (List.mem_append_right _ hz)⟩
theorem Fine.cons {z : Int} {l : List Int} (h0 : 0 ≤ z ∧ z ≤ 4294967295) (h : Fine l) : Fine (z :: l) := fun y hy => by
  rcases List.mem_cons.mp hy with e | e
  · rw [e]; exact h0
  · exact h y e
theorem Fine.asInts {x : List Int} (h : Fine x) : asInts (x.map Int.toNat) = x := toNat_ints x fun z hz => (h z hz).1
theorem cut0 {n : Nat} {r : List Int} {k : Nat} {t : List Int} {xs : List (List Int)} (h : PyFlat.rows k (r.drop 0) = some (xs, t)) : PyFlat.rows k r = some (xs, t) := h
theorem one_of {p : Int} {r t : List Int} {c : List (List Int)} (ec : PyFlat.call shape (p :: r) = some (c, t)) (hi : PyInside.call bound c = true) (hf : Fine (p :: r)) : ∃ u, Reads (p :: r) u t ∧ Uw22Neutral.callOf ((whole c).headD []) = some u := by
  have hr := hf.tail
  have row1 : ∀ {q : Int} {l : List Int} {xs : List (List Int)}, Fine l → PyFlat.rows 1 l = some (xs, t) → ∃ x : List Int, Fine x ∧ xs = [x] ∧ l = ((x.map Int.toNat).length : Int) :: (asInts (x.map Int.toNat) ++ t) := fun {q l xs} hl h => by
    obtain ⟨x, m, e1, e2, e3⟩ := rows1 h hl
    have hx : Fine x := (Fine.app (by rw [e2] at hl; exact hl.tail)).1
    refine ⟨x, hx, e1, ?_⟩
    rw [hx.asInts, List.length_map, e3, e2]
  by_cases h0 : p = 0
  · subst h0
    obtain ⟨hn, xs, h1, rfl⟩ := call_of ec (n := 1) (k := 0) rfl
    obtain ⟨rfl, e⟩ := rows0 h1
    match r, hn, hr, e with
    | a :: r, _, hr, e =>
      obtain ⟨n, rfl⟩ := hr.nat
      have e : r = t := e
      subst e
      refine ⟨.begins n, .begins n r, ?_⟩
      show Uw22Neutral.callOf [0, (n : Int)] = _
      rw [callOf_eq (Fine.cons (by omega) (Fine.cons (hr _ (List.mem_cons_self ..)) (fun z hz => by cases hz)))]
      rfl
  by_cases h1 : p = 1
  · subst h1
    obtain ⟨hn, xs, h1, rfl⟩ := call_of ec (n := 0) (k := 1) rfl
    obtain ⟨x, hx, rfl, e⟩ := row1 (q := 0) hr h1
    have hl : x.length ≤ 50 := lists1 (by unfold PyInside.call at hi; rw [Bool.and_eq_true] at hi; exact hi.2)
    rw [e]
    refine ⟨.left (x.map Int.toNat), .left _ t (by rw [List.length_map]; exact hl), ?_⟩
    show Uw22Neutral.callOf (1 :: x) = _
    rw [callOf_eq (Fine.cons (by omega) hx)]
    show (if (x.map Int.toNat).length ≤ 50 then _ else _) = _
    rw [if_pos (by rw [List.length_map]; exact hl)]
  by_cases h2 : p = 2
  · subst h2
    obtain ⟨hn, xs, h1, rfl⟩ := call_of ec (n := 0) (k := 1) rfl
    obtain ⟨x, hx, rfl, e⟩ := row1 (q := 0) hr h1
    have hl : x.length ≤ 50 := lists1 (by unfold PyInside.call at hi; rw [Bool.and_eq_true] at hi; exact hi.2)
    rw [e]
    refine ⟨.right (x.map Int.toNat), .right _ t (by rw [List.length_map]; exact hl), ?_⟩
    show Uw22Neutral.callOf (2 :: x) = _
    rw [callOf_eq (Fine.cons (by omega) hx)]
    show (if (x.map Int.toNat).length ≤ 50 then _ else _) = _
    rw [if_pos (by rw [List.length_map]; exact hl)]
  by_cases h3 : p = 3
  · subst h3
    obtain ⟨hn, xs, h1, rfl⟩ := call_of ec (n := 2) (k := 0) rfl
    obtain ⟨rfl, e⟩ := rows0 h1
    match r, hn, hr, e with
    | a :: b :: r, _, hr, e =>
      obtain ⟨n, rfl⟩ := hr.nat
      obtain ⟨m, rfl⟩ := hr.tail.nat
      have e : r = t := e
      subst e
      refine ⟨.best n m, .best n m r, ?_⟩
      show Uw22Neutral.callOf [3, (n : Int), (m : Int)] = _
      rw [callOf_eq (Fine.cons (by omega) (Fine.cons (hr _ (List.mem_cons_self ..)) (Fine.cons (hr.tail _ (List.mem_cons_self ..)) (fun z hz => by cases hz))))]
      rfl
  by_cases h4 : p = 4
  · subst h4
    obtain ⟨hn, xs, h1, rfl⟩ := call_of ec (n := 2) (k := 1) rfl
    match r, hn, hr, h1 with
    | a :: b :: r, _, hr, h1 =>
      obtain ⟨n, rfl⟩ := hr.nat
      obtain ⟨m, rfl⟩ := hr.tail.nat
      obtain ⟨x, hx, rfl, e⟩ := row1 (q := 0) (l := r) hr.tail.tail h1
      have hl : x.length ≤ 50 := lists1 (by unfold PyInside.call at hi; rw [Bool.and_eq_true] at hi; exact hi.2)
      rw [e]
      refine ⟨.check n m (x.map Int.toNat), .check n m _ t (by rw [List.length_map]; exact hl), ?_⟩
      show Uw22Neutral.callOf (4 :: (n : Int) :: (m : Int) :: x) = _
      rw [callOf_eq (Fine.cons (by omega) (Fine.cons (hr _ (List.mem_cons_self ..)) (Fine.cons (hr.tail _ (List.mem_cons_self ..)) hx)))]
      show (if (x.map Int.toNat).length ≤ 50 then _ else _) = _
      rw [if_pos (by rw [List.length_map]; exact hl)]
      rfl
  by_cases h5 : p = 5
  · subst h5
    obtain ⟨hn, xs, h1, rfl⟩ := call_of ec (n := 0) (k := 1) rfl
    obtain ⟨x, hx, rfl, e⟩ := row1 (q := 0) hr h1
    have hl : x.length ≤ 50 := lists1 (by unfold PyInside.call at hi; rw [Bool.and_eq_true] at hi; exact hi.2)
    rw [e]
    refine ⟨.unit (x.map Int.toNat), .unit _ t (by rw [List.length_map]; exact hl), ?_⟩
    show Uw22Neutral.callOf (5 :: x) = _
    rw [callOf_eq (Fine.cons (by omega) hx)]
    show (if (x.map Int.toNat).length ≤ 50 then _ else _) = _
    rw [if_pos (by rw [List.length_map]; exact hl)]
  by_cases h6 : p = 6
  · subst h6
    obtain ⟨hn, xs, h1, rfl⟩ := call_of ec (n := 0) (k := 0) rfl
    obtain ⟨rfl, e⟩ := rows0 h1
    have e : r = t := e
    subst e
    refine ⟨.widths, .widths r, ?_⟩
    show Uw22Neutral.callOf [6] = _
    rw [callOf_eq (Fine.cons (by omega) (fun z hz => by cases hz))]
    rfl
  · have hs : shape p = none := by
      unfold shape
      rw [if_neg h0, if_neg h1, if_neg h2, if_neg h3, if_neg h4, if_neg h5, if_neg h6]
    have h : (match shape p with
      | none => none
      | some (n, k) => if r.length < n then none else match PyFlat.rows k (r.drop n) with
        | none => none
        | some (xs, t) => some ((p :: r.take n) :: xs, t)) = some (c, t) := ec
    rw [hs] at h
    cases h
theorem next {f : Nat} {l : List Int} {raw : List (List (List Int))} (h : PyFlat.calls shape f l = some raw) (hi : PyInside.calls bound raw = true) (hf : Fine l) (hne : l ≠ []) :
    ∃ (c : Uw22.Call) (t : List Int) (f' : Nat) (raw' : List (List (List Int))), Reads l c t ∧ PyFlat.calls shape f' t = some raw' ∧ PyInside.calls bound raw' = true ∧ raw.length = raw'.length + 1 ∧
      ∀ S, rest S raw = ((Uw22Neutral.out (Uw22.step S c).2).length : Int) :: (Uw22Neutral.out (Uw22.step S c).2 ++ rest (Uw22.step S c).1 raw') := by
  cases l with
  | nil => exact absurd rfl hne
  | cons p r =>
    cases f with
    | zero => cases h
    | succ f =>
      unfold PyFlat.calls at h
      cases ec : PyFlat.call shape (p :: r) with
      | none => rw [ec] at h; cases h
      | some q =>
        obtain ⟨c, t⟩ := q
        rw [ec] at h
        cases er : PyFlat.calls shape f t with
        | none => simp only [er] at h; cases h
        | some cs =>
          simp only [er] at h
          cases h
          have hi2 : PyInside.call bound c = true ∧ PyInside.calls bound cs = true := by
            unfold PyInside.calls at hi
            rw [List.all_cons, Bool.and_eq_true] at hi
            exact hi
          -- one call
          have key := one_of ec hi2.1 hf
          obtain ⟨u, k1, k2⟩ := key
          exact ⟨u, t, f, cs, k1, er, hi2.2, rfl, fun S => rest_cons k2⟩
theorem Reads.shorter {l t : List Int} {c : Uw22.Call} (h : Reads l c t) : t.length < l.length := by
  cases h <;> simp <;> omega
theorem asked_of {l : List Int} (h : answers_asked l = true) : ∃ raw, PyFlat.calls shape l.length l = some raw ∧ PyInside.calls bound raw = true ∧ rest Uw22.init raw = answers l ∧ (answers l).length ≤ 10000000 := by
  unfold answers_asked at h
  cases e : PyFlat.calls shape l.length l with
  | none => rw [e] at h; cases h
  | some raw =>
    rw [e] at h
    simp only [Bool.and_eq_true] at h
    refine ⟨raw, rfl, h.1.1.2, ?_, of_decide_eq_true h.2⟩
    unfold answers calls
    rw [e]
    rfl
end Nf

end
section
set_option Elab.async false
set_option linter.all false
set_option maxRecDepth 100000
set_option maxHeartbeats 4000000
namespace Net
open PySem PySem.Spec PyProof.Rows L2 Nc
abbrev sAnswers : Stmt := top 42
theorem intsV_app (a b : List Int) : intsV (a ++ b) = intsV a ++ intsV b := List.map_append
theorem intsV_len (a : List Int) : (intsV a).length = a.length := List.length_map ..
theorem lineF_two (a : Addr) (n : Nat) : (lineF a n).length = 2 := by
  have e : lineF a n = [(("calls" : Str), V.ref a), (("at" : Str), V.int (n : Nat))] := by
    unfold lineF
    show (if ("calls" : Str) = "at" then _ else _) = _
    rw [if_neg (by decide +kernel)]
    rfl
  rw [e]
  rfl
theorem pan_line {CP CL p q a : Addr} {B : Addr → Prop} {H : Hp} {S : Uw22.Panel} {n : Nat} (hP : PanAt CP B H p S) (hL : LineAt CL H q a n) : p ≠ q := by
  obtain ⟨⟨dx, al, ar, h, _⟩, _⟩ := hP
  obtain ⟨dy, h2⟩ := hL
  refine ne_of h h2 fun z => ?_
  have z3 : panF S.wide al ar = lineF a n := by
    injection z
  have z4 := congrArg List.length z3
  rw [lineF_two] at z4
  exact absurd (show 3 = 2 from z4) (by decide)
/-- a list that is read, where its object stays -/
theorem SqL.keep {K : PySem.W.Frag} {H H' : Hp} {a : Addr} {xs : List V} (h : SqL K H a xs) (k : ∀ o, H a = some o → H' a = some o) : SqL K H' a xs := by
  rcases h with (h | ⟨o, h⟩) | h
  · exact .inl (.inl (k _ h))
  · exact .inl (.inr ⟨o, k _ h⟩)
  · exact .inr h
section
variable {P : Program} {w : World} {K : PySem.W.Frag} {mg : Str → Option Value} {base : Heap} {aD aW aS : Addr}
/-- all but two as it was -/
def But2 (p q : Addr) (H H' : Hp) : Prop := ∀ b o, H b = some o → b ≠ p → b ≠ q → H' b = some o
def spAnswer (K : PySem.W.Frag) (CP CL : Addr) : Sp := fun vs H Q _ => ∃ (p q a : Addr) (B : Addr → Prop) (S : Uw22.Panel) (n : Nat) (ns : List Int) (c : Uw22.Call) (t : List Int), vs = [.ref p, .ref q] ∧ (∀ b, B b → ∃ o, H b = some o) ∧ PanAt CP B H p S ∧ LineAt CL H q a n ∧ SqL K H a (intsV ns) ∧ Nf.Reads (ns.drop n) c t ∧
  ∀ (H' : Hp) (l : Addr) (n' : Nat), But2 p q H H' → PanAt CP B H' p (Uw22.step S c).1 → LineAt CL H' q a n' → n' ≤ ns.length → ns.drop n' = t → H l = none → H' l = some (.lst (intsV (Uw22Neutral.out (Uw22.step S c).2))) → Q (.ref l) H'
def spAnswers (K : PySem.W.Frag) : Sp := fun vs H Q _ => ∃ (a : Addr) (ns : List Int), vs = [.ref a] ∧ SqL K H a (intsV ns) ∧ Nf.Fine ns ∧ PyUw22.answers_asked ns = true ∧ ∀ (H' : Hp) (l : Addr), H' l = some (.lst (intsV (PyUw22.answers ns))) → Q (.ref l) H'
theorem scAnswers : FnScope ["calls", "panel", "line", "told", "numbers"] ["calls"] (defScope sAnswers) := ⟨rfl, rfl, rfl, by decide +kernel, rfl, by decide +kernel, by decide +kernel⟩
theorem ok_answers {f CP CL fP fL fE fA : Addr} {fd fdP fdL fdE fdA : FuncData} (F : Fun K "answers" "answers" sAnswers f fd) (T : Tx K mg aD aW aS) (TL : TxL K CL)
    (GP : FnOk P w K mg base CX0 1 fP fdP ["self"] (spPInit CP)) (bP : Binds K fdP ["self"] []) (MP : Mk K CP fP) (mP : mg "Panel" = some (.ref CP))
    (GL : FnOk P w K mg base CX0 1 fL fdL ["self", "calls"] (spLInit CL)) (bL : Binds K fdL ["self", "calls"] []) (ML : Mk K CL fL) (mL : mg "Line" = some (.ref CL))
    (GE : FnOk P w K mg base CX0 1 fE fdE ["self"] (spLEnd K CL)) (bE : Binds K fdE ["self"] []) (mE : Meth K CL "is_ended" fE)
    (GA : FnOk P w K mg base CX0 5 fA fdA ["panel", "line"] (spAnswer K CP CL)) (CA : Cal K mg "answer" fA fdA ["panel", "line"]) : FnOk P w K mg base CX0 6 f fd ["calls"] (spAnswers K) := by
  refine F.ok scAnswers (fun vs H Q E h => ?_) (fun cdv A outer s H vs Q E hr h => ?_)
  · obtain ⟨a, ns, rfl, _⟩ := h
    rfl
  · obtain ⟨a, ns, rfl, hS, hF, hA, k⟩ := h
    obtain ⟨raw, r1, r2, r3, r4⟩ := Nf.asked_of hA
    have hr2 : Room 2 _ := hr.mono (by decide)
    have hr1 : Room 1 _ := hr.mono (by decide)
    refine ⟨_, pss_cons (ps_set (i := 1) scAnswers.nd rfl (Or.inl rfl) (pe_make0 MP GP hr2 rfl mP bP .nil pass0))
      (pss_cons (ps_set (i := 2) scAnswers.nd rfl (Or.inl rfl) (pe_make ML GL hr2 rfl mL bL .nil pass0 (pa_cons (pv 0) pa_nil)))
      (pss_cons (ps_set (i := 3) scAnswers.nd rfl (Or.inl rfl) (pe_lst pa_nil))
      (pss_cons (ps_while PassesOwn.never (pt_not (pt_val (pe_meth0 (pv 2) TL.cl mE GE hr1 bE .nil pass0)))
        (pss_cons (ps_set (i := 4) scAnswers.nd rfl (Or.inl rfl) (pe_call GA hr rfl CA.mg CA.kp CA.bd .nil pass0 (pa_cons (pv 1) (pa_cons (pv 2) pa_nil))))
        (pss_cons (ps_expr (pe_bm PySem.F.plainAttrs_list PySem.F.slot_list_append PySem.F.type_list_append mt_append (pv 3) (pa_cons (pe_callB call_len_seq rfl T.bLen PySem.boot_len (pa_cons (pv 4) pa_nil)) pa_nil)))
        (pss_one (ps_expr (pe_bm PySem.F.plainAttrs_list PySem.F.slot_list_extend PySem.F.type_list_extend mt_extend (pv 3) (pa_cons (pv 4) pa_nil)))))))
      (pss_one (ps_ret (pv 3)))))), ?_⟩
    -- panel = Panel()
    intro p dp np nd ned
    refine ⟨p, dp, rfl, upd_same, fun H1 hP1 sb1 => ⟨rfl, ?_⟩⟩
    have s1 : Same H H1 := Same.made np nd sb1
    -- line = Line(calls)
    refine ⟨_, rfl, ?_⟩
    intro q dq nq ndq nedq
    refine ⟨q, a, dq, rfl, upd_same, fun H2 hL2 sb2 => ⟨rfl, ?_⟩⟩
    have s2 : Same H1 H2 := Same.made nq ndq sb2
    -- told = []
    refine ⟨Nat.zero_le _, fun lt hlt => ?_⟩
    have s3 : Same H2 (upd H2 lt (.lst [])) := Same.ofNone hlt
    have hP2 := (hP1.same s2).same s3
    have hP3 : PanAt CP (fun b => b = lt) (upd H2 lt (.lst [])) p Uw22.init := by
      obtain ⟨⟨dx, al, ar, h1, h2, h3, _⟩, h4, h5, h6⟩ := hP1.same s2
      exact ⟨⟨dx, al, ar, s3 _ _ h1, s3 _ _ h2, s3 _ _ h3, ne_of_none h2 hlt, ne_of_none h3 hlt⟩, h4, h5, h6⟩
    have hlt0 : H lt = none := Same.free (s1.trans s2) hlt
    have hL3 : LineAt CL (upd H2 lt (.lst [])) q a 0 := by
      obtain ⟨dx, h1⟩ := hL2
      exact ⟨dx, s3 _ _ h1⟩
    have sAll : Same H (upd H2 lt (.lst [])) := (s1.trans s2).trans s3
    have np0 : H p = none := np
    have nq0 : H q = none := Same.free s1 nq
    refine ⟨fun m σ H' => ∃ (S : Uw22.Panel) (n f : Nat) (raw : List (List (List Int))) (told : List Int) (v4 : Option V), σ = [some (.ref a), some (.ref p), some (.ref q), some (.ref lt), v4] ∧ PanAt CP (fun b => b = lt) H' p S ∧ LineAt CL H' q a n ∧ Same H H' ∧ H' lt = some (.lst (intsV told)) ∧
      PyFlat.calls PyUw22.shape f (ns.drop n) = some raw ∧ PyInside.calls PyUw22.bound raw = true ∧ told ++ Nf.rest S raw = PyUw22.answers ns ∧ n ≤ ns.length ∧ m = ns.length - n,
      ⟨_, Uw22.init, 0, ns.length, raw, [], none, rfl, hP3, hL3, sAll, upd_same, by rw [List.drop_zero]; exact r1, r2, r3, Nat.zero_le _, rfl⟩, ?_⟩
    rintro m σ H4 ⟨S, n, f0, raw4, told, v4, rfl, hP4, hL4, s4, hlt4, c1, c2, c3, c4, rfl⟩
    have hS4 := s4.seq hS
    obtain ⟨dq4, hq4⟩ := id hL4
    refine ⟨_, rfl, q, dq4, _, rfl, hq4, lineF_no _ _ (by decide +kernel) (by decide +kernel), q, a, n, ns, rfl, hL4, hS4, _, rfl, ?_⟩
    by_cases hend : ns.length ≤ n
    · rw [decide_eq_true hend]
      refine iteF ?_
      refine ⟨_, rfl, k H4 lt ?_⟩
      have hd : ns.drop n = [] := List.drop_eq_nil_of_le hend
      rw [hd] at c1
      have er : raw4 = [] := by
        cases f0 with
        | zero => exact (Option.some.inj c1).symm
        | succ _ => exact (Option.some.inj c1).symm
      subst er
      have e0 : told = PyUw22.answers ns := by
        rw [← c3]
        show told = told ++ []
        rw [List.append_nil]
      rw [← e0]
      exact hlt4
    · rw [decide_eq_false hend]
      refine iteT ?_
      have hne : ns.drop n ≠ [] := fun z => hend (List.drop_eq_nil_iff.mp z)
      have hFd : Nf.Fine (ns.drop n) := fun z hz => hF z (List.mem_of_mem_drop hz)
      obtain ⟨c, t, f', raw', n1, n2, n3, _, n4⟩ := Nf.next c1 c2 hFd hne
      have n4 := n4 S
      refine ⟨fun σ' H' => ∃ (S : Uw22.Panel) (n' f : Nat) (raw : List (List (List Int))) (told : List Int) (v4 : Option V), n < n' ∧ σ' = [some (.ref a), some (.ref p), some (.ref q), some (.ref lt), v4] ∧ PanAt CP (fun b => b = lt) H' p S ∧ LineAt CL H' q a n' ∧ Same H H' ∧ H' lt = some (.lst (intsV told)) ∧
        PyFlat.calls PyUw22.shape f (ns.drop n') = some raw ∧ PyInside.calls PyUw22.bound raw = true ∧ told ++ Nf.rest S raw = PyUw22.answers ns ∧ n' ≤ ns.length,
        fun σ' H' ⟨S, n', f, raw, told, v4, h0, h1, h2, h3, h4, h5, h6, h7, h8, h9⟩ => ⟨_, (by omega : ns.length - n' < ns.length - n), S, n', f, raw, told, v4, h1, h2, h3, h4, h5, h6, h7, h8, h9, rfl⟩, ?_⟩
      refine ⟨_, rfl, _, rfl, p, q, a, _, S, n, ns, c, t, rfl, (fun b hb => by subst hb; exact ⟨_, hlt4⟩), hP4, hL4, hS4, n1, fun H5 l n' b5 hP5 hL5 hn' ht hl0 hl5 => ?_⟩
      obtain ⟨⟨dp4, al4, ar4, hp4, _⟩, _⟩ := id hP4
      have nltp : lt ≠ p := ne_of hlt4 hp4 (by intro z; cases z)
      have nltq : lt ≠ q := ne_of hlt4 hq4 (by intro z; cases z)
      have hlt5 := b5 _ _ hlt4 nltp nltq
      have s5 : Same H H5 := fun b o e => b5 b o (s4 b o e) (ne_of_none e np0) (ne_of_none e nq0)
      have nll : l ≠ lt := (ne_of_none hlt4 hl0).symm
      rw [n4] at c3
      generalize hou : Uw22Neutral.out (Uw22.step S c).2 = ou at *
      have hlen : told.length + (1 + (ou.length + (Nf.rest (Uw22.step S c).1 raw').length)) ≤ 10000000 := by
        have z := congrArg List.length c3
        rw [List.length_append, List.length_cons, List.length_append] at z
        omega
      -- told.append(len(numbers))
      refine ⟨_, rfl, .inl ⟨rfl, _, SqL.of hlt5⟩, _, rfl, l, _, rfl, .inl (SqL.of hl5), lt, _, _, rfl, rfl, hlt5, ?_, ?_⟩
      · rw [intsV_len, sizeLine_eq]
        omega
      rw [intsV_len]
      -- told.extend(numbers)
      refine ⟨_, rfl, .inl ⟨rfl, _, SqL.of upd_same⟩, _, rfl, lt, l, _, _, rfl, rfl, upd_same, (by rw [upd_ne nll]; exact hl5), ?_, ?_⟩
      · rw [List.length_append, intsV_len, intsV_len, sizeLine_eq]
        show told.length + 1 + ou.length ≤ _
        omega
      rw [upd_upd]
      have s6 : SameBut lt H5 (upd H5 lt (.lst (intsV told ++ [V.int (ou.length : Nat)] ++ intsV ou))) := SameBut.chg SameBut.refl
      have hq5 := hL5
      obtain ⟨dq5, hq5⟩ := hq5
      obtain ⟨⟨dp5, al5, ar5, hp5, hal5, har5, hb5⟩, w5, l5, r5⟩ := hP5
      refine ⟨(Uw22.step S c).1, n', f', raw', told ++ ((ou.length : Int) :: ou), _, ?_, rfl, ?_, ?_, ?_, ?_, ?_, n3, ?_, hn'⟩
      · have z1 := n1.shorter
        rw [← ht, List.length_drop, List.length_drop] at z1
        omega
      · refine ⟨⟨dp5, al5, ar5, s6 _ _ hp5 nltp.symm, s6 _ _ hal5 hb5.1, s6 _ _ har5 hb5.2, hb5⟩, w5, l5, r5⟩
      · exact ⟨dq5, s6 _ _ hq5 nltq.symm⟩
      · exact fun b o e => s6 b o (s5 b o e) (ne_of_none e hlt0)
      · rw [upd_same, intsV_app]
        show some (HO.lst (intsV told ++ [V.int (ou.length : Nat)] ++ intsV ou)) = some (HO.lst (intsV told ++ (V.int (ou.length : Nat) :: intsV ou)))
        rw [List.append_assoc]
        rfl
      · rw [ht]
        exact n2
      · rw [← c3, List.append_assoc]
        rfl
end
end Net

end
section
set_option Elab.async false
set_option linter.all false
set_option maxHeartbeats 1000000
namespace Nc
open Uw22
/-! ### the unit -/
/-- k cuts, again and again, are the row -/
def per (l : List Nat) (k : Nat) : Bool := decide (1 ≤ k) && (decide (l.length % k = 0) && ((List.range l.length).all fun j => l.getD j 0 == l.getD (j % k) 0))
theorem per_iff {l : List Nat} {k : Nat} : per l k = true ↔ 1 ≤ k ∧ l.length % k = 0 ∧ ∀ j, j < l.length → l.getD j 0 = l.getD (j % k) 0 := by
  unfold per
  rw [Bool.and_eq_true, Bool.and_eq_true, decide_eq_true_eq, decide_eq_true_eq, List.all_eq_true]
  constructor
  · rintro ⟨h1, h2, h3⟩
    exact ⟨h1, h2, fun j hj => eq_of_beq (h3 j (List.mem_range.mpr hj))⟩
  · rintro ⟨h1, h2, h3⟩
    exact ⟨h1, h2, fun j hj => beq_iff_eq.mpr (h3 j (List.mem_range.mp hj))⟩
theorem unit_def (l : List Nat) : Uw22.unit l = (((List.range (l.length + 1)).find? (per l)).map (fun k => l.take k)).getD l := rfl
theorem find_first : ∀ (n : Nat) {p : Nat → Bool} {k : Nat}, k < n → p k = true → (∀ j, j < k → p j = false) → (List.range n).find? p = some k
  | 0, p, k, h, _, _ => absurd h (by omega)
  | n + 1, p, k, h, h1, h2 => by
    rw [List.range_succ, List.find?_append]
    by_cases hk : k < n
    · rw [find_first n hk h1 h2]
      rfl
    · have e : k = n := by omega
      subst e
      have hn : (List.range k).find? p = none := List.find?_eq_none.mpr fun x hx => by
        rw [h2 x (List.mem_range.mp hx)]
        decide
      rw [hn]
      simp [h1]
theorem find_no (n : Nat) {p : Nat → Bool} (h : ∀ j, j < n → p j = false) : (List.range n).find? p = none := List.find?_eq_none.mpr fun x hx => by
  rw [h x (List.mem_range.mp hx)]
  decide
theorem unit_of {l : List Nat} {k : Nat} (hk : k ≤ l.length) (h1 : per l k = true) (h2 : ∀ j, j < k → per l j = false) : Uw22.unit l = l.take k := by
  rw [unit_def, find_first (l.length + 1) (by omega) h1 h2]
  rfl
theorem unit_nil : Uw22.unit [] = [] := by decide
/-- the row itself, once -/
theorem per_self {l : List Nat} (h : l ≠ []) : per l l.length = true := by
  have hn : 1 ≤ l.length := List.length_pos_iff.mpr h
  refine per_iff.mpr ⟨hn, Nat.mod_self _, fun j hj => ?_⟩
  rw [Nat.mod_eq_of_lt hj]
theorem per_pos {l : List Nat} {k : Nat} (h : per l k = true) : 1 ≤ k := (per_iff.mp h).1
theorem per_zero (l : List Nat) : per l 0 = false := rfl
/-- put behind itself -/
theorem rep_getD (u : List Nat) : ∀ (m j : Nat), j < m * u.length → ((List.replicate m u).flatten).getD j 0 = u.getD (j % u.length) 0
  | 0, j, h => by omega
  | m + 1, j, h => by
    rw [List.replicate_succ, List.flatten_cons, List.getD_eq_getElem?_getD, List.getD_eq_getElem?_getD]
    by_cases hj : j < u.length
    · rw [List.getElem?_append_left hj, Nat.mod_eq_of_lt hj]
    · rw [List.getElem?_append_right (by omega)]
      rw [Nat.succ_mul] at h
      have ih := rep_getD u m (j - u.length) (by omega)
      rw [List.getD_eq_getElem?_getD, List.getD_eq_getElem?_getD] at ih
      rw [ih]
      congr 2
      exact (Nat.mod_eq_sub_mod (by omega)).symm
theorem per_rep {l : List Nat} {k : Nat} (h1 : 1 ≤ k) (hk : k ≤ l.length) (h2 : l.length % k = 0) : per l k = true ↔ (List.replicate (l.length / k) (l.take k)).flatten = l := by
  have htl : (l.take k).length = k := by rw [List.length_take]; omega
  have hmul : l.length / k * k = l.length := Nat.div_mul_cancel (Nat.dvd_of_mod_eq_zero h2)
  have hlen : ((List.replicate (l.length / k) (l.take k)).flatten).length = l.length := by
    rw [List.length_flatten, List.map_replicate, List.sum_replicate_nat, htl]
    exact hmul
  have get : ∀ j, j < l.length → ((List.replicate (l.length / k) (l.take k)).flatten).getD j 0 = l.getD (j % k) 0 := fun j hj => by
    rw [rep_getD (l.take k) _ j (by rw [htl, hmul]; exact hj), htl, List.getD_eq_getElem?_getD, List.getD_eq_getElem?_getD, List.getElem?_take_of_lt (Nat.mod_lt _ (by omega))]
  rw [per_iff]
  constructor
  · rintro ⟨_, _, h3⟩
    refine List.ext_getElem? fun j => ?_
    by_cases hj : j < l.length
    · have e := (get j hj).trans (h3 j hj).symm
      rw [List.getD_eq_getElem?_getD, List.getD_eq_getElem?_getD, List.getElem?_eq_getElem (by rw [hlen]; exact hj), List.getElem?_eq_getElem hj] at e
      rw [List.getElem?_eq_getElem (by rw [hlen]; exact hj), List.getElem?_eq_getElem hj]
      exact congrArg some e
    · rw [List.getElem?_eq_none (by omega), List.getElem?_eq_none (by omega)]
  · intro e
    refine ⟨h1, h2, fun j hj => ?_⟩
    rw [← get j hj, e]
/-! ### a side at a depth -/
/-- walked cut by cut, as long as it is no deeper -/
def inWalk (t : Nat) : Nat → Nat → List Nat → Nat
  | _, y, [] => y
  | x, y, c :: l => if x + deep c ≤ t then inWalk t (x + deep c) (y + in_ c) l else y
theorem inWalk_ge (t : Nat) : ∀ (l : List Nat) (x y : Nat), y ≤ inWalk t x y l
  | [], x, y => Nat.le_refl _
  | c :: l, x, y => by
    unfold inWalk
    by_cases h : x + deep c ≤ t
    · rw [if_pos h]
      have := inWalk_ge t l (x + deep c) (y + in_ c)
      omega
    · rw [if_neg h]
      exact Nat.le_refl _
theorem inAt_at (t : Nat) : ∀ (l : List Nat) (x y : Nat), x ≤ t →
    ((List.range (l.length + 1)).filterMap fun k => if x + deepOf (l.take k) ≤ t then some (y + inOf (l.take k)) else none).foldl max 0 = inWalk t x y l
  | [], x, y, hx => by
    show (List.filterMap _ [0]).foldl max 0 = y
    have e : (fun k => if x + deepOf (([] : List Nat).take k) ≤ t then some (y + inOf (([] : List Nat).take k)) else none) 0 = some y := by
      show (if x + 0 ≤ t then some (y + 0) else none) = some y
      rw [if_pos (by omega), Nat.add_zero]
    rw [List.filterMap_cons_some (f := fun k => if x + deepOf (([] : List Nat).take k) ≤ t then some (y + inOf (([] : List Nat).take k)) else none) e]
    show max 0 y = y
    omega
  | c :: l, x, y, hx => by
    have e0 : (List.range ((c :: l).length + 1)) = 0 :: (List.range (l.length + 1)).map Nat.succ := by
      rw [List.length_cons, List.range_succ_eq_map]
    have e1 : (fun k => if x + deepOf ((c :: l).take k) ≤ t then some (y + inOf ((c :: l).take k)) else none) 0 = some y := by
      show (if x + 0 ≤ t then some (y + 0) else none) = some y
      rw [if_pos (by omega), Nat.add_zero]
    rw [e0, List.filterMap_cons_some (f := fun k => if x + deepOf ((c :: l).take k) ≤ t then some (y + inOf ((c :: l).take k)) else none) e1, List.foldl_cons, max_acc, List.filterMap_map]
    have e2 : (List.range (l.length + 1)).filterMap ((fun k => if x + deepOf ((c :: l).take k) ≤ t then some (y + inOf ((c :: l).take k)) else none) ∘ Nat.succ) =
        (List.range (l.length + 1)).filterMap fun k => if (x + deep c) + deepOf (l.take k) ≤ t then some ((y + in_ c) + inOf (l.take k)) else none := by
      refine congrArg (fun f => (List.range (l.length + 1)).filterMap f) (funext fun k => ?_)
      show (if x + deepOf (c :: l.take k) ≤ t then some (y + inOf (c :: l.take k)) else none) = _
      rw [deepOf_cons, inOf_cons, ← Nat.add_assoc, ← Nat.add_assoc]
    rw [e2]
    unfold inWalk
    by_cases h : x + deep c ≤ t
    · rw [if_pos h, inAt_at t l (x + deep c) (y + in_ c) h]
      have := inWalk_ge t l (x + deep c) (y + in_ c)
      omega
    · rw [if_neg h]
      have e3 : ((List.range (l.length + 1)).filterMap fun k => if (x + deep c) + deepOf (l.take k) ≤ t then some ((y + in_ c) + inOf (l.take k)) else none) = [] := by
        refine List.filterMap_eq_nil_iff.mpr fun k _ => ?_
        rw [if_neg (by omega)]
      rw [e3]
      show max (max 0 y) 0 = y
      omega
theorem inAt_walk (l : List Nat) (t : Nat) : inAt l t = inWalk t 0 0 l := by
  rw [← inAt_at t l 0 0 (Nat.zero_le _)]
  show ((List.range (l.length + 1)).filterMap fun k => if deepOf (l.take k) ≤ t then some (inOf (l.take k)) else none).foldl max 0 = _
  simp only [Nat.zero_add]
/-- by a beginning that is no deeper, where the next cut would be -/
theorem inWalk_pre (t : Nat) : ∀ (u r : List Nat) (x y : Nat), x + deepOf u ≤ t → (∀ c r', r = c :: r' → t < x + deepOf u + deep c) → inWalk t x y (u ++ r) = y + inOf u
  | [], [], x, y, _, _ => by
    show y = y + 0
    omega
  | [], c :: r, x, y, hx, hn => by
    have := hn c r rfl
    show (if x + deep c ≤ t then _ else y) = y + 0
    rw [deepOf_nil, Nat.add_zero] at this
    rw [if_neg (by omega)]
    rfl
  | c :: u, r, x, y, hx, hn => by
    rw [deepOf_cons] at hx hn
    show (if x + deep c ≤ t then inWalk t (x + deep c) (y + in_ c) (u ++ r) else y) = _
    rw [if_pos (by omega), inWalk_pre t u r (x + deep c) (y + in_ c) (by omega) (fun c' r' e => by have := hn c' r' e; omega), inOf_cons]
    omega
end Nc

end
section
set_option Elab.async false
set_option linter.all false
set_option maxHeartbeats 1000000
namespace Nc
open Uw22
/-! ### the sides, depth by depth -/
def waysFrom : Nat → List Nat → List Nat
  | y, [] => [y]
  | y, c :: l => List.replicate (deep c) y ++ waysFrom (y + in_ c) l
theorem ways_len : ∀ (l : List Nat) (y : Nat), (waysFrom y l).length = deepOf l + 1
  | [], y => rfl
  | c :: l, y => by
    show (List.replicate (deep c) y ++ waysFrom (y + in_ c) l).length = _
    rw [List.length_append, List.length_replicate, ways_len l, deepOf_cons]
    omega
theorem ways_at (t : Nat) : ∀ (l : List Nat) (x y : Nat), x ≤ t → t ≤ x + deepOf l → (waysFrom y l)[t - x]? = some (inWalk t x y l)
  | [], x, y, h1, h2 => by
    rw [deepOf_nil] at h2
    have e : t - x = 0 := by omega
    rw [e]
    rfl
  | c :: l, x, y, h1, h2 => by
    show (List.replicate (deep c) y ++ waysFrom (y + in_ c) l)[t - x]? = some (if x + deep c ≤ t then inWalk t (x + deep c) (y + in_ c) l else y)
    rw [deepOf_cons] at h2
    by_cases h : x + deep c ≤ t
    · rw [if_pos h, List.getElem?_append_right (by rw [List.length_replicate]; omega), List.length_replicate, ← ways_at t l (x + deep c) (y + in_ c) h (by omega)]
      congr 1
      omega
    · rw [if_neg h, List.getElem?_append_left (by rw [List.length_replicate]; omega), List.getElem?_replicate, if_pos (by omega)]
theorem ways_get {l : List Nat} {t : Nat} (h : t ≤ deepOf l) : (waysFrom 0 l)[t]? = some (inAt l t) := by
  have := ways_at t l 0 0 (Nat.zero_le _) (by omega)
  rw [inAt_walk, ← this, Nat.sub_zero]
theorem deep_le (c : Nat) : deep c ≤ 2 := by unfold deep; omega
theorem deepOf_le : ∀ l : List Nat, deepOf l ≤ 2 * l.length
  | [] => Nat.le_refl _
  | c :: l => by
    rw [deepOf_cons, List.length_cons]
    have := deepOf_le l
    have := deep_le c
    omega
theorem inOf_le : ∀ (l : List Nat), (∀ c ∈ l, c ≤ 2) → inOf l ≤ 2 * l.length
  | [], _ => Nat.le_refl _
  | c :: l, h => by
    rw [inOf_cons, List.length_cons]
    have := inOf_le l fun z hz => h z (List.mem_cons_of_mem _ hz)
    have : in_ c ≤ 2 := h c (List.mem_cons_self ..)
    omega
/-- the width at a depth, below 0 where the sides cross -/
def widthAt (p : Panel) (t : Nat) : Int := (p.wide : Int) - (inAt p.left t : Int) - (inAt p.right t : Int)
def byDepth (p : Panel) (n : Nat) : List Int := (List.range n).map (widthAt p)
theorem byDepth_succ (p : Panel) (n : Nat) : byDepth p (n + 1) = byDepth p n ++ [widthAt p n] := by
  unfold byDepth
  rw [List.range_succ, List.map_append]
  rfl
theorem byDepth_len (p : Panel) (n : Nat) : (byDepth p n).length = n := by
  unfold byDepth
  rw [List.length_map, List.length_range]
theorem byDepth_get {p : Panel} {n j : Nat} {z : Int} (h : (byDepth p n)[j]? = some z) : j < n ∧ z = widthAt p j := by
  unfold byDepth at h
  rw [List.getElem?_map] at h
  by_cases hj : j < n
  · rw [List.getElem?_range hj] at h
    exact ⟨hj, (Option.some.inj h).symm⟩
  · rw [List.getElem?_eq_none (by rw [List.length_range]; omega)] at h
    cases h
theorem at_none {p : Panel} {t : Nat} : (p.at_ t).isNone = decide (widthAt p t < 0) := by
  unfold Panel.at_ widthAt
  by_cases h : p.wide < inAt p.left t + inAt p.right t
  · show (if p.wide < inAt p.left t + inAt p.right t then none else some (p.wide - (inAt p.left t + inAt p.right t))).isNone = _
    rw [if_pos h, decide_eq_true (by omega)]
    rfl
  · show (if p.wide < inAt p.left t + inAt p.right t then none else some (p.wide - (inAt p.left t + inAt p.right t))).isNone = _
    rw [if_neg h, decide_eq_false (by omega)]
    rfl
theorem at_some {p : Panel} {t : Nat} (h : ¬ widthAt p t < 0) : (((p.at_ t).getD 0 : Nat) : Int) = widthAt p t := by
  unfold widthAt at h
  have h' : ¬ p.wide < inAt p.left t + inAt p.right t := by omega
  show (((if p.wide < inAt p.left t + inAt p.right t then none else some (p.wide - (inAt p.left t + inAt p.right t))).getD 0 : Nat) : Int) = _
  rw [if_neg h']
  unfold widthAt
  show ((p.wide - (inAt p.left t + inAt p.right t) : Nat) : Int) = _
  omega
theorem cross_some {p : Panel} {t : Nat} (ht : t < p.deep_ + 1) (h : widthAt p t < 0) (hn : ∀ j, j < t → ¬ widthAt p j < 0) : p.cross = some t := by
  unfold Panel.cross
  refine find_first _ ht ?_ fun j hj => ?_
  · rw [at_none, decide_eq_true h]
  · rw [at_none, decide_eq_false (hn j hj)]
theorem cross_none {p : Panel} (hn : ∀ j, j < p.deep_ + 1 → ¬ widthAt p j < 0) : p.cross = none := by
  unfold Panel.cross
  refine find_no _ fun j hj => ?_
  rw [at_none, decide_eq_false (hn j hj)]
theorem total_sum : ∀ l : List Nat, ((total l : Nat) : Int) = (l.map fun (n : Nat) => (n : Int)).sum
  | [] => rfl
  | c :: l => by
    show ((l.foldl (fun a b => a + b) (0 + c) : Nat) : Int) = _
    rw [total_acc, List.map_cons, List.sum_cons, ← total_sum l]
    omega
theorem widths_map {p : Panel} (hn : ∀ j, j < p.deep_ + 1 → ¬ widthAt p j < 0) : (p.widths.map fun (n : Nat) => (n : Int)) = byDepth p (p.deep_ + 1) := by
  unfold Panel.widths byDepth
  rw [List.map_map]
  refine List.map_congr_left fun t ht => ?_
  exact at_some (hn t (List.mem_range.mp ht))
theorem bars_sum {p : Panel} (hn : ∀ j, j < p.deep_ + 1 → ¬ widthAt p j < 0) : ((p.bars : Nat) : Int) = ((byDepth p (p.deep_ + 1)).drop 1).sum := by
  unfold Panel.bars
  rw [total_sum, List.map_drop, widths_map hn]
/-! ### the unit, as it is sought -/
theorem rep_len (l : List Nat) {k : Nat} (hk : k ≤ l.length) : ((List.replicate (l.length / k) (l.take k)).flatten).length = l.length / k * k := by
  rw [List.length_flatten, List.map_replicate, List.sum_replicate_nat, List.length_take, Nat.min_eq_left hk]
theorem per_same {l : List Nat} {k : Nat} (h1 : 1 ≤ k) (hk : k ≤ l.length) : per l k = true ↔ (List.replicate (l.length / k) (l.take k)).flatten = l := by
  by_cases h2 : l.length % k = 0
  · exact per_rep h1 hk h2
  · constructor
    · intro h
      exact absurd (per_iff.mp h).2.1 h2
    · intro e
      have z := congrArg List.length e
      rw [rep_len l hk] at z
      exact absurd (Nat.mod_eq_zero_of_dvd ⟨l.length / k, by rw [Nat.mul_comm]; exact z.symm⟩) h2
theorem per_not {l : List Nat} {k : Nat} (h1 : 1 ≤ k) (hk : k ≤ l.length) (h : ¬ (List.replicate (l.length / k) (l.take k)).flatten = l) : per l k = false := by
  cases e : per l k with
  | false => rfl
  | true => exact absurd ((per_same h1 hk).mp e) h
/-! ### how uneven, walked -/
theorem cost_nil (d i x y : Nat) : cost d i x y [] = off d i x y := rfl
theorem cost_cons (d i x y c : Nat) (l : List Nat) : cost d i x y (c :: l) = max (off d i x y) (cost d i (x + deep c) (y + in_ c) l) := rfl
end Nc

end
section
set_option Elab.async false
set_option linter.all false
set_option maxRecDepth 100000
set_option maxHeartbeats 4000000
namespace Net
open PySem PySem.Spec PyProof.Rows L2 Nc
/-! ### lists of cuts held against each other -/
def cutsD (l : List Nat) : List PyData := l.map fun (c : Nat) => PyData.int (c : Int)
theorem dp_cuts {K : PySem.W.Frag} {H : Hp} : ∀ l : List Nat, DpAll K H (cutsV l) (cutsD l)
  | [] => .nil
  | c :: l => .cons (.int _) (dp_cuts l)
theorem lay_cuts : ∀ l : List Nat, PyData.canLayAll0 (cutsD l) = true
  | [] => PyData.canLayAll0.eq_1
  | c :: l => by
    show PyData.canLayAll0 (PyData.int (c : Int) :: cutsD l) = true
    rw [PyData.canLayAll0.eq_2, lay_cuts l]
    rfl
theorem depth_cuts : ∀ l : List Nat, PyData.depthAll (cutsD l) = 0
  | [] => PyData.depthAll.eq_1
  | c :: l => by
    show PyData.depthAll (PyData.int (c : Int) :: cutsD l) = 0
    rw [PyData.depthAll.eq_2, depth_cuts l, PyData.depth.eq_6]
    rfl
theorem shaped_cuts (l : List Nat) : SeqAt.shaped (.list (cutsD l)) = true := by
  rw [SeqAt.shaped.eq_1, PyData.canLay0.eq_5, lay_cuts, PyData.depth.eq_1, depth_cuts]
  rfl
theorem eqvAll_cuts : ∀ l m : List Nat, PyData.eqvAll (cutsD l) (cutsD m) = decide (l = m)
  | [], [] => by simp [cutsD, PyData.eqvAll]
  | [], c :: m => by simp [cutsD, PyData.eqvAll]
  | c :: l, [] => by simp [cutsD, PyData.eqvAll]
  | c :: l, e :: m => by
    show PyData.eqvAll (PyData.int (c : Int) :: cutsD l) (PyData.int (e : Int) :: cutsD m) = _
    rw [PyData.eqvAll.eq_2, eqvAll_cuts l m, PyData.eqv]
    by_cases h : c = e
    · subst h
      simp
    · have h2 : ¬ ((c : Int) = (e : Int)) := by omega
      simp [h, h2]
theorem eqv_cuts (l m : List Nat) : PyData.eqv (.list (cutsD l)) (.list (cutsD m)) = decide (l = m) := by
  rw [PyData.eqv]
  exact eqvAll_cuts l m
theorem cutsV_len (l : List Nat) : (cutsV l).length = l.length := List.length_map ..
theorem cutV_first (l : List Nat) {k : Nat} (h : k ≤ l.length) : cutV (cutsV l) none (some (k : Int)) = cutsV (l.take k) := by
  unfold cutV
  rw [HT.sIx_nat, HT.sIx_none, cutsV_len, Nat.min_eq_left h, List.drop_zero, Nat.sub_zero]
  unfold cutsV
  rw [List.map_take]
theorem cutsV_flat (k : Nat) (u : List Nat) : (List.replicate k (cutsV u)).flatten = cutsV (List.replicate k u).flatten := by
  unfold cutsV
  rw [List.map_flatten, List.map_replicate]
section
variable {P : Program} {w : World} {K : PySem.W.Frag} {mg : Str → Option Value} {base : Heap} {aD aW aS : Addr}
/-! ### unit_length -/
def spUnitLen (K : PySem.W.Frag) : Sp := fun vs H Q _ => ∃ (a : Addr) (l : List Nat), vs = [.ref a] ∧ SqL K H a (cutsV l) ∧ l.length ≤ 40 ∧ l ≠ [] ∧ ∀ (H' : Hp) (k : Nat), Same H H' → 1 ≤ k → k ≤ l.length → per l k = true → (∀ j, j < k → per l j = false) → Q (.int (k : Nat)) H'
theorem scUnitLen : FnScope ["row", "length"] ["row"] (defScope sUnitLen) := ⟨rfl, rfl, rfl, by decide +kernel, rfl, by decide +kernel, by decide +kernel⟩
theorem ok_unitLen {g : Addr} {fd : FuncData} (F : Fun K "unit_length" "unit_length" sUnitLen g fd) (T : Tx K mg aD aW aS) : FnOk P w K mg base CX0 1 g fd ["row"] (spUnitLen K) := by
  refine F.ok scUnitLen (fun vs H Q E h => ?_) (fun cdv A outer s H vs Q E hr h => ?_)
  · obtain ⟨a, l, rfl, _⟩ := h
    rfl
  · obtain ⟨a, l, rfl, hS, hl, hne, k⟩ := h
    have hu64 := hr.units
    have hpos : 1 ≤ l.length := List.length_pos_iff.mpr hne
    refine ⟨_, pss_cons (ps_set (i := 1) scUnitLen.nd rfl (Or.inl rfl) pe_int)
      (pss_cons (ps_while PassesOwn.never (pt_cmpR (op_neD hu64) (pe_op op_rep (pe_slice sl_list (pv 0) po_none (po_some (pv 1))) (pe_op op_fdiv (pe_callB call_len_seq rfl T.bLen PySem.boot_len (pa_cons (pv 0) pa_nil)) (pv 1))) (pv 0) (nomark _))
        (pss_one (ps_set (i := 1) scUnitLen.nd rfl (Or.inl rfl) (pe_op op_add (pv 1) pe_int))))
      (pss_one (ps_ret (pv 1)))), ?_⟩
    refine ⟨fun m σ H' => ∃ n : Nat, σ = [some (.ref a), some (.int (n : Nat))] ∧ Same H H' ∧ 1 ≤ n ∧ n ≤ l.length ∧ (∀ j, j < n → per l j = false) ∧ m = l.length - n,
      ⟨_, 1, rfl, Same.refl H, Nat.le_refl _, hpos, (fun j hj => by
        have e : j = 0 := by omega
        subst e
        exact per_zero l), rfl⟩, ?_⟩
    rintro m σ H1 ⟨n, rfl, s1, h1, h2, h3, rfl⟩
    have hS1 := s1.seq hS
    refine ⟨_, rfl, _, rfl, _, rfl, a, _, rfl, hS1, fun p hp => ?_⟩
    rw [cutV_first l h2]
    have s2 : Same H1 (upd H1 p (.lst (cutsV (l.take n)))) := Same.ofNone hp
    refine ⟨_, rfl, a, _, rfl, .inl (s2.seq hS1), _, rfl, _, _, rfl, rfl, ⟨by omega, by omega⟩, ?_⟩
    rw [cutsV_len]
    have ed : ((l.length : Nat) : Int) / ((n : Nat) : Int) = ((l.length / n : Nat) : Int) := by omega
    have hz : (0 : Int) ≤ ((l.length / n : Nat) : Int) := Int.natCast_nonneg _
    have hdl : l.length / n ≤ l.length := Nat.div_le_self _ _
    refine ⟨p, ((l.length / n : Nat) : Int), _, rfl, congrArg V.int ed, upd_same, by omega, by omega, ?_, fun q hq => ?_⟩
    · rw [cutsV_len, Int.toNat_natCast, List.length_take, Nat.min_eq_left h2]
      have := Nat.mul_div_le l.length n
      exact Nat.le_of_lt (small50 (by omega))
    rw [Int.toNat_natCast, cutsV_flat]
    have s3 := Same.new s2 (o := .lst (cutsV (List.replicate (l.length / n) (l.take n)).flatten)) hq
    refine ⟨_, rfl, _, _, Dp.lst (SqL.of upd_same) (dp_cuts _), Dp.lst (s3.seq hS1) (dp_cuts _), shaped_cuts _, shaped_cuts _, _, rfl, ?_⟩
    rw [eqv_cuts]
    refine ite2 (fun cc => ?_) (fun cc => ?_)
    · have cc : ¬ (List.replicate (l.length / n) (l.take n)).flatten = l := by
        simpa using cc
      have hp0 := per_not h1 h2 cc
      have hlt : n < l.length := by
        by_cases z : n = l.length
        · rw [z, per_self hne] at hp0
          cases hp0
        · omega
      refine ⟨fun σ' H' => ∃ n' : Nat, n < n' ∧ σ' = [some (.ref a), some (.int (n' : Nat))] ∧ Same H H' ∧ 1 ≤ n' ∧ n' ≤ l.length ∧ (∀ j, j < n' → per l j = false),
        fun σ' H' ⟨n', g0, g1, g2, g3, g4, g5⟩ => ⟨_, (by omega : l.length - n' < l.length - n), n', g1, g2, g3, g4, g5, rfl⟩, ?_⟩
      refine ⟨_, rfl, _, _, rfl, rfl, n + 1, by omega, ?_, s1.trans s3, by omega, by omega, fun j hj => ?_⟩
      · rfl
      · by_cases z : j < n
        · exact h3 j z
        · have e : j = n := by omega
          subst e
          exact hp0
    · have cc : (List.replicate (l.length / n) (l.take n)).flatten = l := by
        simpa using cc
      exact ⟨_, rfl, k _ n (s1.trans s3) h1 h2 ((per_same h1 h2).mpr cc) h3⟩
/-! ### unit -/
def unitOut (l : List Nat) : List Int := if isRow l = false then [-1] else (if (Uw22.unit l).length = 0 then (0 : Int) else ((l.length / (Uw22.unit l).length : Nat) : Int)) :: (Uw22.unit l).map fun (n : Nat) => (n : Int)
def spUnit (K : PySem.W.Frag) : Sp := fun vs H Q _ => ∃ (a : Addr) (l : List Nat), vs = [.ref a] ∧ SqL K H a (cutsV l) ∧ l.length ≤ 50 ∧ Out H (unitOut l) Q
theorem scUnit : FnScope ["cuts", "length"] ["cuts"] (defScope sUnit) := ⟨rfl, rfl, rfl, by decide +kernel, rfl, by decide +kernel, by decide +kernel⟩
theorem ok_unit {f fR fL : Addr} {fd fdR fdL : FuncData} (F : Fun K "unit" "unit" sUnit f fd) (T : Tx K mg aD aW aS)
    (GR : FnOk P w K mg base CX0 1 fR fdR ["numbers"] (spIsRow K)) (CR : Cal K mg "is_row" fR fdR ["numbers"]) (GL : FnOk P w K mg base CX0 1 fL fdL ["row"] (spUnitLen K)) (CL : Cal K mg "unit_length" fL fdL ["row"]) : FnOk P w K mg base CX0 2 f fd ["cuts"] (spUnit K) := by
  refine F.ok scUnit (fun vs H Q E h => ?_) (fun cdv A outer s H vs Q E hr h => ?_)
  · obtain ⟨a, l, rfl, _⟩ := h
    rfl
  · obtain ⟨a, l, rfl, hS, hl, k⟩ := h
    refine ⟨_, pss_cons (ps_if (pt_not (pt_val (pe_call GR hr rfl CR.mg CR.kp CR.bd .nil pass0 (pa_cons (pv 0) pa_nil)))) (pss_one (ps_ret (pe_lst (pa_cons (pe_gi rfl T.iOut) pa_nil)))) pss_nil)
      (pss_cons (ps_if (pt_cmpR op_eq (pe_callB call_len_seq rfl T.bLen PySem.boot_len (pa_cons (pv 0) pa_nil)) pe_int (nomark _)) (pss_one (ps_ret (pe_lst (pa_cons pe_int pa_nil)))) pss_nil)
      (pss_cons (ps_set (i := 1) scUnit.nd rfl (Or.inl rfl) (pe_call GL hr rfl CL.mg CL.kp CL.bd .nil pass0 (pa_cons (pv 0) pa_nil)))
      (pss_one (ps_ret (pe_op op_cat (pe_lst (pa_cons (pe_op op_fdiv (pe_callB call_len_seq rfl T.bLen PySem.boot_len (pa_cons (pv 0) pa_nil)) (pv 1)) pa_nil)) (pe_slice sl_list (pv 0) po_none (po_some (pv 1)))))))), ?_⟩
    have out1 : ∀ {H1 : Hp} {z : Int}, Same H H1 → unitOut l = [z] → ∀ p, H1 p = none → Q (.ref p) (upd H1 p (.lst [.int z])) := fun {H1 z} s1 e p hp => by
      refine k _ p (Same.new s1 hp) (Same.free s1 hp) ?_
      rw [upd_same, e]
      rfl
    refine ⟨_, rfl, a, l, rfl, hS, by omega, fun H1 s1 => ⟨_, rfl, ?_⟩⟩
    cases e : isRow l with
    | false =>
      refine iteT ⟨by show 1 ≤ sizeLine; decide, out1 s1 ?_⟩
      unfold unitOut
      rw [if_pos e]
    | true =>
      have rk := isRow_ok e
      have hS1 := s1.seq hS
      refine iteF ⟨_, rfl, a, _, rfl, .inl hS1, ?_⟩
      rw [cutsV_len]
      refine ⟨rfl, _, rfl, ?_⟩
      have eo : unitOut l = (if (Uw22.unit l).length = 0 then (0 : Int) else ((l.length / (Uw22.unit l).length : Nat) : Int)) :: (Uw22.unit l).map fun (n : Nat) => (n : Int) := by
        unfold unitOut
        rw [if_neg (by rw [e]; decide)]
      by_cases hne : l = []
      · subst hne
        refine iteT ⟨by show 1 ≤ sizeLine; decide, out1 s1 ?_⟩
        rw [eo, unit_nil]
        rfl
      have hpos : 1 ≤ l.length := List.length_pos_iff.mpr hne
      rw [decide_eq_false (show ¬ V.int ((l.length : Nat) : Int) = V.int 0 from fun z => by
        have z2 : ((l.length : Nat) : Int) = 0 := by injection z
        omega)]
      refine iteF ?_
      refine ⟨_, rfl, a, l, rfl, hS1, rk.len, hne, fun H2 n s2 h1 h2 h3 h4 => ?_⟩
      have hS2 := s2.seq hS1
      refine ⟨_, rfl, a, _, rfl, .inl hS2, _, rfl, _, _, rfl, rfl, ⟨by omega, by omega⟩, ?_⟩
      rw [cutsV_len]
      refine ⟨by show 1 ≤ sizeLine; decide, fun p hp => ?_⟩
      have s3 : Same H2 (upd H2 p (.lst [.int (((l.length : Nat) : Int) / ((n : Nat) : Int))])) := Same.ofNone hp
      refine ⟨_, rfl, _, rfl, _, rfl, a, _, rfl, s3.seq hS2, fun q hq => ?_⟩
      rw [cutV_first l h2]
      have s4 := Same.new s3 (o := .lst (cutsV (l.take n))) hq
      have npq : p ≠ q := ne_of_none upd_same hq
      refine ⟨p, q, [V.int (((l.length : Nat) : Int) / ((n : Nat) : Int))], _, rfl, rfl, ?_, upd_same, ?_, fun r hr' => ?_⟩
      · rw [upd_ne npq, upd_same]
      · rw [cutsV_len, List.length_take]
        exact Nat.le_of_lt (small50 (by show 1 + min n l.length ≤ 1000; omega))
      · have s5 := (s1.trans s2).trans s4
        refine k _ r (Same.new s5 hr') (Same.free s5 hr') ?_
        rw [upd_same, eo, unit_of h2 h3 h4, List.length_take, Nat.min_eq_left h2, if_neg (by omega)]
        have ed : ((l.length : Nat) : Int) / ((n : Nat) : Int) = ((l.length / n : Nat) : Int) := by omega
        rw [ed]
        show some (HO.lst (V.int ((l.length / n : Nat) : Int) :: cutsV (l.take n))) = some (HO.lst (V.int ((l.length / n : Nat) : Int) :: ((l.take n).map fun (n : Nat) => (n : Int)).map V.int))
        rw [List.map_map]
        rfl
end
end Net

end
section
set_option Elab.async false
set_option linter.all false
set_option maxRecDepth 100000
set_option maxHeartbeats 4000000
namespace Net
open PySem PySem.Spec PyProof.Rows L2 Nc
theorem drop_cut {l : List Nat} {i c : Nat} (h : l[i]? = some c) : l.drop i = c :: l.drop (i + 1) := by
  obtain ⟨hi, e⟩ := List.getElem?_eq_some_iff.mp h
  rw [List.drop_eq_getElem_cons hi, e]
theorem take_deep {l : List Nat} {i c : Nat} (h : l[i]? = some c) : Uw22.deepOf (l.take (i + 1)) = Uw22.deepOf (l.take i) + Uw22.deep c := by
  have e := sum_deep (l.take (i + 1))
  rw [take_snoc h, List.map_append, List.sum_append, sum_deep] at e
  rw [take_snoc h]
  have e2 : (([c] : List Nat).map fun c => ((Uw22.deep c : Nat) : Int)).sum = ((Uw22.deep c : Nat) : Int) := by simp
  rw [e2] at e
  omega
theorem take_in {l : List Nat} {i c : Nat} (h : l[i]? = some c) : Uw22.inOf (l.take (i + 1)) = Uw22.inOf (l.take i) + Uw22.in_ c := by
  have e := sum_in (l.take (i + 1))
  rw [take_snoc h, List.map_append, List.sum_append, sum_in] at e
  rw [take_snoc h]
  have e2 : (([c] : List Nat).map fun c => ((Uw22.in_ c : Nat) : Int)).sum = ((Uw22.in_ c : Nat) : Int) := by simp
  rw [e2] at e
  omega
theorem max_nat (a b : Nat) : (if (b : Int) > (a : Int) then (b : Int) else (a : Int)) = ((max a b : Nat) : Int) := by
  by_cases h : a < b
  · rw [if_pos (by omega)]
    omega
  · rw [if_neg (by omega)]
    omega
section
variable {P : Program} {w : World} {K : PySem.W.Frag} {mg : Str → Option Value} {base : Heap} {aD aW aS : Addr}
/-! ### how_uneven -/
def spHowUn (K : PySem.W.Frag) : Sp := fun vs H Q _ => ∃ (a g : Addr) (l : List Nat) (d i : Nat), vs = [.ref a, .ref g] ∧ SqL K H a (cutsV l) ∧ SqT K H g [.int d, .int i] ∧ RowOk l ∧ ∀ H' : Hp, Same H H' → Q (.int (Uw22.uneven d i l : Nat)) H'
theorem scHowUn : FnScope ["row", "goal", "place", "uneven", "cut"] ["row", "goal"] (defScope sHowUn) := ⟨rfl, rfl, rfl, by decide +kernel, rfl, by decide +kernel, by decide +kernel⟩
theorem ok_howUn {f fN fO : Addr} {fd fdN fdO : FuncData} (F : Fun K "how_uneven" "how_uneven" sHowUn f fd) (T : Tx K mg aD aW aS)
    (GO : FnOk P w K mg base CX0 1 fO fdO ["place", "goal"] (spOff K)) (CO : Cal K mg "off_line" fO fdO ["place", "goal"])
    (GN : FnOk P w K mg base CX0 1 fN fdN ["place"] (spOnward K)) (CN : Cal K mg "places_onward" fN fdN ["place"]) : FnOk P w K mg base CX0 2 f fd ["row", "goal"] (spHowUn K) := by
  refine F.ok scHowUn (fun vs H Q E h => ?_) (fun cdv A outer s H vs Q E hr h => ?_)
  · obtain ⟨a, g, l, d, i, rfl, _⟩ := h
    rfl
  · obtain ⟨a, g, l, d, i, rfl, hS, hg, rk, k⟩ := h
    have hlen := rk.len
    refine ⟨_, pss_cons (ps_set (i := 2) scHowUn.nd rfl (Or.inl rfl) (pe_gr rfl T.mS))
      (pss_cons (ps_set (i := 3) scHowUn.nd rfl (Or.inl rfl) (pe_call GO hr rfl CO.mg CO.kp CO.bd .nil pass0 (pa_cons (pv 2) (pa_cons (pv 1) pa_nil))))
      (pss_cons (ps_for PassesOwn.never rfl (pi_list (pv 0)) (pg_name (i := 4) scHowUn.nd rfl (Or.inl rfl))
        (pss_cons (ps_set (i := 2) scHowUn.nd rfl (Or.inl rfl) (pe_ix ix_list (pe_call GN hr rfl CN.mg CN.kp CN.bd .nil pass0 (pa_cons (pv 2) pa_nil)) (pv 4) (fun _ _ => rfl)))
        (pss_one (ps_set (i := 3) scHowUn.nd rfl (Or.inl rfl) (pe_callB (call_max2 rfl) rfl T.bMax boot_max (pa_cons (pv 3) (pa_cons (pe_call GO hr rfl CO.mg CO.kp CO.bd .nil pass0 (pa_cons (pv 2) (pa_cons (pv 1) pa_nil))) pa_nil)))))))
      (pss_one (ps_ret (pv 3))))), ?_⟩
    refine ⟨_, rfl, _, rfl, aS, g, 0, 0, d, i, rfl, T.tS H, hg, Nat.zero_le _, Nat.zero_le _, ?_⟩
    refine ⟨_, rfl, a, rfl, ⟨_, hS⟩, ?_⟩
    refine for_list (xs := cutsV l) (fun j σ' H' => ∃ (p : Addr) (m : Nat) (v4 : Option V), σ' = [some (.ref a), some (.ref g), some (.ref p), some (.int (m : Nat)), v4] ∧ Same H H' ∧ SqT K H' p [.int (Uw22.deepOf (l.take j) : Nat), .int (Uw22.inOf (l.take j) : Nat)] ∧
      Uw22.off d i (Uw22.deepOf (l.take j)) (Uw22.inOf (l.take j)) ≤ m ∧ max m (cost d i (Uw22.deepOf (l.take j)) (Uw22.inOf (l.take j)) (l.drop j)) = Uw22.uneven d i l) ?_ ?_ ?_ ?_
    · refine ⟨aS, _, none, rfl, Same.refl H, T.tS H, Nat.le_refl _, ?_⟩
      rw [uneven_cost]
      show max (Uw22.off d i 0 0) (cost d i 0 0 l) = _
      have := cost_ge d i 0 0 l
      omega
    · rintro j σ' H' _ ⟨p, m, v4, _, s1, _⟩
      exact s1.seq hS
    · rintro j x σ' H1 hx ⟨p, m, v4, rfl, s1, hp, hm, hc⟩
      obtain ⟨c, e, rfl⟩ := cutsV_get hx
      have hc2 := rk.cuts c (List.mem_of_getElem? e)
      refine ⟨_, rfl, p, _, _, rfl, hp, fun H2 q as s2 hq0 hq hP => ?_⟩
      obtain ⟨b, hb, hbt⟩ := hP.at_ c (Uw22.deepOf (l.take j) + Uw22.deep c, Uw22.inOf (l.take j) + Uw22.in_ c) (by
        unfold onw
        rw [List.getElem?_map, List.getElem?_range (by omega)]
        rfl)
      refine ⟨_, rfl, q, _, _, _, rfl, rfl, SqL.of hq, atI_nat (v := V.ref b) (by rw [List.getElem?_map, hb]; rfl), ?_⟩
      have s12 := s1.trans s2
      have hb1 : SqT K H2 b [.int (Uw22.deepOf (l.take (j + 1)) : Nat), .int (Uw22.inOf (l.take (j + 1)) : Nat)] := by
        rw [take_deep e, take_in e]
        exact SqT.of hbt
      have x1 : Uw22.deepOf (l.take (j + 1)) ≤ 1000 := by
        have := deepOf_le (l.take (j + 1))
        rw [List.length_take] at this
        omega
      have y1 : Uw22.inOf (l.take (j + 1)) ≤ 1000 := by
        have := inOf_le (l.take (j + 1)) fun z hz => rk.cuts z (List.mem_of_mem_take hz)
        rw [List.length_take] at this
        omega
      refine ⟨_, rfl, _, rfl, _, rfl, b, g, _, _, d, i, rfl, hb1, Same.tup s12 hg, x1, y1, _, _, rfl, ?_⟩
      refine ⟨b, max m (Uw22.off d i (Uw22.deepOf (l.take (j + 1))) (Uw22.inOf (l.take (j + 1)))), some (.int (c : Nat)), ?_, s12, hb1, Nat.le_max_right .., ?_⟩
      · rw [max_nat]
        rfl
      · rw [← hc, drop_cut e, cost_cons, take_deep e, take_in e]
        have := cost_ge d i (Uw22.deepOf (l.take j) + Uw22.deep c) (Uw22.inOf (l.take j) + Uw22.in_ c) (l.drop (j + 1))
        omega
    · rintro σ' H1 ⟨p, m, v4, rfl, s1, hp, hm, hc⟩
      refine ⟨_, rfl, ?_⟩
      rw [cutsV_len, List.take_length] at hm
      rw [cutsV_len, List.take_length, List.drop_length, cost_nil, Nat.max_eq_left hm] at hc
      rw [hc]
      exact k H1 s1
/-! ### check -/
def checkOut (d i : Nat) (l : List Nat) : List Int := if isRow l = false ∨ 1000 < d ∨ 1000 < i then [-1] else if Uw22.deepOf l = d ∧ Uw22.inOf l = i then [((Uw22.uneven d i l : Nat) : Int)] else [-6, ((Uw22.deepOf l : Nat) : Int), ((Uw22.inOf l : Nat) : Int)]
def spCheck (K : PySem.W.Frag) : Sp := fun vs H Q _ => ∃ (a : Addr) (l : List Nat) (d i : Nat), vs = [.int d, .int i, .ref a] ∧ SqL K H a (cutsV l) ∧ l.length ≤ 50 ∧ Out H (checkOut d i l) Q
theorem scCheck : FnScope ["depth", "way_in", "cuts", "goal", "end"] ["depth", "way_in", "cuts"] (defScope sCheck) := ⟨rfl, rfl, rfl, by decide +kernel, rfl, by decide +kernel, by decide +kernel⟩
theorem ok_check {f fR fD fI fU : Addr} {fd fdR fdD fdI fdU : FuncData} (F : Fun K "check" "check" sCheck f fd) (T : Tx K mg aD aW aS)
    (GR : FnOk P w K mg base CX0 1 fR fdR ["numbers"] (spIsRow K)) (CR : Cal K mg "is_row" fR fdR ["numbers"]) (GD : FnOk P w K mg base CX0 1 fD fdD ["row"] (spTab K Uw22.deep)) (CD : Cal K mg "how_deep" fD fdD ["row"])
    (GI : FnOk P w K mg base CX0 1 fI fdI ["row"] (spTab K Uw22.in_)) (CI : Cal K mg "how_far_in" fI fdI ["row"])
    (GU : FnOk P w K mg base CX0 2 fU fdU ["row", "goal"] (spHowUn K)) (CU : Cal K mg "how_uneven" fU fdU ["row", "goal"]) : FnOk P w K mg base CX0 3 f fd ["depth", "way_in", "cuts"] (spCheck K) := by
  refine F.ok scCheck (fun vs H Q E h => ?_) (fun cdv A outer s H vs Q E hr h => ?_)
  · obtain ⟨a, l, d, i, rfl, _⟩ := h
    rfl
  · obtain ⟨a, l, d, i, rfl, hS, hl, k⟩ := h
    have hr1 : Room 1 _ := hr.mono (by decide)
    have hu64 := hr.units
    refine ⟨_, pss_cons (ps_if (PW.pt (pw_or (pt_not (pt_val (pe_call GR hr1 rfl CR.mg CR.kp CR.bd .nil pass0 (pa_cons (pv 2) pa_nil)))) (pw_or (pt_cmpR op_gt (pv 0) (pe_gi rfl T.iFarC) (nomark _)) (pw_or1 (pt_cmpR op_gt (pv 1) (pe_gi rfl T.iFarC) (nomark _)))))) (pss_one (ps_ret (pe_lst (pa_cons (pe_gi rfl T.iOut) pa_nil)))) pss_nil)
      (pss_cons (ps_set (i := 3) scCheck.nd rfl (Or.inl rfl) (pe_tup (pa_cons (pv 0) (pa_cons (pv 1) pa_nil))))
      (pss_cons (ps_set (i := 4) scCheck.nd rfl (Or.inl rfl) (pe_tup (pa_cons (pe_call GD hr1 rfl CD.mg CD.kp CD.bd .nil pass0 (pa_cons (pv 2) pa_nil)) (pa_cons (pe_call GI hr1 rfl CI.mg CI.kp CI.bd .nil pass0 (pa_cons (pv 2) pa_nil)) pa_nil))))
      (pss_cons (ps_if (pt_cmpR (op_neD hu64) (pv 4) (pv 3) (nomark _)) (pss_one (ps_ret (pe_lst (pa_cons (pe_gi rfl T.iElse) (pa_cons (pe_ix ix_tup (pv 4) pe_int (fun _ _ => rfl)) (pa_cons (pe_ix ix_tup (pv 4) pe_int (fun _ _ => rfl)) pa_nil)))))) pss_nil)
      (pss_one (ps_ret (pe_lst (pa_cons (pe_call GU hr rfl CU.mg CU.kp CU.bd .nil pass0 (pa_cons (pv 2) (pa_cons (pv 3) pa_nil))) pa_nil))))))), ?_⟩
    have out1 : ∀ {H1 : Hp} {z : Int}, Same H H1 → checkOut d i l = [z] → ∀ p, H1 p = none → Q (.ref p) (upd H1 p (.lst [.int z])) := fun {H1 z} s1 e p hp => by
      refine k _ p (Same.new s1 hp) (Same.free s1 hp) ?_
      rw [upd_same, e]
      rfl
    have far : isRow l = false ∨ 1000 < d ∨ 1000 < i → checkOut d i l = [-1] := fun h => by
      unfold checkOut
      rw [if_pos h]
    refine ⟨_, rfl, a, l, rfl, hS, by omega, fun H1 s1 => ⟨_, rfl, ?_⟩⟩
    cases e : isRow l with
    | false => exact iteT (iteT ⟨by show 1 ≤ sizeLine; decide, out1 s1 (far (.inl e))⟩)
    | true =>
    refine iteF ⟨_, rfl, _, _, rfl, rfl, _, rfl, ?_⟩
    by_cases hd : 1000 < d
    · rw [decide_eq_true (show (1000 : Int) < (d : Int) by omega)]
      exact iteT (iteT ⟨by show 1 ≤ sizeLine; decide, out1 s1 (far (.inr (.inl hd)))⟩)
    rw [decide_eq_false (show ¬ (1000 : Int) < (d : Int) by omega)]
    refine iteF ⟨_, rfl, _, _, rfl, rfl, _, rfl, ?_⟩
    by_cases hi : 1000 < i
    · rw [decide_eq_true (show (1000 : Int) < (i : Int) by omega)]
      exact iteT ⟨by show 1 ≤ sizeLine; decide, out1 s1 (far (.inr (.inr hi)))⟩
    rw [decide_eq_false (show ¬ (1000 : Int) < (i : Int) by omega)]
    have hn : ¬ (isRow l = false ∨ 1000 < d ∨ 1000 < i) := by
      rw [e]
      simp
      omega
    have rk := isRow_ok e
    refine iteF ⟨_, rfl, _, rfl, (by show 2 ≤ sizeLine; decide), fun g hg => ?_⟩
    have s2 : Same H (upd H1 g (.tup [.int d, .int i])) := Same.new s1 hg
    have hg2 : (upd H1 g (.tup [.int d, .int i])) g = some (.tup [.int d, .int i]) := upd_same
    generalize (upd H1 g (.tup [.int d, .int i])) = H2 at s2 hg2
    refine ⟨_, rfl, a, l, rfl, s2.seq hS, rk.cuts, hl, fun H3 s3 => ?_⟩
    have s23 := s2.trans s3
    refine ⟨_, rfl, a, l, rfl, s23.seq hS, rk.cuts, hl, fun H4 s4 => ⟨by show 2 ≤ sizeLine; decide, fun n hn4 => ?_⟩⟩
    rw [sum_deep, sum_in]
    have s24 := s23.trans s4
    have s5 := Same.new s24 (o := .tup [.int ((Uw22.deepOf l : Nat) : Int), .int ((Uw22.inOf l : Nat) : Int)]) hn4
    have hg5 : (upd H4 n (.tup [.int ((Uw22.deepOf l : Nat) : Int), .int ((Uw22.inOf l : Nat) : Int)])) g = some (.tup [.int d, .int i]) := (Same.ofNone hn4) _ _ (s4 _ _ (s3 _ _ hg2))
    have hn5 : (upd H4 n (.tup [.int ((Uw22.deepOf l : Nat) : Int), .int ((Uw22.inOf l : Nat) : Int)])) n = some (.tup [.int ((Uw22.deepOf l : Nat) : Int), .int ((Uw22.inOf l : Nat) : Int)]) := upd_same
    generalize (upd H4 n (.tup [.int ((Uw22.deepOf l : Nat) : Int), .int ((Uw22.inOf l : Nat) : Int)])) = H5 at s5 hg5 hn5
    refine ⟨_, rfl, _, rfl, _, _, Dp.pl (SqT.of hn5), Dp.pl (SqT.of hg5), shaped_pl _ _, shaped_pl _ _, _, rfl, ?_⟩
    rw [eqv_pl]
    refine ite2 (fun cc => ?_) (fun cc => ?_)
    · have cc : ¬ (Uw22.deepOf l = d ∧ Uw22.inOf l = i) := by
        simp at cc
        omega
      refine ⟨_, rfl, n, _, _, _, rfl, rfl, SqT.of hn5, atI_nat (j := 0) rfl, _, rfl, n, _, _, _, rfl, rfl, SqT.of hn5, atI_nat (j := 1) rfl, (by show 3 ≤ sizeLine; decide), fun p hp => ?_⟩
      refine k _ p (Same.new s5 hp) (Same.free s5 hp) ?_
      rw [upd_same]
      unfold checkOut
      rw [if_neg hn, if_neg cc]
      rfl
    · have cc : Uw22.deepOf l = d ∧ Uw22.inOf l = i := by
        simp at cc
        omega
      refine ⟨_, rfl, _, rfl, a, g, l, d, i, rfl, s5.seq hS, SqT.of hg5, rk, fun H6 s6 => ⟨by show 1 ≤ sizeLine; decide, out1 (s5.trans s6) ?_⟩⟩
      unfold checkOut
      rw [if_neg hn, if_pos cc]
end
end Net

end
section
set_option Elab.async false
set_option linter.all false
set_option maxRecDepth 100000
set_option maxHeartbeats 4000000
namespace Net
open PySem PySem.Spec PyProof.Rows L2 Nc
theorem rep_cuts (k y : Nat) : (List.replicate k [V.int (y : Nat)]).flatten = cutsV (List.replicate k y) := cutsV_flat k [y] |>.trans (by
  congr 1
  induction k with
  | zero => rfl
  | succ k ih =>
    rw [List.replicate_succ, List.flatten_cons, ih, List.replicate_succ]
    rfl)
theorem cutsV_app (a b : List Nat) : cutsV (a ++ b) = cutsV a ++ cutsV b := List.map_append
section
variable {P : Program} {w : World} {K : PySem.W.Frag} {mg : Str → Option Value} {base : Heap} {aD aW aS : Addr}
/-! ### ways_in_by_depth -/
def spWays (K : PySem.W.Frag) : Sp := fun vs H Q _ => ∃ (a : Addr) (l : List Nat), vs = [.ref a] ∧ SqL K H a (cutsV l) ∧ RowOk l ∧ ∀ (H' : Hp) (q : Addr), Same H H' → H q = none → H' q = some (.lst (cutsV (waysFrom 0 l))) → Q (.ref q) H'
theorem scWays : FnScope ["row", "ways_in", "way_in", "cut"] ["row"] (defScope sWays) := ⟨rfl, rfl, rfl, by decide +kernel, rfl, by decide +kernel, by decide +kernel⟩
theorem tab_deep {H : Hp} (T : Tx K mg aD aW aS) {c : Nat} (hc : c ≤ 2) : ∃ xs, SqT K H aD xs ∧ xs[c]? = some (V.int (Uw22.deep c : Nat)) := ⟨_, T.tD H, by
  match c, hc with
  | 0, _ => rfl
  | 1, _ => rfl
  | 2, _ => rfl⟩
theorem tab_in {H : Hp} (T : Tx K mg aD aW aS) {c : Nat} (hc : c ≤ 2) : ∃ xs, SqT K H aW xs ∧ xs[c]? = some (V.int (Uw22.in_ c : Nat)) := ⟨_, T.tW H, by
  match c, hc with
  | 0, _ => rfl
  | 1, _ => rfl
  | 2, _ => rfl⟩
theorem ok_ways {f : Addr} {fd : FuncData} (F : Fun K "ways_in_by_depth" "ways_in_by_depth" sWays f fd) (T : Tx K mg aD aW aS) : FnOk P w K mg base CX0 1 f fd ["row"] (spWays K) := by
  refine F.ok scWays (fun vs H Q E h => ?_) (fun cdv A outer s H vs Q E hr h => ?_)
  · obtain ⟨a, l, rfl, _⟩ := h
    rfl
  · obtain ⟨a, l, rfl, hS, rk, k⟩ := h
    have hlen := rk.len
    refine ⟨_, pss_cons (ps_set (i := 1) scWays.nd rfl (Or.inl rfl) (pe_lst pa_nil))
      (pss_cons (ps_set (i := 2) scWays.nd rfl (Or.inl rfl) pe_int)
      (pss_cons (ps_for PassesOwn.never rfl (pi_list (pv 0)) (pg_name (i := 3) scWays.nd rfl (Or.inl rfl))
        (pss_cons (ps_expr (pe_bm PySem.F.plainAttrs_list PySem.F.slot_list_extend PySem.F.type_list_extend mt_extend (pv 1) (pa_cons (pe_op op_rep (pe_lst (pa_cons (pv 2) pa_nil)) (pe_ix ix_tup (pe_gr rfl T.mD) (pv 3) (fun _ _ => rfl))) pa_nil)))
        (pss_one (ps_set (i := 2) scWays.nd rfl (Or.inl rfl) (pe_op op_add (pv 2) (pe_ix ix_tup (pe_gr rfl T.mW) (pv 3) (fun _ _ => rfl)))))))
      (pss_cons (ps_expr (pe_bm PySem.F.plainAttrs_list PySem.F.slot_list_append PySem.F.type_list_append mt_append (pv 1) (pa_cons (pv 2) pa_nil)))
      (pss_one (ps_ret (pv 1)))))), ?_⟩
    refine ⟨Nat.zero_le _, fun lw hlw => ?_⟩
    have s0 : Same H (upd H lw (.lst [])) := Same.ofNone hlw
    refine ⟨_, rfl, a, rfl, ⟨_, s0.seq hS⟩, ?_⟩
    refine for_list (xs := cutsV l) (fun j σ' H' => ∃ (acc : List Nat) (v3 : Option V), σ' = [some (.ref a), some (.ref lw), some (.int (Uw22.inOf (l.take j) : Nat)), v3] ∧ Same H H' ∧ H' lw = some (.lst (cutsV acc)) ∧ acc ++ waysFrom (Uw22.inOf (l.take j)) (l.drop j) = waysFrom 0 l) ?_ ?_ ?_ ?_
    · exact ⟨[], none, rfl, s0, upd_same, rfl⟩
    · rintro j σ' H' _ ⟨acc, v3, _, s1, _⟩
      exact s1.seq hS
    · rintro j x σ' H1 hx ⟨acc, v3, rfl, s1, h1, hc⟩
      obtain ⟨c, e, rfl⟩ := cutsV_get hx
      have hc2 := rk.cuts c (List.mem_of_getElem? e)
      have hsz : acc.length + Uw22.deep c ≤ 1000 := by
        have z := congrArg List.length hc
        rw [List.length_append, ways_len, ways_len] at z
        have := deepOf_le l
        have := deep_le c
        omega
      refine ⟨_, rfl, .inl ⟨rfl, _, SqL.of h1⟩, _, rfl, (by show 1 ≤ sizeLine; decide), fun p hp => ?_⟩
      have s2 : Same H1 (upd H1 p (.lst [.int (Uw22.inOf (l.take j) : Nat)])) := Same.ofNone hp
      obtain ⟨xs, q1, q2⟩ := tab_deep (H := upd H1 p (.lst [.int (Uw22.inOf (l.take j) : Nat)])) T hc2
      refine ⟨_, rfl, aD, xs, _, _, rfl, rfl, q1, atI_nat q2, ?_⟩
      refine ⟨p, _, _, rfl, rfl, upd_same, by omega, by have := deep_le c; omega, ?_, fun q hq => ?_⟩
      · rw [Int.toNat_natCast]
        exact Nat.le_of_lt (small50 (by show 1 * Uw22.deep c ≤ 1000; omega))
      rw [Int.toNat_natCast, rep_cuts]
      have s3 := Same.new s2 (o := .lst (cutsV (List.replicate (Uw22.deep c) (Uw22.inOf (l.take j))))) hq
      refine ⟨lw, q, _, _, rfl, rfl, s3 _ _ h1, upd_same, ?_, ?_⟩
      · rw [cutsV_len, cutsV_len, List.length_replicate]
        exact Nat.le_of_lt (small50 hsz)
      obtain ⟨xs, q1, q2⟩ := tab_in (H := upd (upd (upd H1 p (.lst [.int (Uw22.inOf (l.take j) : Nat)])) q (.lst (cutsV (List.replicate (Uw22.deep c) (Uw22.inOf (l.take j)))))) lw (.lst (cutsV acc ++ cutsV (List.replicate (Uw22.deep c) (Uw22.inOf (l.take j)))))) T hc2
      refine ⟨_, rfl, _, rfl, aW, xs, _, _, rfl, rfl, q1, atI_nat q2, _, _, rfl, rfl, ?_⟩
      refine ⟨acc ++ List.replicate (Uw22.deep c) (Uw22.inOf (l.take j)), some (.int (c : Nat)), ?_, Same.chg (s1.trans s3) hlw rfl, ?_, ?_⟩
      · rw [take_in e]
        rfl
      · rw [upd_same, cutsV_app]
      · rw [take_in e, ← hc, drop_cut e, List.append_assoc]
        rfl
    · rintro σ' H1 ⟨acc, v3, rfl, s1, h1, hc⟩
      rw [cutsV_len, List.take_length, List.drop_length] at hc
      rw [cutsV_len, List.take_length]
      refine ⟨_, rfl, .inl ⟨rfl, _, SqL.of h1⟩, _, rfl, lw, _, _, rfl, rfl, h1, ?_, ?_⟩
      · rw [cutsV_len]
        have z := congrArg List.length hc
        rw [List.length_append, ways_len, ways_len] at z
        have := deepOf_le l
        exact small50 (by omega)
      · refine ⟨_, rfl, k _ lw (Same.chg s1 hlw rfl) hlw ?_⟩
        rw [upd_same, ← hc, cutsV_app]
        rfl
/-! ### widths_by_depth -/
theorem min_deep (S : Uw22.Panel) {j : Nat} (h : j < S.deep_ + 1) : j ≤ Uw22.deepOf S.left ∧ j ≤ Uw22.deepOf S.right := by
  unfold Uw22.Panel.deep_ at h
  omega
theorem cutsV_at {l : List Nat} {j n : Nat} (h : l[j]? = some n) : (cutsV l)[j]? = some (V.int (n : Nat)) := by
  unfold cutsV
  rw [List.getElem?_map, h]
  rfl
def spPBy (C : Addr) : Sp := fun vs H Q _ => ∃ (p : Addr) (B : Addr → Prop) (S : Uw22.Panel), vs = [.ref p] ∧ PanAt C B H p S ∧ ∀ (H' : Hp) (q : Addr), Same H H' → H q = none → H' q = some (.lst (intsV (byDepth S (S.deep_ + 1)))) → Q (.ref q) H'
theorem scPBy : FnScope ["self", "left_in", "right_in", "left", "right"] ["self"] (defScope sPBy) := ⟨rfl, rfl, rfl, by decide +kernel, rfl, by decide +kernel, by decide +kernel⟩
theorem ok_pBy {f C fW : Addr} {fd fdW : FuncData} (F : Fun K "widths_by_depth" "Panel.widths_by_depth" sPBy f fd) (T : TxP K C) (M : Tx K mg aD aW aS)
    (GW : FnOk P w K mg base CX0 1 fW fdW ["row"] (spWays K)) (CW : Cal K mg "ways_in_by_depth" fW fdW ["row"]) : FnOk P w K mg base CX0 2 f fd ["self"] (spPBy C) := by
  refine F.ok scPBy (fun vs H Q E h => ?_) (fun cdv A outer s H vs Q E hr h => ?_)
  · obtain ⟨p, B, S, rfl, _⟩ := h
    rfl
  · obtain ⟨p, B, S, rfl, hP, k⟩ := h
    refine ⟨_, pss_cons (ps_set (i := 1) scPBy.nd rfl (Or.inl rfl) (pe_call GW hr rfl CW.mg CW.kp CW.bd .nil pass0 (pa_cons (pe_fld (pv 0) rfl) pa_nil)))
      (pss_cons (ps_set (i := 2) scPBy.nd rfl (Or.inl rfl) (pe_call GW hr rfl CW.mg CW.kp CW.bd .nil pass0 (pa_cons (pe_fld (pv 0) rfl) pa_nil)))
      (pss_one (ps_ret (pe_lc (own := [("left", 3), ("right", 4)]) (g := gTup K 2 (gCons (gName 3) (gCons (gName 4) gNil)))
        (te := tOp (rI0 fun i j => .int (i - j)) (tOp (rI0 fun i j => .int (i - j)) (tFld K (tVar 0) "width") (tVar 3)) (tVar 4))
        rfl scPBy.nd (pi_zip rfl M.bZip (pa_cons (pv 1) (pa_cons (pv 2) pa_nil))) (blkOk_by (by rfl))
        (fun _ _ _ _ _ => pg_tup rfl (pgs_cons (pg_name (i := 3) scPBy.nd rfl (Or.inl rfl)) (pgs_cons (pg_name (i := 4) scPBy.nd rfl (Or.inl rfl)) pgs_nil))) (fun _ _ _ _ _ => pts_nil)
        (fun _ _ _ _ _ => pe_op op_sub (pe_op op_sub (pe_fld (pv 0) rfl) (pv 3)) (pv 4)))))), ?_⟩
    obtain ⟨⟨dx, al, ar, hp, hal, har, _⟩, hw, hl, hr'⟩ := hP
    have hl40 := hl.len
    have hr40 := hr'.len
    refine ⟨_, rfl, p, C, dx, _, _, rfl, hp, T.cl, T.nL, panF_left _ _ _, al, S.left, rfl, SqL.of hal, hl, fun H1 q1 s1 hq1 h1 => ?_⟩
    refine ⟨_, rfl, p, C, dx, _, _, rfl, s1 _ _ hp, T.cl, T.nR, panF_right _ _ _, ar, S.right, rfl, SqL.of (s1 _ _ har), hr', fun H2 q2 s2 hq2 h2 => ?_⟩
    have h12 := s2 _ _ h1
    have hp2 := s2 _ _ (s1 _ _ hp)
    refine ⟨_, rfl, _, rfl, q1, q2, _, _, rfl, SqL.of h12, SqL.of h2, fun D hD => ?_⟩
    refine lc_gen (n := S.deep_ + 1) (fun j H' => Same H2 H' ∧ H' D = some (.lst (intsV (byDepth S j)))) ⟨Same.ofNone hD, upd_same⟩ (fun j H' hj h => ?_) (fun H' h => ⟨_, _, SqL.of (h.1 _ _ h12), SqL.of (h.1 _ _ h2), ?_⟩) ?_ ?_
    · obtain ⟨m1, m2⟩ := min_deep S hj
      exact ⟨_, _, _, _, SqL.of (h.1 _ _ h12), SqL.of (h.1 _ _ h2), cutsV_at (ways_get m1), cutsV_at (ways_get m2)⟩
    · rw [cutsV_len, cutsV_len, ways_len, ways_len]
      unfold Uw22.Panel.deep_
      omega
    · rintro j H3 v H4 hj ⟨s3, hd⟩ ⟨t, vx, vy, rfl, ht, rfl, ex, ey⟩
      obtain ⟨m1, m2⟩ := min_deep S hj
      have e1 : vx = V.int (Uw22.inAt S.left j : Nat) := Option.some.inj ((ex _ (SqL.of (s3 _ _ h12))).symm.trans (cutsV_at (ways_get m1)))
      have e2 : vy = V.int (Uw22.inAt S.right j : Nat) := Option.some.inj ((ey _ (SqL.of (s3 _ _ h2))).symm.trans (cutsV_at (ways_get m2)))
      subst e1 e2
      have s4 : Same H3 (upd H3 t (.tup [.int (Uw22.inAt S.left j : Nat), .int (Uw22.inAt S.right j : Nat)])) := Same.ofNone ht
      refine ⟨t, _, rfl, SqT.of upd_same, rfl, _, _, rfl, _, _, rfl, rfl, rfl, ?_⟩
      unfold tYes
      refine iteT ?_
      refine ⟨_, rfl, p, C, dx, _, _, rfl, s4 _ _ (s3 _ _ hp2), T.cl, T.nW, panF_width _ _ _, _, rfl, _, _, rfl, rfl, _, rfl, _, _, rfl, rfl, _, s4 _ _ hd, ?_, Same.chg (s3.trans s4) hD rfl, ?_⟩
      · rw [intsV_len, byDepth_len]
        have := deepOf_le S.left
        exact small50 (by omega)
      · rw [upd_same, byDepth_succ, intsV_app]
        rfl
    · rintro H' ⟨s3, hd⟩
      exact k H' D ((s1.trans s2).trans s3) (Same.free (s1.trans s2) hD) hd
/-! ### widths -/
theorem for_gen {J : It} {n : Nat} {g : TG} {tb : TS} {D : Ends} {σ : L2.St} {H : Hp} (Pv : Nat → L2.St → Hp → Prop) (h0 : Pv 0 σ H) (hg : ∀ i σ H, i < n → Pv i σ H → J.go i H) (he : ∀ σ H, Pv n σ H → J.stop n H)
    (hs : ∀ i σ H x H', i < n → Pv i σ H → J.yld i H x H' → g x σ H' fun σ2 H2 => tb { D with nx := Pv (i + 1), ct := Pv (i + 1), bk := D.nx } σ2 H2) (hd : ∀ σ H, Pv n σ H → D.nx σ H) :
    ∃ W : Nat → Nat → L2.St → Hp → Prop, (∃ m, W 0 m σ H) ∧ ∀ i m σ H, W i m σ H →
      (J.stop i H ∧ D.nx σ H) ∨ (J.go i H ∧ ∃ N : L2.St → Hp → Prop, (∀ σ' H', N σ' H' → ∃ m', m' < m ∧ W (i + 1) m' σ' H') ∧ ∀ x H', J.yld i H x H' → g x σ H' fun σ2 H2 => tb { D with nx := N, ct := N, bk := D.nx } σ2 H2) := by
  refine ⟨fun i m σ H => m = n - i ∧ i ≤ n ∧ Pv i σ H, ⟨n, by simp, Nat.zero_le _, h0⟩, ?_⟩
  rintro i m σ H ⟨rfl, hi, p⟩
  by_cases hlt : i < n
  · exact .inr ⟨hg i σ H hlt p, Pv (i + 1), fun σ' H' p' => ⟨n - (i + 1), by omega, rfl, hlt, p'⟩, fun x H' y => hs i σ H x H' hlt p y⟩
  · have e : i = n := by omega
    subst e
    exact .inl ⟨he σ H p, hd σ H p⟩
def spPWidths (C : Addr) : Sp := fun vs H Q _ => ∃ (p : Addr) (B : Addr → Prop) (S : Uw22.Panel), vs = [.ref p] ∧ PanAt C B H p S ∧ Stepped C B H p S .widths Q
theorem step_cross {S : Uw22.Panel} {t : Nat} (h : S.cross = some t) : Uw22.step S .widths = (S, ⟨-6, [t]⟩) := by
  show (S, match S.cross with | some t => (⟨-6, [t]⟩ : Uw22.Ans) | none => ⟨(S.bars : Nat), S.widths⟩) = _
  rw [h]
theorem step_widths {S : Uw22.Panel} (h : S.cross = none) : Uw22.step S .widths = (S, ⟨(S.bars : Nat), S.widths⟩) := by
  show (S, match S.cross with | some t => (⟨-6, [t]⟩ : Uw22.Ans) | none => ⟨(S.bars : Nat), S.widths⟩) = _
  rw [h]
theorem cutV_rest (ns : List Int) : cutV (intsV ns) (some 1) none = intsV (ns.drop 1) := by
  unfold cutV
  rw [show (1 : Int) = ((1 : Nat) : Int) from rfl, HT.sIx_nat, HT.sIx_none, intsV_len]
  unfold intsV
  rw [List.map_drop]
  cases ns with
  | nil => rfl
  | cons z r =>
    have e : min 1 (z :: r).length = 1 := by
      rw [List.length_cons]
      omega
    rw [e, List.take_of_length_le (by rw [List.length_drop, List.length_map]; exact Nat.le_refl _)]
theorem scPWidths : FnScope ["self", "by_depth", "depth", "width"] ["self"] (defScope sPWidths) := ⟨rfl, rfl, rfl, by decide +kernel, rfl, by decide +kernel, by decide +kernel⟩
theorem ok_pWidths {f C fB : Addr} {fd fdB : FuncData} (F : Fun K "widths" "Panel.widths" sPWidths f fd) (T : TxP K C) (M : Tx K mg aD aW aS)
    (GB : FnOk P w K mg base CX0 2 fB fdB ["self"] (spPBy C)) (bB : Binds K fdB ["self"] []) (mB : Meth K C "widths_by_depth" fB) : FnOk P w K mg base CX0 3 f fd ["self"] (spPWidths C) := by
  refine F.ok scPWidths (fun vs H Q E h => ?_) (fun cdv A outer s H vs Q E hr h => ?_)
  · obtain ⟨p, B, S, rfl, _⟩ := h
    rfl
  · obtain ⟨p, B, S, rfl, hP, k⟩ := h
    refine ⟨_, pss_cons (ps_set (i := 1) scPWidths.nd rfl (Or.inl rfl) (pe_meth0 (pv 0) T.cl mB GB hr bB .nil pass0))
      (pss_cons (ps_for PassesOwn.never rfl (pi_enum rfl M.bEnum (pa_cons (pv 1) pa_nil)) (pg_tup rfl (pgs_cons (pg_name (i := 2) scPWidths.nd rfl (Or.inl rfl)) (pgs_cons (pg_name (i := 3) scPWidths.nd rfl (Or.inl rfl)) pgs_nil)))
        (pss_one (ps_if (pt_cmpR op_lt (pv 3) pe_int (nomark _)) (pss_one (ps_ret (pe_lst (pa_cons (pe_gi rfl M.iCross) (pa_cons (pv 2) pa_nil))))) pss_nil)))
      (pss_one (ps_ret (pe_op op_cat (pe_lst (pa_cons (pe_callB (cr_sum rfl) rfl M.bSum boot_sum (pa_cons (pe_slice sl_list (pv 1) (po_some pe_int) po_none) pa_nil)) pa_nil)) (pv 1))))), ?_⟩
    obtain ⟨dx, al, ar, hp, _⟩ := id hP.at_
    have hl40 := hP.left.len
    refine ⟨_, rfl, p, dx, _, rfl, hp, panF_no _ _ _ (by decide +kernel) (by decide +kernel) (by decide +kernel), p, B, S, rfl, hP, fun H1 q s1 hq0 hq => ?_⟩
    refine ⟨_, rfl, q, _, rfl, SqL.of hq, ?_⟩
    have sz : S.deep_ ≤ 80 := by
      have := deepOf_le S.left
      unfold Uw22.Panel.deep_
      omega
    have fin : ∀ {H2 : Hp} {r : Addr}, Same H H2 → H2 r = none → ∀ o, o = HO.lst (intsV (Uw22Neutral.out (Uw22.step S .widths).2)) → (Uw22.step S .widths).1 = S → Q (.ref r) (upd H2 r o) := fun {H2 r} s2 hr2 o eo es => by
      refine k _ r (fun b u e _ => Same.new s2 hr2 b u e) ?_ (Same.free s2 hr2) ?_
      · rw [es]
        exact hP.same (Same.new s2 hr2)
      · rw [upd_same, eo]
    refine for_gen (n := S.deep_ + 1) (fun j σ' H' => ∃ (v2 v3 : Option V), σ' = [some (.ref p), some (.ref q), v2, v3] ∧ Same H1 H' ∧ ∀ t, t < j → ¬ widthAt S t < 0) ?_ ?_ ?_ ?_ ?_
    · exact ⟨none, none, rfl, Same.refl H1, fun t ht => absurd ht (by omega)⟩
    · rintro j σ' H' hj ⟨v2, v3, _, s2, _⟩
      have hn : j < (intsV (byDepth S (S.deep_ + 1))).length := by
        rw [intsV_len, byDepth_len]
        exact hj
      exact ⟨_, _, SqL.of (s2 _ _ hq), List.getElem?_eq_getElem hn⟩
    · rintro σ' H' ⟨v2, v3, _, s2, _⟩
      exact ⟨_, SqL.of (s2 _ _ hq), by rw [intsV_len, byDepth_len]; exact Nat.le_refl _⟩
    · rintro j σ' H2 v H3 hj ⟨v2, v3, rfl, s2, hall⟩ ⟨t, vx, rfl, ht, rfl, ex⟩
      have ex := ex _ (SqL.of (s2 _ _ hq))
      have e1 : vx = V.int (widthAt S j) := by
        unfold intsV at ex
        rw [List.getElem?_map] at ex
        cases ez : (byDepth S (S.deep_ + 1))[j]? with
        | none => rw [ez] at ex; cases ex
        | some z =>
          rw [ez] at ex
          obtain ⟨_, e2⟩ := byDepth_get ez
          rw [← e2]
          exact (Option.some.inj ex).symm
      subst e1
      have s3 : Same H2 (upd H2 t (.tup [.int (j : Nat), .int (widthAt S j)])) := Same.ofNone ht
      have s23 := s2.trans s3
      refine ⟨t, _, rfl, SqT.of upd_same, rfl, _, _, rfl, _, _, rfl, rfl, ?_⟩
      refine ⟨_, rfl, _, _, rfl, rfl, _, rfl, ?_⟩
      by_cases hneg : widthAt S j < 0
      · rw [decide_eq_true hneg]
        refine iteT ⟨_, rfl, (by show 2 ≤ sizeLine; decide), fun r hr' => ?_⟩
        have ec := step_cross (cross_some hj hneg hall)
        refine fin (s1.trans s23) hr' _ ?_ (by rw [ec])
        rw [ec]
        rfl
      · rw [decide_eq_false hneg]
        refine iteF ⟨_, _, rfl, s23, fun t' ht' => ?_⟩
        by_cases z : t' < j
        · exact hall t' z
        · have e : t' = j := by omega
          rw [e]
          exact hneg
    · rintro σ' H2 ⟨v2, v3, rfl, s2, hall⟩
      have ec := step_widths (cross_none hall)
      refine ⟨_, rfl, _, rfl, q, _, rfl, SqL.of (s2 _ _ hq), fun r hr' => ?_⟩
      rw [cutV_rest]
      have s3 := Same.new s2 (o := .lst (intsV ((byDepth S (S.deep_ + 1)).drop 1))) hr'
      refine ⟨r, _, rfl, SqL.of upd_same, (by show 1 ≤ sizeLine; decide), fun u hu => ?_⟩
      have s4 := Same.new s3 (o := .lst [.int ((byDepth S (S.deep_ + 1)).drop 1).sum]) hu
      have hqu : q ≠ u := ne_of_none (s3 _ _ hq) hu
      refine ⟨_, rfl, u, q, _, _, rfl, rfl, upd_same, s4 _ _ hq, ?_, fun y hy => ?_⟩
      · rw [intsV_len, byDepth_len]
        exact Nat.le_of_lt (small50 (by show 1 + (S.deep_ + 1) ≤ 1000; omega))
      · refine fin (s1.trans s4) hy _ ?_ (by rw [ec])
        rw [ec]
        show HO.lst (V.int ((byDepth S (S.deep_ + 1)).drop 1).sum :: intsV (byDepth S (S.deep_ + 1))) = HO.lst (V.int ((S.bars : Nat) : Int) :: intsV (S.widths.map fun (n : Nat) => (n : Int)))
        rw [bars_sum hall, widths_map hall]
end
end Net

end
section
set_option Elab.async false
set_option linter.all false
set_option maxRecDepth 100000
set_option maxHeartbeats 4000000
namespace Net
open PySem PySem.Spec PyProof.Rows L2 Nc
abbrev sAnswer : Stmt := top 41
theorem drop_cons {ns r : List Int} {n : Nat} {z : Int} (h : ns.drop n = z :: r) : ns[n]? = some z ∧ ns.drop (n + 1) = r ∧ n + 1 ≤ ns.length := by
  have h1 : (ns.drop n)[0]? = some z := by rw [h]; rfl
  have h2 : (ns.drop n).length = r.length + 1 := by rw [h]; rfl
  rw [List.length_drop] at h2
  rw [List.getElem?_drop, Nat.add_zero] at h1
  refine ⟨h1, ?_, by omega⟩
  rw [← List.drop_drop, h]
  rfl
theorem drop_app {ns x t : List Int} {n : Nat} (h : ns.drop n = x ++ t) (hn : n ≤ ns.length) : (ns.drop n).take x.length = x ∧ ns.drop (n + x.length) = t ∧ n + x.length ≤ ns.length := by
  have h2 : (ns.drop n).length = x.length + t.length := by rw [h, List.length_append]
  rw [List.length_drop] at h2
  refine ⟨by rw [h]; simp, ?_, by omega⟩
  rw [← List.drop_drop, h]
  simp
theorem intsV_ints (l : List Nat) : intsV (Nf.asInts l) = cutsV l := by
  unfold intsV Nf.asInts cutsV
  rw [List.map_map]
  rfl
theorem ints_len (l : List Nat) : (Nf.asInts l).length = l.length := List.length_map ..
theorem SameBut.trans {p : Addr} {H H1 H2 : Hp} (a : SameBut p H H1) (b : SameBut p H1 H2) : SameBut p H H2 := fun c o e n => b c o (a c o e n) n
theorem PanAt.but {CP CL p q a : Addr} {B : Addr → Prop} {H H' : Hp} {S : Uw22.Panel} {n : Nat} (hP : PanAt CP B H p S) (hL : LineAt CL H q a n) (s : SameBut q H H') : PanAt CP B H' p S := by
  have npq := pan_line hP hL
  obtain ⟨⟨dx, al, ar, h1, h2, h3, h4⟩, h5, h6, h7⟩ := hP
  obtain ⟨dy, hq⟩ := hL
  exact ⟨⟨dx, al, ar, s _ _ h1 npq, s _ _ h2 (ne_of h2 hq (by intro z; cases z)), s _ _ h3 (ne_of h3 hq (by intro z; cases z)), h4⟩, h5, h6, h7⟩
theorem LineAt.but {CL p q a : Addr} {H H' : Hp} {n : Nat} (hL : LineAt CL H q a n) (s : SameBut p H H') (h : q ≠ p) : LineAt CL H' q a n := by
  obtain ⟨dy, hq⟩ := hL
  exact ⟨dy, s _ _ hq h⟩
theorem off_but {B : Addr → Prop} {H H' : Hp} {q : Addr} {o' : HO} (h : ∀ b, B b → ∃ o, H b = some o) (s : SameBut q H H') (e : H' q = some o') : ∀ b, B b → ∃ o, H' b = some o := fun b hb => by
  by_cases z : b = q
  · exact ⟨o', by rw [z]; exact e⟩
  · obtain ⟨o, ho⟩ := h b hb
    exact ⟨o, s _ _ ho z⟩
theorem off_same {B : Addr → Prop} {H H' : Hp} (h : ∀ b, B b → ∃ o, H b = some o) (s : Same H H') : ∀ b, B b → ∃ o, H' b = some o := fun b hb => by
  obtain ⟨o, ho⟩ := h b hb
  exact ⟨o, s _ _ ho⟩
theorem line_same {CL q a : Addr} {H H' : Hp} {n : Nat} (hL : LineAt CL H q a n) (s : Same H H') : LineAt CL H' q a n := by
  obtain ⟨dy, hq⟩ := hL
  exact ⟨dy, s _ _ hq⟩
theorem out_best (S : Uw22.Panel) (d i : Nat) : (Uw22.step S (.best d i)).1 = S ∧ Uw22Neutral.out (Uw22.step S (.best d i)).2 = bestOut d i := by
  show (if Uw22.FAR < d ∨ Uw22.FAR < i then (S, Uw22.ok (-1)) else (S, match Uw22.best d i with
    | none => Uw22.ok (-6)
    | some b => ⟨(b.uneven : Nat), b.many :: b.row⟩)).1 = S ∧ Uw22Neutral.out (if Uw22.FAR < d ∨ Uw22.FAR < i then (S, Uw22.ok (-1)) else (S, match Uw22.best d i with
    | none => Uw22.ok (-6)
    | some b => ⟨(b.uneven : Nat), b.many :: b.row⟩)).2 = bestOut d i
  unfold bestOut Uw22.FAR
  by_cases h : 10 < d ∨ 10 < i
  · rw [if_pos h, if_pos h]
    exact ⟨rfl, rfl⟩
  · rw [if_neg h, if_neg h]
    refine ⟨rfl, ?_⟩
    cases Uw22.best d i <;> rfl
theorem out_check (S : Uw22.Panel) (d i : Nat) (l : List Nat) : (Uw22.step S (.check d i l)).1 = S ∧ Uw22Neutral.out (Uw22.step S (.check d i l)).2 = checkOut d i l := by
  have es : Uw22.step S (.check d i l) = if Uw22.cuts l = false ∨ Uw22.CUTS < l.length ∨ Uw22.WIDE < d ∨ Uw22.WIDE < i then (S, Uw22.ok (-1)) else (S, if Uw22.leads d i l = false then ⟨-6, [Uw22.deepOf l, Uw22.inOf l]⟩ else Uw22.ok (Uw22.uneven d i l : Nat)) := rfl
  rw [es]
  have hi := isRow_iff l
  unfold checkOut
  by_cases h : isRow l = false ∨ 1000 < d ∨ 1000 < i
  · have h2 : Uw22.cuts l = false ∨ Uw22.CUTS < l.length ∨ Uw22.WIDE < d ∨ Uw22.WIDE < i := by
      rcases h with h | h
      · rcases hi.mpr h with z | z
        · exact .inl z
        · exact .inr (.inl z)
      · exact .inr (.inr h)
    rw [if_pos h, if_pos h2]
    exact ⟨rfl, rfl⟩
  · have h2 : ¬ (Uw22.cuts l = false ∨ Uw22.CUTS < l.length ∨ Uw22.WIDE < d ∨ Uw22.WIDE < i) := fun z => h (by
      rcases z with z | z | z
      · exact .inl (hi.mp (.inl z))
      · exact .inl (hi.mp (.inr z))
      · exact .inr z)
    rw [if_neg h, if_neg h2]
    have hc : Uw22.cuts l = true := by
      cases e : Uw22.cuts l with
      | true => rfl
      | false => exact absurd (.inl e) h2
    refine ⟨rfl, ?_⟩
    unfold Uw22.leads
    rw [hc, Bool.true_and]
    by_cases h3 : Uw22.deepOf l = d ∧ Uw22.inOf l = i
    · rw [if_pos h3, if_neg (by simp [h3])]
      rfl
    · rw [if_neg h3, if_pos (by
        cases e : (Uw22.deepOf l == d && Uw22.inOf l == i) with
        | false => rfl
        | true =>
          rw [Bool.and_eq_true] at e
          exact absurd ⟨eq_of_beq e.1, eq_of_beq e.2⟩ h3)]
      rfl
theorem out_unit (S : Uw22.Panel) (l : List Nat) : (Uw22.step S (.unit l)).1 = S ∧ Uw22Neutral.out (Uw22.step S (.unit l)).2 = unitOut l := by
  have es : Uw22.step S (.unit l) = if Uw22.cuts l = false ∨ Uw22.CUTS < l.length then (S, Uw22.ok (-1)) else (S, ⟨(if (Uw22.unit l).length = 0 then 0 else (l.length / (Uw22.unit l).length : Nat)), Uw22.unit l⟩) := rfl
  rw [es]
  unfold unitOut
  by_cases h : isRow l = false
  · rw [if_pos h, if_pos ((isRow_iff l).mpr h)]
    exact ⟨rfl, rfl⟩
  · rw [if_neg h, if_neg (fun z => h ((isRow_iff l).mp z))]
    exact ⟨rfl, rfl⟩
/-- the numbers of the calls -/
structure TxA (mg : Str → Option Value) : Prop where
  i0 : ∃ t, mg "BEGINS" = some (.int 0 t)
  i1 : ∃ t, mg "LEFT" = some (.int 1 t)
  i2 : ∃ t, mg "RIGHT" = some (.int 2 t)
  i3 : ∃ t, mg "BEST" = some (.int 3 t)
  i4 : ∃ t, mg "CHECK" = some (.int 4 t)
  i5 : ∃ t, mg "UNIT" = some (.int 5 t)
  i6 : ∃ t, mg "WIDTHS" = some (.int 6 t)
section
variable {P : Program} {w : World} {K : PySem.W.Frag} {mg : Str → Option Value} {base : Heap} {aD aW aS : Addr}
theorem scAnswer : FnScope ["panel", "line", "call", "depth", "way_in"] ["panel", "line"] (defScope sAnswer) := ⟨rfl, rfl, rfl, by decide +kernel, rfl, by decide +kernel, by decide +kernel⟩
theorem ok_answer {f CP CL fN fR fB fLe fRi fBe fCh fUn fWi : Addr} {fd fdN fdR fdB fdLe fdRi fdBe fdCh fdUn fdWi : FuncData} (F : Fun K "answer" "answer" sAnswer f fd) (TA : TxA mg) (TL : TxL K CL) (TP : TxP K CP)
    (GN : FnOk P w K mg base CX0 1 fN fdN ["self"] (spLNum K CL)) (bN : Binds K fdN ["self"] []) (mN : Meth K CL "take_number" fN)
    (GR : FnOk P w K mg base CX0 2 fR fdR ["self"] (spLRow K CL)) (bR : Binds K fdR ["self"] []) (mR : Meth K CL "take_row" fR)
    (GB : FnOk P w K mg base CX0 1 fB fdB ["self", "width"] (spPBegins CP)) (bB : Binds K fdB ["self", "width"] []) (mB : Meth K CP "begins" fB)
    (GLe : FnOk P w K mg base CX0 2 fLe fdLe ["self", "cuts"] (spPSide K CP .left)) (bLe : Binds K fdLe ["self", "cuts"] []) (mLe : Meth K CP "left" fLe)
    (GRi : FnOk P w K mg base CX0 2 fRi fdRi ["self", "cuts"] (spPSide K CP .right)) (bRi : Binds K fdRi ["self", "cuts"] []) (mRi : Meth K CP "right" fRi)
    (GBe : FnOk P w K mg base CX0 3 fBe fdBe ["depth", "way_in"] spBest) (CBe : Cal K mg "best" fBe fdBe ["depth", "way_in"])
    (GCh : FnOk P w K mg base CX0 3 fCh fdCh ["depth", "way_in", "cuts"] (spCheck K)) (CCh : Cal K mg "check" fCh fdCh ["depth", "way_in", "cuts"])
    (GUn : FnOk P w K mg base CX0 2 fUn fdUn ["cuts"] (spUnit K)) (CUn : Cal K mg "unit" fUn fdUn ["cuts"])
    (GWi : FnOk P w K mg base CX0 3 fWi fdWi ["self"] (spPWidths CP)) (bWi : Binds K fdWi ["self"] []) (mWi : Meth K CP "widths" fWi) : FnOk P w K mg base CX0 5 f fd ["panel", "line"] (spAnswer K CP CL) := by
  refine F.ok scAnswer (fun vs H Q E h => ?_) (fun cdv A outer s H vs Q E hr h => ?_)
  · obtain ⟨p, q, a, B, S, n, ns, c, t, rfl, _⟩ := h
    rfl
  · obtain ⟨p, q, a, B, S, n, ns, c, t, rfl, hB, hP, hL, hS, hR, k⟩ := h
    have hr1 : Room 1 _ := hr.mono (by decide)
    have hr2 : Room 2 _ := hr.mono (by decide)
    have hr3 : Room 3 _ := hr.mono (by decide)
    refine ⟨_, pss_cons (ps_set (i := 2) scAnswer.nd rfl (Or.inl rfl) (pe_meth0 (pv 1) TL.cl mN GN hr1 bN .nil pass0))
      (pss_cons (ps_if (pt_cmpR op_eq (pv 2) (pe_gi rfl TA.i0) (nomark _)) (pss_one (ps_ret (pe_meth (pv 0) TP.cl mB GB hr1 bB .nil pass0 (pa_cons (pe_meth0 (pv 1) TL.cl mN GN hr1 bN .nil pass0) pa_nil)))) pss_nil)
      (pss_cons (ps_if (pt_cmpR op_eq (pv 2) (pe_gi rfl TA.i1) (nomark _)) (pss_one (ps_ret (pe_meth (pv 0) TP.cl mLe GLe hr2 bLe .nil pass0 (pa_cons (pe_meth0 (pv 1) TL.cl mR GR hr2 bR .nil pass0) pa_nil)))) pss_nil)
      (pss_cons (ps_if (pt_cmpR op_eq (pv 2) (pe_gi rfl TA.i2) (nomark _)) (pss_one (ps_ret (pe_meth (pv 0) TP.cl mRi GRi hr2 bRi .nil pass0 (pa_cons (pe_meth0 (pv 1) TL.cl mR GR hr2 bR .nil pass0) pa_nil)))) pss_nil)
      (pss_cons (ps_if (pt_cmpR op_eq (pv 2) (pe_gi rfl TA.i3) (nomark _)) (pss_cons (ps_set (i := 3) scAnswer.nd rfl (Or.inl rfl) (pe_meth0 (pv 1) TL.cl mN GN hr1 bN .nil pass0)) (pss_cons (ps_set (i := 4) scAnswer.nd rfl (Or.inl rfl) (pe_meth0 (pv 1) TL.cl mN GN hr1 bN .nil pass0))
        (pss_one (ps_ret (pe_call GBe hr3 rfl CBe.mg CBe.kp CBe.bd .nil pass0 (pa_cons (pv 3) (pa_cons (pv 4) pa_nil))))))) pss_nil)
      (pss_cons (ps_if (pt_cmpR op_eq (pv 2) (pe_gi rfl TA.i4) (nomark _)) (pss_cons (ps_set (i := 3) scAnswer.nd rfl (Or.inl rfl) (pe_meth0 (pv 1) TL.cl mN GN hr1 bN .nil pass0)) (pss_cons (ps_set (i := 4) scAnswer.nd rfl (Or.inl rfl) (pe_meth0 (pv 1) TL.cl mN GN hr1 bN .nil pass0))
        (pss_one (ps_ret (pe_call GCh hr3 rfl CCh.mg CCh.kp CCh.bd .nil pass0 (pa_cons (pv 3) (pa_cons (pv 4) (pa_cons (pe_meth0 (pv 1) TL.cl mR GR hr2 bR .nil pass0) pa_nil)))))))) pss_nil)
      (pss_cons (ps_if (pt_cmpR op_eq (pv 2) (pe_gi rfl TA.i5) (nomark _)) (pss_one (ps_ret (pe_call GUn hr2 rfl CUn.mg CUn.kp CUn.bd .nil pass0 (pa_cons (pe_meth0 (pv 1) TL.cl mR GR hr2 bR .nil pass0) pa_nil)))) pss_nil)
      (pss_cons (ps_if (pt_cmpR op_eq (pv 2) (pe_gi rfl TA.i6) (nomark _)) (pss_one (ps_ret (pe_meth0 (pv 0) TP.cl mWi GWi hr3 bWi .nil pass0))) pss_nil)
      (pss_one ps_never)))))))), ?_⟩
    have npq := pan_line hP hL
    obtain ⟨dq, hq⟩ := id hL
    obtain ⟨dp, _, _, hp, _⟩ := id hP.at_
    have lno : ∀ {H1 : Hp} {m : Nat}, LineAt CL H1 q a m → ∃ dx fs, H1 q = some (.ins CL dx fs) ∧ fs.lookup ("take_number" : Str) = none ∧ fs.lookup ("take_row" : Str) = none := fun {H1 m} h => by
      obtain ⟨dx, h1⟩ := h
      exact ⟨dx, _, h1, lineF_no _ _ (by decide +kernel) (by decide +kernel), lineF_no _ _ (by decide +kernel) (by decide +kernel)⟩
    -- the end: a method of the panel has answered
    have fin : ∀ {H1 : Hp} {m : Nat}, SameBut q H H1 → LineAt CL H1 q a m → m ≤ ns.length → ns.drop m = t → Stepped CP B H1 p S c Q := fun {H1 m} sb hL1 hm ht H' l sb' hP' hl0 hl' => by
      refine k H' l m (fun b o e n1 n2 => sb' b o (sb b o e n2) n1) hP' (hL1.but sb' npq.symm) hm ht ?_ hl'
      obtain ⟨dx, hq1⟩ := hL1
      exact sb.free hl0 hq1
    obtain ⟨dx0, fs0, l0, l1, l2⟩ := lno hL
    generalize hd : ns.drop n = rst at hR
    cases hR with
    | begins wd t =>
      obtain ⟨e1, e2, e3⟩ := drop_cons hd
      obtain ⟨e4, e5, e6⟩ := drop_cons e2
      refine ⟨_, rfl, q, dx0, fs0, rfl, l0, l1, q, a, n, ns, _, rfl, hL, hS, e1, fun H1 hL1 sb1 => ?_⟩
      refine ⟨_, rfl, rfl, _, rfl, iteT ?_⟩
      have hP1 := hP.but hL sb1
      obtain ⟨dp1, _, _, hp1, _⟩ := id hP1.at_
      obtain ⟨dx1, fs1, m0, m1, m2⟩ := lno hL1
      refine ⟨_, rfl, p, dp1, _, rfl, hp1, panF_no _ _ _ (by decide +kernel) (by decide +kernel) (by decide +kernel), _, rfl, q, dx1, fs1, rfl, m0, m1, q, a, n + 1, ns, _, rfl, hL1, sb1.seq hq hS, e4, fun H2 hL2 sb2 => ?_⟩
      have sb2 := sb1.trans sb2
      obtain ⟨dx2, _, m3, _⟩ := lno hL2
      exact ⟨p, B, S, wd, rfl, off_but hB sb2 m3, hP.but hL sb2, fin sb2 hL2 e6 e5⟩
    | left l t hl =>
      obtain ⟨e1, e2, e3⟩ := drop_cons hd
      obtain ⟨e4, e5, e6⟩ := drop_cons e2
      obtain ⟨e7, e8, e9⟩ := drop_app e5 e6
      rw [ints_len] at e7 e8 e9
      refine ⟨_, rfl, q, dx0, fs0, rfl, l0, l1, q, a, n, ns, _, rfl, hL, hS, e1, fun H1 hL1 sb1 => ?_⟩
      refine ⟨_, rfl, rfl, _, rfl, iteF ?_⟩
      refine ⟨_, rfl, rfl, _, rfl, iteT ?_⟩
      have hP1 := hP.but hL sb1
      obtain ⟨dp1, _, _, hp1, _⟩ := id hP1.at_
      obtain ⟨dx1, fs1, m0, m1, m2⟩ := lno hL1
      refine ⟨_, rfl, p, dp1, _, rfl, hp1, panF_no _ _ _ (by decide +kernel) (by decide +kernel) (by decide +kernel), _, rfl, q, dx1, fs1, rfl, m0, m2, q, a, n + 1, l.length, ns, rfl, hL1, sb1.seq hq hS, e4, by omega, fun H2 qr hL2 sb2 hqr0 hqr => ?_⟩
      have sb12 := sb1.trans sb2
      rw [e7, intsV_ints] at hqr
      obtain ⟨dx2, _, m3, _⟩ := lno hL2
      exact ⟨p, qr, B, S, l, rfl, off_but hB sb12 m3, hP.but hL sb12, SqL.of hqr, hl, fin sb12 hL2 (by omega) e8⟩
    | right l t hl =>
      obtain ⟨e1, e2, e3⟩ := drop_cons hd
      obtain ⟨e4, e5, e6⟩ := drop_cons e2
      obtain ⟨e7, e8, e9⟩ := drop_app e5 e6
      rw [ints_len] at e7 e8 e9
      refine ⟨_, rfl, q, dx0, fs0, rfl, l0, l1, q, a, n, ns, _, rfl, hL, hS, e1, fun H1 hL1 sb1 => ?_⟩
      refine ⟨_, rfl, rfl, _, rfl, iteF ?_⟩
      refine ⟨_, rfl, rfl, _, rfl, iteF ?_⟩
      refine ⟨_, rfl, rfl, _, rfl, iteT ?_⟩
      have hP1 := hP.but hL sb1
      obtain ⟨dp1, _, _, hp1, _⟩ := id hP1.at_
      obtain ⟨dx1, fs1, m0, m1, m2⟩ := lno hL1
      refine ⟨_, rfl, p, dp1, _, rfl, hp1, panF_no _ _ _ (by decide +kernel) (by decide +kernel) (by decide +kernel), _, rfl, q, dx1, fs1, rfl, m0, m2, q, a, n + 1, l.length, ns, rfl, hL1, sb1.seq hq hS, e4, by omega, fun H2 qr hL2 sb2 hqr0 hqr => ?_⟩
      have sb12 := sb1.trans sb2
      rw [e7, intsV_ints] at hqr
      obtain ⟨dx2, _, m3, _⟩ := lno hL2
      exact ⟨p, qr, B, S, l, rfl, off_but hB sb12 m3, hP.but hL sb12, SqL.of hqr, hl, fin sb12 hL2 (by omega) e8⟩
    | best d i t =>
      obtain ⟨e1, e2, e3⟩ := drop_cons hd
      obtain ⟨e4, e5, e6⟩ := drop_cons e2
      obtain ⟨e7, e8, e9⟩ := drop_cons e5
      refine ⟨_, rfl, q, dx0, fs0, rfl, l0, l1, q, a, n, ns, _, rfl, hL, hS, e1, fun H1 hL1 sb1 => ?_⟩
      refine ⟨_, rfl, rfl, _, rfl, iteF ?_⟩
      refine ⟨_, rfl, rfl, _, rfl, iteF ?_⟩
      refine ⟨_, rfl, rfl, _, rfl, iteF ?_⟩
      refine ⟨_, rfl, rfl, _, rfl, iteT ?_⟩
      obtain ⟨dx1, fs1, m0, m1, m2⟩ := lno hL1
      refine ⟨_, rfl, q, dx1, fs1, rfl, m0, m1, q, a, n + 1, ns, _, rfl, hL1, sb1.seq hq hS, e4, fun H2 hL2 sb2 => ?_⟩
      have sb2 := sb1.trans sb2
      obtain ⟨dx2, fs2, m3, m4, m5⟩ := lno hL2
      refine ⟨_, rfl, q, dx2, fs2, rfl, m3, m4, q, a, n + 1 + 1, ns, _, rfl, hL2, sb2.seq hq hS, e7, fun H3 hL3 sb3 => ?_⟩
      have sb3 := sb2.trans sb3
      refine ⟨_, rfl, _, rfl, d, i, rfl, fun H4 l s4 hl0 hl4 => ?_⟩
      obtain ⟨o1, o2⟩ := out_best S d i
      refine fin sb3 hL3 e9 e8 H4 l (fun b o e _ => s4 b o e) ?_ hl0 ?_
      · rw [o1]
        exact (hP.but hL sb3).same s4
      · rw [o2]
        exact hl4
    | check d i l t hl =>
      obtain ⟨e1, e2, e3⟩ := drop_cons hd
      obtain ⟨e4, e5, e6⟩ := drop_cons e2
      obtain ⟨e7, e8, e9⟩ := drop_cons e5
      obtain ⟨f1, f2, f3⟩ := drop_cons e8
      obtain ⟨f4, f5, f6⟩ := drop_app f2 f3
      rw [ints_len] at f4 f5 f6
      refine ⟨_, rfl, q, dx0, fs0, rfl, l0, l1, q, a, n, ns, _, rfl, hL, hS, e1, fun H1 hL1 sb1 => ?_⟩
      refine ⟨_, rfl, rfl, _, rfl, iteF ?_⟩
      refine ⟨_, rfl, rfl, _, rfl, iteF ?_⟩
      refine ⟨_, rfl, rfl, _, rfl, iteF ?_⟩
      refine ⟨_, rfl, rfl, _, rfl, iteF ?_⟩
      refine ⟨_, rfl, rfl, _, rfl, iteT ?_⟩
      obtain ⟨dx1, fs1, m0, m1, m2⟩ := lno hL1
      refine ⟨_, rfl, q, dx1, fs1, rfl, m0, m1, q, a, n + 1, ns, _, rfl, hL1, sb1.seq hq hS, e4, fun H2 hL2 sb2 => ?_⟩
      have sb2 := sb1.trans sb2
      obtain ⟨dx2, fs2, m3, m4, m5⟩ := lno hL2
      refine ⟨_, rfl, q, dx2, fs2, rfl, m3, m4, q, a, n + 1 + 1, ns, _, rfl, hL2, sb2.seq hq hS, e7, fun H3 hL3 sb3 => ?_⟩
      have sb3 := sb2.trans sb3
      obtain ⟨dx3, fs3, m6, m7, m8⟩ := lno hL3
      refine ⟨_, rfl, _, rfl, _, rfl, q, dx3, fs3, rfl, m6, m8, q, a, n + 1 + 1 + 1, l.length, ns, rfl, hL3, sb3.seq hq hS, f1, by omega, fun H4 qr hL4 sb4 hqr0 hqr => ?_⟩
      have sb4 := sb3.trans sb4
      rw [f4, intsV_ints] at hqr
      refine ⟨qr, l, d, i, rfl, SqL.of hqr, hl, fun H5 r s5 hr0 hr5 => ?_⟩
      obtain ⟨o1, o2⟩ := out_check S d i l
      refine fin sb4 hL4 (by omega) f5 H5 r (fun b o e _ => s5 b o e) ?_ hr0 ?_
      · rw [o1]
        exact (hP.but hL sb4).same s5
      · rw [o2]
        exact hr5
    | unit l t hl =>
      obtain ⟨e1, e2, e3⟩ := drop_cons hd
      obtain ⟨e4, e5, e6⟩ := drop_cons e2
      obtain ⟨e7, e8, e9⟩ := drop_app e5 e6
      rw [ints_len] at e7 e8 e9
      refine ⟨_, rfl, q, dx0, fs0, rfl, l0, l1, q, a, n, ns, _, rfl, hL, hS, e1, fun H1 hL1 sb1 => ?_⟩
      refine ⟨_, rfl, rfl, _, rfl, iteF ?_⟩
      refine ⟨_, rfl, rfl, _, rfl, iteF ?_⟩
      refine ⟨_, rfl, rfl, _, rfl, iteF ?_⟩
      refine ⟨_, rfl, rfl, _, rfl, iteF ?_⟩
      refine ⟨_, rfl, rfl, _, rfl, iteF ?_⟩
      refine ⟨_, rfl, rfl, _, rfl, iteT ?_⟩
      obtain ⟨dx1, fs1, m0, m1, m2⟩ := lno hL1
      refine ⟨_, rfl, q, dx1, fs1, rfl, m0, m2, q, a, n + 1, l.length, ns, rfl, hL1, sb1.seq hq hS, e4, by omega, fun H2 qr hL2 sb2 hqr0 hqr => ?_⟩
      have sb12 := sb1.trans sb2
      rw [e7, intsV_ints] at hqr
      refine ⟨qr, l, rfl, SqL.of hqr, hl, fun H3 r s3 hr0 hr3 => ?_⟩
      obtain ⟨o1, o2⟩ := out_unit S l
      refine fin sb12 hL2 (by omega) e8 H3 r (fun b o e _ => s3 b o e) ?_ hr0 ?_
      · rw [o1]
        exact (hP.but hL sb12).same s3
      · rw [o2]
        exact hr3
    | widths t =>
      obtain ⟨e1, e2, e3⟩ := drop_cons hd
      refine ⟨_, rfl, q, dx0, fs0, rfl, l0, l1, q, a, n, ns, _, rfl, hL, hS, e1, fun H1 hL1 sb1 => ?_⟩
      refine ⟨_, rfl, rfl, _, rfl, iteF ?_⟩
      refine ⟨_, rfl, rfl, _, rfl, iteF ?_⟩
      refine ⟨_, rfl, rfl, _, rfl, iteF ?_⟩
      refine ⟨_, rfl, rfl, _, rfl, iteF ?_⟩
      refine ⟨_, rfl, rfl, _, rfl, iteF ?_⟩
      refine ⟨_, rfl, rfl, _, rfl, iteF ?_⟩
      refine ⟨_, rfl, rfl, _, rfl, iteT ?_⟩
      have hP1 := hP.but hL sb1
      obtain ⟨dp1, _, _, hp1, _⟩ := id hP1.at_
      exact ⟨_, rfl, p, dp1, _, rfl, hp1, panF_no _ _ _ (by decide +kernel) (by decide +kernel) (by decide +kernel), p, B, S, rfl, hP1, fin sb1 hL1 e3 e2⟩
end
end Net

end
set_option Elab.async false
set_option linter.all false
set_option maxRecDepth 100000
set_option maxHeartbeats 4000000
namespace Net
open PySem PySem.Spec PyProof.Rows L2 Nc
open PySem.W (Codec)
/-! ### what the top has laid -/
theorem all_mk {P : Program} {w : World} {K : PySem.W.Frag} {h : Heap} {mg : Str → Option Value} {fa : Addr} (X : K.In h) (G : h.Ns mainGlobals mg) (hfa : mg "answers" = some (.ref fa))
    {CP : Addr}
    {CL : Addr}
    {aD : Addr} {odD : Option Addr} {nD : Nat} {slD : Array (Option Value)} {tD0 tD1 tD2 : Tok}
    {aW : Addr} {odW : Option Addr} {nW : Nat} {slW : Array (Option Value)} {tW0 tW1 tW2 : Tok}
    {aS : Addr} {odS : Option Addr} {nS : Nat} {slS : Array (Option Value)} {tS0 tS1 : Tok}
    {t_iOut : Tok}
    {t_iElse : Tok}
    {t_iCross : Tok}
    {t_iHi : Tok}
    {t_iMost : Tok}
    {t_iFar : Tok}
    {t_iFarC : Tok}
    {t_iWide : Tok}
    {t_i0 : Tok}
    {t_i1 : Tok}
    {t_i2 : Tok}
    {t_i3 : Tok}
    {t_i4 : Tok}
    {t_i5 : Tok}
    {t_i6 : Tok}
    {fIsRow : Addr} {odIsRow anIsRow : Option Addr} {slIsRow : Array (Option Value)} {ocIsRow kVIsRow dcIsRow pmIsRow cdIsRow ctIsRow : Value}
    {fDeep : Addr} {odDeep anDeep : Option Addr} {slDeep : Array (Option Value)} {ocDeep kVDeep dcDeep pmDeep cdDeep ctDeep : Value}
    {fIn : Addr} {odIn anIn : Option Addr} {slIn : Array (Option Value)} {ocIn kVIn dcIn pmIn cdIn ctIn : Value}
    {fWays : Addr} {odWays anWays : Option Addr} {slWays : Array (Option Value)} {ocWays kVWays dcWays pmWays cdWays ctWays : Value}
    {fBest : Addr} {odBest anBest : Option Addr} {slBest : Array (Option Value)} {ocBest kVBest dcBest pmBest cdBest ctBest : Value}
    {fCheck : Addr} {odCheck anCheck : Option Addr} {slCheck : Array (Option Value)} {ocCheck kVCheck dcCheck pmCheck cdCheck ctCheck : Value}
    {fOff : Addr} {odOff anOff : Option Addr} {slOff : Array (Option Value)} {ocOff kVOff dcOff pmOff cdOff ctOff : Value}
    {fBack : Addr} {odBack anBack : Option Addr} {slBack : Array (Option Value)} {ocBack kVBack dcBack pmBack cdBack ctBack : Value}
    {fOnward : Addr} {odOnward anOnward : Option Addr} {slOnward : Array (Option Value)} {ocOnward kVOnward dcOnward pmOnward cdOnward ctOnward : Value}
    {fHowUn : Addr} {odHowUn anHowUn : Option Addr} {slHowUn : Array (Option Value)} {ocHowUn kVHowUn dcHowUn pmHowUn cdHowUn ctHowUn : Value}
    {fLeast : Addr} {odLeast anLeast : Option Addr} {slLeast : Array (Option Value)} {ocLeast kVLeast dcLeast pmLeast cdLeast ctLeast : Value}
    {fCount : Addr} {odCount anCount : Option Addr} {slCount : Array (Option Value)} {ocCount kVCount dcCount pmCount cdCount ctCount : Value}
    {fEarl : Addr} {odEarl anEarl : Option Addr} {slEarl : Array (Option Value)} {ocEarl kVEarl dcEarl pmEarl cdEarl ctEarl : Value}
    {fPInit : Addr} {odPInit anPInit : Option Addr} {slPInit : Array (Option Value)} {ocPInit kVPInit dcPInit pmPInit cdPInit ctPInit : Value}
    {fPBegins : Addr} {odPBegins anPBegins : Option Addr} {slPBegins : Array (Option Value)} {ocPBegins kVPBegins dcPBegins pmPBegins cdPBegins ctPBegins : Value}
    {fPLeft : Addr} {odPLeft anPLeft : Option Addr} {slPLeft : Array (Option Value)} {ocPLeft kVPLeft dcPLeft pmPLeft cdPLeft ctPLeft : Value}
    {fPRight : Addr} {odPRight anPRight : Option Addr} {slPRight : Array (Option Value)} {ocPRight kVPRight dcPRight pmPRight cdPRight ctPRight : Value}
    {fPWidths : Addr} {odPWidths anPWidths : Option Addr} {slPWidths : Array (Option Value)} {ocPWidths kVPWidths dcPWidths pmPWidths cdPWidths ctPWidths : Value}
    {fPBy : Addr} {odPBy anPBy : Option Addr} {slPBy : Array (Option Value)} {ocPBy kVPBy dcPBy pmPBy cdPBy ctPBy : Value}
    {fUnit : Addr} {odUnit anUnit : Option Addr} {slUnit : Array (Option Value)} {ocUnit kVUnit dcUnit pmUnit cdUnit ctUnit : Value}
    {fUnitLen : Addr} {odUnitLen anUnitLen : Option Addr} {slUnitLen : Array (Option Value)} {ocUnitLen kVUnitLen dcUnitLen pmUnitLen cdUnitLen ctUnitLen : Value}
    {fLInit : Addr} {odLInit anLInit : Option Addr} {slLInit : Array (Option Value)} {ocLInit kVLInit dcLInit pmLInit cdLInit ctLInit : Value}
    {fLEnd : Addr} {odLEnd anLEnd : Option Addr} {slLEnd : Array (Option Value)} {ocLEnd kVLEnd dcLEnd pmLEnd cdLEnd ctLEnd : Value}
    {fLNum : Addr} {odLNum anLNum : Option Addr} {slLNum : Array (Option Value)} {ocLNum kVLNum dcLNum pmLNum cdLNum ctLNum : Value}
    {fLRow : Addr} {odLRow anLRow : Option Addr} {slLRow : Array (Option Value)} {ocLRow kVLRow dcLRow pmLRow cdLRow ctLRow : Value}
    {fAnswer : Addr} {odAnswer anAnswer : Option Addr} {slAnswer : Array (Option Value)} {ocAnswer kVAnswer dcAnswer pmAnswer cdAnswer ctAnswer : Value}
    {fAnswers : Addr} {odAnswers anAnswers : Option Addr} {slAnswers : Array (Option Value)} {ocAnswers kVAnswers dcAnswers pmAnswers cdAnswers ctAnswers : Value}
    (aP : PySem.W.nsIn K mainGlobals "Panel" = some (some (.ref CP)))
    (aL : PySem.W.nsIn K mainGlobals "Line" = some (some (.ref CL)))
    (gD : PySem.W.nsIn K mainGlobals "DEPTHS" = some (some (.ref aD)))
    (lD : K.lookup aD = some ⟨.type "tuple", odD, .seq #[.int 2 tD0, .int 1 tD1, .int 0 tD2] nD, slD⟩)
    (gW : PySem.W.nsIn K mainGlobals "WAYS_IN" = some (some (.ref aW)))
    (lW : K.lookup aW = some ⟨.type "tuple", odW, .seq #[.int 0 tW0, .int 1 tW1, .int 2 tW2] nW, slW⟩)
    (gS : PySem.W.nsIn K mainGlobals "START" = some (some (.ref aS)))
    (lS : K.lookup aS = some ⟨.type "tuple", odS, .seq #[.int 0 tS0, .int 0 tS1] nS, slS⟩)
    (g_iOut : PySem.W.nsIn K mainGlobals "OUT_OF_BOUNDS" = some (some (.int (-1) t_iOut)))
    (g_iElse : PySem.W.nsIn K mainGlobals "LEADS_ELSEWHERE" = some (some (.int (-6) t_iElse)))
    (g_iCross : PySem.W.nsIn K mainGlobals "SIDES_CROSS" = some (some (.int (-6) t_iCross)))
    (g_iHi : PySem.W.nsIn K mainGlobals "HIGHEST_CUT" = some (some (.int (2) t_iHi)))
    (g_iMost : PySem.W.nsIn K mainGlobals "MOST_CUTS" = some (some (.int (40) t_iMost)))
    (g_iFar : PySem.W.nsIn K mainGlobals "FARTHEST_BEST" = some (some (.int (10) t_iFar)))
    (g_iFarC : PySem.W.nsIn K mainGlobals "FARTHEST_CHECKED" = some (some (.int (1000) t_iFarC)))
    (g_iWide : PySem.W.nsIn K mainGlobals "WIDEST" = some (some (.int (1000) t_iWide)))
    (g_i0 : PySem.W.nsIn K mainGlobals "BEGINS" = some (some (.int (0) t_i0)))
    (g_i1 : PySem.W.nsIn K mainGlobals "LEFT" = some (some (.int (1) t_i1)))
    (g_i2 : PySem.W.nsIn K mainGlobals "RIGHT" = some (some (.int (2) t_i2)))
    (g_i3 : PySem.W.nsIn K mainGlobals "BEST" = some (some (.int (3) t_i3)))
    (g_i4 : PySem.W.nsIn K mainGlobals "CHECK" = some (some (.int (4) t_i4)))
    (g_i5 : PySem.W.nsIn K mainGlobals "UNIT" = some (some (.int (5) t_i5)))
    (g_i6 : PySem.W.nsIn K mainGlobals "WIDTHS" = some (some (.int (6) t_i6)))
    (g_bLen : PySem.W.nsIn K mainGlobals "len" = some none)
    (g_bAll : PySem.W.nsIn K mainGlobals "all" = some none)
    (g_bSum : PySem.W.nsIn K mainGlobals "sum" = some none)
    (g_bAbs : PySem.W.nsIn K mainGlobals "abs" = some none)
    (g_bMin : PySem.W.nsIn K mainGlobals "min" = some none)
    (g_bMax : PySem.W.nsIn K mainGlobals "max" = some none)
    (g_bList : PySem.W.nsIn K mainGlobals "list" = some none)
    (g_bRange : PySem.W.nsIn K mainGlobals "range" = some none)
    (g_bZip : PySem.W.nsIn K mainGlobals "zip" = some none)
    (g_bEnum : PySem.W.nsIn K mainGlobals "enumerate" = some none)
    (aIsRow : PySem.W.nsIn K mainGlobals "is_row" = some (some (.ref fIsRow)))
    (lIsRow : K.lookup fIsRow = some ⟨ocIsRow, odIsRow, .func (PySem.W.fnOf "is_row" "is_row" (defArgs sIsRow) (defBody sIsRow) (defScope sIsRow) .none kVIsRow dcIsRow pmIsRow anIsRow cdIsRow ctIsRow), slIsRow⟩)
    (cIsRow : PySem.W.codeIn K cdIsRow "is_row" = true)
    (kIsRow : PySem.W.keepIn K (.ref fIsRow) = true)
    (aDeep : PySem.W.nsIn K mainGlobals "how_deep" = some (some (.ref fDeep)))
    (lDeep : K.lookup fDeep = some ⟨ocDeep, odDeep, .func (PySem.W.fnOf "how_deep" "how_deep" (defArgs sDeep) (defBody sDeep) (defScope sDeep) .none kVDeep dcDeep pmDeep anDeep cdDeep ctDeep), slDeep⟩)
    (cDeep : PySem.W.codeIn K cdDeep "how_deep" = true)
    (kDeep : PySem.W.keepIn K (.ref fDeep) = true)
    (aIn : PySem.W.nsIn K mainGlobals "how_far_in" = some (some (.ref fIn)))
    (lIn : K.lookup fIn = some ⟨ocIn, odIn, .func (PySem.W.fnOf "how_far_in" "how_far_in" (defArgs sIn) (defBody sIn) (defScope sIn) .none kVIn dcIn pmIn anIn cdIn ctIn), slIn⟩)
    (cIn : PySem.W.codeIn K cdIn "how_far_in" = true)
    (kIn : PySem.W.keepIn K (.ref fIn) = true)
    (aWays : PySem.W.nsIn K mainGlobals "ways_in_by_depth" = some (some (.ref fWays)))
    (lWays : K.lookup fWays = some ⟨ocWays, odWays, .func (PySem.W.fnOf "ways_in_by_depth" "ways_in_by_depth" (defArgs sWays) (defBody sWays) (defScope sWays) .none kVWays dcWays pmWays anWays cdWays ctWays), slWays⟩)
    (cWays : PySem.W.codeIn K cdWays "ways_in_by_depth" = true)
    (kWays : PySem.W.keepIn K (.ref fWays) = true)
    (aBest : PySem.W.nsIn K mainGlobals "best" = some (some (.ref fBest)))
    (lBest : K.lookup fBest = some ⟨ocBest, odBest, .func (PySem.W.fnOf "best" "best" (defArgs sBest) (defBody sBest) (defScope sBest) .none kVBest dcBest pmBest anBest cdBest ctBest), slBest⟩)
    (cBest : PySem.W.codeIn K cdBest "best" = true)
    (kBest : PySem.W.keepIn K (.ref fBest) = true)
    (aCheck : PySem.W.nsIn K mainGlobals "check" = some (some (.ref fCheck)))
    (lCheck : K.lookup fCheck = some ⟨ocCheck, odCheck, .func (PySem.W.fnOf "check" "check" (defArgs sCheck) (defBody sCheck) (defScope sCheck) .none kVCheck dcCheck pmCheck anCheck cdCheck ctCheck), slCheck⟩)
    (cCheck : PySem.W.codeIn K cdCheck "check" = true)
    (kCheck : PySem.W.keepIn K (.ref fCheck) = true)
    (aOff : PySem.W.nsIn K mainGlobals "off_line" = some (some (.ref fOff)))
    (lOff : K.lookup fOff = some ⟨ocOff, odOff, .func (PySem.W.fnOf "off_line" "off_line" (defArgs sOff) (defBody sOff) (defScope sOff) .none kVOff dcOff pmOff anOff cdOff ctOff), slOff⟩)
    (cOff : PySem.W.codeIn K cdOff "off_line" = true)
    (kOff : PySem.W.keepIn K (.ref fOff) = true)
    (aBack : PySem.W.nsIn K mainGlobals "places_back" = some (some (.ref fBack)))
    (lBack : K.lookup fBack = some ⟨ocBack, odBack, .func (PySem.W.fnOf "places_back" "places_back" (defArgs sBack) (defBody sBack) (defScope sBack) .none kVBack dcBack pmBack anBack cdBack ctBack), slBack⟩)
    (cBack : PySem.W.codeIn K cdBack "places_back" = true)
    (kBack : PySem.W.keepIn K (.ref fBack) = true)
    (aOnward : PySem.W.nsIn K mainGlobals "places_onward" = some (some (.ref fOnward)))
    (lOnward : K.lookup fOnward = some ⟨ocOnward, odOnward, .func (PySem.W.fnOf "places_onward" "places_onward" (defArgs sOnward) (defBody sOnward) (defScope sOnward) .none kVOnward dcOnward pmOnward anOnward cdOnward ctOnward), slOnward⟩)
    (cOnward : PySem.W.codeIn K cdOnward "places_onward" = true)
    (kOnward : PySem.W.keepIn K (.ref fOnward) = true)
    (aHowUn : PySem.W.nsIn K mainGlobals "how_uneven" = some (some (.ref fHowUn)))
    (lHowUn : K.lookup fHowUn = some ⟨ocHowUn, odHowUn, .func (PySem.W.fnOf "how_uneven" "how_uneven" (defArgs sHowUn) (defBody sHowUn) (defScope sHowUn) .none kVHowUn dcHowUn pmHowUn anHowUn cdHowUn ctHowUn), slHowUn⟩)
    (cHowUn : PySem.W.codeIn K cdHowUn "how_uneven" = true)
    (kHowUn : PySem.W.keepIn K (.ref fHowUn) = true)
    (aLeast : PySem.W.nsIn K mainGlobals "least_uneven" = some (some (.ref fLeast)))
    (lLeast : K.lookup fLeast = some ⟨ocLeast, odLeast, .func (PySem.W.fnOf "least_uneven" "least_uneven" (defArgs sLeast) (defBody sLeast) (defScope sLeast) .none kVLeast dcLeast pmLeast anLeast cdLeast ctLeast), slLeast⟩)
    (cLeast : PySem.W.codeIn K cdLeast "least_uneven" = true)
    (kLeast : PySem.W.keepIn K (.ref fLeast) = true)
    (aCount : PySem.W.nsIn K mainGlobals "count_onward" = some (some (.ref fCount)))
    (lCount : K.lookup fCount = some ⟨ocCount, odCount, .func (PySem.W.fnOf "count_onward" "count_onward" (defArgs sCount) (defBody sCount) (defScope sCount) .none kVCount dcCount pmCount anCount cdCount ctCount), slCount⟩)
    (cCount : PySem.W.codeIn K cdCount "count_onward" = true)
    (kCount : PySem.W.keepIn K (.ref fCount) = true)
    (aEarl : PySem.W.nsIn K mainGlobals "earliest_row" = some (some (.ref fEarl)))
    (lEarl : K.lookup fEarl = some ⟨ocEarl, odEarl, .func (PySem.W.fnOf "earliest_row" "earliest_row" (defArgs sEarliest) (defBody sEarliest) (defScope sEarliest) .none kVEarl dcEarl pmEarl anEarl cdEarl ctEarl), slEarl⟩)
    (cEarl : PySem.W.codeIn K cdEarl "earliest_row" = true)
    (kEarl : PySem.W.keepIn K (.ref fEarl) = true)
    (aPInit : PySem.W.findIn K (.ref CP) "__init__" = some (some (.ref fPInit)))
    (iPInit : PySem.W.isFn K (.ref fPInit) = true)
    (lPInit : K.lookup fPInit = some ⟨ocPInit, odPInit, .func (PySem.W.fnOf "__init__" "Panel.__init__" (defArgs sPInit) (defBody sPInit) (defScope sPInit) .none kVPInit dcPInit pmPInit anPInit cdPInit ctPInit), slPInit⟩)
    (cPInit : PySem.W.codeIn K cdPInit "Panel.__init__" = true)
    (kPInit : PySem.W.keepIn K (.ref fPInit) = true)
    (aPBegins : PySem.W.findIn K (.ref CP) "begins" = some (some (.ref fPBegins)))
    (iPBegins : PySem.W.isFn K (.ref fPBegins) = true)
    (lPBegins : K.lookup fPBegins = some ⟨ocPBegins, odPBegins, .func (PySem.W.fnOf "begins" "Panel.begins" (defArgs sPBegins) (defBody sPBegins) (defScope sPBegins) .none kVPBegins dcPBegins pmPBegins anPBegins cdPBegins ctPBegins), slPBegins⟩)
    (cPBegins : PySem.W.codeIn K cdPBegins "Panel.begins" = true)
    (kPBegins : PySem.W.keepIn K (.ref fPBegins) = true)
    (aPLeft : PySem.W.findIn K (.ref CP) "left" = some (some (.ref fPLeft)))
    (iPLeft : PySem.W.isFn K (.ref fPLeft) = true)
    (lPLeft : K.lookup fPLeft = some ⟨ocPLeft, odPLeft, .func (PySem.W.fnOf "left" "Panel.left" (defArgs sPLeft) (defBody sPLeft) (defScope sPLeft) .none kVPLeft dcPLeft pmPLeft anPLeft cdPLeft ctPLeft), slPLeft⟩)
    (cPLeft : PySem.W.codeIn K cdPLeft "Panel.left" = true)
    (kPLeft : PySem.W.keepIn K (.ref fPLeft) = true)
    (aPRight : PySem.W.findIn K (.ref CP) "right" = some (some (.ref fPRight)))
    (iPRight : PySem.W.isFn K (.ref fPRight) = true)
    (lPRight : K.lookup fPRight = some ⟨ocPRight, odPRight, .func (PySem.W.fnOf "right" "Panel.right" (defArgs sPRight) (defBody sPRight) (defScope sPRight) .none kVPRight dcPRight pmPRight anPRight cdPRight ctPRight), slPRight⟩)
    (cPRight : PySem.W.codeIn K cdPRight "Panel.right" = true)
    (kPRight : PySem.W.keepIn K (.ref fPRight) = true)
    (aPWidths : PySem.W.findIn K (.ref CP) "widths" = some (some (.ref fPWidths)))
    (iPWidths : PySem.W.isFn K (.ref fPWidths) = true)
    (lPWidths : K.lookup fPWidths = some ⟨ocPWidths, odPWidths, .func (PySem.W.fnOf "widths" "Panel.widths" (defArgs sPWidths) (defBody sPWidths) (defScope sPWidths) .none kVPWidths dcPWidths pmPWidths anPWidths cdPWidths ctPWidths), slPWidths⟩)
    (cPWidths : PySem.W.codeIn K cdPWidths "Panel.widths" = true)
    (kPWidths : PySem.W.keepIn K (.ref fPWidths) = true)
    (aPBy : PySem.W.findIn K (.ref CP) "widths_by_depth" = some (some (.ref fPBy)))
    (iPBy : PySem.W.isFn K (.ref fPBy) = true)
    (lPBy : K.lookup fPBy = some ⟨ocPBy, odPBy, .func (PySem.W.fnOf "widths_by_depth" "Panel.widths_by_depth" (defArgs sPBy) (defBody sPBy) (defScope sPBy) .none kVPBy dcPBy pmPBy anPBy cdPBy ctPBy), slPBy⟩)
    (cPBy : PySem.W.codeIn K cdPBy "Panel.widths_by_depth" = true)
    (kPBy : PySem.W.keepIn K (.ref fPBy) = true)
    (aUnit : PySem.W.nsIn K mainGlobals "unit" = some (some (.ref fUnit)))
    (lUnit : K.lookup fUnit = some ⟨ocUnit, odUnit, .func (PySem.W.fnOf "unit" "unit" (defArgs sUnit) (defBody sUnit) (defScope sUnit) .none kVUnit dcUnit pmUnit anUnit cdUnit ctUnit), slUnit⟩)
    (cUnit : PySem.W.codeIn K cdUnit "unit" = true)
    (kUnit : PySem.W.keepIn K (.ref fUnit) = true)
    (aUnitLen : PySem.W.nsIn K mainGlobals "unit_length" = some (some (.ref fUnitLen)))
    (lUnitLen : K.lookup fUnitLen = some ⟨ocUnitLen, odUnitLen, .func (PySem.W.fnOf "unit_length" "unit_length" (defArgs sUnitLen) (defBody sUnitLen) (defScope sUnitLen) .none kVUnitLen dcUnitLen pmUnitLen anUnitLen cdUnitLen ctUnitLen), slUnitLen⟩)
    (cUnitLen : PySem.W.codeIn K cdUnitLen "unit_length" = true)
    (kUnitLen : PySem.W.keepIn K (.ref fUnitLen) = true)
    (aLInit : PySem.W.findIn K (.ref CL) "__init__" = some (some (.ref fLInit)))
    (iLInit : PySem.W.isFn K (.ref fLInit) = true)
    (lLInit : K.lookup fLInit = some ⟨ocLInit, odLInit, .func (PySem.W.fnOf "__init__" "Line.__init__" (defArgs sLInit) (defBody sLInit) (defScope sLInit) .none kVLInit dcLInit pmLInit anLInit cdLInit ctLInit), slLInit⟩)
    (cLInit : PySem.W.codeIn K cdLInit "Line.__init__" = true)
    (kLInit : PySem.W.keepIn K (.ref fLInit) = true)
    (aLEnd : PySem.W.findIn K (.ref CL) "is_ended" = some (some (.ref fLEnd)))
    (iLEnd : PySem.W.isFn K (.ref fLEnd) = true)
    (lLEnd : K.lookup fLEnd = some ⟨ocLEnd, odLEnd, .func (PySem.W.fnOf "is_ended" "Line.is_ended" (defArgs sLEnd) (defBody sLEnd) (defScope sLEnd) .none kVLEnd dcLEnd pmLEnd anLEnd cdLEnd ctLEnd), slLEnd⟩)
    (cLEnd : PySem.W.codeIn K cdLEnd "Line.is_ended" = true)
    (kLEnd : PySem.W.keepIn K (.ref fLEnd) = true)
    (aLNum : PySem.W.findIn K (.ref CL) "take_number" = some (some (.ref fLNum)))
    (iLNum : PySem.W.isFn K (.ref fLNum) = true)
    (lLNum : K.lookup fLNum = some ⟨ocLNum, odLNum, .func (PySem.W.fnOf "take_number" "Line.take_number" (defArgs sLNum) (defBody sLNum) (defScope sLNum) .none kVLNum dcLNum pmLNum anLNum cdLNum ctLNum), slLNum⟩)
    (cLNum : PySem.W.codeIn K cdLNum "Line.take_number" = true)
    (kLNum : PySem.W.keepIn K (.ref fLNum) = true)
    (aLRow : PySem.W.findIn K (.ref CL) "take_row" = some (some (.ref fLRow)))
    (iLRow : PySem.W.isFn K (.ref fLRow) = true)
    (lLRow : K.lookup fLRow = some ⟨ocLRow, odLRow, .func (PySem.W.fnOf "take_row" "Line.take_row" (defArgs sLRow) (defBody sLRow) (defScope sLRow) .none kVLRow dcLRow pmLRow anLRow cdLRow ctLRow), slLRow⟩)
    (cLRow : PySem.W.codeIn K cdLRow "Line.take_row" = true)
    (kLRow : PySem.W.keepIn K (.ref fLRow) = true)
    (aAnswer : PySem.W.nsIn K mainGlobals "answer" = some (some (.ref fAnswer)))
    (lAnswer : K.lookup fAnswer = some ⟨ocAnswer, odAnswer, .func (PySem.W.fnOf "answer" "answer" (defArgs sAnswer) (defBody sAnswer) (defScope sAnswer) .none kVAnswer dcAnswer pmAnswer anAnswer cdAnswer ctAnswer), slAnswer⟩)
    (cAnswer : PySem.W.codeIn K cdAnswer "answer" = true)
    (kAnswer : PySem.W.keepIn K (.ref fAnswer) = true)
    (aAnswers : PySem.W.nsIn K mainGlobals "answers" = some (some (.ref fAnswers)))
    (lAnswers : K.lookup fAnswers = some ⟨ocAnswers, odAnswers, .func (PySem.W.fnOf "answers" "answers" (defArgs sAnswers) (defBody sAnswers) (defScope sAnswers) .none kVAnswers dcAnswers pmAnswers anAnswers cdAnswers ctAnswers), slAnswers⟩)
    (cAnswers : PySem.W.codeIn K cdAnswers "answers" = true)
    (kAnswers : PySem.W.keepIn K (.ref fAnswers) = true)
    (pgP : PySem.W.plainGet K CP Str.empty = true)
    (hdP : PySem.W.hasDictIn K CP = true)
    (poP : PySem.W.plainOver K CP = true)
    (saP : PySem.W.findIn K (.ref CP) "__setattr__" = some (some (.builtin "object.__setattr__")))
    (mkP : PySem.W.makesIn K CP = true)
    (kcP : PySem.W.keepIn K (.ref CP) = true)
    (nP_width : PySem.W.findIn K (.ref CP) "width" = some none)
    (nP_left_side : PySem.W.findIn K (.ref CP) "left_side" = some none)
    (nP_right_side : PySem.W.findIn K (.ref CP) "right_side" = some none)
    (pgL : PySem.W.plainGet K CL Str.empty = true)
    (hdL : PySem.W.hasDictIn K CL = true)
    (poL : PySem.W.plainOver K CL = true)
    (saL : PySem.W.findIn K (.ref CL) "__setattr__" = some (some (.builtin "object.__setattr__")))
    (mkL : PySem.W.makesIn K CL = true)
    (kcL : PySem.W.keepIn K (.ref CL) = true)
    (nL_calls : PySem.W.findIn K (.ref CL) "calls" = some none)
    (nL_at : PySem.W.findIn K (.ref CL) "at" = some none)
    : ∃ fd : FuncData, (∀ (s : Shared) (us : List Value), us.length = (["calls"] : List Str).length → BindsTo s fd ⟨us, []⟩ ((["calls"] : List Str).zip us)) ∧ ∀ base : Heap, K.In base → base.Ns mainGlobals mg → FnOk P w K mg base CX0 6 fa fd ["calls"] (spAnswers K) := by
  have e := hfa.symm.trans (PySem.W.mg_of X G aAnswers)
  cases e
  have T : Tx K mg aD aW aS := ⟨PySem.W.mg_of X G gD, fun _ => .inr ⟨_, _, _, lD, rfl, rfl, (by show 3 ≤ sizeLine; decide), .cons ⟨_, rfl⟩ (.cons ⟨_, rfl⟩ (.cons ⟨_, rfl⟩ (.nil)))⟩, PySem.W.mg_of X G gW, fun _ => .inr ⟨_, _, _, lW, rfl, rfl, (by show 3 ≤ sizeLine; decide), .cons ⟨_, rfl⟩ (.cons ⟨_, rfl⟩ (.cons ⟨_, rfl⟩ (.nil)))⟩, PySem.W.mg_of X G gS, fun _ => .inr ⟨_, _, _, lS, rfl, rfl, (by show 2 ≤ sizeLine; decide), .cons ⟨_, rfl⟩ (.cons ⟨_, rfl⟩ (.nil))⟩, ⟨_, PySem.W.mg_of X G g_iOut⟩, ⟨_, PySem.W.mg_of X G g_iElse⟩, ⟨_, PySem.W.mg_of X G g_iCross⟩, ⟨_, PySem.W.mg_of X G g_iHi⟩, ⟨_, PySem.W.mg_of X G g_iMost⟩, ⟨_, PySem.W.mg_of X G g_iFar⟩, ⟨_, PySem.W.mg_of X G g_iFarC⟩, ⟨_, PySem.W.mg_of X G g_iWide⟩, PySem.W.mg_none_of X G g_bLen, PySem.W.mg_none_of X G g_bAll, PySem.W.mg_none_of X G g_bSum, PySem.W.mg_none_of X G g_bAbs, PySem.W.mg_none_of X G g_bMin, PySem.W.mg_none_of X G g_bMax, PySem.W.mg_none_of X G g_bList, PySem.W.mg_none_of X G g_bRange, PySem.W.mg_none_of X G g_bZip, PySem.W.mg_none_of X G g_bEnum⟩
  have TA : TxA mg := ⟨⟨_, PySem.W.mg_of X G g_i0⟩, ⟨_, PySem.W.mg_of X G g_i1⟩, ⟨_, PySem.W.mg_of X G g_i2⟩, ⟨_, PySem.W.mg_of X G g_i3⟩, ⟨_, PySem.W.mg_of X G g_i4⟩, ⟨_, PySem.W.mg_of X G g_i5⟩, ⟨_, PySem.W.mg_of X G g_i6⟩⟩
  have TP : TxP K CP := ⟨⟨pgP, hdP, poP, saP⟩, nP_width, nP_left_side, nP_right_side⟩
  have TL : TxL K CL := ⟨⟨pgL, hdL, poL, saL⟩, nL_calls, nL_at⟩
  have FIsRow := fun_mk (st := sIsRow) lIsRow cIsRow kIsRow
  have bIsRow := FIsRow.binds (ps := ["numbers"]) fun _ _ _ _ _ _ us hl => match us, hl with | [_], _ => rfl
  have CIsRow : Cal K mg "is_row" fIsRow _ ["numbers"] := ⟨PySem.W.mg_of X G aIsRow, kIsRow, bIsRow⟩
  have FDeep := fun_mk (st := sDeep) lDeep cDeep kDeep
  have bDeep := FDeep.binds (ps := ["row"]) fun _ _ _ _ _ _ us hl => match us, hl with | [_], _ => rfl
  have CDeep : Cal K mg "how_deep" fDeep _ ["row"] := ⟨PySem.W.mg_of X G aDeep, kDeep, bDeep⟩
  have FIn := fun_mk (st := sIn) lIn cIn kIn
  have bIn := FIn.binds (ps := ["row"]) fun _ _ _ _ _ _ us hl => match us, hl with | [_], _ => rfl
  have CIn : Cal K mg "how_far_in" fIn _ ["row"] := ⟨PySem.W.mg_of X G aIn, kIn, bIn⟩
  have FWays := fun_mk (st := sWays) lWays cWays kWays
  have bWays := FWays.binds (ps := ["row"]) fun _ _ _ _ _ _ us hl => match us, hl with | [_], _ => rfl
  have CWays : Cal K mg "ways_in_by_depth" fWays _ ["row"] := ⟨PySem.W.mg_of X G aWays, kWays, bWays⟩
  have FBest := fun_mk (st := sBest) lBest cBest kBest
  have bBest := FBest.binds (ps := ["depth", "way_in"]) fun _ _ _ _ _ _ us hl => match us, hl with | [_, _], _ => rfl
  have CBest : Cal K mg "best" fBest _ ["depth", "way_in"] := ⟨PySem.W.mg_of X G aBest, kBest, bBest⟩
  have FCheck := fun_mk (st := sCheck) lCheck cCheck kCheck
  have bCheck := FCheck.binds (ps := ["depth", "way_in", "cuts"]) fun _ _ _ _ _ _ us hl => match us, hl with | [_, _, _], _ => rfl
  have CCheck : Cal K mg "check" fCheck _ ["depth", "way_in", "cuts"] := ⟨PySem.W.mg_of X G aCheck, kCheck, bCheck⟩
  have FOff := fun_mk (st := sOff) lOff cOff kOff
  have bOff := FOff.binds (ps := ["place", "goal"]) fun _ _ _ _ _ _ us hl => match us, hl with | [_, _], _ => rfl
  have COff : Cal K mg "off_line" fOff _ ["place", "goal"] := ⟨PySem.W.mg_of X G aOff, kOff, bOff⟩
  have FBack := fun_mk (st := sBack) lBack cBack kBack
  have bBack := FBack.binds (ps := ["goal"]) fun _ _ _ _ _ _ us hl => match us, hl with | [_], _ => rfl
  have CBack : Cal K mg "places_back" fBack _ ["goal"] := ⟨PySem.W.mg_of X G aBack, kBack, bBack⟩
  have FOnward := fun_mk (st := sOnward) lOnward cOnward kOnward
  have bOnward := FOnward.binds (ps := ["place"]) fun _ _ _ _ _ _ us hl => match us, hl with | [_], _ => rfl
  have COnward : Cal K mg "places_onward" fOnward _ ["place"] := ⟨PySem.W.mg_of X G aOnward, kOnward, bOnward⟩
  have FHowUn := fun_mk (st := sHowUn) lHowUn cHowUn kHowUn
  have bHowUn := FHowUn.binds (ps := ["row", "goal"]) fun _ _ _ _ _ _ us hl => match us, hl with | [_, _], _ => rfl
  have CHowUn : Cal K mg "how_uneven" fHowUn _ ["row", "goal"] := ⟨PySem.W.mg_of X G aHowUn, kHowUn, bHowUn⟩
  have FLeast := fun_mk (st := sLeast) lLeast cLeast kLeast
  have bLeast := FLeast.binds (ps := ["goal"]) fun _ _ _ _ _ _ us hl => match us, hl with | [_], _ => rfl
  have CLeast : Cal K mg "least_uneven" fLeast _ ["goal"] := ⟨PySem.W.mg_of X G aLeast, kLeast, bLeast⟩
  have FCount := fun_mk (st := sCount) lCount cCount kCount
  have bCount := FCount.binds (ps := ["goal", "uneven"]) fun _ _ _ _ _ _ us hl => match us, hl with | [_, _], _ => rfl
  have CCount : Cal K mg "count_onward" fCount _ ["goal", "uneven"] := ⟨PySem.W.mg_of X G aCount, kCount, bCount⟩
  have FEarl := fun_mk (st := sEarliest) lEarl cEarl kEarl
  have bEarl := FEarl.binds (ps := ["goal", "counts"]) fun _ _ _ _ _ _ us hl => match us, hl with | [_, _], _ => rfl
  have CEarl : Cal K mg "earliest_row" fEarl _ ["goal", "counts"] := ⟨PySem.W.mg_of X G aEarl, kEarl, bEarl⟩
  have FPInit := fun_mk (st := sPInit) lPInit cPInit kPInit
  have bPInit := FPInit.binds (ps := ["self"]) fun _ _ _ _ _ _ us hl => match us, hl with | [_], _ => rfl
  have mPInit : Meth K CP "__init__" fPInit := ⟨aPInit, iPInit, kPInit⟩
  have FPBegins := fun_mk (st := sPBegins) lPBegins cPBegins kPBegins
  have bPBegins := FPBegins.binds (ps := ["self", "width"]) fun _ _ _ _ _ _ us hl => match us, hl with | [_, _], _ => rfl
  have mPBegins : Meth K CP "begins" fPBegins := ⟨aPBegins, iPBegins, kPBegins⟩
  have FPLeft := fun_mk (st := sPLeft) lPLeft cPLeft kPLeft
  have bPLeft := FPLeft.binds (ps := ["self", "cuts"]) fun _ _ _ _ _ _ us hl => match us, hl with | [_, _], _ => rfl
  have mPLeft : Meth K CP "left" fPLeft := ⟨aPLeft, iPLeft, kPLeft⟩
  have FPRight := fun_mk (st := sPRight) lPRight cPRight kPRight
  have bPRight := FPRight.binds (ps := ["self", "cuts"]) fun _ _ _ _ _ _ us hl => match us, hl with | [_, _], _ => rfl
  have mPRight : Meth K CP "right" fPRight := ⟨aPRight, iPRight, kPRight⟩
  have FPWidths := fun_mk (st := sPWidths) lPWidths cPWidths kPWidths
  have bPWidths := FPWidths.binds (ps := ["self"]) fun _ _ _ _ _ _ us hl => match us, hl with | [_], _ => rfl
  have mPWidths : Meth K CP "widths" fPWidths := ⟨aPWidths, iPWidths, kPWidths⟩
  have FPBy := fun_mk (st := sPBy) lPBy cPBy kPBy
  have bPBy := FPBy.binds (ps := ["self"]) fun _ _ _ _ _ _ us hl => match us, hl with | [_], _ => rfl
  have mPBy : Meth K CP "widths_by_depth" fPBy := ⟨aPBy, iPBy, kPBy⟩
  have FUnit := fun_mk (st := sUnit) lUnit cUnit kUnit
  have bUnit := FUnit.binds (ps := ["cuts"]) fun _ _ _ _ _ _ us hl => match us, hl with | [_], _ => rfl
  have CUnit : Cal K mg "unit" fUnit _ ["cuts"] := ⟨PySem.W.mg_of X G aUnit, kUnit, bUnit⟩
  have FUnitLen := fun_mk (st := sUnitLen) lUnitLen cUnitLen kUnitLen
  have bUnitLen := FUnitLen.binds (ps := ["row"]) fun _ _ _ _ _ _ us hl => match us, hl with | [_], _ => rfl
  have CUnitLen : Cal K mg "unit_length" fUnitLen _ ["row"] := ⟨PySem.W.mg_of X G aUnitLen, kUnitLen, bUnitLen⟩
  have FLInit := fun_mk (st := sLInit) lLInit cLInit kLInit
  have bLInit := FLInit.binds (ps := ["self", "calls"]) fun _ _ _ _ _ _ us hl => match us, hl with | [_, _], _ => rfl
  have mLInit : Meth K CL "__init__" fLInit := ⟨aLInit, iLInit, kLInit⟩
  have FLEnd := fun_mk (st := sLEnd) lLEnd cLEnd kLEnd
  have bLEnd := FLEnd.binds (ps := ["self"]) fun _ _ _ _ _ _ us hl => match us, hl with | [_], _ => rfl
  have mLEnd : Meth K CL "is_ended" fLEnd := ⟨aLEnd, iLEnd, kLEnd⟩
  have FLNum := fun_mk (st := sLNum) lLNum cLNum kLNum
  have bLNum := FLNum.binds (ps := ["self"]) fun _ _ _ _ _ _ us hl => match us, hl with | [_], _ => rfl
  have mLNum : Meth K CL "take_number" fLNum := ⟨aLNum, iLNum, kLNum⟩
  have FLRow := fun_mk (st := sLRow) lLRow cLRow kLRow
  have bLRow := FLRow.binds (ps := ["self"]) fun _ _ _ _ _ _ us hl => match us, hl with | [_], _ => rfl
  have mLRow : Meth K CL "take_row" fLRow := ⟨aLRow, iLRow, kLRow⟩
  have FAnswer := fun_mk (st := sAnswer) lAnswer cAnswer kAnswer
  have bAnswer := FAnswer.binds (ps := ["panel", "line"]) fun _ _ _ _ _ _ us hl => match us, hl with | [_, _], _ => rfl
  have CAnswer : Cal K mg "answer" fAnswer _ ["panel", "line"] := ⟨PySem.W.mg_of X G aAnswer, kAnswer, bAnswer⟩
  have FAnswers := fun_mk (st := sAnswers) lAnswers cAnswers kAnswers
  have bAnswers := FAnswers.binds (ps := ["calls"]) fun _ _ _ _ _ _ us hl => match us, hl with | [_], _ => rfl
  refine ⟨PySem.W.fnOf "answers" "answers" (defArgs sAnswers) (defBody sAnswers) (defScope sAnswers) .none kVAnswers dcAnswers pmAnswers anAnswers cdAnswers ctAnswers, fun s us hu => match us, hu with | [_], _ => .of_eq rfl, fun base _ _ => ?_⟩
  have GIsRow := ok_isRow (P := P) (w := w) (base := base) FIsRow T
  have GDeep := ok_deep (P := P) (w := w) (base := base) FDeep T
  have GIn := ok_in (P := P) (w := w) (base := base) FIn T
  have GOff := ok_off (P := P) (w := w) (base := base) FOff T
  have GBack := ok_back (P := P) (w := w) (base := base) FBack T
  have GOnward := ok_onward (P := P) (w := w) (base := base) FOnward T
  have GLeast := ok_least (P := P) (w := w) (base := base) FLeast T GBack CBack GOff COff GOnward COnward
  have GCount := ok_count (P := P) (w := w) (base := base) FCount T GBack CBack GOff COff GOnward COnward
  have GEarl := ok_earl (P := P) (w := w) (base := base) FEarl T GOnward COnward
  have GBest := ok_best (P := P) (w := w) (base := base) FBest T GLeast CLeast GCount CCount GEarl CEarl
  have GPInit := ok_pInit (P := P) (w := w) (mg := mg) (base := base) FPInit TP
  have GPBegins := ok_pBegins (P := P) (w := w) (base := base) FPBegins TP T
  have GPLeft := ok_pLeft (P := P) (w := w) (base := base) FPLeft TP T GIsRow CIsRow GDeep CDeep GIn CIn
  have GPRight := ok_pRight (P := P) (w := w) (base := base) FPRight TP T GIsRow CIsRow GDeep CDeep GIn CIn
  have GLInit := ok_lInit (P := P) (w := w) (mg := mg) (base := base) FLInit TL
  have GLEnd := ok_lEnd (P := P) (w := w) (mg := mg) (base := base) FLEnd TL T.bLen
  have GLNum := ok_lNum (P := P) (w := w) (mg := mg) (base := base) FLNum TL
  have GLRow := ok_lRow (P := P) (w := w) (base := base) FLRow TL GLNum bLNum mLNum
  have GWays := ok_ways (P := P) (w := w) (base := base) FWays T
  have GHowUn := ok_howUn (P := P) (w := w) (base := base) FHowUn T GOff COff GOnward COnward
  have GCheck := ok_check (P := P) (w := w) (base := base) FCheck T GIsRow CIsRow GDeep CDeep GIn CIn GHowUn CHowUn
  have GUnitLen := ok_unitLen (P := P) (w := w) (base := base) FUnitLen T
  have GUnit := ok_unit (P := P) (w := w) (base := base) FUnit T GIsRow CIsRow GUnitLen CUnitLen
  have GPBy := ok_pBy (P := P) (w := w) (base := base) FPBy TP T GWays CWays
  have GPWidths := ok_pWidths (P := P) (w := w) (base := base) FPWidths TP T GPBy bPBy mPBy
  have GAnswer := ok_answer (P := P) (w := w) (base := base) FAnswer TA TL TP GLNum bLNum mLNum GLRow bLRow mLRow GPBegins bPBegins mPBegins GPLeft bPLeft mPLeft GPRight bPRight mPRight GBest CBest GCheck CCheck GUnit CUnit GPWidths bPWidths mPWidths
  exact ok_answers (P := P) (w := w) (base := base) FAnswers T TL GPInit bPInit ⟨mkP, aPInit, iPInit, kcP⟩ (PySem.W.mg_of X G aP) GLInit bLInit ⟨mkL, aLInit, iLInit, kcL⟩ (PySem.W.mg_of X G aL) GLEnd bLEnd mLEnd GAnswer CAnswer
end Net
open PySem PySem.W PyProof.Rows
set_option maxRecDepth 100000 in
set_option maxHeartbeats 0 in
theorem PySem.Challenge.cw_netcuts_s01_answers_holds : PySem.Challenge.rw_netcuts_s01_answers.Holds := by
  w_on; k_headS; (case hw => exact ⟨[.list [.int 6]], by decide +kernel, by decide +kernel⟩)
  k_fillS
  refine L2.walk_specK (r := PySem.Challenge.rw_netcuts_s01_answers) (k := 6) (CX := L2.CX0) (ps := ["calls"]) (sp := Net.spAnswers) (by decide +kernel) rfl rfl ⟨rfl, by decide, by decide⟩ (fun w h Y => PySem.W.kIn_of Y) ?F ?S (fun _ _ _ _ z => z)
  case F =>
    intro w mg fa h Y KX G hmg
    refine' Net.all_mk KX G hmg ?aP ?aL ?gD ?lD ?gW ?lW ?gS ?lS ?g_iOut ?g_iElse ?g_iCross ?g_iHi ?g_iMost ?g_iFar ?g_iFarC ?g_iWide ?g_i0 ?g_i1 ?g_i2 ?g_i3 ?g_i4 ?g_i5 ?g_i6 ?g_bLen ?g_bAll ?g_bSum ?g_bAbs ?g_bMin ?g_bMax ?g_bList ?g_bRange ?g_bZip ?g_bEnum ?aIsRow ?lIsRow ?cIsRow ?kIsRow ?aDeep ?lDeep ?cDeep ?kDeep ?aIn ?lIn ?cIn ?kIn ?aWays ?lWays ?cWays ?kWays ?aBest ?lBest ?cBest ?kBest ?aCheck ?lCheck ?cCheck ?kCheck ?aOff ?lOff ?cOff ?kOff ?aBack ?lBack ?cBack ?kBack ?aOnward ?lOnward ?cOnward ?kOnward ?aHowUn ?lHowUn ?cHowUn ?kHowUn ?aLeast ?lLeast ?cLeast ?kLeast ?aCount ?lCount ?cCount ?kCount ?aEarl ?lEarl ?cEarl ?kEarl ?aPInit ?iPInit ?lPInit ?cPInit ?kPInit ?aPBegins ?iPBegins ?lPBegins ?cPBegins ?kPBegins ?aPLeft ?iPLeft ?lPLeft ?cPLeft ?kPLeft ?aPRight ?iPRight ?lPRight ?cPRight ?kPRight ?aPWidths ?iPWidths ?lPWidths ?cPWidths ?kPWidths ?aPBy ?iPBy ?lPBy ?cPBy ?kPBy ?aUnit ?lUnit ?cUnit ?kUnit ?aUnitLen ?lUnitLen ?cUnitLen ?kUnitLen ?aLInit ?iLInit ?lLInit ?cLInit ?kLInit ?aLEnd ?iLEnd ?lLEnd ?cLEnd ?kLEnd ?aLNum ?iLNum ?lLNum ?cLNum ?kLNum ?aLRow ?iLRow ?lLRow ?cLRow ?kLRow ?aAnswer ?lAnswer ?cAnswer ?kAnswer ?aAnswers ?lAnswers ?cAnswers ?kAnswers ?pgP ?hdP ?poP ?saP ?mkP ?kcP ?nP_width ?nP_left_side ?nP_right_side ?pgL ?hdL ?poL ?saL ?mkL ?kcL ?nL_calls ?nL_at
    (case aP => k_is); (case aL => k_is); (case gD => k_is); (case lD => k_is); (case gW => k_is); (case lW => k_is); (case gS => k_is); (case lS => k_is)
    (case g_iOut => k_is); (case g_iElse => k_is); (case g_iCross => k_is); (case g_iHi => k_is); (case g_iMost => k_is); (case g_iFar => k_is); (case g_iFarC => k_is); (case g_iWide => k_is)
    (case g_i0 => k_is); (case g_i1 => k_is); (case g_i2 => k_is); (case g_i3 => k_is); (case g_i4 => k_is); (case g_i5 => k_is); (case g_i6 => k_is); (case g_bLen => k_is)
    (case g_bAll => k_is); (case g_bSum => k_is); (case g_bAbs => k_is); (case g_bMin => k_is); (case g_bMax => k_is); (case g_bList => k_is); (case g_bRange => k_is); (case g_bZip => k_is)
    (case g_bEnum => k_is); (case aIsRow => k_is); (case lIsRow => k_is); (case cIsRow => k_is); (case kIsRow => k_is); (case aDeep => k_is); (case lDeep => k_is); (case cDeep => k_is)
    (case kDeep => k_is); (case aIn => k_is); (case lIn => k_is); (case cIn => k_is); (case kIn => k_is); (case aWays => k_is); (case lWays => k_is); (case cWays => k_is)
    (case kWays => k_is); (case aBest => k_is); (case lBest => k_is); (case cBest => k_is); (case kBest => k_is); (case aCheck => k_is); (case lCheck => k_is); (case cCheck => k_is)
    (case kCheck => k_is); (case aOff => k_is); (case lOff => k_is); (case cOff => k_is); (case kOff => k_is); (case aBack => k_is); (case lBack => k_is); (case cBack => k_is)
    (case kBack => k_is); (case aOnward => k_is); (case lOnward => k_is); (case cOnward => k_is); (case kOnward => k_is); (case aHowUn => k_is); (case lHowUn => k_is); (case cHowUn => k_is)
    (case kHowUn => k_is); (case aLeast => k_is); (case lLeast => k_is); (case cLeast => k_is); (case kLeast => k_is); (case aCount => k_is); (case lCount => k_is); (case cCount => k_is)
    (case kCount => k_is); (case aEarl => k_is); (case lEarl => k_is); (case cEarl => k_is); (case kEarl => k_is); (case aPInit => k_is); (case iPInit => k_is); (case lPInit => k_is)
    (case cPInit => k_is); (case kPInit => k_is); (case aPBegins => k_is); (case iPBegins => k_is); (case lPBegins => k_is); (case cPBegins => k_is); (case kPBegins => k_is); (case aPLeft => k_is)
    (case iPLeft => k_is); (case lPLeft => k_is); (case cPLeft => k_is); (case kPLeft => k_is); (case aPRight => k_is); (case iPRight => k_is); (case lPRight => k_is); (case cPRight => k_is)
    (case kPRight => k_is); (case aPWidths => k_is); (case iPWidths => k_is); (case lPWidths => k_is); (case cPWidths => k_is); (case kPWidths => k_is); (case aPBy => k_is); (case iPBy => k_is)
    (case lPBy => k_is); (case cPBy => k_is); (case kPBy => k_is); (case aUnit => k_is); (case lUnit => k_is); (case cUnit => k_is); (case kUnit => k_is); (case aUnitLen => k_is)
    (case lUnitLen => k_is); (case cUnitLen => k_is); (case kUnitLen => k_is); (case aLInit => k_is); (case iLInit => k_is); (case lLInit => k_is); (case cLInit => k_is); (case kLInit => k_is)
    (case aLEnd => k_is); (case iLEnd => k_is); (case lLEnd => k_is); (case cLEnd => k_is); (case kLEnd => k_is); (case aLNum => k_is); (case iLNum => k_is); (case lLNum => k_is)
    (case cLNum => k_is); (case kLNum => k_is); (case aLRow => k_is); (case iLRow => k_is); (case lLRow => k_is); (case cLRow => k_is); (case kLRow => k_is); (case aAnswer => k_is)
    (case lAnswer => k_is); (case cAnswer => k_is); (case kAnswer => k_is); (case aAnswers => k_is); (case lAnswers => k_is); (case cAnswers => k_is); (case kAnswers => k_is); (case pgP => k_is)
    (case hdP => k_is); (case poP => k_is); (case saP => k_is); (case mkP => k_is); (case kcP => k_is); (case nP_width => k_is); (case nP_left_side => k_is); (case nP_right_side => k_is)
    (case pgL => k_is); (case hdL => k_is); (case poL => k_is); (case saL => k_is); (case mkL => k_is); (case kcL => k_is); (case nL_calls => k_is); (case nL_at => k_is)
  case S =>
    intro K H xs a hO hwi hask hx
    cases hx with
    | cons h1 h2 =>
      cases h2
      cases h1 with
      | lst hs ha =>
        have e := L2.ints_dw a.1 _ ha
        subst e
        have q : ((Codec.inLen 0 3300 a.1 && a.1.all (Codec.inInt 0 4294967295)) && true) = true := hwi
        rw [Bool.and_eq_true, Bool.and_eq_true] at q
        refine ⟨_, a.1, rfl, hs, fun z hz => ?_, hask, fun H' p hp => .lst (L2.SqL.of hp) (L2.dw_ints _)⟩
        exact Codec.inInt_iff.mp (List.all_eq_true.mp q.1.2 z hz)
#print axioms PySem.Challenge.cw_netcuts_s01_answers_holds

