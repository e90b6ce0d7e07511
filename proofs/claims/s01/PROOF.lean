import PyProof.Rows.All
import Wide.All
import OpenK.AllK
import Wide.FinOn
import PyProof.EqAt
import PyProof.EqKinds
import PyProof.TupleCall
import KE.BitLaws
import Open.SpecLaws
import KE.OsHead
import KE.OsGo
import KE.KEqSeq
import KE.KSortTupG
import PyFlatLaws
import PySem.Challenge.RW_geneturns_s01_answers
set_option Elab.async false
set_option linter.all false
set_option maxRecDepth 100000
namespace L2
open PySem PySem.Spec PyProof.Rows
/-- a key: an int or a str -/
abbrev Key := Sum Int Str
def keyIs : Key → Value → Bool
  | .inl k, v => Value.isInt k v
  | .inr x, v => Value.isStrOf x v
def keyH (w : World) : Key → Int
  | .inl k => hashInt k
  | .inr x => hashStr w x
theorem keyIs_shape : ∀ {k : Key} {v : Value}, keyIs k v = true → (∃ i t, k = Sum.inl i ∧ v = Value.int i t) ∨ (∃ x t, k = Sum.inr x ∧ v = Value.str x t)
  | .inl i, v, h => by
    obtain ⟨t, e⟩ := Value.isInt_shape (k := i) (v := v) h
    exact .inl ⟨i, t, rfl, e⟩
  | .inr x, v, h => by
    obtain ⟨t, e⟩ := Value.isStrOf_shape (x := x) (v := v) h
    exact .inr ⟨x, t, rfl, e⟩
theorem keyIs_int (i : Int) (t : Tok) : keyIs (.inl i) (.int i t) = true := by simp [keyIs, Value.isInt]
theorem keyIs_str (x : Str) (t : Tok) : keyIs (.inr x) (.str x t) = true := by simp [keyIs, Value.isStrOf]
theorem key_ll (a b : Int) : decide ((Sum.inl a : Key) = Sum.inl b) = (a == b) := by
  by_cases e : a = b
  · subst e; simp
  · have h : ¬ (Sum.inl a : Key) = Sum.inl b := fun q => e (Sum.inl.inj q)
    rw [decide_eq_false h]
    exact (beq_eq_false_iff_ne.mpr e).symm
theorem key_rr (a b : Str) : decide ((Sum.inr a : Key) = Sum.inr b) = decide (a = b) := by
  by_cases e : a = b
  · subst e; simp
  · have h : ¬ (Sum.inr a : Key) = Sum.inr b := fun q => e (Sum.inr.inj q)
    rw [decide_eq_false h, decide_eq_false e]
theorem key_lr (a : Int) (b : Str) : decide ((Sum.inl a : Key) = Sum.inr b) = false := decide_eq_false (fun q => nomatch q)
theorem key_rl (a : Str) (b : Int) : decide ((Sum.inr a : Key) = Sum.inl b) = false := decide_eq_false (fun q => nomatch q)
def mixKind (prog : Program) (w : World) : PySem.KeyKind prog w Key where
  is := keyIs
  hash := keyH w
  inj := fun v a b ha hb => by
    rcases keyIs_shape ha with ⟨i, t, rfl, rfl⟩ | ⟨x, t, rfl, rfl⟩
    · rcases keyIs_shape hb with ⟨j, u, rfl, e⟩ | ⟨y, u, rfl, e⟩
      · injection e with e1 _; rw [e1]
      · exact nomatch e
    · rcases keyIs_shape hb with ⟨j, u, rfl, e⟩ | ⟨y, u, rfl, e⟩
      · exact nomatch e
      · injection e with e1 _; rw [e1]
  byValue := fun k v h => by
    rcases keyIs_shape h with ⟨i, t, rfl, rfl⟩ | ⟨x, t, rfl, rfl⟩ <;> rfl
  pyHash := fun hv h => by
    rcases keyIs_shape hv with ⟨i, t, rfl, rfl⟩ | ⟨x, t, rfl, rfl⟩
    · exact wpAny_pyHash_int h
    · exact wpAny_pyHash_str h
  eqBool := fun hu hv h => by
    rcases keyIs_shape hu with ⟨i, t, rfl, rfl⟩ | ⟨x, t, rfl, rfl⟩
    · rcases keyIs_shape hv with ⟨j, u, rfl, rfl⟩ | ⟨y, u, rfl, rfl⟩
      · rw [key_ll] at h; exact wpAny_eqBool_int h
      · rw [key_lr] at h; exact SeqAt.EqAt.int_str i t y u _ _ _ _ h
    · rcases keyIs_shape hv with ⟨j, u, rfl, rfl⟩ | ⟨y, u, rfl, rfl⟩
      · rw [key_rl] at h; exact SeqAt.EqAt.str_int x t j u _ _ _ _ h
      · rw [key_rr] at h; exact wpAny_eqBool_str h
  «strs» := fun k x t v h => by
    rcases keyIs_shape h with ⟨i, u, rfl, e⟩ | ⟨y, u, rfl, e⟩
    · exact nomatch e
    · injection e with e1 _
      subst e1
      cases v <;> rfl
theorem mixKind_int (prog : Program) (w : World) (i : Int) (t : Tok) : (mixKind prog w).is (.inl i) (.int i t) = true := keyIs_int i t
theorem mixKind_str (prog : Program) (w : World) (x : Str) (t : Tok) : (mixKind prog w).is (.inr x) (.str x t) = true := keyIs_str x t
end L2
namespace L2
open PySem PySem.Spec PyProof.Rows
/-- a value, without the heap -/
inductive V where
  | non | bl (b : Bool) | int (i : Int) | str (x : Str) | byt (b : Array UInt8) | flt (b : UInt64) | ref (a : Addr) | ty (n : String)
  deriving DecidableEq
def RelV : V → Value → Prop
  | .non, u => u = Value.none
  | .bl b, u => u = Value.bool b
  | .int i, u => ∃ t, u = Value.int i t
  | .str x, u => ∃ t, u = Value.str x t
  | .byt b, u => ∃ t, u = Value.bytes b t
  | .flt b, u => ∃ t, u = Value.float b t
  | .ref a, u => u = Value.ref a
  | .ty n, u => u = Value.type n
abbrev Vals : List V → List Value → Prop := Paired RelV
theorem Vals.length {xs : List V} {us : List Value} (r : Vals xs us) : xs.length = us.length := Paired.length r
theorem Vals.get : ∀ {xs : List V} {us : List Value} {i : Nat} {x : V}, Vals xs us → xs[i]? = some x → ∃ u, us[i]? = some u ∧ RelV x u
  | _, _, _, _, .nil, e => by simp at e
  | _, _, 0, _, .cons r _, e => by simp at e; subst e; exact ⟨_, rfl, r⟩
  | _, _, i + 1, x, .cons _ t, e => by
    obtain ⟨u, h1, h2⟩ := Vals.get (i := i) (x := x) t (by simpa using e)
    exact ⟨u, by simpa using h1, h2⟩
theorem Vals.set {x : V} {u : Value} (r : RelV x u) : ∀ {xs : List V} {us : List Value} (i : Nat), Vals xs us → Vals (xs.set i x) (us.set i u)
  | _, _, _, .nil => .nil
  | _, _, 0, .cons _ t => .cons r t
  | _, _, i + 1, .cons q t => .cons q (Vals.set r i t)
theorem Vals.append : ∀ {xs ys : List V} {us ws : List Value}, Vals xs us → Vals ys ws → Vals (xs ++ ys) (us ++ ws)
  | _, _, _, _, .nil, s => s
  | _, _, _, _, .cons r t, s => .cons r (Vals.append t s)
theorem Vals.take : ∀ {xs : List V} {us : List Value} (n : Nat), Vals xs us → Vals (xs.take n) (us.take n)
  | _, _, 0, _ => .nil
  | _, _, _ + 1, .nil => .nil
  | _, _, n + 1, .cons r t => .cons r (Vals.take n t)
theorem Vals.drop : ∀ {xs : List V} {us : List Value} (n : Nat), Vals xs us → Vals (xs.drop n) (us.drop n)
  | _, _, 0, r => r
  | _, _, _ + 1, .nil => .nil
  | _, _, n + 1, .cons _ t => Vals.drop n t
def RelO : Option V → Option Value → Prop
  | some v, some u => RelV v u
  | none, none => True
  | _, _ => False
def KV {κ : Type} : List (κ × V) → List (κ × Value) → Prop := Paired fun (p : κ × V) (q : κ × Value) => p.1 = q.1 ∧ RelV p.2 q.2
/-- a key of a dict (00_mix): an int or a text -/
def kV : Key → V
  | .inl i => .int i
  | .inr x => .str x
/-- what stands at a tracked address -/
inductive HO where
  /-- a list -/
  | lst (xs : List V)
  /-- a tuple (never changes) -/
  | tup (xs : List V)
  /-- a dict whose keys are ints and texts; one whose keys are tuples of ints and texts (the empty one is both) -/
  | dK (kvs : List (Key × V)) | dT (kvs : List (List Key × V))
  /-- a set of ints: its members, its size -/
  | set (S : Int → Bool) (n : Nat)
  /-- an instance of the class at C, its dict at dx, its attributes -/
  | ins (C dx : Addr) (fs : List (Str × V))
  /-- the dict of the instance at x -/
  | own (x : Addr)
  /-- the dict of an exception -/
  | xd (fs : List (Str × V))
  /-- a bound method, f of x -/
  | met (f x : Addr)
  /-- a range object lo, lo + 1, .. below hi -/
  | rng (lo hi : Int)
  /-- a thing that is known to the object (the script; a dict while a loop walks it): read, never written while it is so -/
  | frz (o : Obj) (u : HO)
  /-- a code object's table -/
  | tbl (ps : Array Value)
  /-- any other thing, by what is true of its one object (a def of one's own: SetO a S n := HO.ext fun h => ..) -/
  | ext (φ : Heap → Prop)
abbrev Hp := Addr → Option HO
def upd (H : Hp) (a : Addr) (o : HO) : Hp := fun b => if b = a then some o else H b
theorem upd_same {H : Hp} {a : Addr} {o : HO} : upd H a o a = some o := by unfold upd; rw [if_pos rfl]
theorem upd_ne {H : Hp} {a b : Addr} {o : HO} (h : b ≠ a) : upd H a o b = H b := by unfold upd; rw [if_neg h]
theorem upd_upd {H : Hp} {a : Addr} {o u : HO} : upd (upd H a o) a u = upd H a u := by
  funext b; unfold upd; split <;> rfl
/-- two objects of different content stand apart -/
theorem ne_of {H : Hp} {a b : Addr} {o u : HO} (h : H a = some o) (h' : H b = some u) (d : o ≠ u) : a ≠ b := by
  intro e; subst e; rw [h] at h'; exact d (Option.some.inj h')
theorem ne_of_none {H : Hp} {a b : Addr} {o : HO} (h : H a = some o) (h' : H b = none) : a ≠ b := by
  intro e; subst e; rw [h] at h'; cases h'
section
variable (P : Program) (w : World)
def ObjOk (H : Hp) (h : Heap) (a : Addr) : HO → Prop
  | .lst xs => xs.length ≤ sizeLine ∧ ∃ (its : List Value) (n : Nat), Vals xs its ∧ h.get? a = some { cls := .type "list", data := .seq its.toArray n }
  | .tup xs => xs.length ≤ sizeLine ∧ ∃ its : List Value, Vals xs its ∧ IsTup h a its.toArray
  | .dK kvs => kvs.length ≤ sizeLine ∧ (a == sysModules) = false ∧ ∃ vs, KV kvs vs ∧ h.DictOf (mixKind P w) a vs
  | .dT kvs => kvs.length ≤ sizeLine ∧ (a == sysModules) = false ∧ ∃ xs : List (List Key × Addr × Value),
      Paired (fun (p : List Key × V) (q : List Key × Addr × Value) => p.1 = q.1 ∧ H q.2.1 = some (.tup (p.1.map kV)) ∧ RelV p.2 q.2.2) kvs xs ∧
      ∃ o es ep, h.get? a = some o ∧ o.ExactDict ∧ o.data = .dict es ep ∧ es.toList = xs.map (entryOfKey (tupleKind (mixKind P w))) ∧ (xs.map (·.1)).Nodup
  | .set S n => h.SetOf (intKind P w) a S n
  | .ins C dx fs => H dx = some (.own a) ∧ fs.length ≤ 1000 ∧ dx ≠ a ∧ h.get? a = some (PySem.W.instObj C dx) ∧
      ∃ mA, h.Ns1 dx mA ∧ (∀ f, RelO (fs.lookup f) (mA f)) ∧ PySem.Within mA (fs.map (·.1))
  | .own _ => ∃ o, h.get? a = some o
  | .xd fs => ∃ mA, h.Ns1 a mA ∧ ∀ f, RelO (fs.lookup f) (mA f)
  | .rng lo hi => ∃ t u v, h.get? a = some { cls := .type "range", data := .fields #[.int lo t, .int hi u, .int 1 v] }
  | .frz o u => h.get? a = some o ∧ ObjOk H h a u
  | .tbl ps => h.get? a = some { cls := .none, data := .fields ps }
  | .met f x => h.get? a = some (PySem.W.methodObj (.ref f) (.ref x))
  | .ext φ => φ h ∧ (∃ o, h.get? a = some o) ∧ ∀ h1 h2 : Heap, φ h1 → (∀ o, h1.get? a = some o → h2.get? a = some o) → φ h2
/-- the abstract heap is held -/
def HOk (H : Hp) (h : Heap) : Prop := ∀ a o, H a = some o → ObjOk P w H h a o
end
section
variable {P : Program} {w : World} {H H' : Hp} {h h' : Heap} {a : Addr} {o : HO}
theorem ObjOk.lt (x : ObjOk P w H h a o) : a < h.objs.size := by
  cases o with
  | lst xs => obtain ⟨_, _, _, _, e⟩ := x; exact Heap.lt_size e
  | tup xs => obtain ⟨_, _, _, p⟩ := x; exact p.lt
  | dK kvs => obtain ⟨_, _, _, _, o, _, _, e, _⟩ := x; exact Heap.lt_size e
  | dT kvs => obtain ⟨_, _, _, _, o, _, _, e, _⟩ := x; exact Heap.lt_size e
  | set S n => obtain ⟨o, _, _, _, e, _⟩ := x; exact Heap.lt_size e
  | ins C dx fs => obtain ⟨_, _, _, e, _⟩ := x; exact Heap.lt_size e
  | own y => obtain ⟨_, e⟩ := x; exact Heap.lt_size e
  | xd fs => obtain ⟨_, ⟨_, _, _, e, _⟩, _⟩ := x; exact Heap.lt_size e
  | rng lo hi => obtain ⟨_, _, _, e⟩ := x; exact Heap.lt_size e
  | frz ob u => obtain ⟨e, _⟩ := x; exact Heap.lt_size e
  | tbl ps => exact Heap.lt_size (show h.get? a = some _ from x)
  | met f y => exact Heap.lt_size (show h.get? a = some _ from x)
  | ext φ => obtain ⟨_, ⟨_, e⟩, _⟩ := x; exact Heap.lt_size e
theorem Paired.mapP {α β : Type} {F G : α → β → Prop} : ∀ {l₁ : List α} {l₂ : List β}, Paired F l₁ l₂ → (∀ a b, F a b → G a b) → Paired G l₁ l₂
  | _, _, .nil, _ => .nil
  | _, _, .cons r t, f => .cons (f _ _ r) (Paired.mapP t f)
/-- what an object's description leans on: its own object, its own dict, the tuples -/
theorem ObjOk.stay (x : ObjOk P w H h a o) (k : ∀ b u, (b = a ∨ H b = some (.own a)) → h.get? b = some u → h'.get? b = some u)
    (ho : ∀ b, H b = some (.own a) → H' b = some (.own a)) (ht : ∀ b xs, H b = some (.tup xs) → H' b = some (.tup xs)) : ObjOk P w H' h' a o := by
  induction o with
  | lst xs => obtain ⟨z, its, n, r, e⟩ := x; exact ⟨z, its, n, r, k _ _ (.inl rfl) e⟩
  | tup xs => obtain ⟨z, its, r, ob, e, c⟩ := x; exact ⟨z, its, r, ob, k _ _ (.inl rfl) e, c⟩
  | dK kvs => obtain ⟨z, y, vs, r, ob, es, ep, e, c⟩ := x; exact ⟨z, y, vs, r, ob, es, ep, k _ _ (.inl rfl) e, c⟩
  | dT kvs =>
    obtain ⟨z, y, xs, r, ob, es, ep, e, c⟩ := x
    exact ⟨z, y, xs, Paired.mapP r fun p q z => ⟨z.1, ht _ _ z.2.1, z.2.2⟩, ob, es, ep, k _ _ (.inl rfl) e, c⟩
  | set S n => obtain ⟨ob, es, ep, t, e, c⟩ := x; exact ⟨ob, es, ep, t, k _ _ (.inl rfl) e, c⟩
  | ins C dx fs =>
    obtain ⟨d, z, ne, e, mA, ⟨od, es, ep, e2, c⟩, r⟩ := x
    exact ⟨ho _ d, z, ne, k _ _ (.inl rfl) e, mA, ⟨od, es, ep, k _ _ (.inr d) e2, c⟩, r⟩
  | own y => obtain ⟨ob, e⟩ := x; exact ⟨ob, k _ _ (.inl rfl) e⟩
  | xd fs => obtain ⟨mA, ⟨od, es, ep, e, c⟩, r⟩ := x; exact ⟨mA, ⟨od, es, ep, k _ _ (.inl rfl) e, c⟩, r⟩
  | rng lo hi => obtain ⟨t, u, v, e⟩ := x; exact ⟨t, u, v, k _ _ (.inl rfl) e⟩
  | frz ob u ih => obtain ⟨e, q⟩ := x; exact ⟨k _ _ (.inl rfl) e, ih q⟩
  | tbl ps =>
    have e : h.get? a = some { cls := .none, data := .fields ps } := x
    show h'.get? a = some { cls := .none, data := .fields ps }
    exact k a _ (.inl rfl) e
  | met f y =>
    have e : h.get? a = some (PySem.W.methodObj (.ref f) (.ref y)) := x
    show h'.get? a = some (PySem.W.methodObj (.ref f) (.ref y))
    exact k a _ (.inl rfl) e
  | ext φ => obtain ⟨p, ⟨o, e⟩, st⟩ := x; exact ⟨st _ _ p fun o q => k _ _ (.inl rfl) q, ⟨o, k _ _ (.inl rfl) e⟩, st⟩
theorem HOk.lt (x : HOk P w H h) (e : H a = some o) : a < h.objs.size := (x a o e).lt
theorem HOk.fresh (x : HOk P w H h) (e : h.objs.size ≤ a) : H a = none := by
  cases q : H a with
  | none => rfl
  | some u => exact absurd (Nat.lt_of_lt_of_le (x.lt q) e) (Nat.lt_irrefl _)
/-- every object of the heap is kept -/
theorem HOk.kept (x : HOk P w H h) (k : ∀ b u, h.get? b = some u → h'.get? b = some u) : HOk P w H h' := fun a o e =>
  (x a o e).stay (fun b u _ q => k b u q) (fun _ q => q) fun _ _ q => q
/-- a new object is laid and tracked -/
theorem HOk.laid (x : HOk P w H h) (k : ∀ b u, h.get? b = some u → h'.get? b = some u) (hp : h.objs.size ≤ a) (new : ObjOk P w (upd H a o) h' a o) : HOk P w (upd H a o) h' := fun b u e => by
  have hn := x.fresh hp
  by_cases hb : b = a
  · subst hb; rw [upd_same] at e; cases e; exact new
  · rw [upd_ne hb] at e
    exact (x b u e).stay (fun c v _ q => k c v q) (fun c q => by rw [upd_ne (ne_of_none q hn)]; exact q) fun c xs q => by rw [upd_ne (ne_of_none q hn)]; exact q
end
/-- what may be read as u: it is u, or a known u -/
def Rd (H : Hp) (a : Addr) (u : HO) : Prop := H a = some u ∨ ∃ o, H a = some (.frz o u)
theorem Rd.ok {P : Program} {w : World} {H : Hp} {h : Heap} {a : Addr} {u : HO} (r : Rd H a u) (x : HOk P w H h) : ObjOk P w H h a u := by
  rcases r with r | ⟨o, r⟩
  · exact x a u r
  · obtain ⟨_, q⟩ := x a _ r
    exact q
/-- what may be written -/
def Mut : Option HO → Prop
  | some (.lst _) => True
  | some (.dK _) => True
  | some (.dT _) => True
  | some (.set _ _) => True
  | some (.ins _ _ _) => True
  | some (.ext _) => True
  | _ => False
section
variable {P : Program} {w : World} {H : Hp} {h h' : Heap} {x e : Addr} {o' : HO}
/-- the object at e is changed: x itself, or the dict of the instance x -/
theorem HOk.write (ok : HOk P w H h) (mu : Mut (H x)) (he : e = x ∨ H e = some (.own x)) (k : ∀ b u, b ≠ e → h.get? b = some u → h'.get? b = some u) (heo : ∃ u, h'.get? e = some u)
    (new : ObjOk P w (upd H x o') h' x o') : HOk P w (upd H x o') h' := fun b u q => by
  have nown : ∀ c y, H c = some (.own y) → c ≠ x := fun c y r z => by subst z; rw [r] at mu; exact mu
  have ntup : ∀ c xs, H c = some (.tup xs) → c ≠ x := fun c xs r z => by subst z; rw [r] at mu; exact mu
  by_cases hb : b = x
  · subst hb; rw [upd_same] at q; cases q; exact new
  · rw [upd_ne hb] at q
    by_cases hbe : b = e
    · have q' : H b = some (.own x) := by
        rcases he with z | z
        · exact absurd (hbe.trans z) hb
        · rw [hbe]; exact z
      rw [q] at q'; cases q'
      obtain ⟨v, hv⟩ := heo
      exact ⟨v, by rw [hbe]; exact hv⟩
    · refine (ok b u q).stay (fun c v hc r => k c v ?_ r) (fun c r => by rw [upd_ne (nown c b r)]; exact r) fun c xs r => by rw [upd_ne (ntup c xs r)]; exact r
      rcases hc with rfl | hc
      · exact hbe
      · rintro rfl
        rcases he with z | z
        · exact nown c b hc z
        · rw [hc] at z; cases z; exact hb rfl
end
structure Un (fs ex : List Addr) (H H' : Hp) (h h' : Heap) : Prop where
  keep : ∀ b o, h.get? b = some o → H b = none → b ∉ fs → b ∉ ex → h'.get? b = some o
  slot : ∀ b o, h.get? b = some o → H b = none → b ∈ fs → b ∉ ex → ∃ sl, h'.get? b = some { o with slots := sl }
  free : ∀ b o, h.get? b = some o → H b = none → b ∉ ex → H' b = none
  there : ∀ b o, h.get? b = some o → b ∉ ex → ∃ o', h'.get? b = some o'
  tups : ∀ b xs, H b = some (.tup xs) → H' b = some (.tup xs)
  frzs : ∀ b o u, H b = some (.frz o u) → H' b = some (.frz o u)
  tbls : ∀ b ps, H b = some (.tbl ps) → ∃ more, H' b = some (.tbl (ps ++ more))
section
variable {fs fs' ex ex' : List Addr} {H H1 H2 : Hp} {h h1 h2 h' : Heap} {a x e : Addr} {o : HO}
theorem Un.any (u : Un fs ex H H1 h h1) {b : Addr} {ob : Obj} (q : h.get? b = some ob) (n : H b = none) (hx : b ∉ ex) : ∃ sl, h1.get? b = some { ob with slots := sl } := by
  by_cases hb : b ∈ fs
  · exact u.slot b ob q n hb hx
  · exact ⟨ob.slots, u.keep b ob q n hb hx⟩
theorem Un.kept (k : ∀ b u, h.get? b = some u → h'.get? b = some u) : Un fs ex H H h h' :=
  ⟨fun b ob q _ _ _ => k b ob q, fun b ob q _ _ _ => ⟨ob.slots, k b ob q⟩, fun _ _ _ n _ => n, fun b ob q _ => ⟨ob, k b ob q⟩, fun _ _ q => q, fun _ _ _ q => q, fun _ ps q => ⟨#[], by rw [q]; simp⟩⟩
theorem Un.refl : Un fs ex H H h h := Un.kept fun _ _ q => q
theorem Un.laid (k : ∀ b u, h.get? b = some u → h'.get? b = some u) (hp : h.objs.size ≤ a) (hn : H a = none) : Un fs ex H (upd H a o) h h' where
  keep := fun b u q _ _ _ => k b u q
  slot := fun b u q _ _ _ => ⟨u.slots, k b u q⟩
  free := fun b u q n _ => by rw [upd_ne (Nat.ne_of_lt (Nat.lt_of_lt_of_le (Heap.lt_size q) hp))]; exact n
  there := fun b u q _ => ⟨u, k b u q⟩
  tups := fun b xs q => by rw [upd_ne (ne_of_none q hn)]; exact q
  frzs := fun b u xs q => by rw [upd_ne (ne_of_none q hn)]; exact q
  tbls := fun b ps q => ⟨#[], by rw [upd_ne (ne_of_none q hn), q]; simp⟩
theorem Un.write (mu : Mut (H x)) (he : e = x ∨ H e = some (.own x)) (k : ∀ b u, b ≠ e → h.get? b = some u → h'.get? b = some u) (heo : ∃ u, h'.get? e = some u) : Un fs ex H (upd H x o) h h' := by
  have hx : ∀ b, H b = none → b ≠ x := fun b n z => by subst z; rw [n] at mu; exact mu
  have hb : ∀ b, H b = none → b ≠ e := fun b n z => by
    subst z
    rcases he with r | r
    · exact hx b n r
    · rw [n] at r; cases r
  have hm : ∀ b u, H b = some u → ¬ Mut (some u) → b ≠ x := fun b u q nm z => by subst z; rw [q] at mu; exact nm mu
  refine ⟨fun b u q n _ _ => k b u (hb b n) q, fun b u q n _ _ => ⟨u.slots, k b u (hb b n) q⟩, fun b u q n _ => by rw [upd_ne (hx b n)]; exact n, fun b u q _ => ?_,
    fun b xs q => by rw [upd_ne (hm b _ q fun z => z)]; exact q, fun b u xs q => by rw [upd_ne (hm b _ q fun z => z)]; exact q, fun b ps q => ⟨#[], by rw [upd_ne (hm b _ q fun z => z), q]; simp⟩⟩
  by_cases hbe : b = e
  · subst hbe; exact heo
  · exact ⟨u, k b u hbe q⟩
end
def trk (h : Heap) (H : Hp) : List Addr := (List.range h.objs.size).filter fun a => (H a).isSome
def hidT (h : Heap) (H : Hp) : Heap := PySem.W.hideAll h (trk h H)
theorem hidT_size (h : Heap) (H : Hp) : (hidT h H).objs.size = h.objs.size := PySem.W.hideAll_size _ _
theorem hidT_get {h : Heap} {H : Hp} {b : Addr} {o : Obj} (e : h.get? b = some o) (n : H b = none) : (hidT h H).get? b = some o :=
  PySem.W.hideAll_get _ e fun hm => by
    have q : (H b).isSome = true := (List.mem_filter.mp hm).2
    rw [n] at q; simp at q
theorem of_hidT {h : Heap} {H : Hp} {b : Addr} {o : Obj} (e : (hidT h H).get? b = some o) : h.get? b = some o ∧ H b = none := by
  have e' : h.get? b = some o := PySem.W.of_hideAll (trk h H) e
  refine ⟨e', ?_⟩
  cases q : H b with
  | none => rfl
  | some x =>
    have hm : b ∈ trk h H := List.mem_filter.mpr ⟨List.mem_range.mpr (Heap.lt_size e'), by simp [q]⟩
    have z : (hidT h H).get? b = none := PySem.W.hideAll_none (trk h H) hm
    rw [z] at e; cases e
end L2
namespace L2
open PySem PySem.Spec PyProof.Rows
/-- the module's facts, over the base: the heap at the law's entry without what is tracked there -/
structure Mod (K : PySem.W.Frag) (mg : Str → Option Value) (base : Heap) : Prop where
  kin : K.In base
  glob : base.Ns mainGlobals mg
  blt : ∃ mb, base.Ns builtinsNs mb ∧ ∀ x : Str, x ≠ "__name__" → mb x = bootBuiltins x
  nolimit : base.NoLimit
/-- the context: a def's body (or a comprehension's block) running. base: fixed through the whole law; s₀, H₀: the entry; outer: the frames whose slots others may change (a def's callers); stack: all frames that run;
   ex: iterators that were made ahead of the entry and are walked here (a comprehension's); fn: the names whose cells were made at the entry (a def: all; a comprehension's block: its own); calm: not within an except suite; pn: pins that every state bears; xe: what is wanted of an exception that leaves the code -/
structure Cx where
  prog : Program
  w : World
  K : PySem.W.Frag
  mg : Str → Option Value
  base : Heap
  A : Around
  N : List Str
  s_0 : Shared
  H_0 : Hp
  env : Env
  outer : List Env
  stack : List Env
  ex : List Addr
  fn : Str → Bool
  calm : Bool
  pn : List (Addr × Obj)
  xe : Value → Shared → Prop
/-- the callers' frames -/
def frs (l : List Env) : List Addr := l.filterMap (·.frame)
abbrev Cx.fs (X : Cx) : List Addr := frs X.outer
def Vis (sc : Scope) (x : Str) : Prop := sc.names.lookup x = some .local ∨ sc.names.lookup x = some .cell ∨ sc.names.lookup x = some .free
def Loc (sc : Scope) (x : Str) : Prop := sc.names.lookup x = some .local ∨ sc.names.lookup x = some .cell
def Look (env : Env) (h : Heap) (m : Str → Option Value) (x : Str) (u : Value) : Prop :=
  (env.kindOf x = some .local ∧ m x = some u) ∨ ((env.kindOf x = some .cell ∨ env.kindOf x = some .free) ∧ ∃ c, env.cells.lookup x = some c ∧ h.IsCell c (some u))
structure Cx.Ok (X : Cx) : Prop where
  mod : Mod X.K X.mg X.base
  kind : X.env.scope.kind = .function
  glob : X.env.globals = mainGlobals
  blt : X.env.builtins = builtinsNs
  above : X.s_0.heap.objs.size ≤ X.env.locals
  inj : ∀ x y c, X.env.cells.lookup x = some c → X.env.cells.lookup y = some c → x = y
  has : ∀ x, (X.env.kindOf x = some .cell ∨ X.env.kindOf x = some .free) → ∃ c, X.env.cells.lookup x = some c
  cab : ∀ x c, X.fn x = true → X.env.cells.lookup x = some c → X.s_0.heap.objs.size ≤ c
  hd : X.calm = true → X.A.handled = none
  frames : X.A.frames = some X.stack
  stk : X.stack = X.outer ∨ (X.stack = X.env :: X.outer ∧ X.env.frame = some X.env.locals)
  exf : ∀ b ∈ X.ex, b ≠ X.env.locals ∧ ∀ x c, X.env.cells.lookup x = some c → c ≠ b
  bs : ∀ b o, X.base.get? b = some o → X.s_0.heap.get? b = some o ∧ X.H_0 b = none
  bsz : X.base.objs.size ≤ X.s_0.heap.objs.size
  noex : ∀ b o, X.base.get? b = some o → b ∉ X.ex
  exfs : ∀ b ∈ X.ex, b ∉ X.fs
  funs : X.s_0.heap.FunFrames X.base X.outer
  frf : ∀ b ∈ X.fs, X.H_0 b = none
structure Inv (X : Cx) (pins : List (Addr × Obj)) (σ : List (Option V)) (H : Hp) (s : Shared) : Prop where
  ok : X.Ok
  os : s.os = X.s_0.os
  bare : AllBare s.gens
  base : Un X.fs X.ex X.H_0 H X.s_0.heap s.heap
  loc : ∃ m, s.heap.Ns X.env.locals m ∧ ∀ (i : Nat) (x : Str) (v : V), X.N[i]? = some x → σ[i]? = some (some v) → Vis X.env.scope x → ∃ u, RelV v u ∧ Look X.env s.heap m x u
  cell : ∀ x c, X.env.cells.lookup x = some c → ∃ v, s.heap.IsCell c v
  free : H X.env.locals = none
  freeC : ∀ x c, X.env.cells.lookup x = some c → H c = none
  pin : ∀ p ∈ X.pn ++ pins, s.heap.get? p.1 = some p.2 ∧ H p.1 = none ∧ p.1 ≠ X.env.locals ∧ p.1 ∉ X.fs ∧ ∀ v, p.2.data ≠ .cell v
  hok : HOk X.prog X.w H s.heap
  len : σ.length = X.N.length
section
variable {X : Cx} {pins : List (Addr × Obj)} {σ : List (Option V)} {H H' : Hp} {s : Shared} {h' : Heap}
theorem Cx.Ok.nofr (ok : X.Ok) {b : Addr} {o : Obj} (e : X.base.get? b = some o) : b ∉ X.fs := fun hb => by
  have := (ok.funs.mem hb).1
  rw [e] at this; cases this
theorem Inv.bs (I : Inv X pins σ H s) : ∀ b o, X.base.get? b = some o → s.heap.get? b = some o ∧ H b = none := fun b o e =>
  ⟨I.base.keep b o (I.ok.bs b o e).1 (I.ok.bs b o e).2 (I.ok.nofr e) (I.ok.noex b o e), I.base.free b o (I.ok.bs b o e).1 (I.ok.bs b o e).2 (I.ok.noex b o e)⟩
theorem Inv.bk (I : Inv X pins σ H s) : ∀ b o, X.base.get? b = some o → s.heap.get? b = some o := fun b o e => (I.bs b o e).1
theorem Inv.mod (I : Inv X pins σ H s) : Mod X.K X.mg X.base := I.ok.mod
theorem Inv.kIn (I : Inv X pins σ H s) : X.K.In s.heap := I.ok.mod.kin.keeps I.bk
theorem Inv.lt (I : Inv X pins σ H s) : X.env.locals < s.heap.objs.size := let ⟨_, hn, _⟩ := I.loc; hn.lt
theorem Inv.sz (I : Inv X pins σ H s) : X.s_0.heap.objs.size ≤ s.heap.objs.size := Nat.le_trans I.ok.above (Nat.le_of_lt I.lt)
theorem Inv.nofs (I : Inv X pins σ H s) {a : Addr} (h : s.heap.objs.size ≤ a) : a ∉ X.fs := fun hb => by
  obtain ⟨_, o, ho, _⟩ := I.ok.funs.mem hb
  exact absurd (Nat.lt_of_lt_of_le (Heap.lt_size ho) (Nat.le_trans I.sz h)) (Nat.lt_irrefl _)
theorem Inv.cne (I : Inv X pins σ H s) : ∀ x c, X.env.cells.lookup x = some c → c ≠ X.env.locals := fun x c e z => by
  obtain ⟨v, o, ho, hd⟩ := I.cell x c e
  obtain ⟨m, ⟨o', es, ep, ho', hd', _⟩, _⟩ := I.loc
  rw [z, ho'] at ho; cases ho; rw [hd'] at hd; cases hd
theorem Inv.funs (I : Inv X pins σ H s) : s.heap.FunFrames X.base X.outer := by
  have all : ∀ (l : List Env), (∀ b ∈ frs l, b ∈ X.fs) → X.s_0.heap.FunFrames X.base l → s.heap.FunFrames X.base l := by
    intro l
    induction l with
    | nil => intro _ _; trivial
    | cons env r ih =>
      intro hs hl
      obtain ⟨hk, ⟨L, o, hf, hn, ho, hd⟩, hr⟩ := hl
      have hL : L ∈ X.fs := hs L (by unfold frs; rw [List.filterMap_cons, hf]; exact List.mem_cons_self)
      obtain ⟨sl, e⟩ := I.base.slot L o ho (I.ok.frf L hL) hL fun z => I.ok.exfs L z hL
      exact ⟨hk, ⟨L, _, hf, hn, e, hd⟩, ih (fun b hb => hs b (by unfold frs; rw [List.filterMap_cons, hf]; exact List.mem_cons_of_mem _ hb)) hr⟩
  exact all X.outer (fun _ hb => hb) I.ok.funs
/-- the frames that run, for a call -/
theorem Inv.stack (I : Inv X pins σ H s) : s.heap.FunFrames X.base X.stack := by
  rcases I.ok.stk with e | ⟨e, hf⟩
  · rw [e]; exact I.funs
  · rw [e]
    obtain ⟨m, hn, _⟩ := I.loc
    refine .cons (by rw [I.ok.kind]; decide) hf hn ?_ I.funs
    exact Heap.get?_none_of_le (Nat.le_trans I.ok.bsz I.ok.above)
theorem Inv.stkSub (I : Inv X pins σ H s) : ∀ b ∈ frs X.stack, b ∈ X.env.locals :: X.fs := fun b hb => by
  rcases I.ok.stk with e | ⟨e, hf⟩
  · rw [e] at hb; exact List.mem_cons_of_mem _ hb
  · rw [e] at hb
    unfold frs at hb
    rw [List.filterMap_cons, hf] at hb
    exact hb
theorem Inv.stkFree (I : Inv X pins σ H s) : ∀ b ∈ frs X.stack, H b = none := fun b hb => by
  rcases List.mem_cons.mp (I.stkSub b hb) with e | hb
  · rw [e]; exact I.free
  · obtain ⟨_, o, ho, _⟩ := I.ok.funs.mem hb
    exact I.base.free b o ho (I.ok.frf b hb) fun z => I.ok.exfs b z hb
/-- THE STEP: the untracked objects but the frame and the records at ch are kept (the callers' frames up to slots), the frame's map is kept, the new abstract heap is held -/
theorem Inv.step {g' : Array GenState} {t' : Nat} {d' : Drawn} {ch : List Addr} (I : Inv X pins σ H s)
    (hch : ∀ b ∈ ch, (b ∈ X.ex ∨ X.s_0.heap.objs.size ≤ b) ∧ b ≠ X.env.locals ∧ (∀ x c, X.env.cells.lookup x = some c → c ≠ b) ∧ ∀ p ∈ X.pn ++ pins, p.1 ≠ b)
    (keep : ∀ b o, b ≠ X.env.locals → b ∉ X.fs → b ∉ ch → s.heap.get? b = some o → H b = none → h'.get? b = some o)
    (slot : ∀ b o, b ≠ X.env.locals → b ∈ X.fs → b ∉ ch → s.heap.get? b = some o → H b = none → ∃ sl, h'.get? b = some { o with slots := sl }) (free : ∀ b o, b ∉ ch → s.heap.get? b = some o → H b = none → H' b = none)
    (there : ∀ b o, b ∉ ch → s.heap.get? b = some o → ∃ o', h'.get? b = some o')
    (tups : ∀ b xs, H b = some (.tup xs) → H' b = some (.tup xs)) (frzs : ∀ b o u, H b = some (.frz o u) → H' b = some (.frz o u)) (tbls : ∀ b ps, H b = some (.tbl ps) → ∃ more, H' b = some (.tbl (ps ++ more)))
    (ns : ∀ m, s.heap.Ns X.env.locals m → h'.Ns X.env.locals m) (hok : HOk X.prog X.w H' h') (hg : AllBare g') :
    Inv X pins σ H' { s with heap := h', gens := g', drawn := d', toks := t' } := by
  have neL : ∀ b o, X.s_0.heap.get? b = some o → b ≠ X.env.locals := fun b o e => Nat.ne_of_lt (Nat.lt_of_lt_of_le (Heap.lt_size e) I.ok.above)
  have neC : ∀ b o, X.s_0.heap.get? b = some o → b ∉ X.ex → b ∉ ch := fun b o e hx hb => by
    rcases (hch b hb).1 with z | z
    · exact hx z
    · exact absurd (Nat.lt_of_lt_of_le (Heap.lt_size e) z) (Nat.lt_irrefl _)
  have cellK : ∀ x c, X.env.cells.lookup x = some c → ∀ v, s.heap.IsCell c v → h'.IsCell c v := fun x c e v ⟨o, ho, hd⟩ => by
    have nch : c ∉ ch := fun z => (hch c z).2.2.1 x c e rfl
    by_cases hc : c ∈ X.fs
    · obtain ⟨sl, q⟩ := slot c o (I.cne x c e) hc nch ho (I.freeC x c e)
      exact ⟨_, q, hd⟩
    · exact ⟨o, keep c o (I.cne x c e) hc nch ho (I.freeC x c e), hd⟩
  refine ⟨I.ok, I.os, hg, ⟨fun b o e n hb hx => ?_, fun b o e n hb hx => ?_, fun b o e n hx => ?_, fun b o e hx => ?_, fun b xs e => tups b xs (I.base.tups b xs e), fun b o xs e => frzs b o xs (I.base.frzs b o xs e), fun b ps e => ?_⟩, ?_, fun x c e => ?_, ?_, fun x c e => ?_, fun p hp => ?_, hok, I.len⟩
  · exact keep b o (neL b o e) hb (neC b o e hx) (I.base.keep b o e n hb hx) (I.base.free b o e n hx)
  · obtain ⟨sl, e1⟩ := I.base.slot b o e n hb hx
    obtain ⟨sl', e2⟩ := slot b _ (neL b o e) hb (neC b o e hx) e1 (I.base.free b o e n hx)
    exact ⟨sl', e2⟩
  · obtain ⟨o', e1⟩ := I.base.there b o e hx
    exact free b o' (neC b o e hx) e1 (I.base.free b o e n hx)
  · obtain ⟨o', e1⟩ := I.base.there b o e hx
    exact there b o' (neC b o e hx) e1
  · obtain ⟨m1, e1⟩ := I.base.tbls b ps e
    obtain ⟨m2, e2⟩ := tbls b _ e1
    exact ⟨m1 ++ m2, by rw [e2, Array.append_assoc]⟩
  · obtain ⟨m, hn, hl⟩ := I.loc
    refine ⟨m, ns m hn, fun i x v e1 e2 e3 => ?_⟩
    obtain ⟨u, r, l⟩ := hl i x v e1 e2 e3
    refine ⟨u, r, ?_⟩
    rcases l with l | ⟨k, c, e, z⟩
    · exact .inl l
    · exact .inr ⟨k, c, e, cellK x c e _ z⟩
  · obtain ⟨v, z⟩ := I.cell x c e
    exact ⟨v, cellK x c e v z⟩
  · obtain ⟨m, ⟨o, _, _, ho, _⟩, _⟩ := I.loc
    exact free _ o (fun z => (hch _ z).2.1 rfl) ho I.free
  · obtain ⟨v, o, ho, hd⟩ := I.cell x c e
    exact free c o (fun z => (hch c z).2.2.1 x c e rfl) ho (I.freeC x c e)
  · obtain ⟨e, n, ne, nf, d⟩ := I.pin p hp
    have nch : p.1 ∉ ch := fun z => (hch p.1 z).2.2.2 p hp rfl
    exact ⟨keep p.1 p.2 ne nf nch e n, free p.1 p.2 nch e n, ne, nf, d⟩
/-- .. where the frame's own object is kept too -/
theorem Inv.un {t' : Nat} (I : Inv X pins σ H s) (u : Un X.fs [] H H' s.heap h') (hok : HOk X.prog X.w H' h') : Inv X pins σ H' { s with heap := h', toks := t' } := by
  obtain ⟨m, ⟨o, es, ep, ho, r⟩, _⟩ := id I.loc
  obtain ⟨sl, hL⟩ := u.any ho I.free (by simp)
  exact I.step (g' := s.gens) (d' := s.drawn) (ch := []) (fun _ z => nomatch z) (fun b o _ hb _ e n => u.keep b o e n hb (by simp)) (fun b o _ hb _ e n => u.slot b o e n hb (by simp)) (fun b o _ e n => u.free b o e n (by simp)) (fun b o _ e => u.there b o e (by simp)) u.tups u.frzs u.tbls (fun m' hm => by
    obtain ⟨o', es', ep', ho', r'⟩ := hm
    rw [ho] at ho'; cases ho'
    exact ⟨_, es', ep', hL, r'⟩) hok I.bare
/-- behind a call (or a comprehension's block): the slots of this frame may have changed too, the records at ch may have turned -/
theorem Inv.call {g' : Array GenState} {t' : Nat} {d' : Drawn} {ch : List Addr} (I : Inv X pins σ H s) (u : Un (frs X.stack) ch H H' s.heap h') (hok : HOk X.prog X.w H' h') (hg : AllBare g')
    (hch : ∀ b ∈ ch, (b ∈ X.ex ∨ X.s_0.heap.objs.size ≤ b) ∧ b ≠ X.env.locals ∧ (∀ x c, X.env.cells.lookup x = some c → c ≠ b) ∧ ∀ p ∈ X.pn ++ pins, p.1 ≠ b) :
    Inv X pins σ H' { s with heap := h', gens := g', drawn := d', toks := t' } := by
  obtain ⟨m, ⟨o, es, ep, ho, r⟩, _⟩ := id I.loc
  obtain ⟨sl, hL⟩ := u.any ho I.free fun z => (hch _ z).2.1 rfl
  exact I.step (ch := ch) hch (fun b o hL hb hc e n => u.keep b o e n (fun z => (List.mem_cons.mp (I.stkSub b z)).elim hL hb) hc) (fun b o _ _ hc e n => u.any e n hc) (fun b o hc e n => u.free b o e n hc) (fun b o hc e => u.there b o e hc) u.tups u.frzs u.tbls (fun m' hm => by
    obtain ⟨o', es', ep', ho', r'⟩ := hm
    rw [ho] at ho'; cases ho'
    exact ⟨_, es', ep', hL, r'⟩) hok hg
/-- an untracked record of ours (an iterator) has turned -/
theorem Inv.turned {t' : Nat} {it : Addr} (I : Inv X pins σ H s) (k : ∀ b o, b ≠ it → s.heap.get? b = some o → h'.get? b = some o) (hn : H it = none) (hL : it ≠ X.env.locals)
    (h1 : it ∈ X.ex ∨ X.s_0.heap.objs.size ≤ it) (h2 : ∀ x c, X.env.cells.lookup x = some c → c ≠ it) (h3 : ∀ p ∈ X.pn ++ pins, p.1 ≠ it) : Inv X pins σ H { s with heap := h', toks := t' } := by
  have nit : ∀ b u, H b = some u → b ≠ it := fun b u e z => by rw [z, hn] at e; cases e
  refine I.step (g' := s.gens) (d' := s.drawn) (ch := [it]) (fun b hb => ?_) (fun b o _ _ hc e _ => k b o (fun z => hc (by simp [z])) e) (fun b o _ _ hc e _ => ⟨o.slots, k b o (fun z => hc (by simp [z])) e⟩) (fun _ _ _ _ n => n)
    (fun b o hc e => ⟨o, k b o (fun z => hc (by simp [z])) e⟩) (fun _ _ e => e) (fun _ _ _ e => e) (fun b ps e => ⟨#[], by rw [e]; simp⟩) (fun m hm => ?_) (fun b u e => ?_) I.bare
  · have e : b = it := by simpa using hb
    subst e
    exact ⟨h1, hL, h2, h3⟩
  · obtain ⟨o, es, ep, ho, r⟩ := hm
    exact ⟨o, es, ep, k _ o (Ne.symm hL) ho, r⟩
  · refine (I.hok b u e).stay (fun c v hc q => k c v ?_ q) (fun _ q => q) fun _ _ q => q
    rcases hc with z | z
    · rw [z]; exact nit b u e
    · exact nit c _ z
theorem Inv.tok (I : Inv X pins σ H s) (t : Nat) : Inv X pins σ H { s with toks := t } := I.un (h' := s.heap) (t' := t) Un.refl I.hok
/-- all objects kept -/
theorem Inv.kept {t' : Nat} (I : Inv X pins σ H s) (k : ∀ b u, s.heap.get? b = some u → h'.get? b = some u) : Inv X pins σ H { s with heap := h', toks := t' } := I.un (Un.kept k) (I.hok.kept k)
/-- a new object laid and tracked -/
theorem Inv.laid {a : Addr} {o : HO} {t' : Nat} (I : Inv X pins σ H s) (k : ∀ b u, s.heap.get? b = some u → h'.get? b = some u) (hp : s.heap.objs.size ≤ a) (new : ObjOk X.prog X.w (upd H a o) h' a o) :
    Inv X pins σ (upd H a o) { s with heap := h', toks := t' } := I.un (Un.laid k hp (I.hok.fresh hp)) (I.hok.laid k hp new)
/-- an object written -/
theorem Inv.write {x e : Addr} {o : HO} {t' : Nat} (I : Inv X pins σ H s) (mu : Mut (H x)) (he : e = x ∨ H e = some (.own x)) (k : ∀ b u, b ≠ e → s.heap.get? b = some u → h'.get? b = some u) (heo : ∃ u, h'.get? e = some u)
    (new : ObjOk X.prog X.w (upd H x o) h' x o) : Inv X pins σ (upd H x o) { s with heap := h', toks := t' } := I.un (Un.write mu he k heo) (I.hok.write mu he k heo new)
/-- forgetting slots, pins -/
theorem Inv.weak {σ' : List (Option V)} (I : Inv X pins σ H s) (hl : σ'.length = σ.length) (w : ∀ (i : Nat) v, σ'[i]? = some (some v) → σ[i]? = some (some v)) : Inv X pins σ' H s :=
  ⟨I.ok, I.os, I.bare, I.base, let ⟨m, hn, hl'⟩ := I.loc; ⟨m, hn, fun i x v e1 e2 e3 => hl' i x v e1 (w i v e2) e3⟩, I.cell, I.free, I.freeC, I.pin, I.hok, hl.trans I.len⟩
theorem Inv.pins_of {pins' : List (Addr × Obj)} (I : Inv X pins σ H s) (h : ∀ p ∈ pins', s.heap.get? p.1 = some p.2 ∧ H p.1 = none ∧ p.1 ≠ X.env.locals ∧ p.1 ∉ X.fs ∧ ∀ v, p.2.data ≠ .cell v) : Inv X pins' σ H s :=
  ⟨I.ok, I.os, I.bare, I.base, I.loc, I.cell, I.free, I.freeC, fun p hp => (List.mem_append.mp hp).elim (fun z => I.pin p (List.mem_append_left _ z)) (h p), I.hok, I.len⟩
theorem nodup_ix {N : List Str} (hN : N.Nodup) {i j : Nat} {x : Str} (a : N[i]? = some x) (b : N[j]? = some x) : i = j := by
  obtain ⟨h1, e1⟩ := List.getElem?_eq_some_iff.mp a
  obtain ⟨h2, e2⟩ := List.getElem?_eq_some_iff.mp b
  exact (List.getElem_inj hN).mp (e1.trans e2.symm)
/-- a name is stored; what changed -/
theorem store_ok2 {M : Model} {A : Around} {E : Value → Shared → Prop} {i : Nat} {x : Str} {v : V} {u : Value} {Q : Unit → Shared → Prop} (I : Inv X pins σ H s) (hN : X.N.Nodup) (hi : X.N[i]? = some x) (hx : Loc X.env.scope x) (r : RelV v u)
    (h : ∀ s', Inv X pins (σ.set i (some v)) H s' → (∃ a, Heap.SameBut a s.heap s'.heap ∧ (a = X.env.locals ∨ X.env.cells.lookup x = some a)) → Q () s') (hf : X.fn x = true ∨ X.env.scope.names.lookup x = some .local := by first | exact .inl rfl | exact .inr rfl | assumption) : wpAny M A (storeName X.env x u) Q E s := by
  obtain ⟨m, hn, hl⟩ := id I.loc
  have hcls : (X.env.scope.kind == .class || (X.env.scope.kind == .module && X.env.locals != X.env.globals)) = false := by rw [I.ok.kind]; rfl
  have hiσ : i < σ.length := by rw [I.len]; exact (List.getElem?_eq_some_iff.mp hi).1
  have cne := I.cne
  have tracked : ∀ {a : Addr} {h' : Heap}, (∃ o, s.heap.get? a = some o ∧ H a = none) → Heap.SameBut a s.heap h' → HOk X.prog X.w H h' := fun {a h'} ha hs b ob e => by
    obtain ⟨_, _, hfree⟩ := ha
    refine (I.hok b ob e).stay (fun c w' hc q => (hs.2 c ?_).trans q) (fun _ q => q) fun _ _ q => q
    rintro rfl
    rcases hc with rfl | hc
    · rw [hfree] at e; cases e
    · rw [hfree] at hc; cases hc
  rcases hx with hk | hk
  · refine wpAny_storeName_local hk hn (fun h' hn' hs => ?_) hcls
    obtain ⟨oL, _, _, hoL, _⟩ := id hn
    refine h _ ⟨I.ok, I.os, I.bare, ⟨fun b o e n hb hx => ?_, fun b o e n hb hx => ?_, I.base.free, fun b o e hx => ?_, I.base.tups, I.base.frzs, I.base.tbls⟩, ⟨_, hn', fun j y v' e1 e2 e3 => ?_⟩, fun y c e => ?_, I.free, I.freeC, fun p hp => ?_, tracked ⟨oL, hoL, I.free⟩ hs, by simpa using I.len⟩ ⟨_, hs, .inl rfl⟩
    · exact (hs.2 b (Nat.ne_of_lt (Nat.lt_of_lt_of_le (Heap.lt_size e) I.ok.above))).trans (I.base.keep b o e n hb hx)
    · obtain ⟨sl, e1⟩ := I.base.slot b o e n hb hx
      exact ⟨sl, (hs.2 b (Nat.ne_of_lt (Nat.lt_of_lt_of_le (Heap.lt_size e) I.ok.above))).trans e1⟩
    · obtain ⟨o', e1⟩ := I.base.there b o e hx
      exact ⟨o', (hs.2 b (Nat.ne_of_lt (Nat.lt_of_lt_of_le (Heap.lt_size e) I.ok.above))).trans e1⟩
    · by_cases hj : j = i
      · subst hj
        rw [hi] at e1; cases e1
        rw [List.getElem?_set_self hiσ] at e2
        cases e2
        exact ⟨u, r, .inl ⟨hk, by simp⟩⟩
      · rw [List.getElem?_set_ne (Ne.symm hj)] at e2
        obtain ⟨u', r', q⟩ := hl j y v' e1 e2 e3
        refine ⟨u', r', ?_⟩
        rcases q with ⟨k, e⟩ | ⟨k, c, e, z⟩
        · refine .inl ⟨k, ?_⟩
          have : y ≠ x := fun e => hj (nodup_ix hN e1 (e ▸ hi))
          simp [this, e]
        · exact .inr ⟨k, c, e, z.sameBut hs (cne y c e)⟩
    · obtain ⟨w', z⟩ := I.cell y c e
      exact ⟨w', z.sameBut hs (cne y c e)⟩
    · obtain ⟨e, n, ne, nf, d⟩ := I.pin p hp
      exact ⟨(hs.2 p.1 ne).trans e, n, ne, nf, d⟩
  · have hfn : X.fn x = true := by
      rcases hf with z | z
      · exact z
      · rw [z] at hk; cases hk
    obtain ⟨c, hc⟩ := I.ok.has x (.inl hk)
    obtain ⟨w', z⟩ := I.cell x c hc
    refine wpAny_storeName_cell I.ok.kind hk hc z (fun h' hc' hs => ?_)
    obtain ⟨oc, hoc, hocd⟩ := id z
    refine h { s with heap := h' } ⟨I.ok, I.os, I.bare, ⟨fun b o e n hb hx => ?_, fun b o e n hb hx => ?_, I.base.free, fun b o e hx => ?_, I.base.tups, I.base.frzs, I.base.tbls⟩, ⟨m, hn.sameBut hs (Ne.symm (cne x c hc)), fun j y v' e1 e2 e3 => ?_⟩, fun y c' e => ?_, I.free, I.freeC, fun p hp => ?_, tracked ⟨oc, hoc, I.freeC x c hc⟩ hs, by simpa using I.len⟩ ⟨c, hs, .inr hc⟩
    · exact (hs.2 b (Nat.ne_of_lt (Nat.lt_of_lt_of_le (Heap.lt_size e) (I.ok.cab x c hfn hc)))).trans (I.base.keep b o e n hb hx)
    · obtain ⟨sl, e1⟩ := I.base.slot b o e n hb hx
      exact ⟨sl, (hs.2 b (Nat.ne_of_lt (Nat.lt_of_lt_of_le (Heap.lt_size e) (I.ok.cab x c hfn hc)))).trans e1⟩
    · obtain ⟨o', e1⟩ := I.base.there b o e hx
      exact ⟨o', (hs.2 b (Nat.ne_of_lt (Nat.lt_of_lt_of_le (Heap.lt_size e) (I.ok.cab x c hfn hc)))).trans e1⟩
    · by_cases hj : j = i
      · subst hj
        rw [hi] at e1; cases e1
        rw [List.getElem?_set_self hiσ] at e2
        cases e2
        exact ⟨u, r, .inr ⟨.inl hk, c, hc, hc'⟩⟩
      · rw [List.getElem?_set_ne (Ne.symm hj)] at e2
        obtain ⟨u', r', q⟩ := hl j y v' e1 e2 e3
        refine ⟨u', r', ?_⟩
        rcases q with q | ⟨k, c', e, z'⟩
        · exact .inl q
        · refine .inr ⟨k, c', e, z'.sameBut hs ?_⟩
          rintro rfl
          exact hj (nodup_ix hN e1 (I.ok.inj _ _ _ e hc ▸ hi))
    · by_cases hcc : c' = c
      · subst hcc; exact ⟨_, hc'⟩
      · obtain ⟨w2, z2⟩ := I.cell y c' e
        exact ⟨w2, z2.sameBut hs hcc⟩
    · obtain ⟨e, n, ne, nf, d⟩ := I.pin p hp
      refine ⟨(hs.2 p.1 ?_).trans e, n, ne, nf, d⟩
      intro q
      rw [q, hoc] at e
      have q' : oc = p.2 := Option.some.inj e
      exact d w' (by rw [← q']; exact hocd)
theorem store_ok {M : Model} {A : Around} {E : Value → Shared → Prop} {i : Nat} {x : Str} {v : V} {u : Value} {Q : Unit → Shared → Prop} (I : Inv X pins σ H s) (hN : X.N.Nodup) (hi : X.N[i]? = some x) (hx : Loc X.env.scope x) (r : RelV v u)
    (h : ∀ s', Inv X pins (σ.set i (some v)) H s' → Q () s') (hf : X.fn x = true ∨ X.env.scope.names.lookup x = some .local := by first | exact .inl rfl | exact .inr rfl | assumption) : wpAny M A (storeName X.env x u) Q E s :=
  store_ok2 I hN hi hx r (fun s' I' _ => h s' I') hf
/-- behind a call or a block, the state as it is -/
theorem Inv.call' {s' : Shared} {ch : List Addr} (I : Inv X pins σ H s) (ho : s'.os = s.os) (u : Un (frs X.stack) ch H H' s.heap s'.heap) (hok : HOk X.prog X.w H' s'.heap) (hg : AllBare s'.gens)
    (hch : ∀ b ∈ ch, (b ∈ X.ex ∨ X.s_0.heap.objs.size ≤ b) ∧ b ≠ X.env.locals ∧ (∀ x c, X.env.cells.lookup x = some c → c ≠ b) ∧ ∀ p ∈ X.pn ++ pins, p.1 ≠ b) : Inv X pins σ H' s' := by
  obtain ⟨h', g', d', t', o'⟩ := s'
  have e : o' = s.os := ho
  subst e
  exact I.call (g' := g') (t' := t') (d' := d') u hok hg hch
end
/-- an exception: its class, its own dict's address (where it has one), the abstract heap behind it -/
abbrev XK := Value → Option Addr → Hp → Prop
abbrev St := List (Option V)
abbrev VK := V → Hp → Prop
/-- an expression's reading; a test's; an argument list's -/
abbrev TE := St → Hp → VK → Prop
abbrev TT := St → Hp → (Bool → Hp → Prop) → Prop
abbrev TA := St → Hp → (List V → Hp → Prop) → Prop
/-- what is wanted behind a statement -/
structure Ends where
  nx : St → Hp → Prop
  rt : VK
  bk : St → Hp → Prop := fun _ _ => False
  ct : St → Hp → Prop := fun _ _ => False
abbrev TS := Ends → St → Hp → Prop
def EP (X : Cx) (pins : List (Addr × Obj)) (σ : St) (Q : VK) (u : Value) (s' : Shared) : Prop := ∃ v H', Inv X pins σ H' s' ∧ RelV v u ∧ Q v H'
def TP (X : Cx) (pins : List (Addr × Obj)) (σ : St) (Q : Bool → Hp → Prop) (b : Bool) (s' : Shared) : Prop := ∃ H', Inv X pins σ H' s' ∧ Q b H'
def AP (X : Cx) (pins : List (Addr × Obj)) (σ : St) (Q : List V → Hp → Prop) (us : List Value) (s' : Shared) : Prop := ∃ vs H', Inv X pins σ H' s' ∧ Vals vs us ∧ Q vs H'
def SP (X : Cx) (pins : List (Addr × Obj)) (D : Ends) (f : Flow) (s' : Shared) : Prop :=
  match f with
  | .next => ∃ σ' H', Inv X pins σ' H' s' ∧ D.nx σ' H'
  | .brk => ∃ σ' H', Inv X pins σ' H' s' ∧ D.bk σ' H'
  | .cont => ∃ σ' H', Inv X pins σ' H' s' ∧ D.ct σ' H'
  | .ret u => ∃ v σ' H', Inv X pins σ' H' s' ∧ RelV v u ∧ D.rt v H'
def PE (X : Cx) (e : Expr) (t : TE) : Prop :=
  ∀ (pins : List (Addr × Obj)) (s : Shared) (σ : St) (H : Hp) (Q : VK), Inv X pins σ H s → t σ H Q → wpAny (model X.prog X.w) X.A (eval e X.env) (EP X pins σ Q) X.xe s
def PT (X : Cx) (e : Expr) (t : TT) : Prop :=
  ∀ (pins : List (Addr × Obj)) (s : Shared) (σ : St) (H : Hp) (Q : Bool → Hp → Prop), Inv X pins σ H s → t σ H Q → wpAny (model X.prog X.w) X.A (isTrue e X.env (eval e X.env)) (TP X pins σ Q) X.xe s
/-- a test whatever its 'whole' is (and, or) -/
def PW (X : Cx) (e : Expr) (t : TT) : Prop :=
  ∀ (whole : Sem Value) (pins : List (Addr × Obj)) (s : Shared) (σ : St) (H : Hp) (Q : Bool → Hp → Prop), Inv X pins σ H s → t σ H Q → wpAny (model X.prog X.w) X.A (isTrue e X.env whole) (TP X pins σ Q) X.xe s
theorem PW.pt {X : Cx} {e : Expr} {t : TT} (h : PW X e t) : PT X e t := h _
/-- an argument list (no star), from the left -/
def PA (X : Cx) (es : List Expr) (t : TA) : Prop :=
  ∀ (pos : Pos) (pins : List (Addr × Obj)) (s : Shared) (σ : St) (H : Hp) (Q : List V → Hp → Prop), Inv X pins σ H s → t σ H Q → wpAny (model X.prog X.w) X.A (spliced (backTo pos (starEach es X.env))) (AP X pins σ Q) X.xe s
def PS (X : Cx) (st : Stmt) (t : TS) : Prop :=
  ∀ (pins : List (Addr × Obj)) (s : Shared) (σ : St) (H : Hp) (D : Ends), Inv X pins σ H s → t D σ H → wpAny (model X.prog X.w) X.A (exec st X.env) (SP X pins D) X.xe s
def PSs (X : Cx) (st : List Stmt) (t : TS) : Prop :=
  ∀ (pins : List (Addr × Obj)) (s : Shared) (σ : St) (H : Hp) (D : Ends), Inv X pins σ H s → t D σ H → wpAny (model X.prog X.w) X.A (execs st X.env) (SP X pins D) X.xe s
/-- weaken the end -/
theorem thn {α : Type} {t : Sem α} {Q Q' : α → Shared → Prop} {M : Model} {A : Around} {E : Value → Shared → Prop} {s : Shared} (h : wpAny M A t Q E s) (hQ : ∀ a s, Q a s → Q' a s) : wpAny M A t Q' E s := wpAny_mono h hQ fun _ _ x => x
end L2
namespace L2
open PySem PySem.Spec PyProof.Rows
section
variable {X : Cx}
def tVar (i : Nat) : TE := fun σ H Q => ∃ v, σ[i]? = some (some v) ∧ Q v H
def tC (v : V) : TE := fun _ H Q => Q v H
theorem pe_var {i : Nat} {x : Str} {pos : Pos} (hN : X.N[i]? = some x) (hv : Vis X.env.scope x) (hd : (x == ("__debug__" : Str)) = false := by decide) (hcd : (x == ("__classdict__" : Str)) = false := by decide) : PE X (.Name x pos) (tVar i) := by
  intro pins s σ H Q I h
  obtain ⟨v, e, h⟩ := h
  obtain ⟨m, hn, hl⟩ := I.loc
  obtain ⟨u, r, l⟩ := hl i x v hN e hv
  have fin : EP X pins σ Q u s := ⟨v, H, I, r, h⟩
  rcases l with ⟨hk, hm⟩ | ⟨hk, c, hc, hcell⟩
  · exact wpAny_Name (wpAny_loadName_local I.ok.kind hk hn hm fin) hd
  · rcases hk with hk | hk
    · exact wpAny_Name (wpAny_loadName_cell I.ok.kind hk hc hcell fin) hd
    · exact wpAny_Name (wpAny_loadName_free I.ok.kind hk hc hcell fin hcd) hd
theorem pe_int {i j pos} : PE X (.Constant (.int i) j pos) (tC (.int i)) := fun _ _ _ H _ I h => wpAny_Constant_int ⟨.int i, H, I.tok _, ⟨_, rfl⟩, h⟩
theorem pe_bl {b j pos} : PE X (.Constant (.bool b) j pos) (tC (.bl b)) := fun _ _ _ H _ I h => Constant_bool ⟨.bl b, H, I, rfl, h⟩
theorem pe_non {j pos} : PE X (.Constant .none j pos) (tC .non) := fun _ _ _ H _ I h => Constant_none ⟨.non, H, I, rfl, h⟩
/-- a global name of the def -/
def Gl (X : Cx) (x : Str) : Prop := X.env.kindOf x = some .globalImplicit
theorem ld_glob {E : Value → Shared → Prop} {pins : List (Addr × Obj)} {s : Shared} {σ : St} {H : Hp} {x : Str} {u : Value} {pos : Pos} {Q : Value → Shared → Prop} (I : Inv X pins σ H s) (hg : Gl X x) (hm : X.mg x = some u) (h : Q u s)
    (hd : (x == ("__debug__" : Str)) = false := by decide) : wpAny (model X.prog X.w) X.A (eval (.Name x pos) X.env) Q E s :=
  Calls.Name_function_global I.ok.kind hg (Calls.loadGlobal_global (by rw [I.ok.glob]; exact I.mod.glob.keeps I.bk) hm h) hd
theorem ld_blt {E : Value → Shared → Prop} {pins : List (Addr × Obj)} {s : Shared} {σ : St} {H : Hp} {x : Str} {u : Value} {pos : Pos} {Q : Value → Shared → Prop} (I : Inv X pins σ H s) (hg : Gl X x) (hm : X.mg x = none) (hv : bootBuiltins x = some u) (h : Q u s)
    (hn : x ≠ "__name__" := by decide) (hd : (x == ("__debug__" : Str)) = false := by decide) : wpAny (model X.prog X.w) X.A (eval (.Name x pos) X.env) Q E s := by
  obtain ⟨mb, h1, h2⟩ := I.mod.blt
  exact Calls.Name_function_global I.ok.kind hg (Calls.loadGlobal_builtin (by rw [I.ok.glob]; exact I.mod.glob.keeps I.bk) hm (by rw [I.ok.blt]; exact h1.keeps I.bk) ((h2 x hn).trans hv) h) hd
/-- a module's constant, a class, a function, as a value -/
theorem pe_glob {x : Str} {v : V} {u : Value} {pos : Pos} (hg : Gl X x) (hm : X.mg x = some u) (r : RelV v u) (hd : (x == ("__debug__" : Str)) = false := by decide) : PE X (.Name x pos) (tC v) :=
  fun _ _ _ H _ I h => ld_glob I hg hm ⟨v, H, I, r, h⟩ hd
variable {a b : Expr} {ta tb : TE} {pos : Pos}
/-- a comparison as a value, as a test -/
def tB (t : TE) : TT := fun σ H Q => t σ H fun x H1 => ∃ c, x = .bl c ∧ Q c H1
/-- an expression whose value is a bool, as a test -/
theorem pt_val {e : Expr} {t : TE} (h : PE X e t) (he : ∀ whole, isTrue e X.env whole = (do let v ← whole; standAt e.pos; holding [v] (truthy v)) := by intro _; rfl) : PT X e (tB t) := by
  intro pins s σ H Q I hw
  refine isTrue_plain (thn (h pins s σ H _ I hw) fun v s1 ⟨x, H1, I1, r1, q1⟩ => ?_) (he _)
  obtain ⟨d, rfl, q⟩ := q1
  cases r1
  exact wpAny_truthy_bool ⟨H1, I1, q⟩
variable {tA tB' : TT} {rest : List Expr}
def tOr (t u : TT) : TT := fun σ H Q => t σ H fun c H1 => if c = true then Q true H1 else u σ H1 Q
def tNot (t : TT) : TT := fun σ H Q => t σ H fun c H1 => Q (!c) H1
theorem pw_or1 (ha : PT X a tA) : PW X (.BoolOp .Or [a] pos) tA := by
  intro wh pins s σ H Q I h
  refine isTrue_or (thn (ha pins s σ H Q I h) fun c s1 e => ?_)
  cases c with
  | false => exact isTrue_or_nil e
  | true => exact e
theorem pw_or (ha : PT X a tA) (hb : PW X (.BoolOp .Or (b :: rest) pos) tB') : PW X (.BoolOp .Or (a :: b :: rest) pos) (tOr tA tB') := by
  intro wh pins s σ H Q I h
  refine isTrue_or (thn (ha pins s σ H _ I h) fun c s1 ⟨H1, I1, q1⟩ => ?_)
  cases c with
  | true => exact ⟨H1, I1, q1⟩
  | false => exact hb wh pins s1 σ H1 Q I1 q1
theorem pt_not (ha : PT X a tA) : PT X (.UnaryOp .Not a pos) (tNot tA) := by
  intro pins s σ H Q I h
  exact isTrue_not (ha pins s σ H (fun c H1 => Q (!c) H1) I h)
/-- .. as values (bools) -/
def tAndV (ta tb : TE) : TE := fun σ H Q => ta σ H fun x H1 => ∃ c, x = .bl c ∧ if c = true then tb σ H1 Q else Q (.bl false) H1
def tOrV (ta tb : TE) : TE := fun σ H Q => ta σ H fun x H1 => ∃ c, x = .bl c ∧ if c = true then Q (.bl true) H1 else tb σ H1 Q
theorem pe_one {op} {t : TE} (h : PE X a t) : PE X (.BoolOp op [a] pos) t := fun pins s σ H Q I hw => BoolOp_one (h pins s σ H Q I hw)
theorem pe_and (ha : PE X a ta) (hb : PE X (.BoolOp .And (b :: rest) pos) tb) : PE X (.BoolOp .And (a :: b :: rest) pos) (tAndV ta tb) := by
  intro pins s σ H Q I h
  refine BoolOp_and (thn (ha pins s σ H _ I h) fun v s1 ⟨x, H1, I1, r1, q1⟩ => ?_)
  obtain ⟨c, rfl, q1⟩ := q1
  cases r1
  refine wpAny_truthy_bool ?_
  cases c with
  | true => exact hb pins s1 σ H1 Q I1 q1
  | false => exact ⟨.bl false, H1, I1, rfl, q1⟩
theorem pe_or (ha : PE X a ta) (hb : PE X (.BoolOp .Or (b :: rest) pos) tb) : PE X (.BoolOp .Or (a :: b :: rest) pos) (tOrV ta tb) := by
  intro pins s σ H Q I h
  refine BoolOp_or (thn (ha pins s σ H _ I h) fun v s1 ⟨x, H1, I1, r1, q1⟩ => ?_)
  obtain ⟨c, rfl, q1⟩ := q1
  cases r1
  refine wpAny_truthy_bool ?_
  cases c with
  | false => exact hb pins s1 σ H1 Q I1 q1
  | true => exact ⟨.bl true, H1, I1, rfl, q1⟩
/-- a if t else b -/
def tIf (t : TT) (ta tb : TE) : TE := fun σ H Q => t σ H fun c H1 => if c = true then ta σ H1 Q else tb σ H1 Q
theorem pe_ifExp {c : Expr} (hc : PT X c tA) (ha : PE X a ta) (hb : PE X b tb) : PE X (.IfExp c a b pos) (tIf tA ta tb) := by
  intro pins s σ H Q I h
  refine wpAny_IfExp (thn (hc pins s σ H _ I h) fun d s1 ⟨H1, I1, q1⟩ => ?_)
  cases d with
  | true => exact ha pins s1 σ H1 Q I1 q1
  | false => exact hb pins s1 σ H1 Q I1 q1
end
end L2
namespace L2
open PySem PySem.Spec PyProof.Rows
def SqL (K : PySem.W.Frag) (H : Hp) (a : Addr) (xs : List V) : Prop :=
  Rd H a (.lst xs) ∨
    ∃ (o : Obj) (its : Array Value) (n : Nat), K.lookup a = some o ∧ o.cls = .type "list" ∧ o.dict = none ∧ o.data = .seq its n ∧ its.size ≤ sizeLine ∧ Vals xs its.toList
def SqT (K : PySem.W.Frag) (H : Hp) (a : Addr) (xs : List V) : Prop :=
  Rd H a (.tup xs) ∨
    ∃ (o : Obj) (its : Array Value) (n : Nat), K.lookup a = some o ∧ o.cls = .type "tuple" ∧ o.data = .seq its n ∧ its.size ≤ sizeLine ∧ Vals xs its.toList
def absV : Value → Option V
  | .none => some .non
  | .bool b => some (.bl b)
  | .int i _ => some (.int i)
  | .str x _ => some (.str x)
  | .bytes b _ => some (.byt b)
  | .float b _ => some (.flt b)
  | .ref a => some (.ref a)
  | .type n => some (.ty n)
  | _ => none
theorem RelV.abs {x : V} {u : Value} (r : RelV x u) : absV u = some x := by
  cases x with
  | non => cases r; rfl
  | bl _ => cases r; rfl
  | int _ => obtain ⟨t, rfl⟩ := r; rfl
  | str _ => obtain ⟨t, rfl⟩ := r; rfl
  | byt _ => obtain ⟨t, rfl⟩ := r; rfl
  | flt _ => obtain ⟨t, rfl⟩ := r; rfl
  | ref _ => cases r; rfl
  | ty _ => cases r; rfl
theorem RelV.inj {x y : V} {u : Value} (r : RelV x u) (q : RelV y u) : x = y := Option.some.inj (r.abs.symm.trans q.abs)
theorem Vals.inj : ∀ {xs ys : List V} {us : List Value}, Vals xs us → Vals ys us → xs = ys
  | _, _, _, .nil, .nil => rfl
  | _, _, _, .cons r t, .cons r' t' => by rw [r.inj r', Vals.inj t t']
section
variable {X : Cx} {pins : List (Addr × Obj)} {σ : St} {H : Hp} {s : Shared} {a : Addr} {xs ys : List V}
theorem SqL.of {K : PySem.W.Frag} (h : H a = some (.lst xs)) : SqL K H a xs := .inl (.inl h)
theorem SqT.of {K : PySem.W.Frag} (h : H a = some (.tup xs)) : SqT K H a xs := .inl (.inl h)
theorem Inv.list (I : Inv X pins σ H s) (h : SqL X.K H a xs) : ∃ its : List Value, Vals xs its ∧ PlainL s.heap a its.toArray ∧ xs.length ≤ sizeLine := by
  rcases h with h | ⟨o, its, n, hk, hc, hd, hs, hz, r⟩
  · obtain ⟨z, its, n, r, e⟩ := h.ok I.hok
    exact ⟨its, r, ⟨_, n, e, rfl, rfl, rfl⟩, z⟩
  · refine ⟨its.toList, r, ⟨o, n, I.kIn a o hk, hc, hd, by simpa using hs⟩, ?_⟩
    have e := r.length
    simp only [Array.length_toList] at e
    lia
theorem Inv.tuple (I : Inv X pins σ H s) (h : SqT X.K H a xs) : ∃ its : List Value, Vals xs its ∧ IsTup s.heap a its.toArray ∧ xs.length ≤ sizeLine := by
  rcases h with h | ⟨o, its, n, hk, hc, hs, hz, r⟩
  · obtain ⟨z, its, r, p⟩ := h.ok I.hok
    exact ⟨its, r, p, z⟩
  · refine ⟨its.toList, r, ⟨o, I.kIn a o hk, hc, n, by simpa using hs⟩, ?_⟩
    have e := r.length
    simp only [Array.length_toList] at e
    lia
theorem Inv.list_inj (I : Inv X pins σ H s) (h : SqL X.K H a xs) (h' : SqL X.K H a ys) : xs = ys := by
  obtain ⟨its, r, ⟨o, n, e, _, _, d⟩, _⟩ := I.list h
  obtain ⟨its', r', ⟨o', n', e', _, _, d'⟩, _⟩ := I.list h'
  rw [e] at e'; cases e'
  rw [d] at d'
  injection d' with d1 _
  have : its = its' := by simpa using congrArg Array.toList d1
  subst this
  exact r.inj r'
end
abbrev Cx.wish (X : Cx) (E : Value → Shared → Prop) : Cx := { X with xe := E }
/-- no exception leaves -/
abbrev Cx.nox (X : Cx) : Cx := X.wish fun _ _ => False
theorem Cx.Ok.wish {X : Cx} (ok : X.Ok) (E : Value → Shared → Prop) : (X.wish E).Ok :=
  ⟨ok.mod, ok.kind, ok.glob, ok.blt, ok.above, ok.inj, ok.has, ok.cab, ok.hd, ok.frames, ok.stk, ok.exf, ok.bs, ok.bsz, ok.noex, ok.exfs, ok.funs, ok.frf⟩
theorem Cx.Ok.unwish {X : Cx} {E : Value → Shared → Prop} (ok : (X.wish E).Ok) : X.Ok :=
  ⟨ok.mod, ok.kind, ok.glob, ok.blt, ok.above, ok.inj, ok.has, ok.cab, ok.hd, ok.frames, ok.stk, ok.exf, ok.bs, ok.bsz, ok.noex, ok.exfs, ok.funs, ok.frf⟩
section
variable {X : Cx} {pins : List (Addr × Obj)} {σ : St} {H : Hp} {s : Shared} {E : Value → Shared → Prop}
theorem Inv.wish (I : Inv X pins σ H s) (E : Value → Shared → Prop) : Inv (X.wish E) pins σ H s := ⟨I.ok.wish E, I.os, I.bare, I.base, I.loc, I.cell, I.free, I.freeC, I.pin, I.hok, I.len⟩
theorem Inv.unwish (I : Inv (X.wish E) pins σ H s) : Inv X pins σ H s := ⟨I.ok.unwish, I.os, I.bare, I.base, I.loc, I.cell, I.free, I.freeC, I.pin, I.hok, I.len⟩
theorem SP.unwish {D : Ends} {f : Flow} {s' : Shared} (h : SP (X.wish E) pins D f s') : SP X pins D f s' := by
  cases f with
  | next => obtain ⟨σ', H', I, q⟩ := h; exact ⟨σ', H', I.unwish, q⟩
  | brk => obtain ⟨σ', H', I, q⟩ := h; exact ⟨σ', H', I.unwish, q⟩
  | cont => obtain ⟨σ', H', I, q⟩ := h; exact ⟨σ', H', I.unwish, q⟩
  | ret u => obtain ⟨v, σ', H', I, r, q⟩ := h; exact ⟨v, σ', H', I.unwish, r, q⟩
theorem PSs.nox {st : List Stmt} {t : TS} (h : PSs X.nox st t) : PSs X st t := fun pins s σ H D I hw =>
  wpAny_mono (h pins s σ H D (I.wish _) hw) (fun _ _ q => q.unwish) fun _ _ z => False.elim z
end
section
variable {X : Cx} {st : Stmt} {rest : List Stmt} {t u : TS} {e : Expr} {te : TE} {pos : Pos}
def tNext : TS := fun D σ H => D.nx σ H
def tSeq (t u : TS) : TS := fun D σ H => t { D with nx := u D } σ H
theorem pss_nil : PSs X [] tNext := fun _ _ σ H _ I h => wpAny_execs_nil ⟨σ, H, I, h⟩
theorem pss_cons (h1 : PS X st t) (h2 : PSs X rest u) : PSs X (st :: rest) (tSeq t u) := by
  intro pins s σ H D I h
  refine wpAny_execs_cons (thn (h1 pins s σ H { D with nx := u D } I h) fun f s1 q => ?_)
  cases f with
  | next =>
    obtain ⟨σ', H', I', q⟩ := q
    exact h2 pins s1 σ' H' D I' q
  | ret v => exact q
  | brk => exact q
  | cont => exact q
theorem pss_one (h1 : PS X st t) : PSs X [st] t := by
  intro pins s σ H D I h
  refine wpAny_execs_cons (thn (h1 pins s σ H D I h) fun f s1 q => ?_)
  cases f with
  | next => exact wpAny_execs_nil q
  | ret v => exact q
  | brk => exact q
  | cont => exact q
/-- in a def's body nothing is shown -/
theorem Inv.quiet {pins : List (Addr × Obj)} {σ : St} {H : Hp} {s : Shared} (I : Inv X pins σ H s) : interactive X.env = false := by simp [interactive, I.ok.kind]
/-- an expression whose value is dropped -/
def tDrop (te : TE) : TS := fun D σ H => te σ H fun _ H1 => D.nx σ H1
theorem ps_expr (he : PE X e te) (hs : swapsWith e none pos.line X.env = pure false := by rfl) : PS X (.Expr e pos) (tDrop te) := by
  intro pins s σ H D I h
  exact wpAny_Expr_any (thn (he pins s σ H _ I h) fun v s1 ⟨x, H1, I1, r1, q1⟩ => ⟨σ, H1, I1, q1⟩) I.quiet hs
def tRet (te : TE) : TS := fun D σ H => te σ H D.rt
theorem ps_ret (he : PE X e te) : PS X (.Return (some e) pos) (tRet te) := by
  intro pins s σ H D I h
  exact wpAny_Return_some (thn (he pins s σ H _ I h) fun v s1 ⟨x, H1, I1, r1, q1⟩ => ⟨x, σ, H1, I1, r1, q1⟩)
def tIfS (c : TT) (t u : TS) : TS := fun D σ H => c σ H fun b H1 => if b = true then t D σ H1 else u D σ H1
theorem ps_if {c : Expr} {a b : List Stmt} {tc : TT} (hc : PT X c tc) (ha : PSs X a t) (hb : PSs X b u) : PS X (.If c a b pos) (tIfS tc t u) := by
  intro pins s σ H D I h
  refine wpAny_If (thn (hc pins s σ H _ I h) fun d s1 ⟨H1, I1, q1⟩ => ?_)
  cases d with
  | true => exact ha pins s1 σ H1 D I1 q1
  | false => exact hb pins s1 σ H1 D I1 q1
/-- code that the proof never comes to -/
def tNever : TS := fun _ _ _ => False
theorem ps_never : PS X st tNever := fun _ _ _ _ _ _ h => h.elim
end
abbrev TG := V → St → Hp → (St → Hp → Prop) → Prop
abbrev TGs := List V → St → Hp → (St → Hp → Prop) → Prop
def PG (X : Cx) (target : Expr) (t : TG) : Prop :=
  ∀ (pins : List (Addr × Obj)) (s : Shared) (σ : St) (H : Hp) (v : V) (u : Value) (Q : St → Hp → Prop), Inv X pins σ H s → RelV v u → t v σ H Q →
    wpAny (model X.prog X.w) X.A (assign target X.env u) (fun _ s' => ∃ σ' H', Inv X pins σ' H' s' ∧ Q σ' H') X.xe s
/-- several targets, one after another -/
def PGs (X : Cx) (ts : List Expr) (t : TGs) : Prop :=
  ∀ (pins : List (Addr × Obj)) (s : Shared) (σ : St) (H : Hp) (vs : List V) (us : List Value) (Q : St → Hp → Prop), Inv X pins σ H s → Vals vs us → t vs σ H Q →
    wpAny (model X.prog X.w) X.A (assignInOrder ((assignEach ts X.env).map (·.2)) us) (fun _ s' => ∃ σ' H', Inv X pins σ' H' s' ∧ Q σ' H') X.xe s
/-- o[i] = v, by values -/
abbrev TSet := V → V → V → Hp → (Hp → Prop) → Prop
def PSet (X : Cx) (t : TSet) : Prop :=
  ∀ (pins : List (Addr × Obj)) (s : Shared) (σ : St) (H : Hp) (o i v : V) (ov iv u : Value) (Q : Hp → Prop), Inv X pins σ H s → RelV o ov → RelV i iv → RelV v u → t o i v H Q →
    wpAny (model X.prog X.w) X.A (setItem ov iv u) (fun _ s' => ∃ H', Inv X pins σ H' s' ∧ Q H') X.xe s
/-- a op= b, by values -/
abbrev TIp := V → V → Hp → VK → Prop
def PIp (X : Cx) (op : Operator) (t : TIp) : Prop :=
  ∀ (pins : List (Addr × Obj)) (s : Shared) (σ : St) (H : Hp) (x y : V) (v u : Value) (Q : VK), Inv X pins σ H s → RelV x v → RelV y u → t x y H Q →
    wpAny (model X.prog X.w) X.A (inplaceOp op v u) (EP X pins σ Q) X.xe s
section
variable {X : Cx} {pos : Pos}
def gName (i : Nat) : TG := fun v σ H Q => Q (σ.set i (some v)) H
theorem pg_name {i : Nat} {x : Str} (hN : X.N.Nodup) (hi : X.N[i]? = some x) (hx : Loc X.env.scope x) (hf : X.fn x = true ∨ X.env.scope.names.lookup x = some .local := by first | exact .inl rfl | exact .inr rfl | assumption) : PG X (.Name x pos) (gName i) := by
  intro pins s σ H v u Q I r h
  exact wpAny_assign_Name (store_ok I hN hi hx r (fun s' I' => ⟨_, H, I', h⟩) hf)
def gNil : TGs := fun vs σ H Q => vs = [] ∧ Q σ H
def gCons (t : TG) (u : TGs) : TGs := fun vs σ H Q => ∃ v r, vs = v :: r ∧ t v σ H fun σ' H' => u r σ' H' Q
theorem pgs_nil : PGs X [] gNil := by
  intro pins s σ H vs us Q I r h
  obtain ⟨e, h⟩ := h
  subst e
  cases r
  exact assignInOrder_nil ⟨σ, H, I, h⟩
theorem pgs_cons {e : Expr} {es : List Expr} {t : TG} {u : TGs} (h1 : PG X e t) (h2 : PGs X es u)
    (hs : (assignEach (e :: es) X.env).map (·.2) = assign e X.env :: (assignEach es X.env).map (·.2) := by rfl) : PGs X (e :: es) (gCons t u) := by
  intro pins s σ H vs us Q I r h
  obtain ⟨v, vr, e1, h⟩ := h
  subst e1
  cases r with
  | cons r rr =>
    rw [hs]
    refine assignInOrder_cons (thn (h1 pins s σ H _ _ _ I r h) fun _ s1 ⟨σ1, H1, I1, q1⟩ => ?_)
    exact h2 pins s1 σ1 H1 _ _ Q I1 rr q1
/-- (a, b, ..) = a tuple of that length -/
def gTup (K : PySem.W.Frag) (n : Nat) (t : TGs) : TG := fun v σ H Q => ∃ a xs, v = .ref a ∧ SqT K H a xs ∧ xs.length = n ∧ t xs σ H Q
theorem pg_tup {es : List Expr} {k : Nat} {t : TGs} {n : Nat} (hc : X.calm = true) (h : PGs X es t)
    (hn : (assignEach es X.env).length = n := by rfl) (hst : (assignEach es X.env).findIdx? (·.1) = none := by rfl) : PG X (.Tuple es k pos) (gTup X.K n t) := by
  intro pins s σ H v u Q I r hw
  obtain ⟨a, xs, e1, hq, hl, hw⟩ := hw
  subst e1
  cases r
  obtain ⟨its, rv, ht, hz⟩ := I.tuple hq
  refine assign_Tuple_tuple (I.ok.hd hc) ht (by simp [hn, ← hl, rv.length]) hst fun h' hx => ?_
  have I1 : Inv X pins σ H { s with heap := h' } := I.kept (t' := s.toks) fun b o e => hx b o (Nat.ne_of_lt (Heap.lt_size e)) e
  exact h pins _ σ H xs _ Q I1 (by simpa using rv) hw
/-- o[i] = .. -/
def gSub (to ti : TE) (t : TSet) : TG := fun v σ H Q => to σ H fun o H1 => ti σ H1 fun i H2 => t o i v H2 fun H3 => Q σ H3
theorem pg_sub {o i : Expr} {to ti : TE} {t : TSet} (ho : PE X o to) (hi : PE X i ti) (hs : PSet X t)
    (ha : ∀ v, assign (.Subscript o i pos) X.env v = (do
      let ov ← holding [v] (eval o X.env)
      let iv ← holding [v, ov] (eval i X.env)
      standAt pos
      holding [v, ov, iv] (setItem ov iv v)
      release [v, ov, iv] []) := by intro _; rfl) : PG X (.Subscript o i pos) (gSub to ti t) := by
  intro pins s σ H v u Q I r h
  rw [ha]
  refine wpAny_bind (wpAny_holding (thn (ho pins s σ H _ I h) fun ov s1 ⟨x, H1, I1, r1, q1⟩ => ?_))
  refine wpAny_bind (wpAny_holding (thn (hi pins s1 σ H1 _ I1 q1) fun iv s2 ⟨y, H2, I2, r2, q2⟩ => ?_))
  refine wpAny_bind (wpAny_standAt (wpAny_bind (wpAny_holding (thn (hs pins s2 σ H2 x y v ov iv u _ I2 r1 r2 r q2) fun _ s3 ⟨H3, I3, q3⟩ => ?_))))
  exact wpAny_release ⟨σ, H3, I3, q3⟩
/-- target = value -/
def tAsg (te : TE) (g : TG) : TS := fun D σ H => te σ H fun x H1 => g x σ H1 D.nx
theorem ps_asg {tg e : Expr} {te : TE} {g : TG} (he : PE X e te) (hg : PG X tg g) (hs : swapsWithSole [tg] e pos.line X.env = pure false := by rfl) (hw : swappedStores [tg] e X.env = pure none := by rfl)
    (h1 : (assignEach [tg] X.env).map (·.2) = [assign tg X.env] := by rfl) : PS X (.Assign [tg] e pos) (tAsg te g) := by
  intro pins s σ H D I h
  refine wpAny_Assign_stores (thn (he pins s σ H _ I h) fun v s1 ⟨x, H1, I1, r1, q1⟩ => ?_) hs hw
  rw [h1]
  exact thn (hg pins s1 σ H1 x v _ I1 r1 q1) fun _ s2 q => q
/-- name = value -/
theorem ps_set {i : Nat} {x : Str} {e : Expr} {te : TE} {pos' : Pos} (hN : X.N.Nodup) (hi : X.N[i]? = some x) (hx : Loc X.env.scope x) (he : PE X e te) (hs : swapsWith e (some (.Name x pos')) pos.line X.env = pure false := by rfl) (hf : X.fn x = true ∨ X.env.scope.names.lookup x = some .local := by first | exact .inl rfl | exact .inr rfl | assumption) :
    PS X (.Assign [.Name x pos'] e pos) (tAsg te (gName i)) := by
  intro pins s σ H D I h
  refine wpAny_Assign_Name (thn (he pins s σ H _ I h) fun v s1 ⟨y, H1, I1, r1, q1⟩ => ?_) hs
  exact store_ok I1 hN hi hx r1 (fun s2 I2 => ⟨_, H1, I2, q1⟩) hf
/-- name op= e -/
def tAug (i : Nat) (te : TE) (ti : TIp) : TS := fun D σ H => ∃ x, σ[i]? = some (some x) ∧ te σ H fun y H1 => ti x y H1 fun z H2 => D.nx (σ.set i (some z)) H2
theorem ps_aug {i : Nat} {x : Str} {e : Expr} {te : TE} {op : Operator} {ti : TIp} {pos' : Pos} (hN : X.N.Nodup) (hi : X.N[i]? = some x) (hx : Loc X.env.scope x) (he : PE X e te) (ho : PIp X op ti) (hf : X.fn x = true ∨ X.env.scope.names.lookup x = some .local := by first | exact .inl rfl | exact .inr rfl | assumption) :
    PS X (.AugAssign (.Name x pos') op e pos) (tAug i te ti) := by
  intro pins s σ H D I h
  obtain ⟨v, e1, h⟩ := h
  obtain ⟨m, hn, hl⟩ := I.loc
  have vis : Vis X.env.scope x := by rcases hx with k | k; exact .inl k; exact .inr (.inl k)
  obtain ⟨u, r, l⟩ := hl i x v hi e1 vis
  refine wpAny_AugAssign_Name ?_
  have go : wpAny (model X.prog X.w) X.A (eval e X.env) (fun w s₂ => wpAny (model X.prog X.w) X.A (inplaceOp op u w) (fun r s₃ => wpAny (model X.prog X.w) X.A (storeName X.env x r) (fun _ => SP X pins D .next) X.xe s₃) X.xe s₂) X.xe s := by
    refine thn (he pins s σ H _ I h) fun w s1 ⟨y, H1, I1, r1, q1⟩ => ?_
    refine thn (ho pins s1 σ H1 v y u w _ I1 r r1 q1) fun z s2 ⟨zv, H2, I2, r2, q2⟩ => ?_
    exact store_ok I2 hN hi hx r2 (fun s3 I3 => ⟨_, H2, I3, q2⟩) hf
  rcases l with ⟨hk, hm⟩ | ⟨hk, c, hc, hcell⟩
  · exact wpAny_loadName_local I.ok.kind hk hn hm go
  · rcases hk with hk | hk
    · exact wpAny_loadName_cell I.ok.kind hk hc hcell go
    · rcases hx with k | k
      · have : X.env.scope.names.lookup x = some .free := hk
        rw [k] at this; cases this
      · have : X.env.scope.names.lookup x = some .free := hk
        rw [k] at this; cases this
/-- ints -/
def ipI (f : Int → Int → Int) : TIp := fun x y H Q => ∃ i j, x = .int i ∧ y = .int j ∧ Q (.int (f i j)) H
theorem ip_add : PIp X .Add (ipI fun i j => i + j) := by
  intro pins s σ H x y v u Q I r1 r2 h
  obtain ⟨i, j, e1, e2, q⟩ := h
  subst e1; subst e2
  obtain ⟨t, rfl⟩ := r1
  obtain ⟨t', rfl⟩ := r2
  exact iadd_int ⟨.int _, H, I.tok _, ⟨_, rfl⟩, q⟩
end
section
variable {X : Cx} {pos : Pos}
/-- the invariant W with its measure -/
def tWhile (c : TT) (tb : TS) : TS := fun D σ H => ∃ W : Nat → St → Hp → Prop, (∃ m, W m σ H) ∧ ∀ m σ H, W m σ H →
  c σ H fun b H1 => if b = true then ∃ N : St → Hp → Prop, (∀ σ' H', N σ' H' → ∃ m', m' < m ∧ W m' σ' H') ∧ tb { D with nx := N, ct := N, bk := D.nx } σ H1 else D.nx σ H1
theorem ps_while {c : Expr} {body : List Stmt} {tc : TT} {tb : TS} (hp : PassesOwn (model X.prog X.w) X.A X.env X.xe) (hc : PT X c tc) (hb : PSs X body tb) : PS X (.While c body [] pos) (tWhile tc tb) := by
  intro pins s σ H D I h
  obtain ⟨W, ⟨m0, w0⟩, turn⟩ := h
  refine wpAny_While (codeAny_whileLoop (fun n s' => ∃ σ' H', Inv X pins σ' H' s' ∧ W n σ' H') ?_ m0 ⟨σ, H, I, w0⟩)
  rintro n s1 ⟨σ1, H1, I1, w1⟩
  refine wpAny_passesOwn hp (thn (hc pins s1 σ1 H1 _ I1 (turn n σ1 H1 w1)) fun b s2 ⟨H2, I2, q2⟩ => ?_)
  cases b with
  | true =>
    obtain ⟨N, hN, q2⟩ := q2
    rw [if_pos rfl]
    refine wpAny_passesOwn hp (thn (hb pins s2 σ1 H2 _ I2 q2) fun f s3 q3 => ?_)
    cases f with
    | next =>
      obtain ⟨σ3, H3, I3, n3⟩ := q3
      obtain ⟨m', hm, w3⟩ := hN σ3 H3 n3
      exact ⟨m', hm, σ3, H3, I3, w3⟩
    | cont =>
      obtain ⟨σ3, H3, I3, n3⟩ := q3
      obtain ⟨m', hm, w3⟩ := hN σ3 H3 n3
      exact ⟨m', hm, σ3, H3, I3, w3⟩
    | brk => exact q3
    | ret v => exact q3
  | false =>
    rw [if_neg Bool.false_ne_true]
    exact wpAny_execs_nil ⟨σ1, H2, I2, q2⟩
end
/-- at turn i: it yields x (the heap may grow), or it stops -/
structure It where
  go : Nat → Hp → Prop
  yld : Nat → Hp → V → Hp → Prop
  stop : Nat → Hp → Prop
/-- the iterator's own objects may turn: they are not the frame's, not pinned, younger than the entry (or a comprehension's own) -/
def FpOk (X : Cx) (pins : List (Addr × Obj)) (H : Hp) (b : Addr) : Prop :=
  H b = none ∧ b ≠ X.env.locals ∧ b ∉ X.fs ∧ (b ∈ X.ex ∨ X.s_0.heap.objs.size ≤ b) ∧ (∀ x c, X.env.cells.lookup x = some c → c ≠ b) ∧ ∀ p ∈ X.pn ++ pins, p.1 ≠ b
theorem Inv.fpOk {X : Cx} {pins : List (Addr × Obj)} {σ : St} {H H' : Hp} {s : Shared} {b : Addr} (I : Inv X pins σ H s) (hb : s.heap.objs.size ≤ b) (hn : H' b = none) : FpOk X pins H' b := by
  refine ⟨hn, Nat.ne_of_gt (Nat.lt_of_lt_of_le I.lt hb), I.nofs hb, .inr (Nat.le_trans I.sz hb), fun x c e z => ?_, fun p hp z => ?_⟩
  · obtain ⟨v, q⟩ := I.cell x c e
    exact absurd (Nat.lt_of_lt_of_le q.lt (by rw [z]; exact hb)) (Nat.lt_irrefl _)
  · exact absurd (Nat.lt_of_lt_of_le (Heap.lt_size (I.pin p hp).1) (by rw [z]; exact hb)) (Nat.lt_irrefl _)
structure Turn (P : Program) (w : World) (K : PySem.W.Frag) (tg : Expr) (J : It) (fp : List Addr) (it : Addr) (tn : Nat → Heap → Prop) : Prop where
  mem : it ∈ fp
  obj : ∀ i h, tn i h → ∀ b ∈ fp, ∃ o, h.get? b = some o ∧ ∀ v, o.data ≠ .cell v
  keep : ∀ i h h', tn i h → (∀ b ∈ fp, ∀ o, h.get? b = some o → h'.get? b = some o) → tn i h'
  item : ∀ (X : Cx), X.prog = P → X.w = w → X.K = K → X.calm = true → ∀ (i : Nat) (pins : List (Addr × Obj)) (s : Shared) (σ : St) (H : Hp) (E : Value → Shared → Prop), Inv X pins σ H s → (∀ b ∈ fp, FpOk X pins H b) → tn i s.heap → J.go i H →
    wpAny (model P w) X.A (pyNext (.ref it)) (fun r s1 => ∃ u, r = some u ∧
      wpAny (model P w) X.A (letOwnedTupleGo tg (.ref it) u) (fun _ s2 => ∃ x H', Inv X pins σ H' s2 ∧ RelV x u ∧ J.yld i H x H' ∧ tn (i + 1) s2.heap ∧ ∀ b ∈ fp, H' b = none) E s1) E s
  done : ∀ (X : Cx), X.prog = P → X.w = w → X.K = K → X.calm = true → ∀ (i : Nat) (pins : List (Addr × Obj)) (s : Shared) (σ : St) (H : Hp) (E : Value → Shared → Prop), Inv X pins σ H s → (∀ b ∈ fp, FpOk X pins H b) → tn i s.heap → J.stop i H →
    wpAny (model P w) X.A (pyNext (.ref it)) (fun r s1 => r = none ∧ Inv X pins σ H s1) E s
  self : ∀ (A : Around) (i : Nat) (s : Shared) (Q : Value → Shared → Prop) (E : Value → Shared → Prop), tn i s.heap → Q (.ref it) s → wpAny (model P w) A (pyIter (.ref it)) Q E s
abbrev TI := St → Hp → (It → Hp → Prop) → Prop
/-- an iterator has come -/
def PIE (X : Cx) (pins : List (Addr × Obj)) (σ : St) (tg : Expr) (R : It → Hp → Prop) (itv : Value) (s2 : Shared) : Prop :=
  ∃ (it : Addr) (fp : List Addr) (tn : Nat → Heap → Prop) (J : It) (H' : Hp), itv = .ref it ∧ Inv X pins σ H' s2 ∧ Turn X.prog X.w X.K tg J fp it tn ∧ tn 0 s2.heap ∧ (∀ b ∈ fp, FpOk X pins H' b) ∧ R J H'
def PI (X : Cx) (tg iter : Expr) (wi : TI) : Prop :=
  ∀ (pins : List (Addr × Obj)) (s : Shared) (σ : St) (H : Hp) (R : It → Hp → Prop), Inv X pins σ H s → wi σ H R →
    wpAny (model X.prog X.w) X.A (eval iter X.env) (fun v s1 => wpAny (model X.prog X.w) X.A (pyIter v) (PIE X pins σ tg R) X.xe s1) X.xe s
/-- the step ahead of the store is nothing for an iterator that keeps no tuple -/
theorem go_of {M : Model} {A : Around} {E : Value → Shared → Prop} {s : Shared} {tg : Expr} {it : Addr} {u : Value} {o : Obj} {n : String} {vs : Array Value} {Q : Unit → Shared → Prop} (ho : s.heap.get? it = some o) (hc : o.cls = .type n) (hd : o.data = .fields vs)
    (hn : ["enumerate", "zip", "dict_itemiterator", "dict_reverseitemiterator", "odict_iterator", "itertools.zip_longest", "itertools.pairwise"].contains n = false) (hQ : Q () s) : wpAny M A (letOwnedTupleGo tg (.ref it) u) Q E s := by
  unfold letOwnedTupleGo
  cases tg <;> first
    | exact wpAny_pure hQ
    | (cases u <;> first
        | exact wpAny_pure hQ
        | (refine wpAny_bind (wpAny_load ho ?_)
           rw [hc, hd]
           show wpAny M A (if (["enumerate", "zip", "dict_itemiterator", "dict_reverseitemiterator", "odict_iterator", "itertools.zip_longest", "itertools.pairwise"].contains n && vs[0]? == some (rawInt _)) = true then _ else _) Q E s
           rw [if_neg (by intro h; rw [hn, Bool.false_and] at h; cases h)]
           exact wpAny_pure hQ))
/-- the list at a, as it stands at each turn (a loop may append to it) -/
def Itl (K : PySem.W.Frag) (a : Addr) : It :=
  ⟨fun i H => ∃ xs x, SqL K H a xs ∧ xs[i]? = some x, fun i H x H' => H' = H ∧ ∀ xs, SqL K H a xs → xs[i]? = some x, fun i H => ∃ xs, SqL K H a xs ∧ xs.length ≤ i⟩
/-- lo, lo + 1, .. (n of them) -/
def Itr (lo : Int) (n : Nat) : It := ⟨fun i _ => i < n, fun i H x H' => H' = H ∧ x = .int (lo + i), fun i _ => n ≤ i⟩
theorem turn_list {P : Program} {w : World} {K : PySem.W.Frag} {tg : Expr} (a it : Addr) : Turn P w K tg (Itl K a) [it] it (fun i h => h.IsListIter it a i) where
  mem := by simp
  obj := fun i h st b hb => by
    have e : b = it := by simpa using hb
    subst e
    obtain ⟨o, e, c, d⟩ := st
    exact ⟨o, e, fun v z => by rw [d] at z; cases z⟩
  keep := fun i h h' st k => st.at fun o e => k it (by simp) o e
  item := by
    intro X hP hw hK hc i pins s σ H E I hf st hg
    subst hP hw hK
    obtain ⟨xs, x, hq, hx⟩ := hg
    obtain ⟨its, rv, p, hz⟩ := I.list hq
    obtain ⟨u, hu, ru⟩ := rv.get hx
    obtain ⟨f0, f1, f2, f3, f4, f5⟩ := hf it (by simp)
    refine wpAny_pyNext_list_item st p.isList (x := u) (by simpa using hu) fun h' st' sb => ?_
    have I1 : Inv X pins σ H { s with heap := h' } := I.turned (t' := s.toks) (fun b o hb e => (sb.2 b hb).trans e) f0 f1 f3 f4 f5
    obtain ⟨o, e, c, d⟩ := id st'
    exact ⟨u, rfl, go_of (s := { s with heap := h' }) e c d (by decide) ⟨x, H, I1, ru, ⟨rfl, fun ys hy => by rw [I.list_inj hy hq]; exact hx⟩, st', fun b hb => (hf b hb).1⟩⟩
  done := by
    intro X hP hw hK hc i pins s σ H E I hf st hg
    subst hP hw hK
    obtain ⟨xs, hq, hx⟩ := hg
    obtain ⟨its, rv, p, hz⟩ := I.list hq
    obtain ⟨f0, f1, f2, f3, f4, f5⟩ := hf it (by simp)
    have hl := rv.length
    exact wpAny_pyNext_list_end (I.ok.hd hc) st p.isList (by simp; lia) fun h' eb => ⟨rfl, I.turned (t' := s.toks) (fun b o hb e => eb b o hb e) f0 f1 f3 f4 f5⟩
  self := fun _ _ _ _ _ st h => wpAny_pyIter_listiter st h
theorem turn_range {P : Program} {w : World} {K : PySem.W.Frag} {tg : Expr} (it : Addr) (lo : Int) (n : Nat) : Turn P w K tg (Itr lo n) [it] it (fun i h => IsRangeIter h it (lo + (i : Nat) * 1) ((n : Int) - (i : Nat)) 1) where
  mem := by simp
  obj := fun i h st b hb => by
    have e : b = it := by simpa using hb
    subst e
    exact ⟨_, st, fun v z => by
      have z' : Data.fields _ = Data.cell v := z
      cases z'⟩
  keep := fun i h h' st k => k it (by simp) _ st
  item := by
    intro X hP hw hK hc i pins s σ H E I hf st hg
    subst hP hw hK
    obtain ⟨f0, f1, f2, f3, f4, f5⟩ := hf it (by simp)
    have W := Walks.range (prog := X.prog) (w := X.w) (I.ok.hd hc) it lo 1 n
    refine W.item i s _ _ hg st fun v h' tk hv st' kk => ?_
    obtain ⟨t, rfl⟩ := hv
    have I1 : Inv X pins σ H { s with heap := h', toks := tk } := I.turned (fun b o hb e => kk b o (by simpa using hb) e) f0 f1 f3 f4 f5
    refine ⟨_, rfl, go_of (s := { s with heap := h', toks := tk }) (n := "range_iterator") st' rfl rfl (by decide) ⟨.int (lo + i), H, I1, ⟨t, ?_⟩, ⟨rfl, rfl⟩, st', fun b hb => (hf b hb).1⟩⟩
    rw [Int.mul_one]
  done := by
    intro X hP hw hK hc i pins s σ H E I hf st hg
    subst hP hw hK
    obtain ⟨f0, f1, f2, f3, f4, f5⟩ := hf it (by simp)
    exact wpAny_pyNext_range_end (I.ok.hd hc) st (by have : n ≤ i := hg; lia) fun h' eb => ⟨rfl, I.turned (t' := s.toks) (fun b o hb e => eb b o hb e) f0 f1 f3 f4 f5⟩
  self := fun _ _ _ _ _ st h => wpAny_pyIter_rangeiter st h
end L2
namespace L2
open PySem PySem.Spec PyProof.Rows
section
variable {X : Cx} {tg : Expr}
def iList (K : PySem.W.Frag) (tl : TE) : TI := fun σ H R => tl σ H fun x H1 => ∃ a, x = .ref a ∧ (∃ xs, SqL K H1 a xs) ∧ R (Itl K a) H1
theorem pi_list {l : Expr} {tl : TE} (hl : PE X l tl) : PI X tg l (iList X.K tl) := by
  intro pins s σ H R I h
  refine thn (hl pins s σ H _ I h) fun v s1 ⟨x, H1, I1, r1, q1⟩ => ?_
  obtain ⟨a, e, ⟨xs, hq⟩, q⟩ := q1
  subst e
  cases r1
  obtain ⟨its, rv, p, hz⟩ := I1.list hq
  refine wpAny_pyIter_list p.isList ?_
  refine ⟨s1.heap.objs.size, [s1.heap.objs.size], _, _, H1, rfl, I1.kept (t' := s1.toks) fun b o e => Heap.get?_push_of_some _ e, turn_list a _, ⟨_, Heap.get?_push_size _ rfl, rfl, rfl⟩, fun b hb => ?_, q⟩
  have e : b = s1.heap.objs.size := by simpa using hb
  subst e
  exact I1.fpOk (Nat.le_refl _) (I1.hok.fresh (Nat.le_refl _))
/-- a range object just made, walked -/
theorem range_it {pins : List (Addr × Obj)} {σ : St} {H : Hp} {s : Shared} {R : It → Hp → Prop} {E : Value → Shared → Prop} {lo hi : Int} {t u v : Tok} {tk : Nat} (I : Inv X pins σ H s) (h1 : -(2 ^ 62) ≤ lo) (h2 : lo < 2 ^ 62) (h3 : -(2 ^ 62) ≤ hi) (h4 : hi < 2 ^ 62)
    (q : R (Itr lo (hi - lo).toNat) H) : wpAny (model X.prog X.w) X.A (pyIter (.ref s.heap.objs.size)) (PIE X pins σ tg R) E { s with heap := s.heap.push { cls := .type "range", data := .fields #[.int lo t, .int hi u, .int 1 v] }, toks := tk } := by
  refine wpAny_pyIter_range (IsRange.new ..) (small_one h1 h2 h3 h4) ?_
  have I1 : Inv X pins σ H { s with heap := s.heap.push { cls := .type "range", data := .fields #[.int lo t, .int hi u, .int 1 v] }, toks := tk } := I.kept fun b o e => Heap.get?_push_of_some _ e
  refine ⟨(s.heap.push { cls := .type "range", data := .fields #[.int lo t, .int hi u, .int 1 v] }).objs.size, [(s.heap.push { cls := .type "range", data := .fields #[.int lo t, .int hi u, .int 1 v] }).objs.size], _, _, H, rfl,
    I1.kept (t' := tk) fun b o e => Heap.get?_push_of_some _ e, turn_range _ lo (hi - lo).toNat, ?_, fun b hb => ?_, q⟩
  · have e1 : lo + ((0 : Nat) : Int) * 1 = lo := by simp
    have e2 : (((hi - lo).toNat : Nat) : Int) - ((0 : Nat) : Int) = Builtin.Range.rangeSize lo hi 1 := by rw [rangeSize_one]; split <;> lia
    show IsRangeIter _ _ (lo + ((0 : Nat) : Int) * 1) ((((hi - lo).toNat : Nat) : Int) - ((0 : Nat) : Int)) 1
    rw [e1, e2]
    exact Heap.get?_push_size _ rfl
  · have e : b = (s.heap.push { cls := .type "range", data := .fields #[.int lo t, .int hi u, .int 1 v] }).objs.size := by simpa using hb
    subst e
    exact I1.fpOk (Nat.le_refl _) (I1.hok.fresh (Nat.le_refl _))
def iRng1 (ta : TA) : TI := fun σ H R => ta σ H fun vs H1 => ∃ j : Int, vs = [.int j] ∧ -(2 ^ 62) ≤ j ∧ j < 2 ^ 62 ∧ R (Itr 0 j.toNat) H1
def iRng2 (ta : TA) : TI := fun σ H R => ta σ H fun vs H1 => ∃ i j : Int, vs = [.int i, .int j] ∧ (-(2 ^ 62) ≤ i ∧ i < 2 ^ 62 ∧ -(2 ^ 62) ≤ j ∧ j < 2 ^ 62) ∧ R (Itr i (j - i).toNat) H1
theorem pi_range1 {a : Expr} {ta : TA} {p pos : Pos} (hg : Gl X "range") (hm : X.mg "range" = none) (ha : PA X [a] ta) (hs : starEach [a] X.env = [(false, eval a X.env)] := by rfl) : PI X tg (.Call (.Name "range" p) [a] [] pos) (iRng1 ta) := by
  intro pins s σ H R I h
  refine Call_ (ld_blt I hg hm boot_range (PyProof.Rows.callWith_type1 (thn (ha pos pins s σ H _ I h) fun us s1 ⟨vs, H1, I1, r1, q1⟩ => ?_) hs rfl))
  obtain ⟨j, e, q1, q2, q⟩ := q1
  subst e
  cases r1 with
  | cons r rr =>
    cases rr
    obtain ⟨t, rfl⟩ := r
    exact call_range_1 (range_it I1 (by lia) (by lia) q1 q2 (by simpa using q))
theorem pi_range2 {a b : Expr} {ta : TA} {p pos : Pos} (hg : Gl X "range") (hm : X.mg "range" = none) (ha : PA X [a, b] ta) (hs : starEach [a, b] X.env = [(false, eval a X.env), (false, eval b X.env)] := by rfl) (hs2 : starEach [b] X.env = [(false, eval b X.env)] := by rfl) :
    PI X tg (.Call (.Name "range" p) [a, b] [] pos) (iRng2 ta) := by
  intro pins s σ H R I h
  refine Call_ (ld_blt I hg hm boot_range (PyProof.Rows.callWith_type1 (thn (ha pos pins s σ H _ I h) fun us s1 ⟨vs, H1, I1, r1, q1⟩ => ?_) (by rw [hs, hs2]) (by rw [hs2]; rfl)))
  obtain ⟨i, j, e, ⟨q1, q2, q3, q4⟩, q⟩ := q1
  subst e
  cases r1 with
  | cons r rr =>
    cases rr with
    | cons r' rr =>
      cases rr
      obtain ⟨t, rfl⟩ := r
      obtain ⟨t', rfl⟩ := r'
      exact call_range_2 (range_it I1 q1 q2 q3 q4 q)
/-- W: the invariant by the turn and a measure; N: what the body is to reach -/
def tFor (wi : TI) (g : TG) (tb : TS) : TS := fun D σ H => wi σ H fun J H1 => ∃ W : Nat → Nat → St → Hp → Prop, (∃ m, W 0 m σ H1) ∧ ∀ i m σ H, W i m σ H →
  (J.stop i H ∧ D.nx σ H) ∨ (J.go i H ∧ ∃ N : St → Hp → Prop, (∀ σ' H', N σ' H' → ∃ m', m' < m ∧ W (i + 1) m' σ' H') ∧ ∀ x H', J.yld i H x H' → g x σ H' fun σ2 H2 => tb { D with nx := N, ct := N, bk := D.nx } σ2 H2)
/-- the records at fp as they stand -/
def pinsAt (fp : List Addr) (h : Heap) : List (Addr × Obj) := fp.filterMap fun b => (h.get? b).map fun o => (b, o)
theorem mem_pinsAt {fp : List Addr} {h : Heap} {b : Addr} {o : Obj} (hb : b ∈ fp) (e : h.get? b = some o) : (b, o) ∈ pinsAt fp h := List.mem_filterMap.mpr ⟨b, hb, by rw [e]; rfl⟩
theorem of_pinsAt {fp : List Addr} {h : Heap} {p : Addr × Obj} (hp : p ∈ pinsAt fp h) : p.1 ∈ fp ∧ h.get? p.1 = some p.2 := by
  obtain ⟨b, hb, e⟩ := List.mem_filterMap.mp hp
  cases q : h.get? b with
  | none => rw [q] at e; cases e
  | some o =>
    rw [q] at e
    have e' : (b, o) = p := Option.some.inj e
    subst e'
    exact ⟨hb, q⟩
theorem Inv.pinned {pins : List (Addr × Obj)} {σ : St} {H : Hp} {s : Shared} {fp : List Addr} (I : Inv X pins σ H s) (hf : ∀ b ∈ fp, FpOk X pins H b) (ho : ∀ b ∈ fp, ∃ o, s.heap.get? b = some o ∧ ∀ v, o.data ≠ .cell v) : Inv X (pins ++ pinsAt fp s.heap) σ H s :=
  I.pins_of fun p hp => (List.mem_append.mp hp).elim (fun z => I.pin p (List.mem_append_right _ z)) fun z => by
    obtain ⟨hb, e⟩ := of_pinsAt z
    obtain ⟨f0, f1, f2, _⟩ := hf p.1 hb
    obtain ⟨o, e', d⟩ := ho p.1 hb
    rw [e] at e'; cases e'
    exact ⟨e, f0, f1, f2, d⟩
theorem Inv.unpinned {pins pl : List (Addr × Obj)} {σ : St} {H : Hp} {s : Shared} (I : Inv X (pins ++ pl) σ H s) : Inv X pins σ H s := I.pins_of fun p hp => I.pin p (List.mem_append_right _ (List.mem_append_left _ hp))
theorem ps_for {iter : Expr} {body : List Stmt} {wi : TI} {g : TG} {tb : TS} {pos : Pos} (hp : PassesOwn (model X.prog X.w) X.A X.env X.xe) (hc : X.calm = true) (hi : PI X tg iter wi) (hg : PG X tg g) (hb : PSs X body tb)
    (hs : ∀ x, foldedSetIterable iter X.env x = pure x := by intro _; rfl) : PS X (.For tg iter body [] pos) (tFor wi g tb) := by
  intro pins s σ H D I h
  refine wpAny_For (thn (hi pins s σ H _ I h) fun v s1 h1 => thn h1 fun itv s2 h2 => ?_) hs
  obtain ⟨it, fp, tn, J, H2, e, I2, T, st2, f2, W, ⟨m0, w0⟩, turn⟩ := h2
  subst e
  -- what stays true of the iterator's objects through the loop
  have stat : ∀ {H' : Hp}, (∀ b ∈ fp, H' b = none) → ∀ b ∈ fp, FpOk X pins H' b := fun hn b hb => ⟨hn b hb, (f2 b hb).2⟩
  refine codeAny_forLoop_any (fun n s' => ∃ i σ' H', Inv X pins σ' H' s' ∧ tn i s'.heap ∧ (∀ b ∈ fp, H' b = none) ∧ W i n σ' H') ?_ m0 ⟨0, σ, H2, I2, st2, fun b hb => (f2 b hb).1, w0⟩
  rintro n s3 ⟨i, σ3, H3, I3, st3, fr3, w3⟩
  rcases turn i n σ3 H3 w3 with ⟨stop, qn⟩ | ⟨go, N, hN, step⟩
  · refine wpAny_passesOwn hp (thn (T.done X rfl rfl rfl hc i pins s3 σ3 H3 X.xe I3 (stat fr3) st3 stop) fun r s4 ⟨hr, I4⟩ => ?_)
    subst hr
    exact wpAny_execs_nil ⟨σ3, H3, I4, qn⟩
  · refine wpAny_passesOwn hp (thn (T.item X rfl rfl rfl hc i pins s3 σ3 H3 X.xe I3 (stat fr3) st3 go) fun r s4 ⟨u, hr, h4⟩ => ?_)
    subst hr
    refine wpAny_passesOwn hp (thn h4 fun _ s5 ⟨x, H5, I5, r5, y5, st5, fr5⟩ => ?_)
    have I5' := I5.pinned (stat fr5) (T.obj _ _ st5)
    refine wpAny_passesOwn hp (thn (hg _ s5 σ3 H5 x u _ I5' r5 (step x H5 y5)) fun _ s6 ⟨σ6, H6, I6, q6⟩ => ?_)
    refine wpAny_passesOwn hp (thn (hb _ s6 σ6 H6 _ I6 q6) fun f s7 q7 => ?_)
    have again : ∀ {σ7 : St} {H7 : Hp}, Inv X (pins ++ pinsAt fp s5.heap) σ7 H7 s7 → N σ7 H7 → ∃ m, m < n ∧ ∃ i σ' H', Inv X pins σ' H' s7 ∧ tn i s7.heap ∧ (∀ b ∈ fp, H' b = none) ∧ W i m σ' H' := fun {σ7 H7} I7 n7 => by
      obtain ⟨m', hm, w7⟩ := hN σ7 H7 n7
      refine ⟨m', hm, i + 1, σ7, H7, I7.unpinned, T.keep _ _ _ st5 fun b hb o e => (I7.pin (b, o) (List.mem_append_right _ (List.mem_append_right _ (mem_pinsAt hb e)))).1, fun b hb => ?_, w7⟩
      obtain ⟨o, e, d⟩ := T.obj _ _ st5 b hb
      exact (I7.pin (b, o) (List.mem_append_right _ (List.mem_append_right _ (mem_pinsAt hb e)))).2.1
    cases f with
    | next => obtain ⟨σ7, H7, I7, n7⟩ := q7; exact again I7 n7
    | cont => obtain ⟨σ7, H7, I7, n7⟩ := q7; exact again I7 n7
    | brk => obtain ⟨σ7, H7, I7, q7⟩ := q7; exact ⟨σ7, H7, I7.unpinned, q7⟩
    | ret v => obtain ⟨x7, σ7, H7, I7, r7, q7⟩ := q7; exact ⟨x7, σ7, H7, I7.unpinned, r7, q7⟩
end
/-- over a list that the body leaves as it is -/
theorem for_list {K : PySem.W.Frag} {a : Addr} {xs : List V} {g : TG} {tb : TS} {D : Ends} {σ : St} {H : Hp} (Pv : Nat → St → Hp → Prop) (h0 : Pv 0 σ H) (hl : ∀ i σ H, i ≤ xs.length → Pv i σ H → SqL K H a xs)
    (hs : ∀ i x σ H, xs[i]? = some x → Pv i σ H → g x σ H fun σ2 H2 => tb { D with nx := Pv (i + 1), ct := Pv (i + 1), bk := D.nx } σ2 H2) (hd : ∀ σ H, Pv xs.length σ H → D.nx σ H) :
    ∃ W : Nat → Nat → St → Hp → Prop, (∃ m, W 0 m σ H) ∧ ∀ i m σ H, W i m σ H →
      ((Itl K a).stop i H ∧ D.nx σ H) ∨ ((Itl K a).go i H ∧ ∃ N : St → Hp → Prop, (∀ σ' H', N σ' H' → ∃ m', m' < m ∧ W (i + 1) m' σ' H') ∧ ∀ x H', (Itl K a).yld i H x H' → g x σ H' fun σ2 H2 => tb { D with nx := N, ct := N, bk := D.nx } σ2 H2) := by
  refine ⟨fun i m σ H => m = xs.length - i ∧ i ≤ xs.length ∧ Pv i σ H, ⟨xs.length, by simp, Nat.zero_le _, h0⟩, ?_⟩
  rintro i m σ H ⟨rfl, hi, p⟩
  have q := hl i σ H hi p
  by_cases hlt : i < xs.length
  · refine .inr ⟨⟨xs, xs[i], q, by simp [hlt]⟩, Pv (i + 1), fun σ' H' p' => ⟨xs.length - (i + 1), by lia, rfl, hlt, p'⟩, fun x H' y => ?_⟩
    obtain ⟨e, y⟩ := y
    subst e
    exact hs i x σ _ (y xs q) p
  · have e : i = xs.length := by lia
    subst e
    exact .inl ⟨⟨xs, q, Nat.le_refl _⟩, hd σ H p⟩
theorem for_range {lo : Int} {n : Nat} {g : TG} {tb : TS} {D : Ends} {σ : St} {H : Hp} (Pv : Nat → St → Hp → Prop) (h0 : Pv 0 σ H)
    (hs : ∀ i σ H, i < n → Pv i σ H → g (.int (lo + i)) σ H fun σ2 H2 => tb { D with nx := Pv (i + 1), ct := Pv (i + 1), bk := D.nx } σ2 H2) (hd : ∀ σ H, Pv n σ H → D.nx σ H) :
    ∃ W : Nat → Nat → St → Hp → Prop, (∃ m, W 0 m σ H) ∧ ∀ i m σ H, W i m σ H →
      ((Itr lo n).stop i H ∧ D.nx σ H) ∨ ((Itr lo n).go i H ∧ ∃ N : St → Hp → Prop, (∀ σ' H', N σ' H' → ∃ m', m' < m ∧ W (i + 1) m' σ' H') ∧ ∀ x H', (Itr lo n).yld i H x H' → g x σ H' fun σ2 H2 => tb { D with nx := N, ct := N, bk := D.nx } σ2 H2) := by
  refine ⟨fun i m σ H => m = n - i ∧ i ≤ n ∧ Pv i σ H, ⟨n, by simp, Nat.zero_le _, h0⟩, ?_⟩
  rintro i m σ H ⟨rfl, hi, p⟩
  by_cases hlt : i < n
  · refine .inr ⟨hlt, Pv (i + 1), fun σ' H' p' => ⟨n - (i + 1), by lia, rfl, hlt, p'⟩, fun x H' y => ?_⟩
    obtain ⟨e, y⟩ := y
    subst e y
    exact hs i σ _ hlt p
  · have e : i = n := by lia
    subst e
    exact .inl ⟨Nat.le_refl _, hd σ H p⟩
end L2
namespace L2
open PySem PySem.Spec PyProof.Rows
abbrev R2 := V → V → Hp → VK → Prop
/-- a two-place operation on values: f is binaryOp op, inplaceOp op or compareOp op -/
def OpR (X : Cx) (f : Value → Value → Sem Value) (r : R2) : Prop :=
  ∀ (pins : List (Addr × Obj)) (s : Shared) (σ : St) (H : Hp) (x y : V) (v u : Value) (Q : VK), Inv X pins σ H s → RelV x v → RelV y u → r x y H Q →
    wpAny (model X.prog X.w) X.A (f v u) (EP X pins σ Q) X.xe s
/-- a one-place operation -/
def UnR (X : Cx) (f : Value → Sem Value) (r : V → Hp → VK → Prop) : Prop :=
  ∀ (pins : List (Addr × Obj)) (s : Shared) (σ : St) (H : Hp) (x : V) (v : Value) (Q : VK), Inv X pins σ H s → RelV x v → r x H Q →
    wpAny (model X.prog X.w) X.A (f v) (EP X pins σ Q) X.xe s
/-- a call of a value that is known (a builtin, a type) with values -/
def CallR (X : Cx) (f : Value) (r : List V → Hp → VK → Prop) : Prop :=
  ∀ (pins : List (Addr × Obj)) (s : Shared) (σ : St) (H : Hp) (xs : List V) (us : List Value) (Q : VK), Inv X pins σ H s → Vals xs us → r xs H Q →
    wpAny (model X.prog X.w) X.A (call f us) (EP X pins σ Q) X.xe s
def tOp (r : R2) (ta tb : TE) : TE := fun σ H Q => ta σ H fun x H1 => tb σ H1 fun y H2 => r x y H2 Q
def tUn (r : V → Hp → VK → Prop) (ta : TE) : TE := fun σ H Q => ta σ H fun x H1 => r x H1 Q
/-- ints in, under C, and a value out -/
def rI (C : Int → Int → Prop) (g : Int → Int → V) : R2 := fun x y H Q => ∃ i j, x = .int i ∧ y = .int j ∧ C i j ∧ Q (g i j) H
def rI0 (g : Int → Int → V) : R2 := fun x y H Q => ∃ i j, x = .int i ∧ y = .int j ∧ Q (g i j) H
def rU (g : Int → V) : V → Hp → VK → Prop := fun x H Q => ∃ i, x = .int i ∧ Q (g i) H
section
variable {X : Cx} {a b c : Expr} {ta tb tc : TE} {pos : Pos}
theorem binT (ha : PE X a ta) (hb : PE X b tb) {pins : List (Addr × Obj)} {s : Shared} {σ : St} {H : Hp} {R : V → V → Hp → Prop} (I : Inv X pins σ H s)
    (h : ta σ H fun x H1 => tb σ H1 fun y H2 => R x y H2) {Q : Value → Shared → Prop} {f : Value → Value → Sem Value}
    (hf : ∀ v u s2 x y H2, Inv X pins σ H2 s2 → RelV x v → RelV y u → R x y H2 → wpAny (model X.prog X.w) X.A (f v u) Q X.xe s2) :
    wpAny (model X.prog X.w) X.A (eval a X.env) (fun v s₁ => wpAny (model X.prog X.w) X.A (eval b X.env) (fun u s₂ => wpAny (model X.prog X.w) X.A (f v u) Q X.xe s₂) X.xe s₁) X.xe s := by
  refine thn (ha pins s σ H _ I h) fun v s1 ⟨x, H1, I1, r1, q1⟩ => ?_
  refine thn (hb pins s1 σ H1 _ I1 q1) fun u s2 ⟨y, H2, I2, r2, q2⟩ => ?_
  exact hf v u s2 x y H2 I2 r1 r2 q2
theorem pe_op {op : Operator} {r : R2} (ho : OpR X (binaryOp op) r) (ha : PE X a ta) (hb : PE X b tb) : PE X (.BinOp a op b pos) (tOp r ta tb) := by
  intro pins s σ H Q I h
  exact wpAny_BinOp (binT ha hb I h fun v u s2 x y H2 I2 rx ry q => ho pins s2 σ H2 x y v u Q I2 rx ry q)
theorem pe_un {op : UnaryOp} {r : V → Hp → VK → Prop} (ho : UnR X (unaryOp op) r) (ha : PE X a ta) : PE X (.UnaryOp op a pos) (tUn r ta) := by
  intro pins s σ H Q I h
  exact UnaryOp_ (thn (ha pins s σ H _ I h) fun v s1 ⟨x, H1, I1, r1, q1⟩ => ho pins s1 σ H1 x v Q I1 r1 q1)
theorem opI {f : Value → Value → Sem Value} {C : Int → Int → Prop} {g : Int → Int → Int}
    (rule : ∀ (i j : Int) (t u : Tok) (s : Shared) (Q : Value → Shared → Prop) (E : Value → Shared → Prop), C i j → Q (.int (g i j) s.toks) { s with toks := s.toks + 1 } → wpAny (model X.prog X.w) X.A (f (.int i t) (.int j u)) Q E s) :
    OpR X f (rI C fun i j => .int (g i j)) := by
  intro pins s σ H x y v u Q I rx ry h
  obtain ⟨i, j, rfl, rfl, hc, q⟩ := h
  obtain ⟨t, rfl⟩ := rx
  obtain ⟨t', rfl⟩ := ry
  exact rule i j t t' s _ _ hc ⟨.int (g i j), H, I.tok _, ⟨_, rfl⟩, q⟩
theorem opI0 {f : Value → Value → Sem Value} {g : Int → Int → Int}
    (rule : ∀ (i j : Int) (t u : Tok) (s : Shared) (Q : Value → Shared → Prop) (E : Value → Shared → Prop), Q (.int (g i j) s.toks) { s with toks := s.toks + 1 } → wpAny (model X.prog X.w) X.A (f (.int i t) (.int j u)) Q E s) :
    OpR X f (rI0 fun i j => .int (g i j)) := by
  intro pins s σ H x y v u Q I rx ry h
  obtain ⟨i, j, rfl, rfl, q⟩ := h
  obtain ⟨t, rfl⟩ := rx
  obtain ⟨t', rfl⟩ := ry
  exact rule i j t t' s _ _ ⟨.int (g i j), H, I.tok _, ⟨_, rfl⟩, q⟩
theorem opB0 {f : Value → Value → Sem Value} {g : Int → Int → Bool}
    (rule : ∀ (i j : Int) (t u : Tok) (s : Shared) (Q : Value → Shared → Prop) (E : Value → Shared → Prop), Q (.bool (g i j)) s → wpAny (model X.prog X.w) X.A (f (.int i t) (.int j u)) Q E s) :
    OpR X f (rI0 fun i j => .bl (g i j)) := by
  intro pins s σ H x y v u Q I rx ry h
  obtain ⟨i, j, rfl, rfl, q⟩ := h
  obtain ⟨t, rfl⟩ := rx
  obtain ⟨t', rfl⟩ := ry
  exact rule i j t t' s _ _ ⟨.bl (g i j), H, I, rfl, q⟩
def CPow (i j : Int) : Prop := 0 ≤ j ∧ j ≤ 1000000 ∧ i.natAbs < 2 ^ 64
def CMul (i j : Int) : Prop := (-(2 ^ 64) < i ∧ i < 2 ^ 64) ∨ (-(2 ^ 64) < j ∧ j < 2 ^ 64)
theorem CMul.ok {i j : Int} (h : CMul i j) : IntMulOk i j := by
  rcases h with ⟨h1, h2⟩ | ⟨h1, h2⟩
  · exact .of_left (intBits_le_64 h1 h2)
  · exact .of_right (intBits_le_64 h1 h2)
theorem op_add : OpR X (binaryOp .Add) (rI0 fun i j => .int (i + j)) := opI0 fun _ _ _ _ _ _ _ q => add_int q
theorem op_sub : OpR X (binaryOp .Sub) (rI0 fun i j => .int (i - j)) := opI0 fun _ _ _ _ _ _ _ q => sub_int q
theorem op_mul : OpR X (binaryOp .Mult) (rI CMul fun i j => .int (i * j)) := opI fun _ _ _ _ _ _ _ hc q => mul_int q hc.ok
/-- % by a positive divisor of any size -/
theorem op_mod : OpR X (binaryOp .Mod) (rI (fun _ j => 0 < j) fun i j => .int (i % j)) := opI fun i j _ _ _ _ _ hc q => by
  have h1 : (0 : Int) < j := hc
  exact mod_int' (by lia) (by rw [Int.fmod_eq_emod_of_nonneg i (by lia)]; exact q)
theorem op_pow : OpR X (binaryOp .Pow) (rI CPow fun i j => .int (i ^ j.toNat)) := opI fun _ _ _ _ _ _ _ hc q => pow_int_small hc.1 hc.2.1 hc.2.2 q
theorem op_xor : OpR X (binaryOp .BitXor) (rI0 fun i j => .int (Builtin.bitXor i j)) := opI0 fun _ _ _ _ _ _ _ q => xor_int q
theorem unI {f : Value → Sem Value} {g : Int → Int}
    (rule : ∀ (i : Int) (t : Tok) (s : Shared) (Q : Value → Shared → Prop) (E : Value → Shared → Prop), Q (.int (g i) s.toks) { s with toks := s.toks + 1 } → wpAny (model X.prog X.w) X.A (f (.int i t)) Q E s) :
    UnR X f (rU fun i => .int (g i)) := by
  intro pins s σ H x v Q I rx h
  obtain ⟨i, rfl, q⟩ := h
  obtain ⟨t, rfl⟩ := rx
  exact rule i t s _ _ ⟨.int (g i), H, I.tok _, ⟨_, rfl⟩, q⟩
theorem un_neg : UnR X (unaryOp .USub) (rU fun i => .int (-i)) := unI fun _ _ _ _ _ q => neg_int q
end
/-- the scalars that == tells apart as data does -/
def scal : V → V → Bool
  | .non, .non => true | .non, .int _ => true | .int _, .non => true | .non, .bl _ => true | .bl _, .non => true | .non, .str _ => true | .str _, .non => true
  | .int _, .int _ => true | .bl _, .bl _ => true | .str _, .str _ => true | .byt _, .byt _ => true
  | .int _, .str _ => true | .str _, .int _ => true | .bl _, .str _ => true | .str _, .bl _ => true
  | _, _ => false
def rEq : R2 := fun x y H Q => scal x y = true ∧ Q (.bl (decide (x = y))) H
def rNe : R2 := fun x y H Q => scal x y = true ∧ Q (.bl (!decide (x = y))) H
theorem dec_int {i j : Int} : decide (V.int i = V.int j) = (i == j) := by
  rw [Bool.eq_iff_iff]
  simp
theorem dec_bl {i j : Bool} : decide (V.bl i = V.bl j) = (i == j) := by
  rw [Bool.eq_iff_iff]
  simp
theorem dec_str {i j : Str} : decide (V.str i = V.str j) = (i == j) := by
  rw [Bool.eq_iff_iff]
  simp
theorem dec_byt {i j : Array UInt8} : decide (V.byt i = V.byt j) = (i.toList == j.toList) := by
  rw [Bool.eq_iff_iff]
  cases i
  cases j
  simp
section
variable {X : Cx} {a b c : Expr} {ta tb tc : TE} {pos : Pos}
theorem fin_bl {pins : List (Addr × Obj)} {σ : St} {H : Hp} {s : Shared} {Q : VK} {k k' : Bool} (I : Inv X pins σ H s) (q : Q (.bl k) H) (e : k = k') : EP X pins σ Q (.bool k') s := by
  subst e
  exact ⟨.bl k, H, I, rfl, q⟩
theorem op_eq : OpR X (compareOp .Eq) rEq := by
  intro pins s σ H x y v u Q I rx ry h
  obtain ⟨hs, q⟩ := h
  cases x with
  | non =>
    cases rx
    cases y with
    | non => cases ry; exact PySem.EqNone.eq_none_none (fin_bl I q (by simp))
    | bl j => cases ry; exact PySem.EqNone.eq_none_bool (fin_bl I q (by simp))
    | int j => obtain ⟨t', rfl⟩ := ry; exact PySem.EqNone.eq_none_int (fin_bl I q (by simp))
    | str j => obtain ⟨t', rfl⟩ := ry; exact PySem.EqNone.eq_none_str (fin_bl I q (by simp))
    | _ => exact absurd (show false = true from hs) Bool.false_ne_true
  | bl i =>
    cases rx
    cases y with
    | non => cases ry; exact PySem.EqNone.eq_bool_none (fin_bl I q (by simp))
    | bl j => cases ry; exact eq_bool (fin_bl I q dec_bl)
    | str j => obtain ⟨t', rfl⟩ := ry; exact PySem.EqMixed.eq_bool_str (fin_bl I q (by simp))
    | _ => exact absurd (show false = true from hs) Bool.false_ne_true
  | int i =>
    obtain ⟨t, rfl⟩ := rx
    cases y with
    | non => cases ry; exact PySem.EqNone.eq_int_none (fin_bl I q (by simp))
    | int j => obtain ⟨t', rfl⟩ := ry; exact eq_int (fin_bl I q dec_int)
    | str j => obtain ⟨t', rfl⟩ := ry; exact PySem.EqMixed.eq_int_str (fin_bl I q (by simp))
    | _ => exact absurd (show false = true from hs) Bool.false_ne_true
  | str i =>
    obtain ⟨t, rfl⟩ := rx
    cases y with
    | non => cases ry; exact PySem.EqNone.eq_str_none (fin_bl I q (by simp))
    | bl j => cases ry; exact PySem.EqMixed.eq_str_bool (fin_bl I q (by simp))
    | int j => obtain ⟨t', rfl⟩ := ry; exact PySem.EqMixed.eq_str_int (fin_bl I q (by simp))
    | str j => obtain ⟨t', rfl⟩ := ry; exact eq_str (fin_bl I q dec_str)
    | _ => exact absurd (show false = true from hs) Bool.false_ne_true
  | byt i =>
    obtain ⟨t, rfl⟩ := rx
    cases y with
    | byt j => obtain ⟨t', rfl⟩ := ry; exact PySem.W.eq_bytes (fin_bl I q dec_byt)
    | _ => exact absurd (show false = true from hs) Bool.false_ne_true
  | _ => cases y <;> exact absurd (show false = true from hs) Bool.false_ne_true
theorem op_ne : OpR X (compareOp .NotEq) rNe := by
  intro pins s σ H x y v u Q I rx ry h
  obtain ⟨hs, q⟩ := h
  cases x with
  | non =>
    cases rx
    cases y with
    | non => cases ry; exact PySem.EqNone.ne_none_none (fin_bl I q (by simp))
    | bl j => cases ry; exact PySem.EqNone.ne_none_bool (fin_bl I q (by simp))
    | int j => obtain ⟨t', rfl⟩ := ry; exact PySem.EqNone.ne_none_int (fin_bl I q (by simp))
    | str j => obtain ⟨t', rfl⟩ := ry; exact PySem.EqNone.ne_none_str (fin_bl I q (by simp))
    | _ => exact absurd (show false = true from hs) Bool.false_ne_true
  | bl i =>
    cases rx
    cases y with
    | non => cases ry; exact PySem.EqNone.ne_bool_none (fin_bl I q (by simp))
    | bl j => cases ry; exact ne_bool (fin_bl I q (congrArg not dec_bl))
    | str j => obtain ⟨t', rfl⟩ := ry; exact PySem.EqMixed.ne_bool_str (fin_bl I q (by simp))
    | _ => exact absurd (show false = true from hs) Bool.false_ne_true
  | int i =>
    obtain ⟨t, rfl⟩ := rx
    cases y with
    | non => cases ry; exact PySem.EqNone.ne_int_none (fin_bl I q (by simp))
    | int j => obtain ⟨t', rfl⟩ := ry; exact ne_int (fin_bl I q (congrArg not dec_int))
    | str j => obtain ⟨t', rfl⟩ := ry; exact PySem.EqMixed.ne_int_str (fin_bl I q (by simp))
    | _ => exact absurd (show false = true from hs) Bool.false_ne_true
  | str i =>
    obtain ⟨t, rfl⟩ := rx
    cases y with
    | non => cases ry; exact PySem.EqNone.ne_str_none (fin_bl I q (by simp))
    | bl j => cases ry; exact PySem.EqMixed.ne_str_bool (fin_bl I q (by simp))
    | int j => obtain ⟨t', rfl⟩ := ry; exact PySem.EqMixed.ne_str_int (fin_bl I q (by simp))
    | str j => obtain ⟨t', rfl⟩ := ry; exact ne_str (fin_bl I q (congrArg not dec_str))
    | _ => exact absurd (show false = true from hs) Bool.false_ne_true
  | byt i =>
    obtain ⟨t, rfl⟩ := rx
    cases y with
    | byt j => obtain ⟨t', rfl⟩ := ry; exact PySem.W.ne_bytes (fin_bl I q (congrArg not dec_byt))
    | _ => exact absurd (show false = true from hs) Bool.false_ne_true
  | _ => cases y <;> exact absurd (show false = true from hs) Bool.false_ne_true
theorem op_lt : OpR X (compareOp .Lt) (rI0 fun i j => .bl (decide (i < j))) := opB0 fun _ _ _ _ _ _ _ q => lt_int q
theorem op_le : OpR X (compareOp .LtE) (rI0 fun i j => .bl (decide (i ≤ j))) := opB0 fun _ _ _ _ _ _ _ q => le_int q
theorem op_gt : OpR X (compareOp .Gt) (rI0 fun i j => .bl (decide (j < i))) := opB0 fun _ _ _ _ _ _ _ q => gt_int q
theorem op_ge : OpR X (compareOp .GtE) (rI0 fun i j => .bl (decide (j ≤ i))) := opB0 fun _ _ _ _ _ _ _ q => ge_int q
/-- is None, is not None: the right side a value none -/
theorem op_isN : OpR X (compareOp .Is) (fun x y H Q => y = .non ∧ Q (.bl (decide (x = .non))) H) := by
  intro pins s σ H x y v u Q I rx ry h
  obtain ⟨rfl, q⟩ := h
  cases ry
  refine is_none_gen (fin_bl I q ?_)
  cases x <;> first
    | (cases rx; rfl)
    | (obtain ⟨t, rfl⟩ := rx; rfl)
theorem nomark (b : Expr) {op : CmpOp} (h : op ≠ .In := by decide) (h2 : op ≠ .NotIn := by decide) : behindInMarks op b = false := by
  have e1 : (op == CmpOp.In) = false := by cases op <;> first | rfl | exact absurd rfl h
  have e2 : (op == CmpOp.NotIn) = false := by cases op <;> first | rfl | exact absurd rfl h2
  cases b <;> simp [behindInMarks, e1, e2]
/-- a comparison as a value; hm: nomark b, or (for in, not in) by with_unfolding_all rfl -/
theorem pe_cmpR {op : CmpOp} {r : R2} (ho : OpR X (compareOp op) r) (ha : PE X a ta) (hb : PE X b tb) (hm : behindInMarks op b = false) : PE X (.Compare a [op] [b] pos) (tOp r ta tb) := by
  intro pins s σ H Q I h
  exact wpAny_Compare1 (binT ha hb I h fun v u s2 x y H2 I2 rx ry q => ho pins s2 σ H2 x y v u Q I2 rx ry q) hm
/-- a reading of a value as a test -/
def tTest (t : TE) : TT := fun σ H Q => t σ H fun x H' => ∃ k, x = .bl k ∧ Q k H'
theorem pt_cmpR {op : CmpOp} {r : R2} (ho : OpR X (compareOp op) r) (ha : PE X a ta) (hb : PE X b tb) (hm : behindInMarks op b = false) : PT X (.Compare a [op] [b] pos) (tTest (tOp r ta tb)) := by
  intro pins s σ H Q I h
  refine wpAny_isTrue_Compare1 (thn (ha pins s σ H _ I h) fun v s1 ⟨x, H1, I1, r1, q1⟩ => thn (hb pins s1 σ H1 _ I1 q1) fun u s2 ⟨y, H2, I2, r2, q2⟩ =>
    thn (ho pins s2 σ H2 x y v u _ I2 r1 r2 q2) fun c s3 ⟨z, H3, I3, r3, k, e, q3⟩ => ?_) hm
  subst e
  cases r3
  exact wpAny_truthy_bool ⟨H3, I3, q3⟩
theorem line63 : (sizeLine : Nat) < 2 ^ 63 := by rw [sizeLine_eq]; decide
theorem vals1 {x : V} {us : List Value} (r : Vals [x] us) : ∃ u, us = [u] ∧ RelV x u := by
  cases r with
  | cons r1 r2 => cases r2; exact ⟨_, rfl, r1⟩
theorem vals2 {x y : V} {us : List Value} (r : Vals [x, y] us) : ∃ u w', us = [u, w'] ∧ RelV x u ∧ RelV y w' := by
  cases r with
  | cons r1 r2 =>
    cases r2 with
    | cons r3 r4 => cases r4; exact ⟨_, _, rfl, r1, r3⟩
theorem call_abs : CallR X (.builtin "abs") (fun xs H Q => ∃ i, xs = [.int i] ∧ Q (.int (if i < 0 then -i else i)) H) := by
  intro pins s σ H xs us Q I r h
  obtain ⟨i, rfl, q⟩ := h
  obtain ⟨u, rfl, t, rfl⟩ := vals1 r
  exact call_abs_int fun u tk => ⟨.int (if i < 0 then -i else i), H, I.tok _, ⟨_, rfl⟩, q⟩
end
end L2
namespace L2
open PySem PySem.Spec PyProof.Rows
structure ObjM (h : Heap) (x dx C : Addr) (mA : Str → Option Value) : Prop where
  obj : h.get? x = some (PySem.W.instObj C dx)
  ns : h.Ns1 dx mA
  ne : dx ≠ x
theorem lookIn_ns {h : Heap} {dx : Addr} {mA : Str → Option Value} (n : h.Ns1 dx mA) : ∃ od, h.get? dx = some od ∧ ∀ name, PySem.W.lookIn name od = some (mA name) := by
  obtain ⟨o, es, ep, ho, hd, hk, _, hm⟩ := n
  refine ⟨o, ho, fun name => ?_⟩
  have e := hm name
  unfold nsFind findBy at e
  rw [← Array.find?_toList] at e
  unfold PySem.W.lookIn
  rw [hd]
  dsimp only
  split
  · rename_i y q
    rw [q] at e
    exact congrArg some e
  · rename_i q
    rw [q] at e
    have a : es.toList.any (·.refKey) = false := by
      rw [List.any_eq_false]
      intro y hy
      obtain ⟨z, t, hkey⟩ := hk y (Array.mem_toList_iff.mp hy)
      simp [DictEntry.refKey, hkey]
    have a' : ¬ es.toList.any (·.refKey) = true := by rw [a]; exact Bool.false_ne_true
    rw [if_neg a']
    exact congrArg some e
theorem ObjM.look {h : Heap} {x dx C : Addr} {mA : Str → Option Value} (I : ObjM h x dx C mA) : ∃ od, PySem.W.InstAt h x (PySem.W.instObj C dx) C (some od) ∧ ∀ name, PySem.W.lookIn name od = some (mA name) :=
  let ⟨od, ho, hl⟩ := lookIn_ns I.ns
  ⟨od, ⟨I.obj, rfl, rfl, ho⟩, hl⟩
section
variable {prog : Program} {w : World} {A : Around} {E : Value → Shared → Prop} {s : Shared} {K : PySem.W.Frag} {x dx C f : Addr} {mA : Str → Option Value} {name : Str} {v : Value}
theorem get_map {expr : Bool} {Q : Value → Shared → Prop} (X : K.In s.heap) (I : ObjM s.heap x dx C mA) (hg : PySem.W.plainGet K C name = true) (hh : PySem.W.hasDictIn K C = true)
    (ha : PySem.W.findIn K (.ref C) name = some none) (hv : mA name = some v) (hv' : PySem.W.handedIn v = true) (h : Q v { s with toks := s.toks + 1 }) :
    wpAny (model prog w) A (getAttr (.ref x) name expr) Q E s := by
  obtain ⟨od, J, hl⟩ := I.look
  exact PySem.W.get_value X J (PySem.W.plainGet_of hg).1 (PySem.W.findObj_own hh ha rfl (by rw [hl, hv])) hv' h
theorem get_meth {pl : Sem Bool} {Q : Value × List Value → Shared → Prop} (X : K.In s.heap) (I : ObjM s.heap x dx C mA) (hg : PySem.W.plainGet K C name = true)
    (hf : PySem.W.findIn K (.ref C) name = some (some (.ref f))) (ht : PySem.W.isFn K (.ref f) = true) (hv : mA name = none) (h : Q (.ref f, [.ref x]) s) :
    wpAny (model prog w) A (getMethod (.ref x) name pl) Q E s := by
  obtain ⟨od, J, hl⟩ := I.look
  exact PySem.W.method_fn X J (PySem.W.plainGet_of hg).1 (PySem.W.plainGet_of hg).2 hf (beq_iff_eq.mp ht) (by show (PySem.W.lookIn name od).map (·.isSome) = some false; rw [hl, hv]; rfl) h
theorem set_map {ns : List Str} {Q : Unit → Shared → Prop} (X : K.In s.heap) (I : ObjM s.heap x dx C mA)
    (hs : PySem.W.findIn K (.ref C) "__setattr__" = some (some (.builtin "object.__setattr__"))) (hp : PySem.W.plainOver K C = true) (ht : PySem.W.takerIn K C name = some none) (hh : PySem.W.hasDictIn K C = true)
    (hw : PySem.Within mA ns) (hsz : ns.length ≤ sizeLine)
    (h : ∀ h', ObjM h' x dx C (fun y => if y = name then some v else mA y) → Heap.SameBut dx s.heap h' → Q () { s with heap := h', toks := s.toks + 2 }) :
    wpAny (model prog w) A (setAttr (.ref x) name v) Q E s := by
  obtain ⟨od, J, hl⟩ := I.look
  refine PySem.W.set_plain X J hs (PySem.W.osa_open (s := { s with toks := s.toks + 1 }) (r := none) X J hp ht fun b => ?_)
  obtain ⟨cd, hc, hd'⟩ := PySem.W.any_some hh
  have hx : s.heap.get? x = some ⟨.ref C, some dx, .plain, #[]⟩ := I.obj
  refine wpAny_bind (wpAny_pure (wpAny_bind (wpAny_bind (wpAny_loadPart hx (wpAny_bind (PySem.W.Looks.here (s := { s with toks := s.toks + 1 }) (PySem.W.looks_clsIn X hc) ?_))))))
  rw [hd']
  refine wpAny_pure (a := some dx) (wpAny_bind (wpAny_pure (wpAny_bind ?_)))
  refine wpAny_nsSet1 (s := { s with toks := s.toks + 1 }) I.ns fun h' hn2 hs2 => ?_
  obtain ⟨oD, esD, epD, hoD, hdD, hcD⟩ := hn2.count (PySem.Within.cons name v hw)
  refine wpAny_bind (wpAny_lookBehind hoD (by rw [hdD]; exact pastItsLine_dict (Nat.le_trans hcD (by rw [List.length_cons]; lia))) ?_)
  exact wpAny_pure (h _ ⟨(hs2.2 _ (Ne.symm I.ne)).trans I.obj, hn2, I.ne⟩ hs2)
/-- C(..): the dict at the heap's end, the instance behind it; then its __init__ -/
theorem make_map {R : Result → Shared → Prop} {vs : List Value} {kw : List (Str × Value)} (X : K.In s.heap) (hm : PySem.W.makesIn K C = true)
    (hi : PySem.W.findIn K (.ref C) "__init__" = some (some (.ref f))) (hf : PySem.W.typeIn K (.ref f) = some (.type "function"))
    (h : codeAny (model prog w) (A.under (.builtin "type.__call__" ⟨.ref C :: vs, kw⟩)) (.call (.ref f) ⟨.ref (s.heap.objs.size + 1) :: vs, kw⟩) (PySem.W.InitBack (s.heap.objs.size + 1) R)
      { s with heap := (s.heap.push PySem.W.emptyDict).push (PySem.W.instObj C s.heap.objs.size) }) :
    codeAny (model prog w) A (.call (.ref C) ⟨vs, kw⟩) R s := by
  obtain ⟨hh, g, d, t, os⟩ := s
  exact PySem.W.make_core (PySem.W.makes_of X hm) (PySem.W.looks_findIn X hi) (fun self => PySem.W.bind_fn X self hf) (.inl rfl) h
end
def putF (f : Str) (v : V) : List (Str × V) → List (Str × V)
  | [] => [(f, v)]
  | (g, x) :: r => if g = f then (g, v) :: r else (g, x) :: putF f v r
theorem lookup_putF (f g : Str) (v : V) : ∀ fs : List (Str × V), (putF f v fs).lookup g = if g = f then some v else fs.lookup g
  | [] => by
    show List.lookup g [(f, v)] = _
    by_cases h : g = f
    · have hb : (g == f) = true := beq_iff_eq.mpr h
      simp only [List.lookup, hb, if_pos h]
    · have hb : (g == f) = false := beq_eq_false_iff_ne.mpr h
      simp only [List.lookup, hb, if_neg h]
  | (k, x) :: r => by
    have ih := lookup_putF f g v r
    rw [show putF f v ((k, x) :: r) = (if k = f then (k, v) :: r else (k, x) :: putF f v r) from rfl]
    by_cases hk : k = f
    · rw [if_pos hk]
      by_cases h : g = k
      · have hb : (g == k) = true := beq_iff_eq.mpr h
        simp only [List.lookup, hb, if_pos (h.trans hk)]
      · have hb : (g == k) = false := beq_eq_false_iff_ne.mpr h
        simp only [List.lookup, hb, if_neg (fun e : g = f => h (e.trans hk.symm))]
    · rw [if_neg hk]
      by_cases h : g = k
      · have hb : (g == k) = true := beq_iff_eq.mpr h
        simp only [List.lookup, hb, if_neg (fun e : g = f => hk (h.symm.trans e))]
      · have hb : (g == k) = false := beq_eq_false_iff_ne.mpr h
        simp only [List.lookup, hb]
        exact ih
theorem keys_putF (f : Str) (v : V) : ∀ fs : List (Str × V), f ∈ (putF f v fs).map (·.1) ∧ ∀ g, g ∈ fs.map (·.1) → g ∈ (putF f v fs).map (·.1)
  | [] => ⟨by simp [putF], fun g h => by simp at h⟩
  | (k, x) :: r => by
    obtain ⟨i1, i2⟩ := keys_putF f v r
    rw [show putF f v ((k, x) :: r) = (if k = f then (k, v) :: r else (k, x) :: putF f v r) from rfl]
    by_cases hk : k = f
    · rw [if_pos hk]
      subst hk
      exact ⟨by simp, fun g h => by simpa using h⟩
    · rw [if_neg hk]
      refine ⟨?_, fun g h => ?_⟩
      · rw [List.map_cons]
        exact List.mem_cons_of_mem _ i1
      · rw [List.map_cons] at h ⊢
        rcases List.mem_cons.mp h with e | e
        · exact List.mem_cons.mpr (.inl e)
        · exact List.mem_cons_of_mem _ (i2 g e)
theorem length_putF (f : Str) (v : V) : ∀ fs : List (Str × V), (putF f v fs).length ≤ fs.length + 1
  | [] => by simp [putF]
  | (k, x) :: r => by
    have ih := length_putF f v r
    rw [show putF f v ((k, x) :: r) = (if k = f then (k, v) :: r else (k, x) :: putF f v r) from rfl]
    by_cases hk : k = f
    · rw [if_pos hk, List.length_cons, List.length_cons]; lia
    · rw [if_neg hk, List.length_cons, List.length_cons]; lia
theorem RelO.some_of {v : V} {o : Option Value} (r : RelO (some v) o) : ∃ u, o = some u ∧ RelV v u := by
  cases o with
  | none => exact (show False from r).elim
  | some u => exact ⟨u, rfl, r⟩
theorem RelO.none_of {o : Option Value} (r : RelO none o) : o = none := by
  cases o with
  | none => rfl
  | some u => exact (show False from r).elim
theorem handed_of {v : V} {u : Value} (r : RelV v u) : PySem.W.handedIn u = true := by
  cases v with
  | non => cases (show u = Value.none from r); rfl
  | bl b => cases (show u = Value.bool b from r); rfl
  | int i => obtain ⟨t, e⟩ := (show ∃ t, u = Value.int i t from r); cases e; rfl
  | str x => obtain ⟨t, e⟩ := (show ∃ t, u = Value.str x t from r); cases e; rfl
  | byt b => obtain ⟨t, e⟩ := (show ∃ t, u = Value.bytes b t from r); cases e; rfl
  | flt b => obtain ⟨t, e⟩ := (show ∃ t, u = Value.float b t from r); cases e; rfl
  | ref a => cases (show u = Value.ref a from r); rfl
  | ty n => cases (show u = Value.type n from r); rfl
section
variable {P : Program} {w : World} {H H' : Hp} {h h' : Heap} {a C dx : Addr} {fs fs' : List (Str × V)}
theorem ins_get (hok : HOk P w H h) (e : H a = some (.ins C dx fs)) : ∃ mA, ObjM h a dx C mA ∧ (∀ f, RelO (fs.lookup f) (mA f)) ∧ PySem.Within mA (fs.map (·.1)) ∧ fs.length ≤ 1000 ∧ H dx = some (.own a) := by
  obtain ⟨d, z, ne, ob, mA, n, r, q⟩ := (show ObjOk P w H h a (.ins C dx fs) from hok a _ e)
  exact ⟨mA, ⟨ob, n, ne⟩, r, q, z, d⟩
end
structure Cls (K : PySem.W.Frag) (C : Addr) : Prop where
  pg : PySem.W.plainGet K C Str.empty = true
  hd : PySem.W.hasDictIn K C = true
  po : PySem.W.plainOver K C = true
  sa : PySem.W.findIn K (.ref C) "__setattr__" = some (some (.builtin "object.__setattr__"))
theorem Cls.get {K : PySem.W.Frag} {C : Addr} (c : Cls K C) (f : Str) : PySem.W.plainGet K C f = true := c.pg
/-- no class of it has the name -/
def NoAttr (K : PySem.W.Frag) (C : Addr) (f : Str) : Prop := PySem.W.findIn K (.ref C) f = some none
theorem NoAttr.taker {K : PySem.W.Frag} {C : Addr} {f : Str} (n : NoAttr K C f) : PySem.W.takerIn K C f = some none := by
  unfold PySem.W.takerIn
  rw [show PySem.W.findIn K (.ref C) f = some none from n]
  rfl
/-- a method: a plain def of the class or of one above it -/
structure Meth (K : PySem.W.Frag) (C : Addr) (m : Str) (f : Addr) : Prop where
  at_ : PySem.W.findIn K (.ref C) m = some (some (.ref f))
  fn : PySem.W.isFn K (.ref f) = true
  kp : PySem.W.keepIn K (.ref f) = true
section
variable {X : Cx} {pins : List (Addr × Obj)} {σ : St} {H : Hp} {s : Shared} {a C dx : Addr} {fs : List (Str × V)} {f : Str} {v : V} {A : Around} {E : Value → Shared → Prop}
theorem getattr_ok {b : Bool} {Q : Value → Shared → Prop} (I : Inv X pins σ H s) (e : H a = some (.ins C dx fs)) (c : Cls X.K C) (n : NoAttr X.K C f) (l : fs.lookup f = some v)
    (h : ∀ u s', Inv X pins σ H s' → RelV v u → Q u s') : wpAny (model X.prog X.w) A (getAttr (.ref a) f b) Q E s := by
  obtain ⟨mA, O, r, _, _, _⟩ := ins_get I.hok e
  obtain ⟨u, hu, ru⟩ := RelO.some_of (v := v) (o := mA f) (by rw [← l]; exact r f)
  exact get_map I.kIn O (c.get f) c.hd n hu (handed_of ru) (h u _ (I.tok _) ru)
theorem getmeth_ok {m : Str} {g : Addr} {pl : Sem Bool} {Q : Value × List Value → Shared → Prop} (I : Inv X pins σ H s) (e : H a = some (.ins C dx fs)) (c : Cls X.K C) (k : Meth X.K C m g) (l : fs.lookup m = none)
    (h : Q (.ref g, [.ref a]) s) : wpAny (model X.prog X.w) A (getMethod (.ref a) m pl) Q E s := by
  obtain ⟨mA, O, r, _, _, _⟩ := ins_get I.hok e
  have hn : mA m = none := RelO.none_of (by rw [← l]; exact r m)
  exact get_meth I.kIn O (c.get m) k.at_ k.fn hn h
theorem setattr_ok {y : V} {u : Value} {Q : Unit → Shared → Prop} (I : Inv X pins σ H s) (e : H a = some (.ins C dx fs)) (c : Cls X.K C) (n : NoAttr X.K C f) (hl : fs.length < 1000) (ry : RelV y u)
    (h : ∀ s', Inv X pins σ (upd H a (.ins C dx (putF f y fs))) s' → Q () s') : wpAny (model X.prog X.w) A (setAttr (.ref a) f u) Q E s := by
  obtain ⟨mA, O, r, wi, _, ho⟩ := ins_get I.hok e
  have hz : (fs.map (·.1)).length ≤ sizeLine := by rw [List.length_map, sizeLine_eq]; lia
  refine set_map I.kIn O c.sa c.po n.taker c.hd wi hz fun h' O' sb => h _ ?_
  have hd : ∃ o, h'.get? dx = some o := let ⟨o, _, _, e', _⟩ := O'.ns; ⟨o, e'⟩
  refine I.write (x := a) (e := dx) (by rw [e]; exact True.intro) (.inr ho) (fun b q hb z => (sb.2 b hb).trans z) hd ?_
  refine ⟨by rw [upd_ne O.ne]; exact ho, ?_, O.ne, O'.obj, _, O'.ns, fun g => ?_, fun g hg => ?_⟩
  · have := length_putF f y fs; lia
  · show RelO ((putF f y fs).lookup g) (if g = f then some u else mA g)
    rw [lookup_putF]
    by_cases q : g = f
    · rw [if_pos q, if_pos q]; exact ry
    · rw [if_neg q, if_neg q]; exact r g
  · by_cases q : g = f
    · rw [q]; exact (keys_putF f y fs).1
    · refine (keys_putF f y fs).2 g (wi g fun z => hg ?_)
      show (if g = f then some u else mA g) = none
      rw [if_neg q]; exact z
/-- a new instance, tracked, without attributes -/
theorem Inv.made (I : Inv X pins σ H s) : Inv X pins σ (upd (upd H s.heap.objs.size (.own (s.heap.objs.size + 1))) (s.heap.objs.size + 1) (.ins C s.heap.objs.size []))
    { s with heap := (s.heap.push PySem.W.emptyDict).push (PySem.W.instObj C s.heap.objs.size) } := by
  have e1 : (s.heap.push PySem.W.emptyDict).get? s.heap.objs.size = some PySem.W.emptyDict := Heap.get?_push_size s.heap rfl
  have e2 : ((s.heap.push PySem.W.emptyDict).push (PySem.W.instObj C s.heap.objs.size)).get? (s.heap.objs.size + 1) = some (PySem.W.instObj C s.heap.objs.size) := by
    have := Heap.get?_push_size (s.heap.push PySem.W.emptyDict) (o := PySem.W.instObj C s.heap.objs.size) rfl
    rwa [Heap.size_push] at this
  have e3 : (s.heap.push PySem.W.emptyDict).Ns s.heap.objs.size (fun _ => none) := ⟨PySem.W.emptyDict, #[], _, e1, rfl, (fun e he => absurd he (by simp)), fun _ => rfl⟩
  have I1 := I.laid (a := s.heap.objs.size) (o := .own (s.heap.objs.size + 1)) (h' := s.heap.push PySem.W.emptyDict) (t' := s.toks) (fun b u q => Heap.get?_push_of_some _ q) (Nat.le_refl _) ⟨_, e1⟩
  refine I1.laid (a := s.heap.objs.size + 1) (o := .ins C s.heap.objs.size []) (t' := s.toks) (fun b u q => Heap.get?_push_of_some _ q) (Nat.le_of_eq (Heap.size_push _ _)) ?_
  have ne : s.heap.objs.size ≠ s.heap.objs.size + 1 := Nat.ne_of_lt (Nat.lt_succ_self _)
  refine ⟨by rw [upd_ne ne, upd_same], Nat.zero_le _, ne, e2, fun _ => none, (Heap.Ns1.of_empty e3).at fun o q => Heap.get?_push_of_some _ q, fun _ => True.intro, fun y hy => absurd rfl hy⟩
/-- e.f where nothing but the object is asked: through attributeBase (super) and the last hold -/
theorem attr_of {prog : Program} {w : World} {env : Env} {e : Expr} {f : Str} {pos : Pos} {s : Shared} {Q : Value → Shared → Prop} (hb : attributeBase e f env (eval e env) = eval e env)
    (h : wpAny (model prog w) A (eval e env) (fun o s₁ => wpAny (model prog w) A (getAttr o f true) Q E s₁) E s) : wpAny (model prog w) A (eval (.Attribute e f pos) env) Q E s :=
  Attribute_any_ h (by rw [arm_eval_Attribute, hb])
end
/-- e.f, an attribute of the instance -/
def tFld (K : PySem.W.Frag) (ta : TE) (f : Str) : TE := fun σ H Q => ta σ H fun x H1 => ∃ a C dx fs v, x = .ref a ∧ H1 a = some (.ins C dx fs) ∧ Cls K C ∧ NoAttr K C f ∧ fs.lookup f = some v ∧ Q v H1
/-- e.f = value -/
def sFld (K : PySem.W.Frag) (ta tv : TE) (f : Str) : TS := fun D σ H => tv σ H fun y H1 => ta σ H1 fun x H2 => ∃ a C dx fs, x = .ref a ∧ H2 a = some (.ins C dx fs) ∧ Cls K C ∧ NoAttr K C f ∧ fs.length < 1000 ∧
  D.nx σ (upd H2 a (.ins C dx (putF f y fs)))
section
variable {X : Cx} {o e value : Expr} {f : Str} {pos pos' tpos : Pos} {ta tv : TE}
theorem pe_fld (he : PE X e ta) (hb : attributeBase e f X.env (eval e X.env) = eval e X.env) : PE X (.Attribute e f pos) (tFld X.K ta f) := by
  intro pins s σ H Q I h
  refine attr_of hb (thn (he pins s σ H _ I h) fun u s1 ⟨x, H1, I1, rx, a, C, dx, fs, v, ex, ea, c, n, l, q⟩ => ?_)
  subst ex
  obtain rfl : u = Value.ref a := rx
  exact getattr_ok I1 ea c n l fun u' s2 I2 ru => ⟨v, H1, I2, ru, q⟩
theorem ps_fld (ha : PE X o ta) (hv : PE X value tv) (hs : swapsWith value (some (.Attribute o f pos')) pos.line X.env = pure false) : PS X (.Assign [.Attribute o f pos'] value pos) (sFld X.K ta tv f) := by
  intro pins s σ H D I h
  refine plainObj_wpAny_Assign_Attribute (thn (hv pins s σ H _ I h) fun u s1 ⟨y, H1, I1, ry, q⟩ => thn (ha pins s1 σ H1 _ I1 q) fun ov s2 ⟨x, H2, I2, rx, a, C, dx, fs, ex, ea, c, n, l, q2⟩ => ?_) hs
  subst ex
  obtain rfl : ov = Value.ref a := rx
  exact setattr_ok I2 ea c n l ry fun s3 I3 => ⟨σ, _, I3, q2⟩
end
end L2
namespace L2
open PySem PySem.Spec PyProof.Rows
structure Room (k : Nat) (A : Around) : Prop where
  hd : A.handled = none
  dp : A.depth + 3 * k + 5 < recursionLimit
  un : A.units + 16 * k + 200 < cLine
theorem Room.mono {j k : Nat} {A : Around} (r : Room k A) (h : j ≤ k) : Room j A := ⟨r.hd, by have := r.dp; lia, by have := r.un; lia⟩
theorem Room.deeper {k : Nat} {A : Around} (r : Room (k + 1) A) (env : Env) : Room k (A.deeper env) :=
  ⟨r.hd, by have := r.dp; show A.depth + 1 + 3 * k + 5 < _; lia, by have := r.un; show A.units + 3 + 16 * k + 200 < _; lia⟩
theorem make_depth {A : Around} {C : Addr} {us : List Value} {kw : List (Str × Value)} : (A.under (.builtin "type.__call__" ⟨.ref C :: us, kw⟩)).depth = A.depth + 1 := by
  first | rfl | simp [Around.under, Code.weight, Code.isCreation, Code.isGuard, Code.isCaller, Code.frames, Code.isFrame, guardIds]
theorem make_units {A : Around} {C : Addr} {us : List Value} {kw : List (Str × Value)} : (A.under (.builtin "type.__call__" ⟨.ref C :: us, kw⟩)).units = A.units + 1 := by
  first | rfl | simp [Around.under, Code.cUnits, Code.frames, Code.isFrame]
theorem Room.make {k : Nat} {A : Around} (r : Room (k + 1) A) (C : Addr) (us : List Value) (kw : List (Str × Value)) : Room k (A.under (.builtin "type.__call__" ⟨.ref C :: us, kw⟩)) :=
  ⟨r.hd, by have := r.dp; rw [make_depth]; lia, by have := r.un; rw [make_units]; lia⟩
theorem Room.depth {k : Nat} {A : Around} (r : Room k A) : A.depth < recursionLimit := by have := r.dp; lia
theorem Room.units {k : Nat} {A : Around} (r : Room k A) : A.units + 64 < cLine := by have := r.un; lia
def tNil : TA := fun _ H Q => Q [] H
def tCons (ta : TE) (tr : TA) : TA := fun σ H Q => ta σ H fun x H1 => tr σ H1 fun xs H2 => Q (x :: xs) H2
section
variable {X : Cx} {e : Expr} {es : List Expr} {te : TE} {t : TA} {pos : Pos}
theorem pa_nil : PA X [] tNil := fun _ _ _ _ H Q I h => Calls.spliced_nil ⟨[], H, I, .nil, h⟩
theorem pa_cons (ha : PE X e te) (hr : PA X es t) (hs : starEach (e :: es) X.env = (false, eval e X.env) :: starEach es X.env := by rfl) : PA X (e :: es) (tCons te t) := by
  intro pos pins s σ H Q I h
  rw [hs]
  show wpAny _ _ (spliced ((false, eval e X.env) :: backTo pos (starEach es X.env))) _ _ s
  refine Calls.spliced_cons (thn (ha pins s σ H _ I h) fun u s1 ⟨x, H1, I1, r1, q1⟩ => ?_)
  exact thn (hr pos pins s1 σ H1 _ I1 q1) fun us s2 ⟨xs, H2, I2, r2, q2⟩ => ⟨x :: xs, H2, I2, .cons r1 r2, q2⟩
/-- a tuple, a list of written items -/
def tTup (t : TA) : TE := fun σ H Q => t σ H fun xs H1 => xs.length ≤ sizeLine ∧ ∀ p, H1 p = none → Q (.ref p) (upd H1 p (.tup xs))
def tLst (t : TA) : TE := fun σ H Q => t σ H fun xs H1 => xs.length ≤ sizeLine ∧ ∀ p, H1 p = none → Q (.ref p) (upd H1 p (.lst xs))
theorem pe_tup {x1} (h : PA X es t) : PE X (.Tuple es x1 pos) (tTup t) := by
  intro pins s σ H Q I hq
  refine wpAny_Tuple_spliced (thn (h pos pins s σ H _ I hq) fun us s1 ⟨xs, H1, I1, r, z, q⟩ => ⟨by rw [← r.length]; exact z, ?_⟩)
  have hf : H1 s1.heap.objs.size = none := I1.hok.fresh (Nat.le_refl _)
  refine ⟨.ref s1.heap.objs.size, upd H1 s1.heap.objs.size (.tup xs), I1.laid (t' := s1.toks) (fun b u e => Heap.get?_push_of_some _ e) (Nat.le_refl _) ?_, rfl, q _ hf⟩
  exact ⟨z, us, r, ⟨_, Heap.get?_push_size _ rfl, rfl, _, rfl⟩⟩
theorem pe_lst (h : PA X es t) : PE X (.List es pos) (tLst t) := by
  intro pins s σ H Q I hq
  refine wpAny_List_spliced (thn (h pos pins s σ H _ I hq) fun us s1 ⟨xs, H1, I1, r, z, q⟩ => ⟨by rw [← r.length]; exact z, ?_⟩)
  have hf : H1 s1.heap.objs.size = none := I1.hok.fresh (Nat.le_refl _)
  refine ⟨.ref s1.heap.objs.size, upd H1 s1.heap.objs.size (.lst xs), I1.laid (t' := s1.toks) (fun b u e => Heap.get?_push_of_some _ e) (Nat.le_refl _) ?_, rfl, q _ hf⟩
  exact ⟨z, us, 0, r, Heap.get?_push_size _ rfl⟩
end
/-- a def's promise: the bound arguments in the parameters' order, the heap, the wanted end, the wanted exception -/
abbrev Sp := List V → Hp → VK → XK → Prop
/-- how an exception lies behind a call (file 08 gives it): the callers' frames, abstract heap and state ahead of the call, the wish, the exception, the state -/
abbrev CXT := List Env → Hp → Shared → XK → Value → Shared → Prop
/-- the state at a call -/
structure Env0 (P : Program) (w : World) (K : PySem.W.Frag) (mg : Str → Option Value) (base : Heap) (A : Around) (outer : List Env) (s : Shared) (H : Hp) : Prop where
  frames : A.frames = some outer
  mod : Mod K mg base
  bs : ∀ b o, base.get? b = some o → s.heap.get? b = some o ∧ H b = none
  bsz : base.objs.size ≤ s.heap.objs.size
  funs : s.heap.FunFrames base outer
  frf : ∀ b ∈ frs outer, H b = none
  hok : HOk P w H s.heap
  bare : AllBare s.gens
/-- a call's end -/
def CE (outer : List Env) (P : Program) (w : World) (H : Hp) (s : Shared) (Q : VK) (u : Value) (s' : Shared) : Prop :=
  ∃ v H', s'.os = s.os ∧ AllBare s'.gens ∧ Un (frs outer) [] H H' s.heap s'.heap ∧ HOk P w H' s'.heap ∧ RelV v u ∧ Q v H'
def CR (CX : CXT) (outer : List Env) (P : Program) (w : World) (H : Hp) (s : Shared) (Q : VK) (E : XK) (r : Result) (s' : Shared) : Prop :=
  match r with
  | .ok (.ret u) => CE outer P w H s Q u s'
  | .ok _ => False
  | .error e => CX outer H s E e s'
structure FnOk (P : Program) (w : World) (K : PySem.W.Frag) (mg : Str → Option Value) (base : Heap) (CX : CXT) (k : Nat) (f : Addr) (fd : FuncData) (ps : List Str) (sp : Sp) : Prop where
  len : ∀ vs H Q E, sp vs H Q E → vs.length = ps.length
  run : ∀ (A : Around) (outer : List Env) (s : Shared) (H : Hp) (args : Args) (us : List Value) (vs : List V) (Q : VK) (E : XK), Room k A → Env0 P w K mg base A outer s H → BindsTo s fd args (ps.zip us) → Vals vs us → sp vs H Q E →
    codeAny (model P w) A (.call (.ref f) args) (CR CX outer P w H s Q E) s
theorem FnOk.mono {P : Program} {w : World} {K : PySem.W.Frag} {mg : Str → Option Value} {base : Heap} {CX : CXT} {j k : Nat} {f : Addr} {fd : FuncData} {ps : List Str} {sp : Sp} (F : FnOk P w K mg base CX j f fd ps sp) (h : j ≤ k) :
    FnOk P w K mg base CX k f fd ps sp := ⟨F.len, fun A outer s H args us vs Q E hr => F.run A outer s H args us vs Q E (hr.mono h)⟩
theorem Env0.make {P : Program} {w : World} {K : PySem.W.Frag} {mg : Str → Option Value} {base : Heap} {A : Around} {outer : List Env} {s : Shared} {H : Hp} (e : Env0 P w K mg base A outer s H) (C : Addr) (us : List Value) (kw : List (Str × Value)) :
    Env0 P w K mg base (A.under (.builtin "type.__call__" ⟨.ref C :: us, kw⟩)) outer s H := ⟨by first | exact e.frames | (simpa [Around.under, Code.envs, Code.isFrame, pushEnvs] using e.frames), e.mod, e.bs, e.bsz, e.funs, e.frf, e.hok, e.bare⟩
section
variable {X : Cx} {pins : List (Addr × Obj)} {σ : St} {H : Hp} {s s' : Shared}
/-- from a body: what a callee wants -/
theorem Inv.env0 (I : Inv X pins σ H s) : Env0 X.prog X.w X.K X.mg X.base X.A X.stack s H :=
  ⟨I.ok.frames, I.ok.mod, I.bs, Nat.le_trans I.ok.bsz I.sz, I.stack, I.stkFree, I.hok, I.bare⟩
/-- behind a call -/
theorem Inv.after {Q : VK} {u : Value} (I : Inv X pins σ H s) (h : CE X.stack X.prog X.w H s Q u s') : EP X pins σ Q u s' := by
  obtain ⟨v, H', os, bare, un, hok, r, q⟩ := h
  obtain ⟨hh, g, d, t, os'⟩ := s'
  obtain rfl : os' = s.os := os
  exact ⟨v, H', I.call (h' := hh) (g' := g) (d' := d) (t' := t) (ch := []) un hok bare (fun b z => absurd z (by simp)), r, q⟩
end
/-- f(..): the written arguments, then the defaults dvs; E: what is wanted of an exception -/
def tCall (sp : Sp) (dvs : List V) (E : XK) (t : TA) : TE := fun σ H Q => t σ H fun vs H1 => sp (vs ++ dvs) H1 Q E
/-- o.m(..) of an instance of the class at C -/
def tMeth (C : Addr) (m : Str) (sp : Sp) (dvs : List V) (E : XK) (ta : TE) (t : TA) : TE := fun σ H Q => ta σ H fun x H1 => ∃ a dx fs, x = .ref a ∧ H1 a = some (.ins C dx fs) ∧ fs.lookup m = none ∧
  t σ H1 fun vs H2 => sp (x :: (vs ++ dvs)) H2 Q E
/-- C(..): a new instance and its dict, then __init__ -/
def tMake (C : Addr) (sp : Sp) (dvs : List V) (E : XK) (t : TA) : TE := fun σ H Q => t σ H fun vs H1 => ∀ x dx, H1 x = none → H1 dx = none → dx ≠ x →
  sp (.ref x :: (vs ++ dvs)) (upd (upd H1 dx (.own x)) x (.ins C dx [])) (fun v H2 => v = .non ∧ Q (.ref x) H2) E
/-- how the parameters are bound: us the positional arguments, kw the keywords' values by name, ds the defaults that fill up -/
def Binds (K : PySem.W.Frag) (fd : FuncData) (ps : List Str) (ds : List Value) : Prop :=
  ∀ (s : Shared) (us : List Value), K.In s.heap → (us ++ ds).length = ps.length → BindsTo s fd ⟨us, []⟩ (ps.zip (us ++ ds))
/-- every parameter is given -/
theorem Binds.all {K : PySem.W.Frag} {fd : FuncData} {ps : List Str} (h : ∀ us : List Value, us.length = ps.length → bindArgs fd ⟨us, []⟩ = pure (ps.zip us)) : Binds K fd ps [] := fun s us _ hl => by
  rw [List.append_nil] at hl ⊢
  exact .of_eq (h us hl)
/-- an exception of a callee reaches what this body wants of exceptions -/
def Passes (CX : CXT) (X : Cx) (E : XK) : Prop := ∀ (pins : List (Addr × Obj)) (σ : St) (H : Hp) (s : Shared) (e : Value) (s' : Shared), Inv X pins σ H s → CX X.stack H s E e s' → X.xe e s'
section
variable {X : Cx} {CX : CXT} {k : Nat} {f C : Addr} {fd : FuncData} {ps : List Str} {sp : Sp} {dvs : List V} {ds : List Value} {E : XK} {x m : Str} {p pos apos : Pos} {e o : Expr} {es : List Expr} {ta : TE} {t : TA}
/-- the callee runs -/
theorem run_fn {pins : List (Addr × Obj)} {σ : St} {H : Hp} {s : Shared} {Q : VK} {us : List Value} {vs : List V} (F : FnOk X.prog X.w X.K X.mg X.base CX k f fd ps sp) (hr : Room k X.A) (hb : Binds X.K fd ps ds) (hd : Vals dvs ds) (hx : Passes CX X E)
    (I : Inv X pins σ H s) (r : Vals vs us) (h : sp (vs ++ dvs) H Q E) : wpAny (model X.prog X.w) X.A (call (.ref f) us) (EP X pins σ Q) X.xe s := by
  have r2 : Vals (vs ++ dvs) (us ++ ds) := r.append hd
  have hl : (us ++ ds).length = ps.length := by rw [← r2.length]; exact F.len _ _ _ _ h
  refine wpAny_call (codeAny_mono (F.run X.A X.stack s H ⟨us, []⟩ (us ++ ds) (vs ++ dvs) Q E hr I.env0 (hb s us I.kIn hl) r2 h) fun r s' hq => ?_)
  cases r with
  | error e => exact hx pins σ H s e s' I hq
  | ok fl =>
    cases fl with
    | ret u => exact I.after hq
    | next => exact False.elim hq
    | brk => exact False.elim hq
    | cont => exact False.elim hq
theorem pe_call (F : FnOk X.prog X.w X.K X.mg X.base CX k f fd ps sp) (hr : Room k X.A) (hg : Gl X x) (hm : X.mg x = some (.ref f)) (hk : PySem.W.keepIn X.K (.ref f) = true) (hb : Binds X.K fd ps ds) (hd : Vals dvs ds) (hx : Passes CX X E)
    (ha : PA X (e :: es) t) (hdb : (x == ("__debug__" : Str)) = false := by decide) (he : starEach (e :: es) X.env = (false, eval e X.env) :: starEach es X.env := by rfl) (hpl : (backTo pos (starEach es X.env)).any (·.1) = false := by rfl) :
    PE X (.Call (.Name x p) (e :: es) [] pos) (tCall sp dvs E t) := by
  intro pins s σ H Q I h
  refine wpAny_Call_Name_kw (ld_glob I hg hm ?_ hdb)
  refine PySem.W.callWith_K (h₀ := X.base) I.ok.mod.kin hk (thn (ha pos pins s σ H _ I h) fun us s1 ⟨vs, H1, I1, r, q⟩ => ⟨I1.kIn, ?_⟩) he hpl
  exact run_fn F hr hb hd hx I1 r q
/-- o.m(e, ..) -/
theorem pe_meth {pl : Sem Bool} (he : PE X o ta) (c : Cls X.K C) (hm : Meth X.K C m f) (F : FnOk X.prog X.w X.K X.mg X.base CX k f fd ps sp) (hr : Room k X.A) (hb : Binds X.K fd ps ds) (hd : Vals dvs ds) (hx : Passes CX X E) (ha : PA X (e :: es) t)
    (hst : starEach (e :: es) X.env = (false, eval e X.env) :: starEach es X.env := by rfl) (hpl : (backTo pos (starEach es X.env)).any (·.1) = false := by rfl)
    (ht : eval (.Call (.Attribute o m apos) (e :: es) [] pos) X.env = (do
      let ov ← eval o X.env
      standAt apos.atName
      let (f, first) ← holding [ov] (getMethod ov m pl)
      callWith pos f first (backTo pos (starEach (e :: es) X.env)) (backToKw pos (keywordEach [] X.env))) := by rfl) :
    PE X (.Call (.Attribute o m apos) (e :: es) [] pos) (tMeth C m sp dvs E ta t) := by
  intro pins s σ H Q I h
  refine PySem.W.methodCall_KW (pl := pl) (thn (he pins s σ H _ I h) fun u s1 ⟨x, H1, I1, rx, a, dx, fs, ex, ea, l, q⟩ => ?_) ht
  subst ex
  obtain rfl : u = Value.ref a := rx
  refine getmeth_ok I1 ea c hm l ?_
  refine PySem.W.callWith_K (first := [.ref a]) (h₀ := X.base) I.ok.mod.kin hm.kp (thn (ha pos pins s1 σ H1 _ I1 q) fun us s2 ⟨vs, H2, I2, r, q2⟩ => ⟨I2.kIn, ?_⟩) hst hpl
  exact run_fn (us := .ref a :: us) (vs := .ref a :: vs) F hr hb hd hx I2 (.cons rfl r) q2
/-- o.m() -/
theorem pe_meth0 {pl : Sem Bool} (he : PE X o ta) (c : Cls X.K C) (hm : Meth X.K C m f) (F : FnOk X.prog X.w X.K X.mg X.base CX k f fd ps sp) (hr : Room k X.A) (hb : Binds X.K fd ps ds) (hd : Vals dvs ds) (hx : Passes CX X E)
    (ht : eval (.Call (.Attribute o m apos) [] [] pos) X.env = (do
      let ov ← eval o X.env
      standAt apos.atName
      let (f, first) ← holding [ov] (getMethod ov m pl)
      callWith pos f first (backTo pos (starEach [] X.env)) (backToKw pos (keywordEach [] X.env))) := by rfl) :
    PE X (.Call (.Attribute o m apos) [] [] pos) (tMeth C m sp dvs E ta tNil) := by
  intro pins s σ H Q I h
  refine PySem.W.methodCall_KW (pl := pl) (thn (he pins s σ H _ I h) fun u s1 ⟨x, H1, I1, rx, a, dx, fs, ex, ea, l, q⟩ => ?_) ht
  subst ex
  obtain rfl : u = Value.ref a := rx
  refine getmeth_ok I1 ea c hm l ?_
  exact PySem.W.callWith_K0 (first := [.ref a]) I1.kIn hm.kp (run_fn (us := [.ref a]) (vs := [.ref a]) F hr hb hd hx I1 (.cons rfl .nil) q)
/-- what a class must have to be made -/
structure Mk (K : PySem.W.Frag) (C f : Addr) : Prop where
  makes : PySem.W.makesIn K C = true
  init : PySem.W.findIn K (.ref C) "__init__" = some (some (.ref f))
  fn : PySem.W.isFn K (.ref f) = true
  kp : PySem.W.keepIn K (.ref C) = true
theorem run_make {pins : List (Addr × Obj)} {σ : St} {H : Hp} {s : Shared} {Q : VK} {us : List Value} {vs : List V} (M : Mk X.K C f) (F : FnOk X.prog X.w X.K X.mg X.base CX k f fd ps sp) (hr : Room (k + 1) X.A) (hb : Binds X.K fd ps ds) (hd : Vals dvs ds)
    (hx : Passes CX X E) (I : Inv X pins σ H s) (r : Vals vs us)
    (h : ∀ x dx, H x = none → H dx = none → dx ≠ x → sp (.ref x :: (vs ++ dvs)) (upd (upd H dx (.own x)) x (.ins C dx [])) (fun v H2 => v = .non ∧ Q (.ref x) H2) E) :
    wpAny (model X.prog X.w) X.A (call (.ref C) us) (EP X pins σ Q) X.xe s := by
  have hq := h (s.heap.objs.size + 1) s.heap.objs.size (I.hok.fresh (Nat.le_succ _)) (I.hok.fresh (Nat.le_refl _)) (Nat.ne_of_lt (Nat.lt_succ_self _))
  have I2 := Inv.made (C := C) I
  have r2 : Vals (V.ref (s.heap.objs.size + 1) :: (vs ++ dvs)) (Value.ref (s.heap.objs.size + 1) :: (us ++ ds)) := .cons rfl (r.append hd)
  have hl : (Value.ref (s.heap.objs.size + 1) :: us ++ ds).length = ps.length := by
    have e := r2.length
    rw [F.len _ _ _ _ hq] at e
    exact e.symm
  refine wpAny_call (make_map (f := f) I.kIn M.makes M.init (beq_iff_eq.mp M.fn) (codeAny_mono (F.run _ X.stack _ _ ⟨Value.ref (s.heap.objs.size + 1) :: us, []⟩ (Value.ref (s.heap.objs.size + 1) :: (us ++ ds)) _ _ E (hr.make C us [])
    (I2.env0.make C us []) (hb _ (Value.ref (s.heap.objs.size + 1) :: us) I2.kIn hl) r2 hq) fun r s' hq' => ?_))
  cases r with
  | error e => exact hx pins σ _ _ e s' I2 hq'
  | ok fl =>
    cases fl with
    | ret u =>
      obtain ⟨v, H', I3, rv, ev, q3⟩ := I2.after hq'
      subst ev
      exact ⟨rv, ⟨V.ref (s.heap.objs.size + 1), H', I3, rfl, q3⟩⟩
    | next => exact False.elim hq'
    | brk => exact False.elim hq'
    | cont => exact False.elim hq'
theorem pe_make0 (M : Mk X.K C f) (F : FnOk X.prog X.w X.K X.mg X.base CX k f fd ps sp) (hr : Room (k + 1) X.A) (hg : Gl X x) (hm : X.mg x = some (.ref C)) (hb : Binds X.K fd ps ds) (hd : Vals dvs ds) (hx : Passes CX X E)
    (hdb : (x == ("__debug__" : Str)) = false := by decide) : PE X (.Call (.Name x p) [] [] pos) (tMake C sp dvs E tNil) := by
  intro pins s σ H Q I h
  refine wpAny_Call_Name_kw (ld_glob I hg hm ?_ hdb)
  exact PySem.W.callWith_K0 I.kIn M.kp (run_make (us := []) M F hr hb hd hx I .nil h)
end
/-- names: the parameters first -/
structure FnScope (N P : List Str) (sc : Scope) : Prop where
  kind : sc.kind = .function
  co : sc.isCoroutine = false
  gen : sc.isGenerator = false
  nd : N.Nodup
  pre : N.take P.length = P
  par : ∀ x ∈ P, sc.names.lookup x = some .local ∨ sc.names.lookup x = some .cell
  nofree : ∀ y ∈ sc.names, y.2 ≠ .free
theorem bindL_out {kindOf : Str → Option NameKind} {x : Str} : ∀ {binds : List (Str × Value)} {m : Str → Option Value}, (∀ v, (x, v) ∉ binds) → bindL kindOf binds m x = m x
  | [], _, _ => rfl
  | (n, v) :: r, m, h => by
    unfold bindL
    rw [bindL_out fun w hw => h w (List.mem_cons_of_mem _ hw)]
    split
    · have : x ≠ n := by rintro rfl; exact h v List.mem_cons_self
      simp [this]
    · rfl
theorem bindC_out {kindOf : Str → Option NameKind} {x : Str} : ∀ {binds : List (Str × Value)} {m : Str → Option Value}, (∀ v, (x, v) ∉ binds) → bindC kindOf binds m x = m x
  | [], _, _ => rfl
  | (n, v) :: r, m, h => by
    unfold bindC
    rw [bindC_out fun w hw => h w (List.mem_cons_of_mem _ hw)]
    split
    · rfl
    · have : x ≠ n := by rintro rfl; exact h v List.mem_cons_self
      simp [this]
theorem bindL_get {kindOf : Str → Option NameKind} {x : Str} {v : Value} : ∀ {P : List Str} {vs : List Value} {i : Nat} {m : Str → Option Value}, P.Nodup → P[i]? = some x → vs[i]? = some v → kindOf x = some .local →
    bindL kindOf (P.zip vs) m x = some v
  | [], _, _, _, _, h, _, _ => by simp at h
  | _ :: _, [], _, _, _, _, h, _ => by simp at h
  | p :: P, w :: vs, 0, m, nd, h1, h2, hk => by
    simp at h1 h2; subst h1; subst h2
    show bindL kindOf ((p, w) :: P.zip vs) m p = _
    unfold bindL
    rw [bindL_out fun v hv => (List.nodup_cons.mp nd).1 (List.of_mem_zip hv).1, if_pos hk]
    simp
  | p :: P, w :: vs, i + 1, m, nd, h1, h2, hk => by
    show bindL kindOf ((p, w) :: P.zip vs) m x = _
    unfold bindL
    exact bindL_get (i := i) (List.nodup_cons.mp nd).2 (by simpa using h1) (by simpa using h2) hk
theorem bindC_get {kindOf : Str → Option NameKind} {x : Str} {v : Value} : ∀ {P : List Str} {vs : List Value} {i : Nat} {m : Str → Option Value}, P.Nodup → P[i]? = some x → vs[i]? = some v → kindOf x ≠ some .local →
    bindC kindOf (P.zip vs) m x = some v
  | [], _, _, _, _, h, _, _ => by simp at h
  | _ :: _, [], _, _, _, _, h, _ => by simp at h
  | p :: P, w :: vs, 0, m, nd, h1, h2, hk => by
    simp at h1 h2; subst h1; subst h2
    show bindC kindOf ((p, w) :: P.zip vs) m p = _
    unfold bindC
    rw [bindC_out fun v hv => (List.nodup_cons.mp nd).1 (List.of_mem_zip hv).1, if_neg hk]
    simp
  | p :: P, w :: vs, i + 1, m, nd, h1, h2, hk => by
    show bindC kindOf ((p, w) :: P.zip vs) m x = _
    unfold bindC
    exact bindC_get (i := i) (List.nodup_cons.mp nd).2 (by simpa using h1) (by simpa using h2) hk
/-- the names' values at the entry -/
def start (N : List Str) (vs : List V) : St := vs.map some ++ List.replicate (N.length - vs.length) none
/-- the context of a def's body, at its entry; an exception leaves the frame, then lies as CX says -/
def cxOf (CX : CXT) (P : Program) (w : World) (K : PySem.W.Frag) (mg : Str → Option Value) (base : Heap) (N : List Str) (qual : Str) (scope : Scope) (f : Addr) (cd : Value) (A : Around) (outer : List Env) (s : Shared) (H : Hp) (E : XK) : Cx where
  prog := P
  w := w
  K := K
  mg := mg
  base := base
  A := A.deeper (envOfC qual scope s.heap.objs.size f cd)
  N := N
  s_0 := s
  H_0 := H
  env := envOfC qual scope s.heap.objs.size f cd
  outer := outer
  stack := envOfC qual scope s.heap.objs.size f cd :: outer
  ex := []
  calm := true
  fn := fun _ => true
  pn := []
  xe := fun e s' => wpAny (model P w) (A.deeper (envOfC qual scope s.heap.objs.size f cd)) (leaving (envOfC qual scope s.heap.objs.size f cd) e) (fun _ s'' => CX outer H s E e s'') (fun e' s'' => CX outer H s E e' s'') s'
theorem cell_has {sc : Scope} {n : Nat} {x : Str} (h : sc.names.lookup x = some .cell) : ∃ c, (cellsFrom n sc.names []).lookup x = some c := by
  have q := PySem.W.cellsFrom_some sc.names n [] (.inl h)
  exact Option.isSome_iff_exists.mp q
theorem inv_start {CX : CXT} {P : Program} {w : World} {K : PySem.W.Frag} {mg : Str → Option Value} {base : Heap} {N ps : List Str} {qual : Str} {scope : Scope} {f : Addr} {cd : Value} {A : Around} {outer : List Env} {s s1 : Shared} {H : Hp} {E : XK} {us : List Value} {vs : List V}
    (S : FnScope N ps scope) (hd : A.handled = none) (e0 : Env0 P w K mg base A outer s H) (hl : vs.length = ps.length) (r : Vals vs us)
    (x : InCallC s s.heap.objs.size (bindL (envOfC qual scope s.heap.objs.size f cd).kindOf (ps.zip us) fun _ => none) (cellsFrom (s.heap.objs.size + 1) scope.names []) (bindC (envOfC qual scope s.heap.objs.size f cd).kindOf (ps.zip us) fun _ => none) s1) :
    Inv (cxOf CX P w K mg base N qual scope f cd A outer s H E) [] (start N vs) H s1 := by
  have hpl : ps.length ≤ N.length := by have := congrArg List.length S.pre; rw [List.length_take] at this; lia
  obtain ⟨h1, tk, rfl, hk⟩ := x.done
  have noA : ∀ b : Addr, b ∉ (cxOf CX P w K mg base N qual scope f cd A outer s H E).ex := fun b z => absurd (show b ∈ ([] : List Addr) from z) (by simp)
  refine ⟨⟨e0.mod, S.kind, rfl, rfl, Nat.le_refl _, fun y z c h1 h2 => ?_, fun y hy => ?_, fun y c _ h => ?_, fun _ => hd, Around.frames_deeper e0.frames, .inr ⟨rfl, rfl⟩, fun b z => absurd z (noA b), e0.bs, e0.bsz, fun b _ _ => noA b, fun b z => absurd z (noA b), e0.funs, e0.frf⟩,
    rfl, e0.bare, Un.kept hk, ⟨_, x.toInCall.ns, fun i y v h1 h2 h3 => ?_⟩, fun y c h => ⟨_, x.cell y c h⟩, e0.hok.fresh (Nat.le_refl _), fun y c h => ?_, fun p hp => absurd (show p ∈ ([] : List (Addr × Obj)) from hp) (by simp), e0.hok.kept hk, ?_⟩
  · exact name_of_addr x.apart (PySem.mem_of_lookup h1) (PySem.mem_of_lookup h2)
  · have hy : scope.names.lookup y = some .cell ∨ scope.names.lookup y = some .free := hy
    rcases hy with hy | hy
    · exact cell_has hy
    · exact absurd rfl (S.nofree _ (PySem.mem_of_lookup hy))
  · exact Nat.le_of_lt (x.above y c (PySem.mem_of_lookup h))
  · have hi : i < vs.length := by
      unfold start at h2
      by_cases hi : i < vs.length
      · exact hi
      · rw [List.getElem?_append_right (by simpa using hi)] at h2
        rw [List.getElem?_replicate] at h2
        split at h2 <;> cases h2
    have ha : vs[i]? = some v := by
      unfold start at h2
      rw [List.getElem?_append_left (by simpa using hi), List.getElem?_map] at h2
      cases e : vs[i]? with
      | none => rw [e] at h2; cases h2
      | some a => rw [e] at h2; cases h2; rfl
    obtain ⟨u, hu, rv⟩ := r.get ha
    have hp : ps[i]? = some y := by
      rw [← S.pre, List.getElem?_take_of_lt (by lia)]; exact h1
    have ndP : ps.Nodup := by rw [← S.pre]; exact S.nd.sublist (List.take_sublist _ _)
    refine ⟨u, rv, ?_⟩
    rcases S.par y (List.mem_of_getElem? hp) with k | k
    · exact .inl ⟨k, bindL_get ndP hp hu k⟩
    · obtain ⟨c, e⟩ := cell_has (n := s.heap.objs.size + 1) k
      refine .inr ⟨.inl k, c, e, ?_⟩
      have q := x.cell y c e
      rw [bindC_get ndP hp hu (by show scope.names.lookup y ≠ _; rw [k]; decide)] at q
      exact q
  · exact e0.hok.fresh (Nat.le_of_lt (x.above y c (PySem.mem_of_lookup h)))
  · unfold start
    show _ = N.length
    rw [List.length_append, List.length_map, List.length_replicate]
    lia
/-- THE RULE: a def (or a method) of the text, by its body. The body's reading t is chosen for each entry; it is run at the parameters' values -/
theorem fn_of {CX : CXT} {P : Program} {w : World} {K : PySem.W.Frag} {mg : Str → Option Value} {base : Heap} {k : Nat} {f : Addr} {name qual : Str} {params : Arguments} {body : List Stmt} {scope : Scope} {dV kV doc pm cdv ct oc : Value} {an od : Option Addr}
    {osl : Array (Option Value)} {N ps : List Str} {sp : Sp} (lk : K.lookup f = some ⟨oc, od, .func (PySem.W.fnOf name qual params body scope dV kV doc pm an cdv ct), osl⟩) (hcd : PySem.W.codeIn K cdv qual = true) (S : FnScope N ps scope)
    (len : ∀ vs H Q E, sp vs H Q E → vs.length = ps.length)
    (hbody : ∀ (A : Around) (outer : List Env) (s : Shared) (H : Hp) (vs : List V) (Q : VK) (E : XK), Room k (A.deeper (envOfC qual scope s.heap.objs.size f cdv)) → sp vs H Q E →
      ∃ t, PSs (cxOf CX P w K mg base N qual scope f cdv A outer s H E) body t ∧ t { nx := fun _ H' => Q .non H', rt := Q } (start N vs) H) :
    FnOk P w K mg base CX (k + 1) f (PySem.W.fnOf name qual params body scope dV kV doc pm an cdv ct) ps sp := by
  refine ⟨len, fun A outer s H args us vs Q E hr e0 hb r hsp => ?_⟩
  have hl := len _ _ _ _ hsp
  have KX : K.In s.heap := e0.mod.kin.keeps fun b o e => (e0.bs b o e).1
  have lim : s.heap.NoLimit := e0.mod.nolimit.keeps fun b o e => (e0.bs b o e).1
  have hkind : ∀ y ∈ ps.zip us, scope.names.lookup y.1 = some .local ∨ (scope.names.lookup y.1 = some .cell ∧ ((cellsFrom (s.heap.objs.size + 1) scope.names []).lookup y.1).isSome = true) := fun ⟨n, v⟩ hy => by
    rcases S.par n (List.of_mem_zip hy).1 with q | q
    · exact .inl q
    · exact .inr ⟨q, PySem.W.cellsFrom_some _ _ _ (.inl q)⟩
  refine codeAny_call_function hr.depth (KX _ _ lk) rfl S.co S.gen rfl (PySem.W.codeRec_of KX hcd) (hb _ _ _ _ ?_)
  refine wpAny_newFunctionEnv_cells S.kind hkind fun env he s1 x => ?_
  subst he
  refine ⟨lim.keeps x.toInCall.keep, codeAny_func ?_⟩
  obtain ⟨t, ht, hq⟩ := hbody A outer s H vs Q E (hr.deeper _) hsp
  have I : Inv (cxOf CX P w K mg base N qual scope f cdv A outer s H E) [] (start N vs) H s1 := inv_start S hr.hd e0 hl r x
  refine wpAny_mono (ht [] s1 (start N vs) H _ I hq) (fun fl s' hs => ?_) fun e s' hs => hs
  have fin : ∀ {σ' : St} {H' : Hp} {v : V} {u : Value}, Inv (cxOf CX P w K mg base N qual scope f cdv A outer s H E) [] σ' H' s' → RelV v u → Q v H' → CE outer P w H s Q u s' :=
    fun {σ' H' v u} J rv q => ⟨v, H', J.os, J.bare, J.base, J.hok, rv, q⟩
  cases fl with
  | ret u =>
    obtain ⟨v, σ', H', J, rv, q⟩ := hs
    exact fin J rv q
  | next =>
    obtain ⟨σ', H', J, q⟩ := hs
    exact fin (v := V.non) (u := Value.none) J rfl q
  | brk =>
    obtain ⟨_, _, _, q⟩ := hs
    exact False.elim q
  | cont =>
    obtain ⟨_, _, _, q⟩ := hs
    exact False.elim q
end L2
namespace L2
open PySem PySem.Spec PyProof.Rows
section
variable {X : Cx} {x : Str} {p pos : Pos} {e : Expr} {es : List Expr} {t : TA} {id T : String} {r : List V → Hp → VK → Prop}
def tCB (r : List V → Hp → VK → Prop) (t : TA) : TE := fun σ H Q => t σ H fun vs H1 => r vs H1 Q
/-- f(e, ..), f a built-in function -/
theorem pe_callB (hc : CallR X (.builtin id) r) (hg : Gl X x) (hm : X.mg x = none) (hv : bootBuiltins x = some (.builtin id)) (ha : PA X (e :: es) t) (hn : x ≠ "__name__" := by decide) (hdb : (x == ("__debug__" : Str)) = false := by decide)
    (he : starEach (e :: es) X.env = (false, eval e X.env) :: starEach es X.env := by rfl) (hpl : (backTo pos (starEach es X.env)).any (·.1) = false := by rfl) : PE X (.Call (.Name x p) (e :: es) [] pos) (tCB r t) := by
  intro pins s σ H Q I h
  refine wpAny_Call_Name_kw (ld_blt I hg hm hv ?_ hn hdb)
  exact PyProof.Rows.callWith_builtin1 (thn (ha pos pins s σ H _ I h) fun us s1 ⟨vs, H1, I1, r1, q1⟩ => hc pins s1 σ H1 vs us Q I1 r1 q1) he hpl
/-- T(e, ..), T a built-in type -/
theorem pe_callTy (hc : CallR X (.type T) r) (hg : Gl X x) (hm : X.mg x = none) (hv : bootBuiltins x = some (.type T)) (ha : PA X (e :: es) t) (hn : x ≠ "__name__" := by decide) (hdb : (x == ("__debug__" : Str)) = false := by decide)
    (he : starEach (e :: es) X.env = (false, eval e X.env) :: starEach es X.env := by rfl) (hpl : (backTo pos (starEach es X.env)).any (·.1) = false := by rfl) : PE X (.Call (.Name x p) (e :: es) [] pos) (tCB r t) := by
  intro pins s σ H Q I h
  refine wpAny_Call_Name_kw (ld_blt I hg hm hv ?_ hn hdb)
  exact PyProof.Rows.callWith_type1 (thn (ha pos pins s σ H _ I h) fun us s1 ⟨vs, H1, I1, r1, q1⟩ => hc pins s1 σ H1 vs us Q I1 r1 q1) he hpl
end
end L2
namespace HT
open PySem PyProof.Rows
section
variable {prog : Program} {w : World} {A : Around} {E : Value → Shared → Prop} {s : Shared}
/-- a slice's bound as a place among n (d where it is left out) -/
def sIx (n d : Nat) : Option Int → Nat
  | none => d
  | some v => if v < 0 then (v + (n : Int)).toNat else min v.toNat n
theorem sIx_none (n d : Nat) : sIx n d none = d := rfl
theorem sIx_nat (n d k : Nat) : sIx n d (some (k : Int)) = min k n := by
  show (if (k : Int) < 0 then ((k : Int) + (n : Int)).toNat else min (k : Int).toNat n) = min k n
  rw [if_neg (by lia), Int.toNat_natCast]
end
end HT
namespace L2
open PySem PySem.Spec PyProof.Rows
abbrev TO := St → Hp → (Option Int → Hp → Prop) → Prop
/-- a slice's part (left out, or an int) -/
def PO (X : Cx) (e : Option Expr) (t : TO) : Prop :=
  ∀ (pins : List (Addr × Obj)) (s : Shared) (σ : St) (H : Hp) (Q : Option Int → Hp → Prop), Inv X pins σ H s → t σ H Q →
    wpAny (model X.prog X.w) X.A (evalPart e X.env) (fun u s' => ∃ o H', Inv X pins σ H' s' ∧ IsPart u o ∧ Q o H') X.xe s
def tNoPart : TO := fun _ H Q => Q none H
def tPart (t : TE) : TO := fun σ H Q => t σ H fun x H1 => ∃ i, x = .int i ∧ Q (some i) H1
section
variable {X : Cx} {e : Expr} {te : TE} {lo hi : Option Expr} {tl th : TO} {pos p2 : Pos}
theorem po_none : PO X none tNoPart := by
  intro pins s σ H Q I h
  rw [evalPart_none]
  exact wpAny_pure ⟨none, H, I, .none, h⟩
theorem po_some (h : PE X e te) : PO X (some e) (tPart te) := by
  intro pins s σ H Q I hw
  rw [evalPart_some]
  refine thn (h pins s σ H _ I hw) fun u s1 ⟨x, H1, I1, r1, q1⟩ => ?_
  obtain ⟨i, rfl, q⟩ := q1
  obtain ⟨t, rfl⟩ := r1
  exact ⟨some i, H1, I1, .int i t, q⟩
/-- what a slice of a value is, by values: the slice object stands at sl -/
def SlR (X : Cx) (r : V → Option Int → Option Int → Hp → VK → Prop) : Prop :=
  ∀ (pins : List (Addr × Obj)) (s : Shared) (σ : St) (H : Hp) (x : V) (v vl vu : Value) (lo hi : Option Int) (sl : Addr) (Q : VK), Inv X pins σ H s → RelV x v → s.heap.IsSliceOf sl vl vu .none → IsPart vl lo → IsPart vu hi → r x lo hi H Q →
    ∃ T id, typeLookup (.type T) "__getitem__" = pure (some (.builtin id)) ∧ s.TypeIs v T ∧ wpAny (model X.prog X.w) X.A (getItem v (.ref sl)) (EP X pins σ Q) X.xe s
def tSl (r : V → Option Int → Option Int → Hp → VK → Prop) (te : TE) (tl th : TO) : TE := fun σ H Q => te σ H fun x H1 => tl σ H1 fun l H2 => th σ H2 fun u H3 => r x l u H3 Q
/-- a[lo:hi], any a -/
theorem pe_slice {r : V → Option Int → Option Int → Hp → VK → Prop} (hr : SlR X r) (he : PE X e te) (hl : PO X lo tl) (hu : PO X hi th) : PE X (.Subscript e (.Slice lo hi none p2) pos) (tSl r te tl th) := by
  intro pins s σ H Q I h
  refine Subscript_ (thn (he pins s σ H _ I h) fun v s1 ⟨x, H1, I1, r1, q1⟩ => ?_)
  refine wpAny_Slice (thn (hl pins s1 σ H1 _ I1 q1) fun vl s2 ⟨l, H2, I2, pl, q2⟩ => thn (hu pins s2 σ H2 _ I2 q2) fun vu s3 ⟨u, H3, I3, pu, q3⟩ => ?_)
  rw [evalPart_none]
  refine wpAny_pure ?_
  have I4 : Inv X pins σ H3 { s3 with heap := s3.heap.push { cls := .type "slice", data := .fields #[vl, vu, .none] } } := I3.kept (t' := s3.toks) fun b ob q => Heap.get?_push_of_some _ q
  obtain ⟨T, id, hT, ht, hg⟩ := hr pins { s3 with heap := s3.heap.push { cls := .type "slice", data := .fields #[vl, vu, .none] } } σ H3 x v vl vu l u s3.heap.objs.size Q I4 r1 (Heap.IsSliceOf.new ..) pl pu q3
  show wpAny (model X.prog X.w) X.A (subscriptTail e (.Slice lo hi none p2) v (.ref s3.heap.objs.size)) (EP X pins σ Q) X.xe { s3 with heap := s3.heap.push { cls := .type "slice", data := .fields #[vl, vu, .none] } }
  exact tail_any (ops := [.ref s3.heap.objs.size, v]) ht hT hg (by with_unfolding_all rfl)
/-- the items of xs[lo:hi] -/
def cutV (xs : List V) (lo hi : Option Int) : List V := (xs.drop (HT.sIx xs.length 0 lo)).take (HT.sIx xs.length xs.length hi - HT.sIx xs.length 0 lo)
theorem cutV_length (xs : List V) (lo hi : Option Int) : (cutV xs lo hi).length ≤ xs.length := by
  unfold cutV
  rw [List.length_take, List.length_drop]
  lia
end
end L2
namespace L2
open PySem PySem.Spec PyProof.Rows
/-- the place that an index of any sign means -/
def ixN (n : Nat) (i : Int) : Option Nat := if 0 ≤ i then (if i < n then some i.toNat else none) else if -(n : Int) ≤ i then some (i + n).toNat else none
def atI {α : Type} (xs : List α) (i : Int) : Option α := (ixN xs.length i).bind fun j => xs[j]?
theorem ixN_seq {n : Nat} {i : Int} {j : Nat} (h : ixN n i = some j) : seqIndex? i n = some j ∧ j < n ∧ -(n : Int) ≤ i ∧ i < n := by
  unfold ixN at h
  by_cases h0 : 0 ≤ i
  · rw [if_pos h0] at h
    by_cases h1 : i < n
    · rw [if_pos h1] at h
      have e : i.toNat = j := Option.some.inj h
      exact ⟨by rw [seqIndex_of h0 h1, e], by lia, by lia, h1⟩
    · rw [if_neg h1] at h; cases h
  · rw [if_neg h0] at h
    by_cases h1 : -(n : Int) ≤ i
    · rw [if_pos h1] at h
      have e : (i + n).toNat = j := Option.some.inj h
      exact ⟨by rw [seqIndex_neg (by lia) h1, e], by lia, h1, by lia⟩
    · rw [if_neg h1] at h; cases h
theorem atI_get {α : Type} {xs : List α} {i : Int} {v : α} (h : atI xs i = some v) : ∃ j, seqIndex? i xs.length = some j ∧ xs[j]? = some v ∧ j < xs.length ∧ -(xs.length : Int) ≤ i ∧ i < xs.length := by
  unfold atI at h
  cases e : ixN xs.length i with
  | none => rw [e] at h; cases h
  | some j =>
    rw [e] at h
    obtain ⟨h1, h2, h3, h4⟩ := ixN_seq e
    exact ⟨j, h1, h, h2, h3, h4⟩
theorem atI_nat {α : Type} {xs : List α} {j : Nat} {v : α} (h : xs[j]? = some v) : atI xs (j : Int) = some v := by
  have hj : j < xs.length := (List.getElem?_eq_some_iff.mp h).1
  have e : ixN xs.length (j : Int) = some j := by
    unfold ixN
    rw [if_pos (by lia), if_pos (by lia)]; simp
  unfold atI; rw [e]; exact h
/-- what stands as an index of a plain subscript -/
def PlainIx (b : Expr) : Prop := ∀ o i, subscripted b false o i = operate [o, i] (getItem o i)
/-- a subscript by values -/
def IxR (X : Cx) (r : R2) : Prop :=
  ∀ (value slice : Expr) (pins : List (Addr × Obj)) (s : Shared) (σ : St) (H : Hp) (x y : V) (v u : Value) (Q : VK), Inv X pins σ H s → RelV x v → RelV y u → r x y H Q →
    subscripted slice false v u = operate [v, u] (getItem v u) → wpAny (model X.prog X.w) X.A (subscriptTail value slice v u) (EP X pins σ Q) X.xe s
/-- a call of a builtin's method by values: the receiver, the arguments -/
def MtR (X : Cx) (id : String) (r : V → List V → Hp → VK → Prop) : Prop :=
  ∀ (pins : List (Addr × Obj)) (s : Shared) (σ : St) (H : Hp) (x : V) (xs : List V) (v : Value) (us : List Value) (Q : VK), Inv X pins σ H s → RelV x v → Vals xs us → r x xs H Q →
    wpAny (model X.prog X.w) X.A (call (.builtin id) (v :: us)) (EP X pins σ Q) X.xe s
section
variable {X : Cx} {a b : Expr} {ta tb : TE} {pos : Pos}
/-- a[b] -/
theorem pe_ix {r : R2} (hr : IxR X r) (ha : PE X a ta) (hb : PE X b tb) (hs : PlainIx b) : PE X (.Subscript a b pos) (tOp r ta tb) := by
  intro pins s σ H Q I h
  exact Subscript_ (binT ha hb I h fun v u s2 x y H2 I2 rx ry q => hr a b pins s2 σ H2 x y v u Q I2 rx ry q (hs _ _))
def rIxL (K : PySem.W.Frag) : R2 := fun x y H Q => ∃ p xs i v, x = .ref p ∧ y = .int i ∧ SqL K H p xs ∧ atI xs i = some v ∧ Q v H
def rIxT (K : PySem.W.Frag) : R2 := fun x y H Q => ∃ p xs i v, x = .ref p ∧ y = .int i ∧ SqT K H p xs ∧ atI xs i = some v ∧ Q v H
theorem ix_list : IxR X (rIxL X.K) := by
  intro value slice pins s σ H x y v u Q I rx ry h hs
  obtain ⟨p, xs, i, z, rfl, rfl, hq, he, q⟩ := h
  cases rx
  obtain ⟨t, rfl⟩ := ry
  obtain ⟨its, r, pl, hz⟩ := I.list hq
  obtain ⟨j, h1, h2, h3, h4, h5⟩ := atI_get he
  obtain ⟨w, ew, rw'⟩ := r.get h2
  have hl := r.length
  have hn := line63
  have fin : EP X pins σ Q w s := ⟨z, H, I, rw', q⟩
  by_cases h0 : 0 ≤ i
  · have hj : i.toNat = j := by
      rw [seqIndex_of h0 h5] at h1
      exact Option.some.inj h1
    exact item_listR pl.isList h0 (by lia) (by rw [hj]; simpa using ew) fin hs
  · have hj : (i + (its.toArray.size : Int)).toNat = j := by
      rw [seqIndex_neg (by lia) h4] at h1
      rw [List.size_toArray, ← hl]
      exact Option.some.inj h1
    exact subscriptTail_builtinR (x := w) pl.isList.typeIs slot_list_getitem.lookup
      (wpAny_getItem_list_neg (Q := fun r s' => r = w ∧ EP X pins σ Q r s') pl.isList (by lia) (by rw [List.size_toArray] <;> lia) (by lia) (by rw [hj]; simpa using ew) ⟨rfl, fin⟩) hs
theorem ix_tup : IxR X (rIxT X.K) := by
  intro value slice pins s σ H x y v u Q I rx ry h hs
  obtain ⟨p, xs, i, z, rfl, rfl, hq, he, q⟩ := h
  cases rx
  obtain ⟨t, rfl⟩ := ry
  obtain ⟨its, r, pl, hz⟩ := I.tuple hq
  obtain ⟨j, h1, h2, h3, h4, h5⟩ := atI_get he
  obtain ⟨w, ew, rw'⟩ := r.get h2
  have hl := r.length
  have hn := line63
  have fin : EP X pins σ Q w s := ⟨z, H, I, rw', q⟩
  exact subscriptTail_builtinR (x := w) pl.typeIs slot_tuple_getitem.lookup
    (getItem_tuple (j := j) (Q := fun r s' => r = w ∧ EP X pins σ Q r s') pl (by lia) (by lia) (by rw [List.size_toArray, ← hl]; exact h1) (by simpa using ew) ⟨rfl, fin⟩) hs
/-- the list's object behind a store -/
theorem mapSeq_set (its : List Value) (n j : Nat) (u : Value) : Obj.mapSeq (·.setIfInBounds j u) { cls := .type "list", data := .seq its.toArray n } = { cls := .type "list", data := .seq (its.set j u).toArray n } := by
  simp [Obj.mapSeq]
theorem Inv.lst {pins : List (Addr × Obj)} {σ : St} {H : Hp} {s : Shared} {p : Addr} {xs : List V} (I : Inv X pins σ H s) (h : H p = some (.lst xs)) :
    ∃ (its : List Value) (n : Nat), Vals xs its ∧ s.heap.get? p = some { cls := .type "list", data := .seq its.toArray n } ∧ xs.length ≤ sizeLine := by
  obtain ⟨z, its, n, r, e⟩ := I.hok p _ h
  exact ⟨its, n, r, e, z⟩
/-- the list at p is written by an update of its object -/
theorem Inv.lstUpd {pins : List (Addr × Obj)} {σ : St} {H : Hp} {s : Shared} {p : Addr} {xs ys : List V} {its its' : List Value} {n n' : Nat} {f : Obj → Obj} (I : Inv X pins σ H s) (h : H p = some (.lst xs))
    (ho : s.heap.get? p = some { cls := .type "list", data := .seq its.toArray n }) (hf : f { cls := .type "list", data := .seq its.toArray n } = { cls := .type "list", data := .seq its'.toArray n' }) (r : Vals ys its') (hz : ys.length ≤ sizeLine) (t : Nat) :
    Inv X pins σ (upd H p (.lst ys)) { s with heap := s.heap.update p f, toks := t } := by
  have e : (s.heap.update p f).get? p = some { cls := .type "list", data := .seq its'.toArray n' } := by
    rw [Heap.get?_update_self f ho (by rw [hf] <;> rfl), hf]
  refine I.write (x := p) (e := p) (by rw [h]; trivial) (.inl rfl) (fun b u hb q => (Heap.get?_update_other _ _ (Ne.symm hb)).trans q) ⟨_, e⟩ ?_
  exact ⟨hz, its', n', r, e⟩
def rSetL : V → V → V → Hp → (Hp → Prop) → Prop := fun o i v H Q => ∃ p xs k j, o = .ref p ∧ i = .int k ∧ H p = some (.lst xs) ∧ ixN xs.length k = some j ∧ Q (upd H p (.lst (xs.set j v)))
theorem set_list : PSet X rSetL := by
  intro pins s σ H o i v ov iv u Q I ro ri rv h
  obtain ⟨p, xs, k, j, rfl, rfl, hp, hj, q⟩ := h
  cases ro
  obtain ⟨t, rfl⟩ := ri
  obtain ⟨its, n, r, ho, hz⟩ := I.lst hp
  obtain ⟨h1, h2, h3, h4⟩ := ixN_seq hj
  have hl := r.length
  have hn := line63
  have I' : Inv X pins σ (upd H p (.lst (xs.set j v))) { s with heap := s.heap.update p (Obj.mapSeq (·.setIfInBounds j u)) } :=
    I.lstUpd hp ho (mapSeq_set its n j u) (r.set rv j) (by rw [List.length_set]; exact hz) s.toks
  by_cases h0 : 0 ≤ k
  · have hk : k.toNat = j := by
      rw [seqIndex_of h0 h4] at h1
      exact Option.some.inj h1
    exact PySem.W.ki_setAt ho h0 (by lia) (by rw [List.size_toArray, ← hl]; exact h4) (by rw [hk]; exact ⟨_, I', q⟩)
  · have hk : (k + (its.toArray.size : Int)).toNat = j := by
      rw [seqIndex_neg (by lia) h3] at h1
      rw [List.size_toArray, ← hl]
      exact Option.some.inj h1
    exact PySem.W.ki_setBack ho (by lia) (by rw [List.size_toArray, ← hl]; exact h3) (by lia) (by rw [hk]; exact ⟨_, I', q⟩)
theorem slice_bounds (lo hi : Option Int) (n : Nat) : (sliceBounds lo hi none n).1 = ((HT.sIx n 0 lo : Nat) : Int) ∧ (sliceBounds lo hi none n).2.1 = ((HT.sIx n n hi : Nat) : Int) ∧ (sliceBounds lo hi none n).2.2 = 1 := by
  refine ⟨?_, ?_, rfl⟩
  · cases lo with
    | none => simp [sliceBounds, HT.sIx]
    | some i =>
      simp only [sliceBounds, HT.sIx, Option.getD_none, show (1 : Int) > 0 by decide, if_true]
      by_cases h : i < 0
      · simp only [h, if_true] <;> lia
      · simp only [h, if_false] <;> lia
  · cases hi with
    | none => simp [sliceBounds, HT.sIx]
    | some i =>
      simp only [sliceBounds, HT.sIx, Option.getD_none, show (1 : Int) > 0 by decide, if_true]
      by_cases h : i < 0
      · simp only [h, if_true] <;> lia
      · simp only [h, if_false] <;> lia
theorem slicePick_cut (its : List Value) (lo hi : Option Int) : slicePick its.toArray lo hi none = ((its.drop (HT.sIx its.length 0 lo)).take (HT.sIx its.length its.length hi - HT.sIx its.length 0 lo)).toArray := by
  obtain ⟨h1, h2, h3⟩ := slice_bounds lo hi its.toArray.size
  unfold slicePick
  rw [h1, h2, h3]
  simp only [sliceRange_one, pick_run, List.size_toArray] <;> rfl
/-- xs[lo:hi] of a list: a new list -/
def rSlL (K : PySem.W.Frag) : V → Option Int → Option Int → Hp → VK → Prop := fun x lo hi H Q => ∃ a xs, x = .ref a ∧ SqL K H a xs ∧ ∀ p, H p = none → Q (.ref p) (upd H p (.lst (cutV xs lo hi)))
theorem sl_list : SlR X (rSlL X.K) := by
  intro pins s σ H x v vl vu lo hi sl Q I rx hs pl pu h
  obtain ⟨a, xs, rfl, hx, q⟩ := h
  cases rx
  obtain ⟨its, r, ht, hz⟩ := I.list hx
  have hlen := r.length
  refine ⟨"list", _, slot_list_getitem.lookup, ht.isList.typeIs, ?_⟩
  refine wpAny_getItem_list_slice ht.isList hs pl pu .none (by simp) ?_ (by rw [List.size_toArray] <;> lia)
  rw [slicePick_cut, ← hlen]
  refine ⟨.ref s.heap.objs.size, _, I.laid (t' := s.toks) (o := .lst (cutV xs lo hi)) (fun b ob q => Heap.get?_push_of_some _ q) (Nat.le_refl _) ?_, rfl, q _ (I.hok.fresh (Nat.le_refl _))⟩
  exact ⟨Nat.le_trans (cutV_length xs lo hi) hz, _, 0, (r.drop (HT.sIx xs.length 0 lo)).take (HT.sIx xs.length xs.length hi - HT.sIx xs.length 0 lo), Heap.get?_push_size _ rfl⟩
def flatV : V → Bool
  | .non => true
  | .bl _ => true
  | .int _ => true
  | .str _ => true
  | _ => false
/-- == of flat values -/
def eqV : V → V → Bool
  | .non, .non => true
  | .bl a, .bl b => a == b
  | .bl a, .int b => (if a then 1 else 0) == b
  | .int a, .bl b => a == (if b then 1 else 0)
  | .int a, .int b => a == b
  | .str a, .str b => a == b
  | _, _ => false
theorem eqAt_V {A : Around} {s : Shared} {y x : V} {u v : Value} (ry : RelV y u) (rx : RelV x v) (fy : flatV y = true) (fx : flatV x = true) : SeqAt.EqAt A s u v (eqV y x) := by
  cases y with
  | non =>
    cases ry
    cases x with
    | non => cases rx; exact SeqAt.EqAt.same _
    | bl b => cases rx; exact SeqAt.EqAt.none_bool b
    | int b => obtain ⟨t, rfl⟩ := rx; exact SeqAt.EqAt.none_int b t
    | str b => obtain ⟨t, rfl⟩ := rx; exact SeqAt.EqAt.none_str b t
    | _ => exact absurd (show false = true from fx) Bool.false_ne_true
  | bl a =>
    cases ry
    cases x with
    | non => cases rx; exact SeqAt.EqAt.bool_none a
    | bl b => cases rx; exact SeqAt.EqAt.bool_bool a b
    | int b => obtain ⟨t, rfl⟩ := rx; exact SeqAt.EqAt.bool_int a b t
    | str b => obtain ⟨t, rfl⟩ := rx; exact SeqAt.EqAt.bool_str a b t
    | _ => exact absurd (show false = true from fx) Bool.false_ne_true
  | int a =>
    obtain ⟨t', rfl⟩ := ry
    cases x with
    | non => cases rx; exact SeqAt.EqAt.int_none a t'
    | bl b => cases rx; exact SeqAt.EqAt.int_bool a t' b
    | int b => obtain ⟨t, rfl⟩ := rx; exact SeqAt.EqAt.int_int a t' b t
    | str b => obtain ⟨t, rfl⟩ := rx; exact SeqAt.EqAt.int_str a t' b t
    | _ => exact absurd (show false = true from fx) Bool.false_ne_true
  | str a =>
    obtain ⟨t', rfl⟩ := ry
    cases x with
    | non => cases rx; exact SeqAt.EqAt.str_none a t'
    | bl b => cases rx; exact SeqAt.EqAt.str_bool a t' b
    | int b => obtain ⟨t, rfl⟩ := rx; exact SeqAt.EqAt.str_int a t' b t
    | str b => obtain ⟨t, rfl⟩ := rx; exact SeqAt.EqAt.str_str a t' b t
    | _ => exact absurd (show false = true from fx) Bool.false_ne_true
  | _ => exact absurd (show false = true from fy) Bool.false_ne_true
/-- the items' answers, read off the values (a value's own answer does not lean on its token) -/
def eqU (x : V) (u : Value) : Bool := match u with
  | .none => eqV .non x
  | .bool b => eqV (.bl b) x
  | .int i _ => eqV (.int i) x
  | .str z _ => eqV (.str z) x
  | _ => false
theorem eqU_of {x y : V} {u : Value} (r : RelV y u) (f : flatV y = true) : eqU x u = eqV y x := by
  cases y with
  | non => cases r; rfl
  | bl b => cases r; rfl
  | int i => obtain ⟨t, rfl⟩ := r; rfl
  | str z => obtain ⟨t, rfl⟩ := r; rfl
  | _ => exact absurd (show false = true from f) Bool.false_ne_true
theorem any_eqU {x : V} : ∀ {xs : List V} {us : List Value}, Vals xs us → xs.all flatV = true → us.any (eqU x) = xs.any fun y => eqV y x
  | _, _, .nil, _ => rfl
  | y :: xs, u :: us, .cons r t, f => by
    rw [List.all_cons, Bool.and_eq_true] at f
    rw [List.any_cons, List.any_cons, eqU_of r f.1, any_eqU t f.2]
theorem mem_eqAt {A : Around} {s : Shared} {x : V} {v : Value} (rx : RelV x v) (fx : flatV x = true) : ∀ {xs : List V} {us : List Value}, Vals xs us → xs.all flatV = true → ∀ u ∈ us, SeqAt.EqAt A s u v (eqU x u)
  | _, _, .nil, _ => fun u hu => by cases hu
  | y :: xs, u :: us, .cons r t, f => fun u' hu => by
    rw [List.all_cons, Bool.and_eq_true] at f
    rcases List.mem_cons.mp hu with rfl | hu
    · rw [eqU_of r f.1]; exact eqAt_V r rx f.1 fx
    · exact mem_eqAt rx fx t f.2 u' hu
def inV (x : V) (xs : List V) : Bool := xs.any fun y => eqV y x
/-- x in a list or tuple of flat items -/
def rIn (K : PySem.W.Frag) (neg : Bool) : R2 := fun x y H Q => ∃ p xs, y = .ref p ∧ (SqL K H p xs ∨ SqT K H p xs) ∧ flatV x = true ∧ xs.all flatV = true ∧ Q (.bl (if neg then !inV x xs else inV x xs)) H
theorem op_notIn_seq : OpR X (compareOp .NotIn) (rIn X.K true) := by
  intro pins s σ H x y v u Q I rx ry h
  obtain ⟨p, xs, rfl, hq, fx, fs, q⟩ := h
  cases ry
  rcases hq with hq | hq
  · obtain ⟨its, r, pl, hz⟩ := I.list hq
    refine SeqAt.notIn_listAt (eqU x) pl.isList (fun w hw => mem_eqAt rx fx r fs w (by simpa using hw)) ⟨.bl _, H, I, rfl, ?_⟩
    rw [show its.toArray.any (eqU x) = its.any (eqU x) by simp, any_eqU r fs]
    exact q
  · obtain ⟨its, r, pl, hz⟩ := I.tuple hq
    refine SeqAt.notIn_tupleAt (eqU x) pl (fun w hw => mem_eqAt rx fx r fs w (by simpa using hw)) ⟨.bl _, H, I, rfl, ?_⟩
    rw [show its.toArray.any (eqU x) = its.any (eqU x) by simp, any_eqU r fs]
    exact q
theorem call_len_seq : CallR X (.builtin "len") (fun xs H Q => ∃ p ys, xs = [.ref p] ∧ (SqL X.K H p ys ∨ SqT X.K H p ys) ∧ Q (.int ys.length) H) := by
  intro pins s σ H xs us Q I r h
  obtain ⟨p, ys, rfl, hq, q⟩ := h
  obtain ⟨u, rfl, rx⟩ := vals1 r
  cases rx
  have hn := line63
  rcases hq with hq | hq
  · obtain ⟨its, r', pl, hz⟩ := I.list hq
    have hlen := r'.length
    exact Calls.call_len_list pl.isList (by simp only [List.size_toArray] <;> lia) ⟨.int ys.length, H, I.tok _, ⟨s.toks + 1, by rw [List.size_toArray, hlen]⟩, q⟩
  · obtain ⟨its, r', pl, hz⟩ := I.tuple hq
    have hlen := r'.length
    exact len_tuple pl (by simp only [List.size_toArray] <;> lia) ⟨.int ys.length, H, I.tok _, ⟨s.toks + 1, by rw [List.size_toArray, hlen]⟩, q⟩
/-- the value is of that builtin type -/
def tyV (K : PySem.W.Frag) (T : String) (x : V) (H : Hp) : Prop := match x with
  | .str _ => T = "str"
  | .int _ => T = "int"
  | .ref p => (T = "list" ∧ ∃ xs, SqL K H p xs) ∨ (T = "tuple" ∧ ∃ o, K.lookup p = some o ∧ o.cls = .type "tuple" ∧ o.dict = none) ∨
      (T = "dict" ∧ ((∃ kvs, H p = some (.dK kvs)) ∨ ∃ kvs, H p = some (.dT kvs))) ∨ (T = "set" ∧ ∃ S n, H p = some (.set S n))
  | _ => False
theorem tyV_is {pins : List (Addr × Obj)} {σ : St} {H : Hp} {s : Shared} {T : String} {x : V} {v : Value} (I : Inv X pins σ H s) (r : RelV x v) (ty : tyV X.K T x H) :
    s.TypeIs v T ∧ ∀ a, v = .ref a → ∃ ob, s.heap.get? a = some ob ∧ ob.dict = none := by
  cases x with
  | str z =>
    obtain ⟨t, rfl⟩ := r
    cases (show T = "str" from ty)
    exact ⟨typeIs_str s z t, fun _ e => nomatch e⟩
  | int i =>
    obtain ⟨t, rfl⟩ := r
    cases (show T = "int" from ty)
    exact ⟨typeIs_int s i t, fun _ e => nomatch e⟩
  | ref p =>
    cases r
    rcases ty with ⟨rfl, xs, hq⟩ | ⟨rfl, o, hk, hc, hd⟩ | ⟨rfl, hk⟩ | ⟨rfl, S, n, hk⟩
    · obtain ⟨its, _, pl, _⟩ := I.list hq
      refine ⟨pl.isList.typeIs, fun a e => ?_⟩
      cases e
      obtain ⟨o, n, e, c, hd, _⟩ := pl
      exact ⟨o, e, hd⟩
    · refine ⟨⟨o, I.kIn p o hk, hc⟩, fun a e => ?_⟩
      cases e
      exact ⟨o, I.kIn _ o hk, hd⟩
    · have z : ∃ o, s.heap.get? p = some o ∧ o.ExactDict := by
        rcases hk with ⟨kvs, hk⟩ | ⟨kvs, hk⟩
        · obtain ⟨_, _, _, _, o, _, _, e, ex, _⟩ := I.hok p _ hk
          exact ⟨o, e, ex⟩
        · obtain ⟨_, _, _, _, o, _, _, e, ex, _⟩ := I.hok p _ hk
          exact ⟨o, e, ex⟩
      obtain ⟨o, e, ex⟩ := z
      refine ⟨⟨o, e, ex.1⟩, fun a e2 => ?_⟩
      cases e2
      exact ⟨o, e, ex.2.1⟩
    · obtain ⟨o, _, _, _, e, ex, _⟩ := I.hok p _ hk
      refine ⟨⟨o, e, ex.1⟩, fun a e2 => ?_⟩
      cases e2
      exact ⟨o, e, ex.2.1⟩
  | _ => exact False.elim ty
def tBM (K : PySem.W.Frag) (T : String) (r : V → List V → Hp → VK → Prop) (to : TE) (t : TA) : TE := fun σ H Q => to σ H fun x H1 => tyV K T x H1 ∧ t σ H1 fun xs H2 => r x xs H2 Q
variable {o e : Expr} {es : List Expr} {to : TE} {t : TA} {name : Str} {apos cpos : Pos} {T id : String} {r : V → List V → Hp → VK → Prop}
theorem pe_bm (pa : PlainAttrs T) (slot : Slot T name id) (hty : typeOf (.builtin id) = pure (.type "method_descriptor")) (hm : MtR X id r) (ho : PE X o to) (ha : PA X (e :: es) t)
    (hbase : attributeBase o name X.env (eval o X.env) = eval o X.env := by rfl)
    (hfew : ((backTo cpos (starEach (e :: es) X.env)).all (fun x => !x.1) && (backToKw cpos (keywordEach [] X.env)).all (fun x => x.1.isSome)
      && decide ((e :: es).length + ([] : List Keyword).length + (if ([] : List Keyword).isEmpty then 0 else 1) < 30)) = true := by rfl)
    (hline : (apos.endLine == cpos.line) = true := by rfl) (hs : starEach (e :: es) X.env = (false, eval e X.env) :: starEach es X.env := by rfl) (hplain : (backTo cpos (starEach es X.env)).any (·.1) = false := by rfl) :
    PE X (.Call (.Attribute o name apos) (e :: es) [] cpos) (tBM X.K T r to t) := by
  intro pins s σ H Q I h
  refine wpAny_Call_method_late hbase hfew hline rfl (thn (ho pins s σ H _ I h) fun v s1 ⟨x, H1, I1, r1, ty, q1⟩ => ?_)
  obtain ⟨h1, h2⟩ := tyV_is I1 r1 ty
  refine ⟨T, id, pa, slot, hty, h1, h2, ?_⟩
  have hA := ha cpos pins s1 σ H1 _ I1 q1
  rw [hs] at hA ⊢
  refine Calls.callWith_builtin (by show (false || (backTo cpos (starEach es X.env)).any (·.1)) = false; rw [hplain] <;> rfl) (Calls.evalArgs_plain ?_)
  exact thn hA fun us s2 ⟨vs, H2, I2, r2, q2⟩ => hm pins s2 σ H2 x vs v us Q I2 r1 r2 q2
/- xs.append(e), list.index on a module's tuple .. are MtR facts of 06m -/
end
end L2
namespace L2
open PySem PySem.Spec PyProof.Rows
def MtM (X : Cx) (id : String) (r : V → List V → Hp → VK → Prop) : Prop :=
  ∀ (pins : List (Addr × Obj)) (s : Shared) (σ : St) (H : Hp) (x : V) (xs : List V) (v : Value) (us : List Value) (Q : VK), Inv X pins σ H s → RelV x v → Vals xs us → r x xs H Q →
    wpAny (model X.prog X.w) X.A (call (.builtin id) (v :: us)) (EP X pins σ Q) X.xe s
theorem Vals.one : ∀ {x : V} {us : List Value}, Vals [x] us → ∃ u, us = [u] ∧ RelV x u
  | _, _, .cons r .nil => ⟨_, rfl, r⟩
theorem Vals.rep {xs : List V} {us : List Value} (h : Vals xs us) : ∀ k : Nat, Vals (List.replicate k xs).flatten (List.replicate k us).flatten
  | 0 => .nil
  | k + 1 => by
    rw [List.replicate_succ, List.replicate_succ, List.flatten_cons, List.flatten_cons]
    exact Vals.append h (Vals.rep h k)
theorem foldl_rep (its : List Value) : ∀ (k : Nat) (acc : List Value),
    List.foldl (fun x1 x2 => x1 ++ x2) acc.toArray (List.replicate k its.toArray) = (acc ++ (List.replicate k its).flatten).toArray
  | 0, acc => by simp
  | k + 1, acc => by
    have e : acc.toArray ++ its.toArray = (acc ++ its).toArray := by simp
    have e2 : (acc ++ its) ++ (List.replicate k its).flatten = acc ++ (List.replicate (k + 1) its).flatten := by
      rw [List.replicate_succ, List.flatten_cons, List.append_assoc]
    rw [← e2, ← foldl_rep its k (acc ++ its), ← e, List.replicate_succ, List.foldl_cons]
section
variable {X : Cx} {pins : List (Addr × Obj)} {σ : St} {H : Hp} {s : Shared} {l b : Addr} {xs ys zs : List V}
theorem Inv.lset {its its' : List Value} {n : Nat} {f : Array Value → Array Value} {t' : Nat} (I : Inv X pins σ H s) (hH : H l = some (.lst xs))
    (e : s.heap.get? l = some { cls := .type "list", data := .seq its.toArray n }) (hf : f its.toArray = its'.toArray) (hv : Vals ys its') (hz : ys.length ≤ sizeLine) :
    Inv X pins σ (upd H l (.lst ys)) { s with heap := s.heap.update l (Obj.mapSeq f), toks := t' } := by
  have q := PySem.IsL.update e f
  rw [hf] at q
  refine I.write (x := l) (e := l) (by rw [hH]; exact trivial) (.inl rfl) (fun b' u hb hu => (Heap.get?_update_other s.heap (Obj.mapSeq f) (Ne.symm hb)).trans hu) ⟨_, q⟩ ?_
  exact ⟨hz, its', _, hv, q⟩
theorem Inv.lnew {its : List Value} {t' : Nat} (I : Inv X pins σ H s) (hv : Vals ys its) (hz : ys.length ≤ sizeLine) :
    Inv X pins σ (upd H s.heap.objs.size (.lst ys)) { s with heap := s.heap.push { cls := .type "list", data := .seq its.toArray }, toks := t' } :=
  I.laid (fun _ _ q => Heap.get?_push_of_some _ q) (Nat.le_refl _) ⟨hz, its, 0, hv, Heap.get?_push_size _ rfl⟩
theorem Inv.fresh (I : Inv X pins σ H s) : H s.heap.objs.size = none := I.hok.fresh (Nat.le_refl _)
theorem Inv.lstM (I : Inv X pins σ H s) (hH : H l = some (.lst xs)) : xs.length ≤ sizeLine ∧ ∃ (its : List Value) (n : Nat), Vals xs its ∧ xs.length = its.length ∧ s.heap.get? l = some { cls := .type "list", data := .seq its.toArray n } := by
  obtain ⟨z, its, n, r, e⟩ := I.hok l _ hH
  exact ⟨z, its, n, r, r.length, e⟩
theorem notLongL {n : Nat} (h : n ≤ sizeLine) : Builtin.List.listTooLong n = false := by
  unfold Builtin.List.listTooLong
  exact decide_eq_false (by lia)
end
section
variable {X : Cx}
def rAppend : V → List V → Hp → VK → Prop := fun x vs H Q => ∃ l xs y, x = .ref l ∧ vs = [y] ∧ H l = some (.lst xs) ∧ xs.length < sizeLine ∧ Q .non (upd H l (.lst (xs ++ [y])))
theorem mt_append : MtM X "list.append" rAppend := by
  intro pins s σ H x vs v us Q I rx rv h
  obtain ⟨l, xs, y, rfl, rfl, hH, hz, q⟩ := h
  cases rx
  obtain ⟨u, rfl, ru⟩ := rv.one
  obtain ⟨z, its, n, r, hl, e⟩ := I.lstM hH
  refine call_meets F.slot_list_append ⟨_, e, rfl⟩ F.entry_list_append (F.args_list_append_2 _ _) (PySem.list_append l its.toArray n u (by rw [List.size_toArray]; lia)) ⟨e, ?_⟩
  refine ⟨.non, _, I.lset (its' := its ++ [u]) hH e (by simp) (r.append (.cons ru .nil)) ?_, rfl, q⟩
  rw [List.length_append, List.length_singleton]
  lia
def rExtend : V → List V → Hp → VK → Prop := fun x vs H Q => ∃ l b xs zs, x = .ref l ∧ vs = [.ref b] ∧ H l = some (.lst xs) ∧ H b = some (.lst zs) ∧ xs.length + zs.length ≤ sizeLine ∧ Q .non (upd H l (.lst (xs ++ zs)))
theorem mt_extend : MtM X "list.extend" rExtend := by
  intro pins s σ H x vs v us Q I rx rv h
  obtain ⟨l, b, xs, zs, rfl, rfl, hH, hB, hz, q⟩ := h
  cases rx
  obtain ⟨u, rfl, ru⟩ := rv.one
  cases ru
  obtain ⟨z, its, n, r, hl, e⟩ := I.lstM hH
  obtain ⟨z2, its2, n2, r2, hl2, e2⟩ := I.lstM hB
  have hsz : its.toArray.size + its2.toArray.size ≤ sizeLine := by rw [List.size_toArray, List.size_toArray]; lia
  have hlong : ¬ (!its.toArray.isEmpty && Builtin.List.listTooLong (its.toArray.size + its2.toArray.size)) = true := by
    rw [notLongL hsz, Bool.and_false]
    exact Bool.false_ne_true
  refine call_meets F.slot_list_extend ⟨_, e, rfl⟩ F.entry_list_extend (F.args_list_extend_2 _ _)
    (AutoSeq1.list_extend_list_list_0 l its.toArray n b its2.toArray n2 hlong (by rw [List.size_toArray]; lia) (by lia)) ⟨e, e2, ?_⟩
  refine ⟨.non, _, I.lset (its' := its ++ its2) hH e (by simp) (r.append r2) ?_, rfl, q⟩
  rw [List.length_append]
  lia
def rCat : R2 := fun x y H Q => ∃ l b xs zs, x = .ref l ∧ y = .ref b ∧ H l = some (.lst xs) ∧ H b = some (.lst zs) ∧ xs.length + zs.length ≤ sizeLine ∧ ∀ p, H p = none → Q (.ref p) (upd H p (.lst (xs ++ zs)))
theorem op_cat : OpR X (binaryOp .Add) rCat := by
  intro pins s σ H x y v u Q I rx ry h
  obtain ⟨l, b, xs, zs, rfl, rfl, hH, hB, hz, q⟩ := h
  cases rx
  cases ry
  obtain ⟨z, its, n, r, hl, e⟩ := I.lstM hH
  obtain ⟨z2, its2, n2, r2, hl2, e2⟩ := I.lstM hB
  refine PySem.P.add_list e e2 ?_ (by rw [List.size_toArray, List.size_toArray]; lia)
  have ea : its.toArray ++ its2.toArray = (its ++ its2).toArray := by simp
  rw [ea]
  exact ⟨.ref _, _, I.lnew (t' := s.toks) (r.append r2) (by rw [List.length_append]; lia), rfl, q _ I.fresh⟩
/-- a list times an int (a negative one is nothing) -/
def rRep : R2 := fun x y H Q => ∃ l k xs, x = .ref l ∧ y = .int k ∧ H l = some (.lst xs) ∧ -(2 ^ 63) ≤ k ∧ k < 2 ^ 63 ∧ xs.length * k.toNat ≤ sizeLine ∧
  ∀ p, H p = none → Q (.ref p) (upd H p (.lst (List.replicate k.toNat xs).flatten))
theorem len_rep {α : Type} (xs : List α) (k : Nat) : (List.replicate k xs).flatten.length = k * xs.length := by
  induction k with
  | zero => simp
  | succ k ih => rw [List.replicate_succ, List.flatten_cons, List.length_append, ih, Nat.succ_mul, Nat.add_comm]
theorem op_rep : OpR X (binaryOp .Mult) rRep := by
  intro pins s σ H x y v u Q I rx ry h
  obtain ⟨l, k, xs, rfl, rfl, hH, h1, h2, hz, q⟩ := h
  cases rx
  obtain ⟨t, rfl⟩ := ry
  obtain ⟨z, its, n, r, hl, e⟩ := I.lstM hH
  have hlen : its.toArray.size * k.toNat ≤ sizeLine := by rw [List.size_toArray, ← hl]; exact hz
  have hcap : ¬ its.toArray.size * k.toNat > (2 ^ 63 - 1) / 8 := by
    have : (sizeLine : Nat) ≤ (2 ^ 63 - 1) / 8 := by decide
    lia
  have hfit : ¬ (!Builtin.List.listFitsIndex k) = true := by
    rw [fitsIndex_both h1 h2]
    exact Bool.false_ne_true
  have hlong : ¬ Builtin.List.listTooLong (its.toArray.size * k.toNat) = true := by
    rw [notLongL hlen]
    exact Bool.false_ne_true
  have hnew : List.foldl (fun x1 x2 => x1 ++ x2) #[] (List.replicate (if its.toArray.isEmpty = true then 0 else k.toNat) its.toArray) = (List.replicate k.toNat its).flatten.toArray := by
    have f0 : ∀ m : Nat, List.foldl (fun x1 x2 => x1 ++ x2) #[] (List.replicate m its.toArray) = (List.replicate m its).flatten.toArray := fun m => by
      have := foldl_rep its m []
      rw [List.nil_append] at this
      exact this
    rw [f0]
    cases its with
    | nil => simp
    | cons a r' => rw [if_neg (by simp)]
  refine wpAny_binaryOp_repeat_ref (T := "list") (U := "int") (by decide) ⟨_, e, rfl⟩ (fun s' => typeIs_int s' k t) noFill_list_mul F.fills_int_mul F.slot_int_rmul repeat_list F.slot_int_index.lookup
    (call_meets F.slot_int_rmul (typeIs_int s k t) F.entry_int_rmul (F.args_int_rmul_2 _ _) (int___rmul___int_list k t l its.toArray n)
      ⟨e, rfl, ⟨_, e, rfl⟩, call_meets F.slot_list_mul ⟨_, e, rfl⟩ F.entry_list_mul (F.args_list_mul_2 _ _) (AutoListH.list___mul___list_int_3 l its.toArray n k t hfit hcap hlong) ⟨e, ?_⟩⟩)
  rw [hnew]
  exact ⟨.ref _, _, I.lnew (t' := s.toks) (r.rep k.toNat) (by rw [len_rep, Nat.mul_comm]; exact hz), rfl, q _ I.fresh⟩
end
end L2
namespace L2
open PySem PySem.Spec PyProof.Rows
theorem Vals.ints : ∀ {ns : List Int} {us : List Value}, Vals (ns.map V.int) us → IntsAre us ns
  | [], us, h => by
    rw [List.map_nil] at h
    cases h
    exact IntsAre.nil
  | n :: ns, us, h => by
    rw [List.map_cons] at h
    cases h with
    | cons r t =>
      obtain ⟨k, rfl⟩ := r
      exact IntsAre.cons n k (Vals.ints t)
theorem vals_of_ints : ∀ {us : List Value} {ns : List Int}, IntsAre us ns → Vals (ns.map V.int) us
  | _, _, .nil => by rw [List.map_nil]; exact Paired.nil
  | _, _, .cons n t h => by rw [List.map_cons]; exact Paired.cons (show RelV (V.int n) (Value.int n t) from ⟨t, rfl⟩) (vals_of_ints h)
theorem Vals.bls : ∀ {bs : List Bool} {us : List Value}, Vals (bs.map V.bl) us → us = bs.map Value.bool
  | [], us, h => by
    rw [List.map_nil] at h
    cases h
    rfl
  | b :: bs, us, h => by
    rw [List.map_cons] at h
    cases h with
    | cons r t =>
      cases r
      rw [Vals.bls t, List.map_cons]
theorem Vals.ref1 {a : Addr} {us : List Value} (r : Vals [V.ref a] us) : us = [Value.ref a] := by
  cases r with
  | cons r t =>
    cases t
    cases r
    rfl
section
variable {prog : Program} {w : World} {A : Around} {E : Value → Shared → Prop} {s : Shared} {l : Addr} {its : List Value} {ns : List Int} {Q : Value → Shared → Prop}
theorem max_raw (hh : A.handled = none) (hl : s.heap.IsList l its.toArray) (hi : IntsAre its ns) (hne : 0 < ns.length)
    (h : ∀ h' tk M t', (∀ b o, s.heap.get? b = some o → h'.get? b = some o) → M ∈ ns → (∀ a, a ∈ ns → a ≤ M) → Q (.int M t') { s with heap := h', toks := tk }) : wpAny (model prog w) A (call (.builtin "max") [.ref l]) Q E s := by
  obtain ⟨xs, e⟩ := hi.allInts.items
  have hn : numsOf (intItems xs).toList = ns := by rw [← e]; exact hi.numsOf
  rw [nums_intItems] at hn
  subst hn
  rw [e] at hl
  have hsz : 0 < xs.size := by simpa using hne
  refine PySem.max_intList hh hl hsz fun v h' tk hv hk => ?_
  obtain ⟨t, rfl⟩ := intItems_at hv
  obtain ⟨h1, h2⟩ := argBest_gt (numAt xs) (xs.size - 1)
  refine h h' tk _ t hk ?_ fun a ha => ?_
  · rw [numAt_eq]; exact PySem.getD_mem (by rw [List.length_map, Array.length_toList]; lia)
  · obtain ⟨j, hj, rfl⟩ := mem_getD ha
    rw [List.length_map, Array.length_toList] at hj
    rw [← numAt_eq]; exact h2 j (by lia)
theorem min_raw (hh : A.handled = none) (hl : s.heap.IsList l its.toArray) (hi : IntsAre its ns) (hne : 0 < ns.length)
    (h : ∀ h' tk M t', (∀ b o, s.heap.get? b = some o → h'.get? b = some o) → M ∈ ns → (∀ a, a ∈ ns → M ≤ a) → Q (.int M t') { s with heap := h', toks := tk }) : wpAny (model prog w) A (call (.builtin "min") [.ref l]) Q E s := by
  obtain ⟨xs, e⟩ := hi.allInts.items
  have hn : numsOf (intItems xs).toList = ns := by rw [← e]; exact hi.numsOf
  rw [nums_intItems] at hn
  subst hn
  rw [e] at hl
  have hsz : 0 < xs.size := by simpa using hne
  refine PySem.min_intList hh hl hsz fun v h' tk hv hk => ?_
  obtain ⟨t, rfl⟩ := intItems_at hv
  obtain ⟨h1, h2⟩ := argBest_lt (numAt xs) (xs.size - 1)
  refine h h' tk _ t hk ?_ fun a ha => ?_
  · rw [numAt_eq]; exact PySem.getD_mem (by rw [List.length_map, Array.length_toList]; lia)
  · obtain ⟨j, hj, rfl⟩ := mem_getD ha
    rw [List.length_map, Array.length_toList] at hj
    rw [← numAt_eq]; exact h2 j (by lia)
end
section
variable {X : Cx}
/-- max(xs), min(xs) of a list of ints -/
def rMax (K : PySem.W.Frag) : List V → Hp → VK → Prop := fun vs H Q => ∃ (a : Addr) (ns : List Int), vs = [V.ref a] ∧ SqL K H a (ns.map V.int) ∧ 0 < ns.length ∧ ∀ m, m ∈ ns → (∀ y, y ∈ ns → y ≤ m) → Q (.int m) H
def rMin (K : PySem.W.Frag) : List V → Hp → VK → Prop := fun vs H Q => ∃ (a : Addr) (ns : List Int), vs = [V.ref a] ∧ SqL K H a (ns.map V.int) ∧ 0 < ns.length ∧ ∀ m, m ∈ ns → (∀ y, y ∈ ns → m ≤ y) → Q (.int m) H
theorem cr_max (hc : X.calm = true) : CallR X (.builtin "max") (rMax X.K) := by
  intro pins s σ H vs us Q I r h
  obtain ⟨a, ns, rfl, hs, hne, q⟩ := h
  obtain ⟨its, rv, hl, _⟩ := I.list hs
  rw [Vals.ref1 r]
  exact max_raw (I.ok.hd hc) hl.isList rv.ints hne fun h' tk m t' hk h1 h2 => ⟨.int _, H, I.kept hk, ⟨_, rfl⟩, q m h1 h2⟩
theorem cr_min (hc : X.calm = true) : CallR X (.builtin "min") (rMin X.K) := by
  intro pins s σ H vs us Q I r h
  obtain ⟨a, ns, rfl, hs, hne, q⟩ := h
  obtain ⟨its, rv, hl, _⟩ := I.list hs
  rw [Vals.ref1 r]
  exact min_raw (I.ok.hd hc) hl.isList rv.ints hne fun h' tk m t' hk h1 h2 => ⟨.int _, H, I.kept hk, ⟨_, rfl⟩, q m h1 h2⟩
def rSorted (K : PySem.W.Frag) : List V → Hp → VK → Prop := fun vs H Q => ∃ (a : Addr) (ns : List Int), vs = [V.ref a] ∧ SqL K H a (ns.map V.int) ∧ ns.length < 64 ∧
  ∀ (ns' : List Int) (p : Addr), ns'.Perm ns → ns'.Pairwise (· ≤ ·) → H p = none → Q (.ref p) (upd H p (.lst (ns'.map V.int)))
theorem small64 {n : Nat} (h : n < 64) : n ≤ sizeLine := by rw [sizeLine_eq]; lia
theorem cr_sorted : CallR X (.builtin "sorted") (rSorted X.K) := by
  intro pins s σ H vs us Q I r h
  obtain ⟨a, ns, rfl, hs, h64, q⟩ := h
  obtain ⟨its, rv, hl, _⟩ := I.list hs
  rw [Vals.ref1 r]
  have hi := rv.ints
  refine PyProof.Rows.sorted_ints hl.isList hi (by rw [hi.length]; exact h64) fun out ns' h1 h2 h3 => ?_
  obtain ⟨ep, he'⟩ := PyProof.Rows.sortedAll_at s.heap its out
  have hlen : (ns'.map V.int).length ≤ sizeLine := by rw [List.length_map, h2.length_eq]; exact small64 h64
  exact ⟨.ref _, upd H (s.heap.objs.size + 1) (.lst (ns'.map V.int)), I.laid (t' := s.toks) (fun _ _ => PyProof.Rows.sortedAll_old) (Nat.le_succ _) ⟨hlen, out.toList, ep, vals_of_ints h1, he'⟩, rfl, q ns' _ h2 h3 (I.hok.fresh (Nat.le_succ _))⟩
end
theorem iter_any {prog : Program} {w : World} {A : Around} {E : Value → Shared → Prop} {s : Shared} {l : Addr} {items : Array Value} {Q : Value → Shared → Prop} (hl : s.heap.IsList l items)
    (h : ∀ s₂ : Shared, s₂ = { s with heap := s.heap.push { cls := .type "list_iterator", data := .fields #[.ref l, .int 0 0] } } →
      (s₂.heap.IsListIter s.heap.objs.size l 0 ∧ s₂.heap.IsList l items) → l ≠ s.heap.objs.size → Q (.ref s.heap.objs.size) s₂) : wpAny (model prog w) A (pyIter (.ref l)) Q E s := by
  have hlt : l < s.heap.objs.size := by obtain ⟨_, e, _⟩ := hl; exact Heap.lt_size e
  exact wpAny_pyIter_list hl (h _ rfl ⟨⟨_, Heap.get?_push_size _ rfl, rfl, rfl⟩, hl.push _⟩ (Nat.ne_of_lt hlt))
theorem truth_bools {prog : Program} {w : World} {A : Around} {bs : List Bool} {its : List Value} (e : its = bs.map Value.bool) :
    TruthOf prog w A (fun i v => its.toArray[i]? = some v) (fun i => bs.getD i false) := fun i v s Q E hv hq => by
  have hv' : its[i]? = some v := by simpa using hv
  rw [e, List.getElem?_map] at hv'
  obtain ⟨b, hb, rfl⟩ := Option.map_eq_some_iff.mp hv'
  have hg : bs.getD i false = b := by rw [List.getD_eq_getElem?_getD, hb] <;> rfl
  have hq' : Q (bs.getD i false) s := hq
  rw [hg] at hq'
  exact wpAny_truthy_bool hq'
theorem any_range : ∀ bs : List Bool, (List.range bs.length).any (fun i => bs.getD i false) = bs.any id
  | [] => rfl
  | b :: bs => by
    rw [List.length_cons, List.range_succ_eq_map, List.any_cons, List.any_map, List.any_cons, ← any_range bs]
    all_goals rfl
theorem all_range : ∀ bs : List Bool, (List.range bs.length).all (fun i => bs.getD i false) = bs.all id
  | [] => rfl
  | b :: bs => by
    rw [List.length_cons, List.range_succ_eq_map, List.all_cons, List.all_map, List.all_cons, ← all_range bs]
    all_goals rfl
section
variable {X : Cx}
def rAny (K : PySem.W.Frag) : List V → Hp → VK → Prop := fun vs H Q => ∃ (a : Addr) (bs : List Bool), vs = [V.ref a] ∧ SqL K H a (bs.map V.bl) ∧ Q (.bl (bs.any id)) H
def rAll (K : PySem.W.Frag) : List V → Hp → VK → Prop := fun vs H Q => ∃ (a : Addr) (bs : List Bool), vs = [V.ref a] ∧ SqL K H a (bs.map V.bl) ∧ Q (.bl (bs.all id)) H
theorem cr_any (hc : X.calm = true) : CallR X (.builtin "any") (rAny X.K) := by
  intro pins s σ H vs us Q I r h
  obtain ⟨a, bs, rfl, hs, q⟩ := h
  obtain ⟨its, rv, hl, _⟩ := I.list hs
  rw [Vals.ref1 r]
  have hb := rv.bls
  refine call_any_walk (iter_any hl.isList fun s₂ e2 st hne => ?_)
  subst e2
  refine ⟨_, _, _, _, _, _, _, rfl, Walks.list (A := X.A.in1) (I.ok.hd hc) _ a hne its.toArray, st, truth_bools hb, fun h' tk hk => ?_⟩
  refine ⟨.bl _, H, I.kept fun b o eo => hk b o (fun hmem => ?_) (Heap.get?_push_of_some _ eo), ?_, q⟩
  · rcases List.mem_cons.mp hmem with e1 | hmem
    · exact absurd (e1 ▸ Heap.lt_size eo) (Nat.lt_irrefl _)
    · cases hmem
  · show Value.bool _ = Value.bool _
    rw [← any_range, hb, List.size_toArray, List.length_map]
theorem cr_all (hc : X.calm = true) : CallR X (.builtin "all") (rAll X.K) := by
  intro pins s σ H vs us Q I r h
  obtain ⟨a, bs, rfl, hs, q⟩ := h
  obtain ⟨its, rv, hl, _⟩ := I.list hs
  rw [Vals.ref1 r]
  have hb := rv.bls
  refine call_all_walk (iter_any hl.isList fun s₂ e2 st hne => ?_)
  subst e2
  refine ⟨_, _, _, _, _, _, _, rfl, Walks.list (A := X.A.in1) (I.ok.hd hc) _ a hne its.toArray, st, truth_bools hb, fun h' tk hk => ?_⟩
  refine ⟨.bl _, H, I.kept fun b o eo => hk b o (fun hmem => ?_) (Heap.get?_push_of_some _ eo), ?_, q⟩
  · rcases List.mem_cons.mp hmem with e1 | hmem
    · exact absurd (e1 ▸ Heap.lt_size eo) (Nat.lt_irrefl _)
    · cases hmem
  · show Value.bool _ = Value.bool _
    rw [← all_range, hb, List.size_toArray, List.length_map]
end
mutual
inductive Dp (K : PySem.W.Frag) (H : Hp) : V → PyData → Prop
  | non : Dp K H .non .none
  | bl (b : Bool) : Dp K H (.bl b) (.bool b)
  | int (i : Int) : Dp K H (.int i) (.int i)
  | str (x : Str) : Dp K H (.str x) (.str x)
  | lst {a : Addr} {xs : List V} {ds : List PyData} : SqL K H a xs → DpAll K H xs ds → Dp K H (.ref a) (.list ds)
  | tup {a : Addr} {xs : List V} {ds : List PyData} : SqT K H a xs → DpAll K H xs ds → Dp K H (.ref a) (.tuple ds)
inductive DpAll (K : PySem.W.Frag) (H : Hp) : List V → List PyData → Prop
  | nil : DpAll K H [] []
  | cons {v : V} {vs : List V} {d : PyData} {ds : List PyData} : Dp K H v d → DpAll K H vs ds → DpAll K H (v :: vs) (d :: ds)
end
section
variable {X : Cx} {pins : List (Addr × Obj)} {σ : St} {H : Hp} {s : Shared}
mutual
theorem Dp.reads (I : Inv X pins σ H s) : ∀ (d : PyData) (v : V) (u : Value), Dp X.K H v d → RelV v u → ∃ as, Reads s.heap u d as
  | .none, _, _, h, r => by
    cases h
    cases r
    exact ⟨_, Reads.none⟩
  | .bool b, _, _, h, r => by
    cases h
    cases r
    exact ⟨_, Reads.bool b⟩
  | .int i, _, _, h, r => by
    cases h
    obtain ⟨t, rfl⟩ := r
    exact ⟨_, Reads.int i t⟩
  | .str x, _, _, h, r => by
    cases h
    obtain ⟨t, rfl⟩ := r
    exact ⟨_, Reads.str x t⟩
  | .list ds, _, _, h, r => by
    cases h with
    | lst hs ha =>
      cases r
      obtain ⟨its, rv, ⟨o, n, ho, hc, _, hd⟩, _⟩ := I.list hs
      obtain ⟨as, hr⟩ := Dp.readsAll I ds _ its ha rv
      exact ⟨_, Reads.list ho hc hd hr⟩
  | .tuple ds, _, _, h, r => by
    cases h with
    | tup hs ha =>
      cases r
      obtain ⟨its, rv, ⟨o, ho, hc, n, hd⟩, _⟩ := I.tuple hs
      obtain ⟨as, hr⟩ := Dp.readsAll I ds _ its ha rv
      exact ⟨_, Reads.tuple ho hc hd hr⟩
  | .dict _, _, _, h, _ => by cases h
theorem Dp.readsAll (I : Inv X pins σ H s) : ∀ (ds : List PyData) (vs : List V) (us : List Value), DpAll X.K H vs ds → Vals vs us → ∃ as, ReadsAll s.heap us ds as
  | [], _, _, h, r => by
    cases h
    cases r
    exact ⟨_, ReadsAll.nil⟩
  | d :: ds, _, _, h, r => by
    cases h with
    | cons h1 h2 =>
      cases r with
      | cons r1 r2 =>
        obtain ⟨as, q1⟩ := Dp.reads I d _ _ h1 r1
        obtain ⟨bs, q2⟩ := Dp.readsAll I ds _ _ h2 r2
        exact ⟨_, ReadsAll.cons q1 q2⟩
end
end
section
variable {X : Cx}
def rEqD (K : PySem.W.Frag) : R2 := fun x y H Q => ∃ d e, Dp K H x d ∧ Dp K H y e ∧ SeqAt.shaped d = true ∧ SeqAt.shaped e = true ∧ Q (.bl (PyData.eqv d e)) H
theorem op_eqD (hu : X.A.units + 64 < cLine) : OpR X (compareOp .Eq) (rEqD X.K) := by
  intro pins s σ H x y v u Q I rx ry h
  obtain ⟨d, e, hd, he, sd, se, q⟩ := h
  obtain ⟨as, r1⟩ := Dp.reads I d x v hd rx
  obtain ⟨bs, r2⟩ := Dp.reads I e y u he ry
  exact SeqAt.compareEq_shaped r1 r2 sd se hu ⟨.bl _, H, I, rfl, q⟩
end
end L2
namespace L2
open PySem PySem.Spec PyProof.Rows
abbrev CellAt (h : Heap) (c : Addr) (v : Option Value) : Prop := h.IsCell c v
def relS (scope sc : Scope) : Scope :=
  { scope with names := scope.names.map fun (n, k) => if (k == .free && sc.kind == .function && sc.names.lookup n == some .cell) then (n, .cell) else (n, k) }
def cloFrom (cells : List (Str × Addr)) : List (Str × NameKind) → List (Str × Addr) → List (Str × Addr)
  | [], acc => acc
  | (n, k) :: r, acc => if k == .free then cloFrom cells r ((n, (cells.lookup n).getD 0) :: acc) else cloFrom cells r acc
theorem closure_loop (env : Env) (f : Str × NameKind → List (Str × Addr) → Sem (ForInStep (List (Str × Addr))))
    (hf : ∀ n k c, f (n, k) c = if k == .free then (do let a ← cellOf env n; pure (.yield ((n, a) :: c))) else pure (.yield c)) :
    ∀ (names : List (Str × NameKind)) (acc : List (Str × Addr)), (∀ y ∈ names, y.2 = .free → ∃ c, env.cells.lookup y.1 = some c) → forIn names acc f = pure (cloFrom env.cells names acc)
  | [], acc, _ => by rw [List.forIn_nil]; rfl
  | (n, k) :: r, acc, h => by
    rw [List.forIn_cons, hf]
    have ih := fun acc => closure_loop env f hf r acc fun y hy => h y (List.mem_cons_of_mem _ hy)
    unfold cloFrom
    by_cases hk : (k == NameKind.free) = true
    · rw [if_pos hk, if_pos hk]
      obtain ⟨c, hc⟩ := h (n, k) List.mem_cons_self (by simpa using hk)
      have e : cellOf env n = pure c := by unfold cellOf; rw [hc]
      rw [e]
      have e2 : (env.cells.lookup n).getD 0 = c := by rw [hc]; rfl
      rw [e2]
      exact ih _
    · rw [if_neg hk, if_neg hk]
      exact ih _
theorem closure_ok {scope : Scope} {env : Env} (h : ∀ y ∈ scope.names, y.2 = .free → ∃ c, env.cells.lookup y.1 = some c) : closureFor scope env = pure (cloFrom env.cells scope.names []) := by
  simp only [closureFor]
  rw [closure_loop env _ (fun n k c => rfl) scope.names [] h]
  rfl
theorem mem_lookup {α : Type} : ∀ {l : List (Str × α)} {n : Str} {c : α}, (n, c) ∈ l → ∃ c', l.lookup n = some c'
  | (k, v) :: r, n, c, h => by
    rw [List.lookup_cons]
    cases hb : n == k with
    | true => exact ⟨_, rfl⟩
    | false =>
      rcases List.mem_cons.mp h with e | h
      · cases e; simp at hb
      · exact mem_lookup h
theorem cloFrom_mem {cells : List (Str × Addr)} : ∀ {names : List (Str × NameKind)} {acc : List (Str × Addr)} {n : Str} {c : Addr}, (n, c) ∈ cloFrom cells names acc → (n, c) ∈ acc ∨ ((n, .free) ∈ names ∧ c = (cells.lookup n).getD 0)
  | [], _, _, _, h => .inl h
  | (m, k) :: r, acc, n, c, h => by
    unfold cloFrom at h
    split at h
    · rename_i hk
      have hk : k = .free := by simpa using hk
      rcases cloFrom_mem h with h | ⟨h1, h2⟩
      · rcases List.mem_cons.mp h with e | h
        · cases e; exact .inr ⟨hk ▸ List.mem_cons_self, rfl⟩
        · exact .inl h
      · exact .inr ⟨List.mem_cons_of_mem _ h1, h2⟩
    · rcases cloFrom_mem h with h | ⟨h1, h2⟩
      · exact .inl h
      · exact .inr ⟨List.mem_cons_of_mem _ h1, h2⟩
theorem cloFrom_acc {cells : List (Str × Addr)} : ∀ {names : List (Str × NameKind)} {acc : List (Str × Addr)} {p : Str × Addr}, p ∈ acc → p ∈ cloFrom cells names acc
  | [], _, _, h => h
  | (m, k) :: r, acc, p, h => by
    unfold cloFrom
    split
    · exact cloFrom_acc (List.mem_cons_of_mem _ h)
    · exact cloFrom_acc h
theorem cloFrom_has {cells : List (Str × Addr)} : ∀ {names : List (Str × NameKind)} {acc : List (Str × Addr)} {n : Str}, (n, .free) ∈ names → (n, (cells.lookup n).getD 0) ∈ cloFrom cells names acc
  | (m, k) :: r, acc, n, h => by
    unfold cloFrom
    rcases List.mem_cons.mp h with e | h
    · cases e
      exact cloFrom_acc List.mem_cons_self
    · split
      · exact cloFrom_has h
      · exact cloFrom_has h
theorem cells_mem : ∀ {names : List (Str × NameKind)} {h : Heap} {acc : List (Str × Addr)} {x : Str} {c : Addr}, (x, c) ∈ cellsFrom h.objs.size names acc →
    (x, c) ∈ acc ∨ ((x, .cell) ∈ names ∧ h.objs.size ≤ c ∧ CellAt (pushCells h names) c none)
  | [], _, _, _, _, h => .inl h
  | (n, k) :: r, h, acc, x, c, hm => by
    unfold cellsFrom at hm
    unfold pushCells
    split at hm
    · rename_i hk
      rw [if_pos hk]
      have hk : k = .cell := by simpa using hk
      rw [← Heap.size_push h { cls := .type "cell", data := .cell none }] at hm
      rcases cells_mem hm with hm | ⟨h1, h2, h3⟩
      · rcases List.mem_cons.mp hm with e | hm
        · cases e
          exact .inr ⟨hk ▸ List.mem_cons_self, Nat.le_refl _, _, pushCells_keeps r _ _ _ (Heap.get?_push_size _ rfl), rfl⟩
        · exact .inl hm
      · rw [Heap.size_push] at h2
        exact .inr ⟨List.mem_cons_of_mem _ h1, Nat.le_of_succ_le h2, h3⟩
    · rename_i hk
      rw [if_neg hk]
      rcases cells_mem hm with hm | ⟨h1, h2, h3⟩
      · exact .inl hm
      · exact .inr ⟨List.mem_cons_of_mem _ h1, h2, h3⟩
theorem cells_acc : ∀ {names : List (Str × NameKind)} {n : Nat} {acc : List (Str × Addr)} {p : Str × Addr}, p ∈ acc → p ∈ cellsFrom n names acc
  | [], _, _, _, h => h
  | (m, k) :: r, n, acc, p, h => by
    unfold cellsFrom
    split
    · exact cells_acc (List.mem_cons_of_mem _ h)
    · exact cells_acc h
theorem cells_has : ∀ {names : List (Str × NameKind)} {n : Nat} {acc : List (Str × Addr)} {x : Str}, (x, .cell) ∈ names → ∃ c, (x, c) ∈ cellsFrom n names acc
  | (m, k) :: r, n, acc, x, h => by
    unfold cellsFrom
    rcases List.mem_cons.mp h with e | h
    · cases e
      exact ⟨n, cells_acc List.mem_cons_self⟩
    · split
      · exact cells_has h
      · exact cells_has h
theorem cells_inj : ∀ {names : List (Str × NameKind)} {h : Heap} {acc : List (Str × Addr)} {x y : Str} {c : Addr}, (∀ p ∈ acc, p.2 < h.objs.size) → (∀ x y c, (x, c) ∈ acc → (y, c) ∈ acc → x = y) →
    (x, c) ∈ cellsFrom h.objs.size names acc → (y, c) ∈ cellsFrom h.objs.size names acc → x = y
  | [], _, _, _, _, _, _, hi, h1, h2 => hi _ _ _ h1 h2
  | (n, k) :: r, h, acc, x, y, c, hl, hi, h1, h2 => by
    unfold cellsFrom at h1 h2
    split at h1
    · rename_i hk
      rw [if_pos hk] at h2
      rw [← Heap.size_push h { cls := .type "cell", data := .cell none }] at h1 h2
      refine cells_inj (h := h.push _) (fun p hp => ?_) (fun x y c a b => ?_) h1 h2
      · rw [Heap.size_push]
        rcases List.mem_cons.mp hp with rfl | hp
        · exact Nat.lt_succ_self _
        · exact Nat.lt_succ_of_lt (hl p hp)
      · rcases List.mem_cons.mp a with e | a <;> rcases List.mem_cons.mp b with e' | b
        · cases e; cases e'; rfl
        · cases e; exact absurd (hl _ b) (Nat.lt_irrefl _)
        · cases e'; exact absurd (hl _ a) (Nat.lt_irrefl _)
        · exact hi _ _ _ a b
    · rename_i hk
      rw [if_neg hk] at h2
      exact cells_inj hl hi h1 h2
theorem newEnv_comp {M : Model} {A : Around} {E : Value → Shared → Prop} {s : Shared} {scope : Scope} {globals : Addr} {closure : List (Str × Addr)} {qual : Str} {func : Option Addr} {code : Value} {around : Env} {builtins : Addr} {Q : Env → Shared → Prop}
    (h : Q (newEnv scope s.heap.objs.size globals (cellsFrom (s.heap.objs.size + 1) scope.names closure) qual func code (some around) builtins)
      { s with heap := pushCells (s.heap.push { cls := .type "dict", data := .dict #[] }) scope.names }) :
    wpAny M A (newFunctionEnv scope globals closure [] qual func code (some around) builtins) Q E s := by
  simp only [newFunctionEnv, Option.isSome_some, if_true]
  refine wpAny_bind (wpAny_alloc ?_)
  refine wpAny_bind (wpAny_layCells _ (fun n k c => rfl) scope.names closure _ _ ?_)
  rw [show ({ s with heap := s.heap.push { cls := .type "dict", data := .dict #[] } } : Shared).heap.objs.size = s.heap.objs.size + 1 from Heap.size_push ..]
  rw [List.forIn_nil]
  exact wpAny_bind (wpAny_pure (wpAny_pure h))
/-- every name of the written scope, in the scope that runs -/
theorem lookup_relS {sc : Scope} : ∀ {names : List (Str × NameKind)} {x : Str} {k : NameKind},
    (names.map fun (n, k) => if (k == NameKind.free && sc.kind == .function && sc.names.lookup n == some .cell) then (n, NameKind.cell) else (n, k)).lookup x = some k →
    ∃ k', names.lookup x = some k' ∧ (k = k' ∨ (k' = .free ∧ k = .cell))
  | [], _, _, h => by simp at h
  | (n, k₀) :: r, x, k, h => by
    have ih := @lookup_relS sc r x k
    have h' : List.lookup x ((if (k₀ == NameKind.free && sc.kind == .function && sc.names.lookup n == some .cell) = true then (n, NameKind.cell) else (n, k₀)) :: (r.map _)) = some k := h
    cases hx : x == n with
    | true =>
      simp only [List.lookup_cons, hx]
      by_cases hc : (k₀ == NameKind.free && sc.kind == .function && sc.names.lookup n == some .cell) = true
      · rw [if_pos hc] at h'
        simp only [List.lookup_cons, hx] at h'
        cases h'
        simp only [Bool.and_eq_true, beq_iff_eq] at hc
        exact ⟨k₀, rfl, .inr ⟨hc.1.1, rfl⟩⟩
      · rw [if_neg hc] at h'
        simp only [List.lookup_cons, hx] at h'
        cases h'
        exact ⟨_, rfl, .inl rfl⟩
    | false =>
      simp only [List.lookup_cons, hx]
      by_cases hc : (k₀ == NameKind.free && sc.kind == .function && sc.names.lookup n == some .cell) = true
      · rw [if_pos hc] at h'
        simp only [List.lookup_cons, hx] at h'
        exact ih h'
      · rw [if_neg hc] at h'
        simp only [List.lookup_cons, hx] at h'
        exact ih h'
/-- the names of a comprehension's block: its own (with their places in N), or captured -/
structure BlkOk (N : List Str) (sc scope : Scope) (own : List (Str × Nat)) : Prop where
  kind : scope.kind = .function
  uniq : ∀ y ∈ scope.names, scope.names.lookup y.1 = some y.2
  ix : ∀ p ∈ own, N[p.2]? = some p.1
  free : ∀ y ∈ scope.names, y.2 = .free → sc.names.lookup y.1 = some .cell ∨ sc.names.lookup y.1 = some .free
  own : ∀ y ∈ scope.names, y.2 = .local ∨ y.2 = .cell → y.1 ∈ own.map (·.1) ∨ y.1 ∉ N
/-- the slots of the block's own names forgotten -/
def wipe (σ : St) : List Nat → St
  | [] => σ
  | v :: vs => (wipe σ vs).set v none
theorem wipe_length (σ : St) : ∀ vs : List Nat, (wipe σ vs).length = σ.length
  | [] => rfl
  | v :: vs => by unfold wipe; rw [List.length_set, wipe_length σ vs]
theorem wipe_some {σ : St} {i : Nat} {x : V} : ∀ {vs : List Nat}, (wipe σ vs)[i]? = some (some x) → σ[i]? = some (some x) ∧ i ∉ vs
  | [], h => ⟨h, by simp⟩
  | v :: vs, h => by
    unfold wipe at h
    by_cases hi : v = i
    · subst hi
      by_cases hv : v < (wipe σ vs).length
      · rw [List.getElem?_set_self hv] at h; cases h
      · rw [List.getElem?_eq_none (by simpa using hv)] at h; cases h
    · rw [List.getElem?_set_ne hi] at h
      obtain ⟨h1, h2⟩ := wipe_some h
      exact ⟨h1, by simp only [List.mem_cons, not_or]; exact ⟨fun e => hi e.symm, h2⟩⟩
/-- the context of a block that starts at s, its iterator's objects at fp -/
abbrev Cx.blk (X : Cx) (s : Shared) (H : Hp) (scope : Scope) (cenv : Env) (fp : List Addr) : Cx := { X with s_0 := s, H_0 := H, env := cenv, outer := X.stack, ex := fp, fn := fun x => scope.names.lookup x == some .cell, pn := [], xe := fun _ _ => False }
section
variable {X : Cx} {pins : List (Addr × Obj)} {σ : St} {H : Hp} {s : Shared}
theorem block_start {scope : Scope} {own : List (Str × Nat)} {fp : List Addr} (I : Inv X pins σ H s) (ok : BlkOk X.N X.env.scope scope own) (hN : X.N.Nodup) (hfp : ∀ b ∈ fp, FpOk X pins H b ∧ b < s.heap.objs.size) :
    Inv (X.blk s H scope (compEnvC scope (cellsFrom (s.heap.objs.size + 1) scope.names (cloFrom X.env.cells scope.names [])) s.heap.objs.size X.env) fp) [] (wipe σ (own.map (·.2))) H { s with heap := pushCells (s.heap.push { cls := .type "dict", data := .dict #[] }) scope.names } := by
  have hfree : ∀ y ∈ scope.names, y.2 = .free → ∃ c, X.env.cells.lookup y.1 = some c := fun y hy e => by
    rcases ok.free y hy e with k | k
    · exact I.ok.has _ (.inl k)
    · exact I.ok.has _ (.inr k)
  generalize hcenv : compEnvC scope (cellsFrom (s.heap.objs.size + 1) scope.names (cloFrom X.env.cells scope.names [])) s.heap.objs.size X.env = cenv
  have kp : ∀ b o, s.heap.get? b = some o → (pushCells (s.heap.push { cls := .type "dict", data := .dict #[] }) scope.names).get? b = some o := fun b o e => pushCells_keeps _ _ _ _ (Heap.get?_push_of_some _ e)
  have hL : cenv.locals = s.heap.objs.size := by rw [← hcenv]; rfl
  have hcl : cenv.cells = cellsFrom (s.heap.objs.size + 1) scope.names (cloFrom X.env.cells scope.names []) := by rw [← hcenv]; rfl
  have hsc : cenv.scope = relS scope X.env.scope := by rw [← hcenv]; rfl
  rw [← Heap.size_push s.heap { cls := .type "dict", data := .dict #[] }] at hcl
  have cm : ∀ {y c}, (y, c) ∈ cloFrom X.env.cells scope.names [] → X.env.cells.lookup y = some c ∧ c < s.heap.objs.size := fun {y c} hm => by
    rcases cloFrom_mem hm with hm | ⟨h1, rfl⟩
    · cases hm
    · obtain ⟨c, hc⟩ := hfree _ h1 rfl
      rw [hc]
      obtain ⟨w, z⟩ := I.cell _ _ hc
      exact ⟨rfl, z.lt⟩
  have mem : ∀ {y c}, cenv.cells.lookup y = some c → (X.env.cells.lookup y = some c ∧ c < s.heap.objs.size) ∨ (s.heap.objs.size + 1 ≤ c ∧ CellAt (pushCells (s.heap.push { cls := .type "dict", data := .dict #[] }) scope.names) c none) := fun {y c} e => by
    rw [hcl] at e
    rcases cells_mem (PySem.mem_of_lookup e) with hm | ⟨_, h2, h3⟩
    · exact .inl (cm hm)
    · rw [Heap.size_push] at h2; exact .inr ⟨h2, h3⟩
  have look : ∀ {y}, scope.names.lookup y = some .free → ∃ c, cenv.cells.lookup y = some c ∧ X.env.cells.lookup y = some c := fun {y} hl => by
    have hy : (y, NameKind.free) ∈ scope.names := PySem.mem_of_lookup hl
    obtain ⟨c', e'⟩ := mem_lookup (cells_acc (names := scope.names) (n := (s.heap.push { cls := .type "dict", data := .dict #[] }).objs.size) (cloFrom_has (cells := X.env.cells) (acc := []) hy))
    rw [← hcl] at e'
    refine ⟨c', e', ?_⟩
    rw [hcl] at e'
    rcases cells_mem (PySem.mem_of_lookup e') with hm | ⟨h1, _, _⟩
    · exact (cm hm).1
    · have := ok.uniq _ h1
      rw [hl] at this; cases this
  have okB : (X.blk s H scope cenv fp).Ok := by
    refine ⟨I.ok.mod, by show cenv.scope.kind = _; rw [hsc]; exact ok.kind, by show cenv.globals = _; rw [← hcenv]; exact I.ok.glob, by show cenv.builtins = _; rw [← hcenv]; exact I.ok.blt, by show s.heap.objs.size ≤ cenv.locals; rw [hL]; exact Nat.le_refl _,
      fun y z c e1 e2 => ?_, fun y hy => ?_, fun y c z e => ?_, I.ok.hd, I.ok.frames, .inl rfl, fun b hb => ⟨?_, fun y c e z => ?_⟩, I.bs, Nat.le_trans I.ok.bsz I.sz, fun b o e hb => ?_, fun b hb z => ?_, I.stack, I.stkFree⟩
    · have e1 : cenv.cells.lookup y = some c := e1
      have e2 : cenv.cells.lookup z = some c := e2
      rw [hcl] at e1 e2
      refine cells_inj (fun p hp => ?_) (fun y z c a b => I.ok.inj y z c (cm a).1 (cm b).1) (PySem.mem_of_lookup e1) (PySem.mem_of_lookup e2)
      rw [Heap.size_push]
      exact Nat.lt_succ_of_lt (cm (y := p.1) (c := p.2) hp).2
    · show ∃ c, cenv.cells.lookup y = some c
      have key : ∀ k, cenv.kindOf y = some k → (k = .cell ∨ k = .free) → ∃ c, cenv.cells.lookup y = some c := fun k hk hk' => by
        unfold Env.kindOf at hk
        rw [hsc] at hk
        obtain ⟨k', e, r⟩ := lookup_relS hk
        have : k' = .cell ∨ k' = .free := by
          rcases r with rfl | ⟨rfl, _⟩
          · exact hk'
          · exact .inr rfl
        rcases this with rfl | rfl
        · obtain ⟨c, hm⟩ := cells_has (n := (s.heap.push { cls := .type "dict", data := .dict #[] }).objs.size) (acc := cloFrom X.env.cells scope.names []) (PySem.mem_of_lookup e)
          obtain ⟨c', e'⟩ := mem_lookup hm
          exact ⟨c', by rw [hcl]; exact e'⟩
        · obtain ⟨c, h1, _⟩ := look e
          exact ⟨c, h1⟩
      rcases hy with hy | hy
      · exact key _ hy (.inl rfl)
      · exact key _ hy (.inr rfl)
    · have z : (scope.names.lookup y == some NameKind.cell) = true := z
      have z : scope.names.lookup y = some .cell := by simpa using z
      have e : cenv.cells.lookup y = some c := e
      rw [hcl] at e
      rcases cells_mem (PySem.mem_of_lookup e) with hm | ⟨_, h2, _⟩
      · rcases cloFrom_mem hm with hm | ⟨h1, _⟩
        · cases hm
        · have q := ok.uniq _ h1
          rw [z] at q; cases q
      · rw [Heap.size_push] at h2
        exact Nat.le_of_succ_le h2
    · show b ≠ cenv.locals
      rw [hL]; exact Nat.ne_of_lt (hfp b hb).2
    · have e : cenv.cells.lookup y = some c := e
      rcases mem e with ⟨h1, _⟩ | ⟨h1, _⟩
      · exact (hfp b hb).1.2.2.2.2.1 y c h1 z
      · have h2 : s.heap.objs.size + 1 ≤ b := by rw [← z]; exact h1
        exact absurd (Nat.lt_of_lt_of_le (hfp b hb).2 (Nat.le_of_succ_le h2)) (Nat.lt_irrefl _)
    · rcases (hfp b hb).1.2.2.2.1 with z | z
      · exact I.ok.noex b o e z
      · exact absurd (Nat.lt_of_lt_of_le (Heap.lt_size e) (Nat.le_trans I.ok.bsz z)) (Nat.lt_irrefl _)
    · rcases List.mem_cons.mp (I.stkSub b z) with z | z
      · exact (hfp b hb).1.2.1 z
      · exact (hfp b hb).1.2.2.1 z
  refine ⟨okB, rfl, I.bare, Un.kept kp, ⟨fun _ => none, ?_, fun i y av e1 e2 e3 => ?_⟩, fun y c e => ?_, ?_, fun y c e => ?_, fun p hp => ?_, I.hok.kept kp, by rw [wipe_length]; exact I.len⟩
  · show Heap.Ns _ cenv.locals _
    rw [hL]
    exact Heap.Ns.keeps (Heap.Ns.new ..) fun b o e => pushCells_keeps _ _ _ _ e
  · obtain ⟨e2, hne⟩ := wipe_some e2
    have hfr : scope.names.lookup y = some .free ∧ (cenv.kindOf y = some .cell ∨ cenv.kindOf y = some .free) := by
      have key : ∀ k, cenv.scope.names.lookup y = some k → k = .local ∨ k = .cell ∨ k = .free → scope.names.lookup y = some .free ∧ (cenv.kindOf y = some .cell ∨ cenv.kindOf y = some .free) := fun k hk hk' => by
        have hk0 := hk
        rw [hsc] at hk
        obtain ⟨k', e, r⟩ := lookup_relS hk
        have no : ¬ (k' = .local ∨ k' = .cell) := fun hh => by
          rcases ok.own _ (PySem.mem_of_lookup e) hh with e' | e'
          · obtain ⟨p, hp, hpy⟩ := List.mem_map.mp e'
            have e3 := ok.ix p hp
            have : p.1 = y := hpy
            rw [this] at e3
            exact hne (List.mem_map.mpr ⟨p, hp, nodup_ix hN e3 e1⟩)
          · exact e' (List.mem_of_getElem? e1)
        rcases r with rfl | ⟨rfl, rfl⟩
        · rcases hk' with rfl | rfl | rfl
          · exact absurd (.inl rfl) no
          · exact absurd (.inr rfl) no
          · exact ⟨e, .inr hk0⟩
        · exact ⟨e, .inl hk0⟩
      have e3 : Vis cenv.scope y := e3
      rcases e3 with e3 | e3 | e3
      · exact key _ e3 (.inl rfl)
      · exact key _ e3 (.inr (.inl rfl))
      · exact key _ e3 (.inr (.inr rfl))
    obtain ⟨m, hn, hl⟩ := I.loc
    have hvis : Vis X.env.scope y := (ok.free _ (PySem.mem_of_lookup hfr.1) rfl).elim (fun k => .inr (.inl k)) (fun k => .inr (.inr k))
    obtain ⟨w, r, q⟩ := hl i y av e1 e2 hvis
    refine ⟨w, r, .inr ⟨hfr.2, ?_⟩⟩
    obtain ⟨c, h1, h2⟩ := look hfr.1
    rcases q with ⟨k, _⟩ | ⟨_, c', e', z⟩
    · have k : X.env.scope.names.lookup y = some .local := k
      rcases ok.free _ (PySem.mem_of_lookup hfr.1) rfl with k' | k' <;> rw [show X.env.scope.names.lookup y = _ from k'] at k <;> cases k
    · rw [h2] at e'; cases e'
      exact ⟨c, h1, z.keeps kp⟩
  · have e : cenv.cells.lookup y = some c := e
    rcases mem e with ⟨h1, _⟩ | ⟨_, z⟩
    · obtain ⟨w, z⟩ := I.cell y c h1
      exact ⟨w, z.keeps kp⟩
    · exact ⟨_, z⟩
  · show H cenv.locals = none
    rw [hL]; exact I.hok.fresh (Nat.le_refl _)
  · have e : cenv.cells.lookup y = some c := e
    rcases mem e with ⟨h1, _⟩ | ⟨h1, _⟩
    · exact I.freeC y c h1
    · exact I.hok.fresh (Nat.le_of_succ_le h1)
  · exact absurd (show p ∈ ([] : List (Addr × Obj)) ++ [] from hp) (by simp)
/-- an item appended to a tracked list -/
theorem app_ok {E : Value → Shared → Prop} {D : Addr} {xs : List V} {y : V} {v : Value} {Q : Value → Shared → Prop} (I : Inv X pins σ H s) (hD : H D = some (.lst xs)) (hz : xs.length < sizeLine) (r : RelV y v)
    (h : ∀ s', Inv X pins σ (upd H D (.lst (xs ++ [y]))) s' → Q .none s') : wpAny (model X.prog X.w) X.A (call (.builtin "list.append") [.ref D, v]) Q E s := by
  obtain ⟨hz', its, n, ri, e⟩ := I.hok D _ hD
  have hl := ri.length
  refine append_at (hsz := by rw [List.size_toArray]; lia) e fun h' sb ho' => ?_
  refine h { s with heap := h' } (I.write (t' := s.toks) (by rw [hD]; trivial) (.inl rfl) (fun b u hb q => (sb.2 b hb).trans q) ⟨_, ho'⟩ ⟨by rw [List.length_append]; exact hz, its ++ [v], n + 1, ri.append (.cons r .nil), ?_⟩)
  rw [ho']
  simp
/-- a clause's tests -/
def PTs (X : Cx) (ifs : List Expr) (t : TT) : Prop :=
  ∀ (pins : List (Addr × Obj)) (s : Shared) (σ : St) (H : Hp) (Q : Bool → Hp → Prop), Inv X pins σ H s → t σ H Q →
    wpAny (model X.prog X.w) X.A (forIn ifs true fun c r => if r = true then do let ok ← isTrue c X.env (eval c X.env); pure (ForInStep.yield ok) else pure (ForInStep.yield r)) (TP X pins σ Q) X.xe s
def tYes : TT := fun _ H Q => Q true H
theorem pts_nil : PTs X [] tYes := fun _ _ _ H _ I h => wpAny_tests_nil ⟨H, I, h⟩
theorem pts_one {c : Expr} {t : TT} (h : PT X c t) : PTs X [c] t := fun pins s σ H Q I hw => wpAny_tests_one (h pins s σ H Q I hw)
end
theorem thnF {α : Type} {t : Sem α} {Q Q' : α → Shared → Prop} {M : Model} {A : Around} {E : Value → Shared → Prop} {s : Shared} (h : wpAny M A t Q (fun _ _ => False) s) (hQ : ∀ a s, Q a s → Q' a s) : wpAny M A t Q' E s := wpAny_mono h hQ fun _ _ z => False.elim z
/-- the loop of a list comprehension's block, the target of any form (codeAny_compLoop_tests asks a target that no tuple goes to; statement and proof follow it, PyProof/CompMap.lean:41-61, with the step letOwnedTupleGo kept) -/
theorem compLoop_any {prog : Program} {w : World} {A : Around} {R : Result → Shared → Prop} {s : Shared} {elt target iter : Expr} {ifs : List Expr} {scope : Scope} {pos : Pos} {it acc : Value} {env : Env} (I : Nat → Shared → Prop)
    (turn : ∀ n s, I n s → wpAny (model prog w) A (pyNext it) (fun r s₁ => match r with
      | none => R (.ok .next) s₁
      | some v => wpAny (model prog w) A (letOwnedTupleGo target it v) (fun _ s₁' => wpAny (model prog w) A (assign target env v) (fun _ s₂ =>
          wpAny (model prog w) A (forIn ifs true fun c r => if r = true then do let ok ← isTrue c env (eval c env); pure (ForInStep.yield ok) else pure (ForInStep.yield r)) (fun ok s₃ =>
            if ok = true then wpAny (model prog w) A (eval elt env) (fun x s₄ =>
              wpAny (model prog w) A (call (.builtin "list.append") [acc, x]) (fun _ s₅ => ∃ m, m < n ∧ I m s₅) (notedBy (model prog w) A env fun e s' => R (.error e) s') s₄) (notedBy (model prog w) A env fun e s' => R (.error e) s') s₃
            else ∃ m, m < n ∧ I m s₃) (notedBy (model prog w) A env fun e s' => R (.error e) s') s₂) (notedBy (model prog w) A env fun e s' => R (.error e) s') s₁') (notedBy (model prog w) A env fun e s' => R (.error e) s') s₁) (notedBy (model prog w) A env fun e s' => R (.error e) s') s)
    (n : Nat) (h : I n s) :
    codeAny (model prog w) A (.compLoop (.ListComp elt [⟨target, iter, ifs, 0⟩] scope pos) 0 it acc env) R s := by
  refine codeAny_loop rfl I (fun n s hI => ?_) n h
  show wpAny _ A ((compTurn (.ListComp elt [⟨target, iter, ifs, 0⟩] scope pos) 0 it acc env).onRaise (fun x => do noteFrame x env; theTreesLotGoes x)) _ _ s
  refine wpAny_noted ?_
  rw [compTurn_list]
  refine wpAny_bind (wpAny_standAt (wpAny_bind (wpAny_mono (turn n s hI) (fun r s₁ h₁ => ?_) fun _ _ h' => h')))
  cases r with
  | none => exact wpAny_pure h₁
  | some v =>
    refine wpAny_bind (wpAny_mono h₁ (fun _ s₁' h₁' => ?_) fun _ _ h' => h')
    refine wpAny_bind (wpAny_mono h₁' (fun _ s₂ h₂ => wpAny_bind (wpAny_mono h₂ (fun ok s₃ h₃ => ?_) fun _ _ h' => h')) fun _ _ h' => h')
    cases ok with
    | false => exact wpAny_pure ⟨rfl, h₃⟩
    | true =>
      exact wpAny_bind (wpAny_bind (wpAny_mono h₃ (fun x s₄ h₄ => wpAny_bind (wpAny_mono h₄ (fun _ s₅ h₅ => wpAny_pure (wpAny_pure ⟨rfl, h₅⟩)) fun _ _ h' => h')) fun _ _ h' => h'))
section
variable {X : Cx}
/-- [elt for target in iter if ..]: D the new list; W by the turn and a measure, Nx what a turn is to reach -/
def tLc (wi : TI) (g : TG) (tt : TT) (te : TE) (vs : List Nat) : TE := fun σ H Q => wi σ H fun J H1 => ∀ D, H1 D = none → ∃ W : Nat → Nat → Hp → Prop, (∃ m, W 0 m (upd H1 D (.lst []))) ∧ ∀ i m H, W i m H →
  (J.stop i H ∧ Q (.ref D) H) ∨ (J.go i H ∧ ∃ Nx : Hp → Prop, (∀ H', Nx H' → ∃ m', m' < m ∧ W (i + 1) m' H') ∧ ∀ x H', J.yld i H x H' → g x (wipe σ vs) H' fun σ2 H2 => wipe σ2 vs = wipe σ vs ∧ tt σ2 H2 fun b H3 =>
    if b = true then te σ2 H3 fun y H4 => ∃ acc, H4 D = some (.lst acc) ∧ acc.length < sizeLine ∧ Nx (upd H4 D (.lst (acc ++ [y]))) else Nx H3)
theorem lc_core {pins : List (Addr × Obj)} {s : Shared} {σ : St} {H : Hp} {Q : VK} {elt tg iter : Expr} {ifs : List Expr} {scope : Scope} {own : List (Str × Nat)} {pos pos' : Pos} {wi : TI} {g : TG} {tt : TT} {te : TE} {use : Option (Value → Sem Unit)} {Qf : Value → Shared → Prop}
    (hc : X.calm = true) (hN : X.N.Nodup) (I : Inv X pins σ H s) (hi : PI X tg iter wi) (ok : BlkOk X.N X.env.scope scope own)
    (hg : ∀ (s : Shared) (H : Hp) (C : Addr) (cl : List (Str × Addr)) (fp : List Addr), PG (X.blk s H scope (compEnvC scope cl C X.env) fp) tg g) (ht : ∀ (s : Shared) (H : Hp) (C : Addr) (cl : List (Str × Addr)) (fp : List Addr), PTs (X.blk s H scope (compEnvC scope cl C X.env) fp) ifs tt)
    (he : ∀ (s : Shared) (H : Hp) (C : Addr) (cl : List (Str × Addr)) (fp : List Addr), PE (X.blk s H scope (compEnvC scope cl C X.env) fp) elt te) (hs : ∀ x, foldedSetIterable iter X.env x = pure x)
    (h : tLc wi g tt te (own.map (·.2)) σ H Q)
    (hRR : ∀ D C s' m H', Inv X pins σ H' s' → Q (.ref D) H' → s'.heap.Ns C m → FpOk X pins H' C → compPost (model X.prog X.w) X.A X.xe use Qf (.ref D) C (.ok .next) s') :
    wpAny (model X.prog X.w) X.A (comprehension (.ListComp elt [⟨tg, iter, ifs, 0⟩] scope pos) scope X.env pos' (newList []) false (eval iter X.env) use) Qf X.xe s := by
  have hfree : ∀ y ∈ scope.names, y.2 = .free → ∃ c, X.env.cells.lookup y.1 = some c := fun y hy e => by
    rcases ok.free y hy e with k | k
    · exact I.ok.has _ (.inl k)
    · exact I.ok.has _ (.inr k)
  refine wpAny_comprehension_free (use := use) rfl hs (closure_ok hfree) ok.kind (fun y hy e => by rw [ok.uniq y hy, e])
    (thn (hi pins s σ H _ I h) fun xv s1 hx => thn hx fun itv s2 h2 => ?_)
  obtain ⟨it, fp, tn, J, H2, e, I2, T, st2, f2, q⟩ := h2
  subst e
  refine wpAny_newObj_type (newEnv_comp ?_) (by show 0 ≤ sizeLine; decide)
  generalize hD : s2.heap.objs.size = D
  have hDn : H2 D = none := I2.hok.fresh (Nat.le_of_eq hD)
  obtain ⟨W, ⟨m0, w0⟩, turn⟩ := q D hDn
  -- the new list
  generalize hs3 : ({ s2 with heap := s2.heap.push { cls := .type "list", data := .seq ([] : List Value).toArray } } : Shared) = s3
  have I3 : Inv X pins σ (upd H2 D (.lst [])) s3 := by
    rw [← hs3]
    refine I2.laid (t' := s2.toks) (fun b o e => Heap.get?_push_of_some _ e) (Nat.le_of_eq hD) ⟨Nat.zero_le _, [], 0, .nil, ?_⟩
    rw [← hD]
    exact Heap.get?_push_size _ rfl
  have h3 : s3.heap = s2.heap.push { cls := .type "list", data := .seq ([] : List Value).toArray } := by rw [← hs3]
  have sz : ∀ b ∈ fp, b < s2.heap.objs.size := fun b hb => by
    obtain ⟨o, e, _⟩ := T.obj _ _ st2 b hb
    exact Heap.lt_size e
  have f3 : ∀ b ∈ fp, FpOk X pins (upd H2 D (.lst [])) b ∧ b < s3.heap.objs.size := fun b hb => by
    have hlt := sz b hb
    refine ⟨⟨?_, (f2 b hb).2⟩, by rw [h3, Heap.size_push]; exact Nat.lt_succ_of_lt hlt⟩
    rw [upd_ne (by rw [← hD]; exact Nat.ne_of_lt hlt)]
    exact (f2 b hb).1
  have st3 : tn 0 s3.heap := T.keep _ _ _ st2 fun b _ o e => by rw [h3]; exact Heap.get?_push_of_some _ e
  have I4 := block_start I3 ok hN f3
  have pg := hg s3 (upd H2 D (.lst [])) s3.heap.objs.size (cellsFrom (s3.heap.objs.size + 1) scope.names (cloFrom X.env.cells scope.names [])) fp
  have pt := ht s3 (upd H2 D (.lst [])) s3.heap.objs.size (cellsFrom (s3.heap.objs.size + 1) scope.names (cloFrom X.env.cells scope.names [])) fp
  have pe := he s3 (upd H2 D (.lst [])) s3.heap.objs.size (cellsFrom (s3.heap.objs.size + 1) scope.names (cloFrom X.env.cells scope.names [])) fp
  show codeAny _ _ (.compStart (.ListComp elt [⟨tg, iter, ifs, 0⟩] scope pos) 0 (.ref it) (.ref D) (compEnvC scope (cellsFrom (s3.heap.objs.size + 1) scope.names (cloFrom X.env.cells scope.names [])) s3.heap.objs.size X.env)) (compPost (model X.prog X.w) X.A X.xe use Qf (.ref D) s3.heap.objs.size) { s3 with heap := pushCells (s3.heap.push { cls := .type "dict", data := .dict #[] }) scope.names }
  have nfp : ∀ b ∈ fp, (upd H2 D (.lst [])) b = none := fun b hb => (f3 b hb).1.1
  generalize hce : compEnvC scope (cellsFrom (s3.heap.objs.size + 1) scope.names (cloFrom X.env.cells scope.names [])) s3.heap.objs.size X.env = ce at I4 pg pt pe ⊢
  have cL : ce.locals = s3.heap.objs.size := by subst hce; rfl
  generalize hH3 : upd H2 D (.lst []) = H3 at I3 I4 pg pt pe w0 nfp f3
  generalize hs4 : ({ s3 with heap := pushCells (s3.heap.push { cls := .type "dict", data := .dict #[] }) scope.names } : Shared) = s4 at I4 ⊢
  have st4 : tn 0 s4.heap := T.keep _ _ _ st3 fun b _ o e => by rw [← hs4]; exact pushCells_keeps _ _ _ _ (Heap.get?_push_of_some _ e)
  have stat : ∀ {σ' : St} {H' : Hp} {s' : Shared}, Inv (X.blk s3 H3 scope ce fp) [] σ' H' s' → (∀ b ∈ fp, H' b = none) → ∀ b ∈ fp, FpOk (X.blk s3 H3 scope ce fp) [] H' b := fun {σ' H' s'} I' hn b hb =>
    ⟨hn b hb, (I'.ok.exf b hb).1, I'.ok.exfs b hb, .inl hb, fun x c e => (I'.ok.exf b hb).2 x c e, fun p hp => absurd (show p ∈ ([] : List (Addr × Obj)) ++ [] from hp) (by simp)⟩
  have loop : codeAny (model X.prog X.w) X.A (.compLoop (.ListComp elt [⟨tg, iter, ifs, 0⟩] scope pos) 0 (.ref it) (.ref D) ce) (compPost (model X.prog X.w) X.A X.xe use Qf (.ref D) s3.heap.objs.size) s4 := by
    refine compLoop_any (fun n s' => ∃ i H', Inv (X.blk s3 H3 scope ce fp) [] (wipe σ (own.map (·.2))) H' s' ∧ tn i s'.heap ∧ (∀ b ∈ fp, H' b = none) ∧ W i n H') ?_ m0 ⟨0, H3, I4, st4, nfp, w0⟩
    rintro n s5 ⟨i, H5, I5, st5, n5, w5⟩
    rcases turn i n H5 w5 with ⟨stop, qq⟩ | ⟨go, Nx, hNx, step⟩
    · have td := T.done (X.blk s3 H3 scope ce fp) rfl rfl rfl hc i [] s5 _ H5 (fun _ _ => False) I5 (stat I5 n5) st5 stop
      refine thnF td fun r s6 ⟨hr, I6⟩ => ?_
      subst hr
      -- back in the def's context
      have I7 : Inv X pins σ H5 s6 := I3.call' (ch := fp) I6.os I6.base I6.hok I6.bare fun b hb => ⟨(f3 b hb).1.2.2.2.1, (f3 b hb).1.2.1, (f3 b hb).1.2.2.2.2.1, (f3 b hb).1.2.2.2.2.2⟩
      have nC : H5 s3.heap.objs.size = none := by
        have z : H5 ce.locals = none := I6.free
        rw [cL] at z
        exact z
      obtain ⟨m, hn, _⟩ := I6.loc
      have hn : s6.heap.Ns ce.locals m := hn
      rw [cL] at hn
      exact hRR D s3.heap.objs.size s6 m H5 I7 qq hn (I3.fpOk (Nat.le_refl _) nC)
    · have ti := T.item (X.blk s3 H3 scope ce fp) rfl rfl rfl hc i [] s5 _ H5 (fun _ _ => False) I5 (stat I5 n5) st5 go
      refine thnF ti fun r s6 ⟨u, hr, h6⟩ => ?_
      subst hr
      refine thnF h6 fun _ s7 ⟨x, H7, I7, r7, y7, st7, n7⟩ => ?_
      have I7' := I7.pinned (stat I7 n7) (T.obj _ _ st7)
      refine thnF (pg _ s7 _ H7 x u _ I7' r7 (step x H7 y7)) fun _ s8 ⟨σ8, H8, I8, hw8, q8⟩ => ?_
      refine thnF (pt _ s8 σ8 H8 _ I8 q8) fun b s9 ⟨H9, I9, q9⟩ => ?_
      -- the turn's end
      have fin : ∀ {s' : Shared} {H' : Hp}, Inv (X.blk s3 H3 scope ce fp) ([] ++ pinsAt fp s7.heap) σ8 H' s' → Nx H' → ∃ m, m < n ∧ ∃ i H', Inv (X.blk s3 H3 scope ce fp) [] (wipe σ (own.map (·.2))) H' s' ∧ tn i s'.heap ∧ (∀ b ∈ fp, H' b = none) ∧ W i m H' := fun {s' H'} I' nx => by
        obtain ⟨m', hm, w'⟩ := hNx H' nx
        have pin' : ∀ b ∈ fp, ∀ o, s7.heap.get? b = some o → s'.heap.get? b = some o ∧ H' b = none := fun b hb o e =>
          let z := I'.pin (b, o) (List.mem_append_right _ (List.mem_append_right _ (mem_pinsAt hb e)))
          ⟨z.1, z.2.1⟩
        have hl : (wipe σ (own.map (·.2))).length = σ8.length := by rw [← hw8, wipe_length]
        refine ⟨m', hm, i + 1, H', (I'.unpinned (pins := [])).weak hl (fun j v e => ?_), T.keep _ _ _ st7 fun b hb o e => (pin' b hb o e).1, fun b hb => ?_, w'⟩
        · rw [← hw8] at e
          exact (wipe_some e).1
        · obtain ⟨o, e, _⟩ := T.obj _ _ st7 b hb
          exact (pin' b hb o e).2
      cases b with
      | false =>
        simp only [Bool.false_eq_true, if_false] at q9 ⊢
        exact fin I9 q9
      | true =>
        simp only [if_true] at q9 ⊢
        refine thnF (pe _ s9 σ8 H9 _ I9 q9) fun z s10 ⟨yv, H10, I10, r10, acc, hD10, hz10, nx⟩ => ?_
        exact app_ok (X := X.blk s3 H3 scope ce fp) I10 hD10 hz10 r10 fun s11 I11 => fin I11 nx
  exact codeAny_compStart_list loop (T.self X.A 0 _ _ _ st4 loop)
/-- as a value -/
theorem pe_lc {elt tg iter : Expr} {ifs : List Expr} {scope : Scope} {own : List (Str × Nat)} {pos : Pos} {wi : TI} {g : TG} {tt : TT} {te : TE} (hc : X.calm = true) (hN : X.N.Nodup) (hi : PI X tg iter wi) (ok : BlkOk X.N X.env.scope scope own)
    (hg : ∀ (s : Shared) (H : Hp) (C : Addr) (cl : List (Str × Addr)) (fp : List Addr), PG (X.blk s H scope (compEnvC scope cl C X.env) fp) tg g) (ht : ∀ (s : Shared) (H : Hp) (C : Addr) (cl : List (Str × Addr)) (fp : List Addr), PTs (X.blk s H scope (compEnvC scope cl C X.env) fp) ifs tt)
    (he : ∀ (s : Shared) (H : Hp) (C : Addr) (cl : List (Str × Addr)) (fp : List Addr), PE (X.blk s H scope (compEnvC scope cl C X.env) fp) elt te) (hs : ∀ x, foldedSetIterable iter X.env x = pure x := by intro _; rfl) :
    PE X (.ListComp elt [⟨tg, iter, ifs, 0⟩] scope pos) (tLc wi g tt te (own.map (·.2))) := by
  intro pins s σ H Q I h
  rw [eval_ListComp]
  refine lc_core hc hN I hi ok hg ht he hs h fun D C s' m H' I' q hn f => ⟨m, hn, fun h'' sb => ?_⟩
  obtain ⟨f0, f1, f2, f3, f4, f5⟩ := f
  exact ⟨.ref D, H', I'.turned (t' := s'.toks) (fun b o hb e => (sb.2 b hb).trans e) f0 f1 f3 f4 f5, rfl, q⟩
/-- name = [..] on one line, the name a local -/
theorem ps_setLc {i : Nat} {y : Str} {py : Pos} {elt tg iter : Expr} {ifs : List Expr} {scope : Scope} {own : List (Str × Nat)} {pos spos : Pos} {wi : TI} {g : TG} {tt : TT} {te : TE} (hc : X.calm = true) (hN : X.N.Nodup) (hy : X.N[i]? = some y) (hyl : X.env.scope.names.lookup y = some .local)
    (hsw : swapsWith (.ListComp elt [⟨tg, iter, ifs, 0⟩] scope pos) (some (.Name y py)) spos.line X.env = pure true) (hi : PI X tg iter wi) (ok : BlkOk X.N X.env.scope scope own)
    (hg : ∀ (s : Shared) (H : Hp) (C : Addr) (cl : List (Str × Addr)) (fp : List Addr), PG (X.blk s H scope (compEnvC scope cl C X.env) fp) tg g) (ht : ∀ (s : Shared) (H : Hp) (C : Addr) (cl : List (Str × Addr)) (fp : List Addr), PTs (X.blk s H scope (compEnvC scope cl C X.env) fp) ifs tt)
    (he : ∀ (s : Shared) (H : Hp) (C : Addr) (cl : List (Str × Addr)) (fp : List Addr), PE (X.blk s H scope (compEnvC scope cl C X.env) fp) elt te) (hs : ∀ x, foldedSetIterable iter X.env x = pure x := by intro _; rfl) :
    PS X (.Assign [.Name y py] (.ListComp elt [⟨tg, iter, ifs, 0⟩] scope pos) spos) (tAsg (tLc wi g tt te (own.map (·.2))) (gName i)) := by
  intro pins s σ H D I h
  rw [exec_Assign_Name_used _ _ _ _ hsw]
  refine wpAny_bind (wpAny_standAt (wpAny_bind ?_))
  show wpAny _ X.A (do let _ ← comprehension (.ListComp elt [⟨tg, iter, ifs, 0⟩] scope pos) scope X.env (firstIterPos [⟨tg, iter, ifs, 0⟩] pos) (newList []) false (eval iter X.env) (some (assign (.Name y py) X.env))) _ _ s
  have h : tLc wi g tt te (own.map (·.2)) σ H (fun x H1 => gName i x σ H1 D.nx) := h
  refine wpAny_bind (thn (lc_core (Qf := fun _ s' => SP X pins D .next s') hc hN I hi ok hg ht he hs h fun L C s' m H' I' q hn f => ?_) fun _ s' hq => wpAny_pure (wpAny_pure hq))
  show wpAny _ _ (assign (.Name y py) X.env (.ref L)) _ _ _
  refine wpAny_assign_Name (store_ok2 (v := V.ref L) I' hN hy (.inl hyl) rfl (fun s2 I2 ⟨a, sb, ha⟩ => ?_) (.inr hyl))
  obtain ⟨f0, f1, f2, f3, f4, f5⟩ := f
  have haC : C ≠ a := by
    rcases ha with z | z
    · rw [z]; exact f1
    · exact fun e => f4 y a z e.symm
  refine ⟨m, hn.sameBut sb haC, fun h3 sb3 => ?_⟩
  exact ⟨_, H', I2.turned (t' := s2.toks) (fun b o hb e => (sb3.2 b hb).trans e) f0 f1 f3 f4 f5, q⟩
theorem sw_true {elt : Expr} {gs : List Comprehension} {scope : Scope} {pos py : Pos} {y : Str} {l : Nat} {env : Env} (hk : env.scope.kind = .function) (hy : env.scope.names.lookup y = some .local) (hl : (py.line == pos.line) = true)
    (ha : (scope.names.any fun (n, k) => n == y && (k == .local || k == .cell)) = false) : swapsWith (.ListComp elt gs scope pos) (some (.Name y py)) l env = pure true := by
  have ky : env.kindOf y = some .local := hy
  have hb : env.blockKind = .function := by unfold Env.blockKind; rw [hk]; rfl
  unfold swapsWith
  simp only [hb, ky, ha, Expr.pos, hl]
  rfl
end
/-- over a range: Pv by the turn and the heap (the new list at D within) -/
theorem lc_range {lo : Int} {n : Nat} {g : TG} {tt : TT} {te : TE} {vs : List Nat} {σ : St} {H1 : Hp} {D : Addr} {Qd : Hp → Prop} (Pv : Nat → Hp → Prop) (h0 : Pv 0 (upd H1 D (.lst [])))
    (hs : ∀ i H, i < n → Pv i H → g (.int (lo + i)) (wipe σ vs) H fun σ2 H2 => wipe σ2 vs = wipe σ vs ∧ tt σ2 H2 fun b H3 =>
      if b = true then te σ2 H3 fun y H4 => ∃ acc, H4 D = some (.lst acc) ∧ acc.length < sizeLine ∧ Pv (i + 1) (upd H4 D (.lst (acc ++ [y]))) else Pv (i + 1) H3) (hd : ∀ H, Pv n H → Qd H) :
    ∃ W : Nat → Nat → Hp → Prop, (∃ m, W 0 m (upd H1 D (.lst []))) ∧ ∀ i m H, W i m H →
      ((Itr lo n).stop i H ∧ Qd H) ∨ ((Itr lo n).go i H ∧ ∃ Nx : Hp → Prop, (∀ H', Nx H' → ∃ m', m' < m ∧ W (i + 1) m' H') ∧ ∀ x H', (Itr lo n).yld i H x H' → g x (wipe σ vs) H' fun σ2 H2 => wipe σ2 vs = wipe σ vs ∧ tt σ2 H2 fun b H3 =>
        if b = true then te σ2 H3 fun y H4 => ∃ acc, H4 D = some (.lst acc) ∧ acc.length < sizeLine ∧ Nx (upd H4 D (.lst (acc ++ [y]))) else Nx H3) := by
  refine ⟨fun i m H => m = n - i ∧ i ≤ n ∧ Pv i H, ⟨n, by simp, Nat.zero_le _, h0⟩, ?_⟩
  rintro i m H ⟨rfl, hi, p⟩
  by_cases hlt : i < n
  · refine .inr ⟨hlt, Pv (i + 1), fun H' p' => ⟨n - (i + 1), by lia, rfl, hlt, p'⟩, fun x H' y => ?_⟩
    obtain ⟨e, y⟩ := y
    subst e y
    exact hs i _ hlt p
  · have e : i = n := by lia
    subst e
    exact .inl ⟨Nat.le_refl _, hd H p⟩
/-- over a list that the block leaves as it is -/
theorem lc_list {K : PySem.W.Frag} {a : Addr} {xs : List V} {g : TG} {tt : TT} {te : TE} {vs : List Nat} {σ : St} {H1 : Hp} {D : Addr} {Qd : Hp → Prop} (Pv : Nat → Hp → Prop) (h0 : Pv 0 (upd H1 D (.lst []))) (hl : ∀ i H, i ≤ xs.length → Pv i H → SqL K H a xs)
    (hs : ∀ i x H, xs[i]? = some x → Pv i H → g x (wipe σ vs) H fun σ2 H2 => wipe σ2 vs = wipe σ vs ∧ tt σ2 H2 fun b H3 =>
      if b = true then te σ2 H3 fun y H4 => ∃ acc, H4 D = some (.lst acc) ∧ acc.length < sizeLine ∧ Pv (i + 1) (upd H4 D (.lst (acc ++ [y]))) else Pv (i + 1) H3) (hd : ∀ H, Pv xs.length H → Qd H) :
    ∃ W : Nat → Nat → Hp → Prop, (∃ m, W 0 m (upd H1 D (.lst []))) ∧ ∀ i m H, W i m H →
      ((Itl K a).stop i H ∧ Qd H) ∨ ((Itl K a).go i H ∧ ∃ Nx : Hp → Prop, (∀ H', Nx H' → ∃ m', m' < m ∧ W (i + 1) m' H') ∧ ∀ x H', (Itl K a).yld i H x H' → g x (wipe σ vs) H' fun σ2 H2 => wipe σ2 vs = wipe σ vs ∧ tt σ2 H2 fun b H3 =>
        if b = true then te σ2 H3 fun y H4 => ∃ acc, H4 D = some (.lst acc) ∧ acc.length < sizeLine ∧ Nx (upd H4 D (.lst (acc ++ [y]))) else Nx H3) := by
  refine ⟨fun i m H => m = xs.length - i ∧ i ≤ xs.length ∧ Pv i H, ⟨xs.length, by simp, Nat.zero_le _, h0⟩, ?_⟩
  rintro i m H ⟨rfl, hi, p⟩
  have q := hl i H hi p
  by_cases hlt : i < xs.length
  · refine .inr ⟨⟨xs, xs[i], q, by simp [hlt]⟩, Pv (i + 1), fun H' p' => ⟨xs.length - (i + 1), by lia, rfl, hlt, p'⟩, fun x H' y => ?_⟩
    obtain ⟨e, y⟩ := y
    subst e
    exact hs i x _ (y xs q) p
  · have e : i = xs.length := by lia
    subst e
    exact .inl ⟨⟨xs, q, Nat.le_refl _⟩, hd H p⟩
def blkC (N : List Str) (sc scope : Scope) (own : List (Str × Nat)) : Bool :=
  (match scope.kind with | .function => true | _ => false) && (scope.names.all fun y => decide (scope.names.lookup y.1 = some y.2)) && (own.all fun p => decide (N[p.2]? = some p.1)) &&
    (scope.names.all fun y => match y.2 with
      | .free => (match sc.names.lookup y.1 with | some .cell => true | some .free => true | _ => false)
      | .local => decide (y.1 ∈ own.map (·.1)) || decide (y.1 ∉ N)
      | .cell => decide (y.1 ∈ own.map (·.1)) || decide (y.1 ∉ N)
      | _ => true)
theorem blkOk_by {N : List Str} {sc scope : Scope} {own : List (Str × Nat)} (h : blkC N sc scope own = true) : BlkOk N sc scope own := by
  unfold blkC at h
  simp only [Bool.and_eq_true, List.all_eq_true, decide_eq_true_eq] at h
  obtain ⟨⟨⟨h1, h2⟩, h3⟩, h4⟩ := h
  refine ⟨?_, h2, h3, fun y hy e => ?_, fun y hy e => ?_⟩
  · split at h1
    · assumption
    · cases h1
  · have q := h4 y hy
    simp only [e] at q
    split at q <;> first | exact .inl (by assumption) | exact .inr (by assumption) | cases q
  · have q := h4 y hy
    rcases e with e | e <;> (simp only [e, Bool.or_eq_true, decide_eq_true_eq] at q; exact q)
end L2
namespace L2
open PySem PySem.Spec PyProof.Rows
section
variable {κ : Type} [DecidableEq κ]
def valV (kvs : List (κ × V)) (k : κ) : Option V := (kvs.find? fun kv => decide (kv.1 = k)).map (·.2)
/-- in its place, or at the end -/
def putK (kvs : List (κ × V)) (k : κ) (v : V) : List (κ × V) :=
  if (kvs.any fun kv => decide (kv.1 = k)) = true then kvs.map (fun kv => if kv.1 = k then (kv.1, v) else kv) else kvs ++ [(k, v)]
theorem valV_pos {p : κ × V} {r : List (κ × V)} {k : κ} (e : p.1 = k) : valV (p :: r) k = some p.2 := by simp [valV, List.find?_cons, e]
theorem valV_neg {p : κ × V} {r : List (κ × V)} {k : κ} (e : ¬ p.1 = k) : valV (p :: r) k = valV r k := by simp [valV, List.find?_cons, e]
theorem valV_any (k : κ) : ∀ kvs : List (κ × V), (kvs.any fun kv => decide (kv.1 = k)) = (valV kvs k).isSome
  | [] => rfl
  | p :: r => by
    rw [List.any_cons]
    by_cases e : p.1 = k
    · simp only [valV_pos e, decide_eq_true e, Bool.true_or, Option.isSome_some]
    · rw [valV_neg e, decide_eq_false e, Bool.false_or]; exact valV_any k r
theorem length_putK (kvs : List (κ × V)) (k : κ) (v : V) : (putK kvs k v).length ≤ kvs.length + 1 := by
  unfold putK
  split
  · rw [List.length_map]; lia
  · rw [List.length_append, List.length_cons, List.length_nil]; lia
theorem putK_new {kvs : List (κ × V)} {k : κ} (v : V) (h : valV kvs k = none) : putK kvs k v = kvs ++ [(k, v)] := by
  unfold putK
  rw [valV_any, h]
  exact if_neg (by decide)
theorem RelO.isSome_eq {o : Option V} {u : Option Value} (r : RelO o u) : o.isSome = u.isSome := by
  cases o with
  | none => cases u with
    | none => rfl
    | some _ => exact (show False from r).elim
  | some _ => cases u with
    | none => exact (show False from r).elim
    | some _ => rfl
theorem RelO.getD {o : Option V} {u : Option Value} {d : V} {d' : Value} (r : RelO o u) (rd : RelV d d') : RelV (o.getD d) (u.getD d') := by
  cases o with
  | none => cases u with
    | none => exact rd
    | some _ => exact (show False from r).elim
  | some _ => cases u with
    | none => exact (show False from r).elim
    | some _ => exact r
/-- raw tables of the same keys -/
theorem KV.val {kvs : List (κ × V)} {vs : List (κ × Value)} (r : KV kvs vs) (k : κ) : RelO (valV kvs k) (valueAt vs k) := by
  unfold KV at r
  induction r with
  | nil => exact True.intro
  | @cons p q ps qs h t ih =>
    obtain ⟨h1, h2⟩ := h
    by_cases e : p.1 = k
    · have e' : q.1 = k := h1.symm.trans e
      have b : valueAt (q :: qs) k = some q.2 := by simp [valueAt, List.find?_cons, e']
      rw [valV_pos e, b]; exact h2
    · have e' : ¬ q.1 = k := fun z => e (h1.trans z)
      have b : valueAt (q :: qs) k = valueAt qs k := by simp [valueAt, List.find?_cons, e']
      rw [valV_neg e, b]; exact ih
theorem KV.any {kvs : List (κ × V)} {vs : List (κ × Value)} (r : KV kvs vs) (k : κ) : (kvs.any fun kv => decide (kv.1 = k)) = vs.any fun kv => decide (kv.1 = k) := by
  unfold KV at r
  induction r with
  | nil => rfl
  | cons h t ih => rw [List.any_cons, List.any_cons, ih, h.1]
theorem KV.repl {kvs : List (κ × V)} {vs : List (κ × Value)} (r : KV kvs vs) (k : κ) {y : V} {u : Value} (ry : RelV y u) :
    KV (kvs.map fun kv => if kv.1 = k then (kv.1, y) else kv) (vs.map fun kv => if kv.1 = k then (kv.1, u) else kv) := by
  unfold KV at r ⊢
  induction r with
  | nil => exact .nil
  | @cons p q ps qs h t ih =>
    rw [List.map_cons, List.map_cons]
    refine .cons ?_ ih
    obtain ⟨h1, h2⟩ := h
    by_cases e : p.1 = k
    · rw [if_pos e, if_pos (h1.symm.trans e)]; exact ⟨h1, ry⟩
    · rw [if_neg e, if_neg (fun z => e (h1.trans z))]; exact ⟨h1, h2⟩
theorem KV.put {kvs : List (κ × V)} {vs : List (κ × Value)} (r : KV kvs vs) (k : κ) {y : V} {u : Value} (ry : RelV y u) : KV (putK kvs k y) (stored vs k u) := by
  unfold putK stored
  rw [r.any k]
  by_cases e : (vs.any fun kv => decide (kv.1 = k)) = true
  · rw [if_pos e, if_pos e]; exact r.repl k ry
  · rw [if_neg e, if_neg e]; exact Paired.snoc r ⟨rfl, ry⟩
theorem KV.length {kvs : List (κ × V)} {vs : List (κ × Value)} (r : KV kvs vs) : kvs.length = vs.length := Paired.length r
end
theorem kV_is {P : Program} {w : World} {k : Key} {u : Value} (r : RelV (kV k) u) : (mixKind P w).is k u = true := by
  cases k with
  | inl i => obtain ⟨t, e⟩ := (show ∃ t, u = Value.int i t from r); subst e; exact mixKind_int P w i t
  | inr x => obtain ⟨t, e⟩ := (show ∃ t, u = Value.str x t from r); subst e; exact mixKind_str P w x t
theorem items_are {P : Program} {w : World} : ∀ {ks : List Key} {us : List Value}, Vals (ks.map kV) us → ItemsAre (mixKind P w) ks us
  | [], _, r => by rw [List.map_nil] at r; cases r; exact .nil
  | k :: ks, _, r => by
    rw [List.map_cons] at r
    cases r with
    | cons h t => exact .cons (kV_is h) (items_are t)
/-- raw entries of a dict with tuple keys -/
abbrev KT (H : Hp) : List (List Key × V) → List (List Key × Addr × Value) → Prop := Paired fun p q => p.1 = q.1 ∧ H q.2.1 = some (.tup (p.1.map kV)) ∧ RelV p.2 q.2.2
theorem KT.val {H : Hp} {kvs : List (List Key × V)} {xs : List (List Key × Addr × Value)} (r : KT H kvs xs) (k : List Key) : RelO (valV kvs k) ((atKey xs k).map (·.2)) := by
  induction r with
  | nil => exact True.intro
  | @cons p q ps qs h t ih =>
    obtain ⟨h1, _, h2⟩ := h
    by_cases e : p.1 = k
    · have e' : q.1 = k := h1.symm.trans e
      have b : atKey (q :: qs) k = some q.2 := by simp [atKey, List.find?_cons, e']
      rw [valV_pos e, b]; exact h2
    · have e' : ¬ q.1 = k := fun z => e (h1.trans z)
      have b : atKey (q :: qs) k = atKey qs k := by simp [atKey, List.find?_cons, e']
      rw [valV_neg e, b]; exact ih
theorem KT.repl {H : Hp} {kvs : List (List Key × V)} {xs : List (List Key × Addr × Value)} (r : KT H kvs xs) (k : List Key) {y : V} {u : Value} (ry : RelV y u) :
    KT H (kvs.map fun kv => if kv.1 = k then (kv.1, y) else kv) (xs.map (putAt k u)) := by
  induction r with
  | nil => exact .nil
  | @cons p q ps qs h t ih =>
    rw [List.map_cons, List.map_cons]
    refine .cons ?_ ih
    obtain ⟨h1, h2, h3⟩ := h
    unfold putAt
    by_cases e : p.1 = k
    · rw [if_pos e, if_pos (h1.symm.trans e)]; exact ⟨h1, h2, ry⟩
    · rw [if_neg e, if_neg (fun z => e (h1.trans z))]; exact ⟨h1, h2, h3⟩
theorem KT.put {H : Hp} {kvs : List (List Key × V)} {xs : List (List Key × Addr × Value)} (r : KT H kvs xs) (k : List Key) {b : Addr} {y : V} {u : Value} (hb : H b = some (.tup (k.map kV))) (ry : RelV y u) :
    KT H (putK kvs k y) (storedH xs k b u) := by
  have e : (kvs.any fun kv => decide (kv.1 = k)) = (atKey xs k).isSome := by
    rw [valV_any, (r.val k).isSome_eq, Option.isSome_map]
  unfold putK storedH
  rw [e]
  by_cases q : (atKey xs k).isSome = true
  · rw [if_pos q, if_pos q]; exact r.repl k ry
  · rw [if_neg q, if_neg q]; exact Paired.snoc r ⟨rfl, hb, ry⟩
theorem KT.keeps {H H' : Hp} {kvs : List (List Key × V)} {xs : List (List Key × Addr × Value)} (r : KT H kvs xs) (ht : ∀ b ys, H b = some (.tup ys) → H' b = some (.tup ys)) : KT H' kvs xs :=
  Paired.mapP r fun _ _ z => ⟨z.1, ht _ _ z.2.1, z.2.2⟩
section
variable {P : Program} {w : World} {H : Hp} {h : Heap} {a : Addr}
theorem rd_of {u : HO} (ok : HOk P w H h) (e : Rd H a u) : ObjOk P w H h a u := e.ok ok
theorem dk_rd {kvs : List (Key × V)} (ok : HOk P w H h) (e : Rd H a (.dK kvs)) : kvs.length ≤ sizeLine ∧ (a == sysModules) = false ∧ ∃ vs, KV kvs vs ∧ h.DictOf (mixKind P w) a vs :=
  show ObjOk P w H h a (.dK kvs) from rd_of ok e
theorem dk_of {kvs : List (Key × V)} (ok : HOk P w H h) (e : H a = some (.dK kvs)) : kvs.length ≤ sizeLine ∧ (a == sysModules) = false ∧ ∃ vs, KV kvs vs ∧ h.DictOf (mixKind P w) a vs := dk_rd ok (.inl e)
/-- a tracked tuple of ints and texts is a key -/
theorem key_of {ks : List Key} (ok : HOk P w H h) (e : H a = some (.tup (ks.map kV))) : (tupleKind (mixKind P w)).is h ks a := by
  obtain ⟨_, its, r, o, h1, h2, n, h3⟩ := (show ObjOk P w H h a (.tup (ks.map kV)) from ok a _ e)
  exact ⟨o, its.toArray, n, h1, h2, h3, by simpa using items_are r⟩
theorem dt_rd {kvs : List (List Key × V)} (ok : HOk P w H h) (e : Rd H a (.dT kvs)) : kvs.length ≤ sizeLine ∧ (a == sysModules) = false ∧
    ∃ xs, KT H kvs xs ∧ h.DictOfH (tupleKind (mixKind P w)) a xs := by
  obtain ⟨z, y, xs, r, o, es, ep, h1, h2, h3, h4, h5⟩ := (show ObjOk P w H h a (.dT kvs) from rd_of ok e)
  refine ⟨z, y, xs, r, o, es, ep, h1, h2, h3, h4, fun x hx => ?_, h5⟩
  have all : ∀ {l : List (List Key × V)} {m : List (List Key × Addr × Value)}, KT H l m → ∀ x ∈ m, (tupleKind (mixKind P w)).is h x.1 x.2.1 := by
    intro l m q
    induction q with
    | nil => intro x hx; exact nomatch hx
    | @cons p q ps qs hq t ih =>
      intro x hx
      rcases List.mem_cons.mp hx with e | hx
      · subst e
        exact key_of ok (by rw [← hq.1]; exact hq.2.1)
      · exact ih x hx
  exact all r x hx
theorem dt_of {kvs : List (List Key × V)} (ok : HOk P w H h) (e : H a = some (.dT kvs)) : kvs.length ≤ sizeLine ∧ (a == sysModules) = false ∧
    ∃ xs, KT H kvs xs ∧ h.DictOfH (tupleKind (mixKind P w)) a xs := dt_rd ok (.inl e)
end
/-- what the dict at a holds at the key y -/
def DGet (H : Hp) (a : Addr) (y : V) (r : Option V) : Prop :=
  (∃ kvs k, Rd H a (.dK kvs) ∧ y = kV k ∧ r = valV kvs k) ∨ ∃ kvs k b, Rd H a (.dT kvs) ∧ y = .ref b ∧ H b = some (.tup (k.map kV)) ∧ r = valV kvs k
/-- the heap behind a[y] = v -/
def DPut (H : Hp) (a : Addr) (y v : V) (H' : Hp) : Prop :=
  (∃ kvs k, H a = some (.dK kvs) ∧ y = kV k ∧ kvs.length < sizeLine ∧ H' = upd H a (.dK (putK kvs k v))) ∨
  ∃ kvs k b, H a = some (.dT kvs) ∧ y = .ref b ∧ H b = some (.tup (k.map kV)) ∧ kvs.length < sizeLine ∧ H' = upd H a (.dT (putK kvs k v))
theorem DGet.k {H : Hp} {a : Addr} {kvs : List (Key × V)} {k : Key} (e : H a = some (.dK kvs)) : DGet H a (kV k) (valV kvs k) := .inl ⟨kvs, k, .inl e, rfl, rfl⟩
theorem DPut.k {H : Hp} {a : Addr} {kvs : List (Key × V)} {k : Key} {v : V} (e : H a = some (.dK kvs)) (hl : kvs.length < sizeLine) : DPut H a (kV k) v (upd H a (.dK (putK kvs k v))) := .inl ⟨kvs, k, e, rfl, hl, rfl⟩
section
variable {X : Cx} {pins : List (Addr × Obj)} {σ : St} {H : Hp} {s : Shared} {a : Addr} {y v : V} {u r : Value} {o : Option V} {A : Around} {E : Value → Shared → Prop}
theorem Inv.big (I : Inv X pins σ H s) : sysModules < s.heap.objs.size := by
  have h : mainGlobals < s.heap.objs.size := (I.mod.glob.keeps I.bk).lt
  exact Nat.lt_trans (by decide) h
/-- d[y], there -/
theorem d_getItem {Q : Value → Shared → Prop} (hu : A.units + 1 < cLine) (I : Inv X pins σ H s) (g : DGet H a y (some v)) (ry : RelV y u) (h : ∀ w' s', Inv X pins σ H s' → RelV v w' → Q w' s') :
    wpAny (model X.prog X.w) A (getItem (.ref a) u) Q E s := by
  rcases g with ⟨kvs, k, e, ey, l⟩ | ⟨kvs, k, b, e, ey, eb, l⟩
  · subst ey
    obtain ⟨z, hd, vs, rel, dd⟩ := dk_rd I.hok e
    obtain ⟨w', hw, rw'⟩ := RelO.some_of (v := v) (o := valueAt vs k) (by rw [l]; exact rel.val k)
    exact wpAny_getItem_of (kV_is ry) dd.mapOf hw (h w' _ (I.tok _) rw')
  · subst ey
    cases (show u = Value.ref b from ry)
    obtain ⟨z, hd, xs, rel, dd⟩ := dt_rd I.hok e
    obtain ⟨w', hw, rw'⟩ := RelO.some_of (v := v) (o := (atKey xs k).map (·.2)) (by rw [l]; exact rel.val k)
    obtain ⟨p, hp, hp2⟩ := Option.map_eq_some_iff.mp hw
    refine wpAny_getItem_heap (tupleKind_room_in1 hu) (key_of I.hok eb) dd hp ?_
    rw [hp2]
    exact h w' _ (I.tok _) rw'
/-- a dict's object is replaced -/
theorem d_write {h' : Heap} {t' : Nat} {ob : HO} (I : Inv X pins σ H s) (mu : Mut (H a)) (hs : Heap.SameBut a s.heap h') (he : ∃ q, h'.get? a = some q) (new : ObjOk X.prog X.w (upd H a ob) h' a ob) :
    Inv X pins σ (upd H a ob) { s with heap := h', toks := t' } :=
  I.write (x := a) (e := a) mu (.inl rfl) (fun b q hb z => (hs.2 b hb).trans z) he new
theorem dk_new {P : Program} {w : World} {H' : Hp} {h' : Heap} {kvs : List (Key × V)} {vs : List (Key × Value)} (z : kvs.length ≤ sizeLine) (hd : (a == sysModules) = false) (rel : KV kvs vs) (dd : h'.DictOf (mixKind P w) a vs) :
    ObjOk P w H' h' a (.dK kvs) := ⟨z, hd, vs, rel, dd⟩
/-- d[y] = v -/
theorem d_setItem {H' : Hp} {Q : Unit → Shared → Prop} (hu : A.units + 1 < cLine) (I : Inv X pins σ H s) (g : DPut H a y v H') (ry : RelV y u) (rv : RelV v r) (h : ∀ s', Inv X pins σ H' s' → Q () s') :
    wpAny (model X.prog X.w) A (setItem (.ref a) u r) Q E s := by
  rcases g with ⟨kvs, k, e, ey, l, eH⟩ | ⟨kvs, k, b, e, ey, eb, l, eH⟩
  · subst ey eH
    obtain ⟨z, hd, vs, rel, dd⟩ := dk_of I.hok e
    have hz : vs.length ≤ sizeLine := by rw [← rel.length]; exact z
    have hl : (putK kvs k v).length ≤ sizeLine := by have := length_putK kvs k v; lia
    refine wpAny_setItem_pairs (hsz := hz) (kV_is ry) dd fun h' dd' hs => h _ ?_
    have he : ∃ q, h'.get? a = some q := let ⟨q, _, _, hq, _⟩ := dd'; ⟨q, hq⟩
    exact d_write I (by rw [e]; exact True.intro) hs he (dk_new hl hd (rel.put k rv) dd')
  · subst ey eH
    cases (show u = Value.ref b from ry)
    obtain ⟨z, hd, xs, rel, dd⟩ := dt_of I.hok e
    have hz : xs.length ≤ sizeLine := by rw [← Paired.length rel]; exact z
    have hl : (putK kvs k v).length ≤ sizeLine := by have := length_putK kvs k v; lia
    refine wpAny_setItem_heap (hsz := hz) (tupleKind_room_in1 hu) (key_of I.hok eb) dd fun h' dd' hs => h _ ?_
    obtain ⟨q, es, ep, hq, h2, h3, h4, _, h5⟩ := dd'
    refine d_write I (by rw [e]; exact True.intro) hs ⟨q, hq⟩ ⟨hl, hd, _, (rel.put k eb rv).keeps fun c ys ec => ?_, q, es, ep, hq, h2, h3, h4, h5⟩
    rw [upd_ne (ne_of ec e (fun z => nomatch z))]
    exact ec
end
/-- the element of a subscription, not a slice -/
def NoSl (i : Expr) : Prop := ∀ ov iv, subscripted i false ov iv = operate [ov, iv] (getItem ov iv)
theorem subD_of {prog : Program} {w : World} {A : Around} {E : Value → Shared → Prop} {s : Shared} {env : Env} {value slice : Expr} {pos : Pos} {T id : String} {Q : Value → Shared → Prop}
    (hl : typeLookup (.type T) "__getitem__" = pure (some (.builtin id))) (hs : NoSl slice)
    (h : wpAny (model prog w) A (eval value env) (fun o s₁ => wpAny (model prog w) A (eval slice env) (fun i s₂ => s₂.TypeIs o T ∧ wpAny (model prog w) A (getItem o i) Q E s₂) E s₁) E s) :
    wpAny (model prog w) A (eval (.Subscript value slice pos) env) Q E s := by
  refine Subscript_ (wpAny_mono h (fun o s₁ h₁ => wpAny_mono h₁ (fun i s₂ h₂ => ?_) fun _ _ x => x) fun _ _ x => x)
  obtain ⟨hT, h₂⟩ := h₂
  unfold subscriptTail
  refine wpAny_bind ?_
  rw [getitemInPython_of_ne hT.not_modules]
  refine wpAny_bind (wpAny_specialOf hT hl ?_)
  have fin : wpAny (model prog w) A (subscripted slice false o i) (fun r s₃ => wpAny (model prog w) A (letTemporaryGo value o r >>= fun _ => pure r) Q E s₃) E s₂ := by
    rw [hs o i]
    exact wpAny_operating (wpAny_mono h₂ (fun r s₃ h₃ => wpAny_bind (wpAny_letTemporaryGo (wpAny_pure h₃))) fun _ _ x => x)
  first
    | exact wpAny_pure (wpAny_bind fin)
    | exact wpAny_bind (wpAny_pure (wpAny_bind fin))
    | exact wpAny_bind fin
theorem dict_typeIs {X : Cx} {pins : List (Addr × Obj)} {σ : St} {H : Hp} {s : Shared} {a : Addr} {y : V} {o : Option V} (I : Inv X pins σ H s) (g : DGet H a y o) : s.TypeIs (.ref a) "dict" := by
  rcases g with ⟨kvs, k, e, _, _⟩ | ⟨kvs, k, b, e, _, _, _⟩
  · obtain ⟨_, _, vs, _, dd⟩ := dk_rd I.hok e
    exact dd.typeIs
  · obtain ⟨_, _, xs, _, dd⟩ := dt_rd I.hok e
    exact dd.typeIs
/-- d[y] -/
def tDGet (td ty : TE) : TE := fun σ H Q => td σ H fun x H1 => ty σ H1 fun y H2 => ∃ a v, x = .ref a ∧ DGet H2 a y (some v) ∧ Q v H2
/-- d[y] = v -/
def sDPut (td ty tv : TE) : TS := fun D σ H => tv σ H fun v H1 => td σ H1 fun x H2 => ty σ H2 fun y H3 => ∃ a H4, x = .ref a ∧ DPut H3 a y v H4 ∧ D.nx σ H4
section
variable {X : Cx} {o i e value : Expr} {pos pos' tpos : Pos} {td ty tv : TE}
theorem pe_dget (hu : X.A.units + 1 < cLine) (ho : PE X o td) (hi : PE X i ty) (hs : NoSl i) : PE X (.Subscript o i pos) (tDGet td ty) := by
  intro pins s σ H Q I h
  refine subD_of PySem.F.slot_dict_getitem.lookup hs (thn (ho pins s σ H _ I h) fun u s1 ⟨x, H1, I1, rx, q1⟩ => thn (hi pins s1 σ H1 _ I1 q1) fun iv s2 ⟨y, H2, I2, ry, a, v, ex, g, q2⟩ => ?_)
  subst ex
  obtain rfl : u = Value.ref a := rx
  exact ⟨dict_typeIs I2 g, d_getItem hu I2 g ry fun w' s3 I3 rw' => ⟨v, H2, I3, rw', q2⟩⟩
theorem ps_dput (hu : X.A.units + 1 < cLine) (ho : PE X o td) (hi : PE X i ty) (hv : PE X value tv) (hs : swapsWith value (some (.Subscript o i pos')) pos.line X.env = pure false) :
    PS X (.Assign [.Subscript o i pos'] value pos) (sDPut td ty tv) := by
  intro pins s σ H D I h
  refine wpAny_Assign_Subscript (thn (hv pins s σ H _ I h) fun r s1 ⟨v, H1, I1, rv, q1⟩ => thn (ho pins s1 σ H1 _ I1 q1) fun u s2 ⟨x, H2, I2, rx, q2⟩ => thn (hi pins s2 σ H2 _ I2 q2) fun iv s3 ⟨y, H3, I3, ry, a, H4, ex, g, q3⟩ => ?_) hs
  subst ex
  obtain rfl : u = Value.ref a := rx
  exact d_setItem hu I3 g ry rv fun s4 I4 => ⟨σ, H4, I4, q3⟩
end
theorem dk_empty {P : Program} {w : World} {H : Hp} (h : Heap) (hb : sysModules < h.objs.size) : ObjOk P w H (h.push { cls := .type "dict", data := .dict #[] }) h.objs.size (.dK []) :=
  ⟨Nat.zero_le _, beq_eq_false_iff_ne.mpr (Ne.symm (Nat.ne_of_lt hb)), [], .nil, Heap.DictOf.new h⟩
/-- {}, to be a dict of the kind that is wanted -/
def tDNewK : TE := fun _ H Q => ∀ p, H p = none → Q (.ref p) (upd H p (.dK []))
section
variable {X : Cx} {pos : Pos}
theorem pe_dnewK : PE X (.Dict [] [] pos) tDNewK := fun pins s σ H Q I h =>
  wpAny_Dict_empty ⟨.ref s.heap.objs.size, _, I.laid (a := s.heap.objs.size) (o := .dK []) (t' := s.toks) (fun _ _ q => Heap.get?_push_of_some _ q) (Nat.le_refl _) (dk_empty s.heap I.big), rfl, h _ (I.hok.fresh (Nat.le_refl _))⟩
end
structure M2 (X : Cx) (o : Expr) (m : Str) (apos : Pos) (e f : Expr) (cpos : Pos) : Prop where
  base : attributeBase o m X.env (eval o X.env) = eval o X.env
  few : ((backTo cpos (starEach [e, f] X.env)).all (fun x => !x.1) && (backToKw cpos (keywordEach [] X.env)).all (fun x => x.1.isSome)
    && decide (([e, f] : List Expr).length + ([] : List Keyword).length + (if ([] : List Keyword).isEmpty then 0 else 1) < 30)) = true
  line : (apos.endLine == cpos.line) = true
  trees : backTo cpos (starEach [e, f] X.env) = [(false, eval e X.env), (false, eval f X.env)]
/-- a is a dict, whatever its keys -/
def IsD (H : Hp) (a : Addr) : Prop := (∃ kvs, Rd H a (.dK kvs)) ∨ ∃ kvs, Rd H a (.dT kvs)
theorem isD_at {X : Cx} {pins : List (Addr × Obj)} {σ : St} {H : Hp} {s : Shared} {a : Addr} (I : Inv X pins σ H s) (d : IsD H a) :
    s.TypeIs (.ref a) "dict" ∧ (∀ b, Value.ref a = .ref b → ∃ ob, s.heap.get? b = some ob ∧ ob.dict = none) ∧ (a == sysModules) = false := by
  rcases d with ⟨kvs, e⟩ | ⟨kvs, e⟩
  · obtain ⟨_, hd, vs, _, dd⟩ := dk_rd I.hok e
    refine ⟨dd.typeIs, fun b q => ?_, hd⟩
    cases q
    obtain ⟨ob, _, _, h1, h2, _⟩ := dd
    exact ⟨ob, h1, h2.2.1⟩
  · obtain ⟨_, hd, xs, _, dd⟩ := dt_rd I.hok e
    refine ⟨dd.typeIs, fun b q => ?_, hd⟩
    cases q
    obtain ⟨ob, _, _, h1, h2, _⟩ := dd
    exact ⟨ob, h1, h2.2.1⟩
section
variable {X : Cx} {pins : List (Addr × Obj)} {σ : St} {H : Hp} {s : Shared} {a : Addr} {y d : V} {u r : Value} {o : Option V} {A : Around} {E : Value → Shared → Prop}
/-- d.get(y, x) -/
theorem d_get2 {Q : Value → Shared → Prop} (hu : A.units + 1 < cLine) (I : Inv X pins σ H s) (g : DGet H a y o) (ry : RelV y u) (rd : RelV d r) (h : ∀ w' s', Inv X pins σ H s' → RelV (o.getD d) w' → Q w' s') :
    wpAny (model X.prog X.w) A (call (.builtin "dict.get") [.ref a, u, r]) Q E s := by
  rcases g with ⟨kvs, k, e, ey, l⟩ | ⟨kvs, k, b, e, ey, eb, l⟩
  · subst ey
    obtain ⟨z, hd, vs, rel, dd⟩ := dk_rd I.hok e
    refine call_meetsIn PySem.F.slot_dict_get dd.typeIs PySem.F.entry_dict_get (PySem.F.args_dict_get_3 _ _ _) (meets_dict_get_default (mixKind X.prog X.w) a (kV_is ry) hd r) ⟨_, dd.mapOf, h _ _ (I.tok _) ?_⟩
    rw [l]
    exact (rel.val k).getD rd
  · subst ey
    cases (show u = Value.ref b from ry)
    obtain ⟨z, hd, xs, rel, dd⟩ := dt_rd I.hok e
    refine call_meetsIn PySem.F.slot_dict_get dd.typeIs PySem.F.entry_dict_get (PySem.F.args_dict_get_3 _ _ _) (meetsH_dict_get_default (tupleKind (mixKind X.prog X.w)) a b hd r) ⟨tupleKind_room_in1 hu, k, xs, key_of I.hok eb, dd, h _ _ (I.tok _) ?_⟩
    rw [l]
    exact (rel.val k).getD rd
end
def tDGet2 (td ty tx : TE) : TE := fun σ H Q => td σ H fun x H1 => ∃ a, x = .ref a ∧ IsD H1 a ∧ ty σ H1 fun y H2 => tx σ H2 fun z H3 => ∃ o, DGet H3 a y o ∧ Q (o.getD z) H3
section
variable {X : Cx} {o e f : Expr} {apos cpos : Pos} {td ty tx : TE}
theorem pe_dget2 (hu : X.A.units + 1 < cLine) (ho : PE X o td) (he : PE X e ty) (hf : PE X f tx) (m : M2 X o "get" apos e f cpos) : PE X (.Call (.Attribute o "get" apos) [e, f] [] cpos) (tDGet2 td ty tx) := by
  intro pins s σ H Q I h
  refine wpAny_Call_method m.base m.few m.line PySem.F.plainAttrs_dict PySem.F.slot_dict_get PySem.F.type_dict_get (thn (ho pins s σ H _ I h) fun u s1 ⟨x, H1, I1, rx, a, ex, d, q1⟩ => ?_)
  subst ex
  obtain rfl : u = Value.ref a := rx
  obtain ⟨t1, t2, _⟩ := isD_at I1 d
  refine ⟨t1, t2, ?_⟩
  rw [m.trees]
  refine Calls.callWith_builtin rfl (Calls.evalArgs_plain (Calls.spliced_cons (thn (he pins s1 σ H1 _ I1 q1) fun iv s2 ⟨y, H2, I2, ry, q2⟩ =>
    Calls.spliced_cons (thn (hf pins s2 σ H2 _ I2 q2) fun fv s3 ⟨z, H3, I3, rz, ov, g, q3⟩ => Calls.spliced_nil ?_))))
  exact d_get2 hu I3 g ry rz fun w' s4 I4 rw' => ⟨_, H3, I4, rw', q3⟩
end
end L2
namespace L2
open PySem PySem.Spec PyProof.Rows
theorem boot_reversed5 : bootBuiltins "reversed" = some (.type "reversed") := by decide +kernel
section
variable {X : Cx} {pins : List (Addr × Obj)} {σ : St} {H : Hp} {s : Shared} {h' : Heap}
/-- .. and one new object is laid -/
theorem Inv.turnedNew {t' : Nat} {ch : List Addr} {T : Addr} {ob : HO} (I : Inv X pins σ H s) (k : ∀ b o, b ∉ ch → s.heap.get? b = some o → h'.get? b = some o) (hf : ∀ b ∈ ch, FpOk X pins H b) (hT : s.heap.objs.size ≤ T)
    (new : ObjOk X.prog X.w (upd H T ob) h' T ob) : Inv X pins σ (upd H T ob) { s with heap := h', toks := t' } := by
  have hn : H T = none := I.hok.fresh hT
  have nit : ∀ b u, H b = some u → b ∉ ch := fun b u e z => by
    have q := (hf b z).1
    rw [q] at e; cases e
  refine I.step (g' := s.gens) (d' := s.drawn) (ch := ch) (fun b hb => ⟨(hf b hb).2.2.2.1, (hf b hb).2.1, (hf b hb).2.2.2.2.1, (hf b hb).2.2.2.2.2⟩) (fun b o _ _ hc e _ => k b o hc e) (fun b o _ _ hc e _ => ⟨o.slots, k b o hc e⟩)
    (fun b o _ e n => ?_) (fun b o hc e => ⟨o, k b o hc e⟩) (fun b xs e => ?_) (fun b o u e => ?_) (fun b ps e => ⟨#[], ?_⟩) (fun m hm => ?_) (fun b u e => ?_) I.bare
  · rw [upd_ne (Nat.ne_of_lt (Nat.lt_of_lt_of_le (Heap.lt_size e) hT))]; exact n
  · rw [upd_ne (ne_of_none e hn)]; exact e
  · rw [upd_ne (ne_of_none e hn)]; exact e
  · rw [upd_ne (ne_of_none e hn), e]; simp
  · obtain ⟨o, es, ep, ho, r⟩ := hm
    exact ⟨o, es, ep, k _ o (fun z => (hf _ z).2.1 rfl) ho, r⟩
  · by_cases hb : b = T
    · subst hb
      rw [upd_same] at e
      cases e
      exact new
    · rw [upd_ne hb] at e
      refine (I.hok b u e).stay (fun c v hc q => k c v ?_ q) (fun c q => by rw [upd_ne (ne_of_none q hn)]; exact q) fun c xs q => by rw [upd_ne (ne_of_none q hn)]; exact q
      rcases hc with z | z
      · rw [z]; exact nit b u e
      · exact nit c _ z
theorem Inv.lock {d : Addr} {u : HO} (I : Inv X pins σ H s) (h : H d = some u) (mu : Mut (some u)) : ∃ od, Inv X pins σ (upd H d (.frz od u)) s := by
  have x := I.hok d u h
  have ex : ∃ od, s.heap.get? d = some od := by
    cases u with
    | lst xs => obtain ⟨_, _, _, _, e⟩ := x; exact ⟨_, e⟩
    | dK kvs => obtain ⟨_, _, _, _, o, _, _, e, _⟩ := x; exact ⟨o, e⟩
    | dT kvs => obtain ⟨_, _, _, _, o, _, _, e, _⟩ := x; exact ⟨o, e⟩
    | set S n => obtain ⟨o, _, _, _, e, _⟩ := x; exact ⟨o, e⟩
    | ins C dx fs => obtain ⟨_, _, _, e, _⟩ := x; exact ⟨_, e⟩
    | ext φ => obtain ⟨_, ⟨_, e⟩, _⟩ := x; exact ⟨_, e⟩
    | _ => exact False.elim mu
  obtain ⟨od, e⟩ := ex
  have new : ObjOk X.prog X.w (upd H d (.frz od u)) s.heap d (.frz od u) := by
    refine ⟨e, x.stay (fun b v _ q => q) (fun b q => ?_) fun b xs q => ?_⟩
    · rw [upd_ne (fun z => by rw [z, h] at q; cases q; exact mu)]; exact q
    · rw [upd_ne (fun z => by rw [z, h] at q; cases q; exact mu)]; exact q
  exact ⟨od, I.write (x := d) (e := d) (t' := s.toks) (h' := s.heap) (by rw [h]; exact mu) (.inl rfl) (fun b v _ q => q) ⟨od, e⟩ new⟩
theorem Inv.nofrz {d : Addr} {u : HO} (I : Inv X pins σ H s) (h : H d = some u) (mu : Mut (some u)) : ∀ o' u', X.H_0 d ≠ some (.frz o' u') := fun o' u' e => by
  have q := I.base.frzs d o' u' e
  rw [h] at q
  cases q
  exact mu
theorem Inv.unlock {d : Addr} {od : Obj} {u : HO} (I : Inv X pins σ H s) (h : H d = some (.frz od u)) (hn : ∀ o' u', X.H_0 d ≠ some (.frz o' u')) : Inv X pins σ (upd H d u) s := by
  have neH : ∀ b o, H b = some o → (∀ o' u', o ≠ .frz o' u') → b ≠ d := fun b o e hne z => by
    rw [z, h] at e
    cases e
    exact hne _ _ rfl
  have neN : ∀ b, H b = none → b ≠ d := fun b e z => by rw [z, h] at e; cases e
  refine ⟨I.ok, I.os, I.bare, ⟨I.base.keep, I.base.slot, fun b o e n hx => ?_, I.base.there, fun b xs e => ?_, fun b o x e => ?_, fun b ps e => ?_⟩, I.loc, I.cell, ?_, fun x c e => ?_, fun p hp => ?_, fun b o e => ?_, I.len⟩
  · rw [upd_ne (neN b (I.base.free b o e n hx))]; exact I.base.free b o e n hx
  · have q := I.base.tups b xs e
    rw [upd_ne (neH b _ q (fun _ _ z => nomatch z))]; exact q
  · have q := I.base.frzs b o x e
    rw [upd_ne (fun z => by rw [z] at e; exact hn _ _ e)]; exact q
  · obtain ⟨m, q⟩ := I.base.tbls b ps e
    exact ⟨m, by rw [upd_ne (neH b _ q (fun _ _ z => nomatch z))]; exact q⟩
  · rw [upd_ne (neN _ I.free)]; exact I.free
  · rw [upd_ne (neN c (I.freeC x c e))]; exact I.freeC x c e
  · obtain ⟨e, n, r⟩ := I.pin p hp
    exact ⟨e, by rw [upd_ne (neN _ n)]; exact n, r⟩
  · by_cases hb : b = d
    · rw [hb, upd_same] at e
      cases e
      rw [hb]
      obtain ⟨_, x⟩ := I.hok d _ h
      exact x.stay (fun c v _ q => q) (fun c q => by rw [upd_ne (neH c _ q (fun _ _ z => nomatch z))]; exact q) fun c xs q => by rw [upd_ne (neH c _ q (fun _ _ z => nomatch z))]; exact q
    · rw [upd_ne hb] at e
      exact (I.hok b o e).stay (fun c v _ q => q) (fun c q => by rw [upd_ne (neH c _ q (fun _ _ z => nomatch z))]; exact q) fun c xs q => by rw [upd_ne (neH c _ q (fun _ _ z => nomatch z))]; exact q
end
def tLockE (t : TE) : TE := fun σ H Q => ∃ d u, H d = some u ∧ Mut (some u) ∧ ∀ od, t σ (upd H d (.frz od u)) fun v H' => H' d = some (.frz od u) ∧ Q v (upd H' d u)
section
variable {X : Cx}
theorem pe_lock {e : Expr} {t : TE} (h : PE X e t) : PE X e (tLockE t) := by
  intro pins s σ H Q I hw
  obtain ⟨d, u, hd, mu, hw⟩ := hw
  obtain ⟨od, I1⟩ := I.lock hd mu
  refine thn (h pins s σ _ _ I1 (hw od)) fun v s1 ⟨x, H1, I2, r, e2, q⟩ => ?_
  exact ⟨x, _, I2.unlock e2 (I.nofrz hd mu), r, q⟩
theorem pi_one {tg : Expr} {pins : List (Addr × Obj)} {σ : St} {H : Hp} {s : Shared} {R : It → Hp → Prop} {J : It} {tn : Nat → Heap → Prop} {tk : Nat} (I : Inv X pins σ H s) (o : Obj)
    (T : Turn X.prog X.w X.K tg J [s.heap.objs.size] s.heap.objs.size tn) (st : tn 0 (s.heap.push o)) (q : R J H) : PIE X pins σ tg R (.ref s.heap.objs.size) { s with heap := s.heap.push o, toks := tk } := by
  refine ⟨s.heap.objs.size, [s.heap.objs.size], tn, J, H, rfl, I.kept fun b ob e => Heap.get?_push_of_some _ e, T, st, fun b hb => ?_, q⟩
  have e : b = s.heap.objs.size := by simpa using hb
  subst e
  exact I.fpOk (Nat.le_refl _) (I.hok.fresh (Nat.le_refl _))
end
/-- lo, lo + c, .. (n of them) -/
def Itc (lo c : Int) (n : Nat) : It := ⟨fun i _ => i < n, fun i H x H' => H' = H ∧ x = .int (lo + (i : Nat) * c), fun i _ => n ≤ i⟩
theorem turn_rangeC {P : Program} {w : World} {K : PySem.W.Frag} {tg : Expr} (it : Addr) (lo c : Int) (n : Nat) : Turn P w K tg (Itc lo c n) [it] it (fun i h => IsRangeIter h it (lo + (i : Nat) * c) ((n : Int) - (i : Nat)) c) where
  mem := by simp
  obj := fun i h st b hb => by
    have e : b = it := by simpa using hb
    subst e
    exact ⟨_, st, fun v z => nomatch z⟩
  keep := fun i h h' st k => k it (by simp) _ st
  item := by
    intro X hP hw hK hc i pins s σ H E I hf st hg
    subst hP hw hK
    obtain ⟨f0, f1, f2, f3, f4, f5⟩ := hf it (by simp)
    have W := Walks.range (prog := X.prog) (w := X.w) (I.ok.hd hc) it lo c n
    refine W.item i s _ _ hg st fun v h' tk hv st' kk => ?_
    obtain ⟨t, rfl⟩ := hv
    have I1 : Inv X pins σ H { s with heap := h', toks := tk } := I.turned (fun b o hb e => kk b o (by simpa using hb) e) f0 f1 f3 f4 f5
    exact ⟨_, rfl, go_of (s := { s with heap := h', toks := tk }) (n := "range_iterator") st' rfl rfl (by decide) ⟨.int (lo + (i : Nat) * c), H, I1, ⟨t, rfl⟩, ⟨rfl, rfl⟩, st', fun b hb => (hf b hb).1⟩⟩
  done := by
    intro X hP hw hK hc i pins s σ H E I hf st hg
    subst hP hw hK
    obtain ⟨f0, f1, f2, f3, f4, f5⟩ := hf it (by simp)
    exact wpAny_pyNext_range_end (I.ok.hd hc) st (by have : n ≤ i := hg; lia) fun h' eb => ⟨rfl, I.turned (t' := s.toks) (fun b o hb e => eb b o hb e) f0 f1 f3 f4 f5⟩
  self := fun A i s Q E st h => wpAny_pyIter_rangeiter st h
/-- range(i, j, c): small bounds, n items -/
def RgC (i j c : Int) (n : Nat) : Prop := c ≠ 0 ∧ c.natAbs < 1073741824 ∧ Builtin.Range.small i j c = true ∧ Builtin.Range.rangeSize i j c = n
theorem RgC.neg {i j : Int} (ha : -(2 ^ 62) ≤ i) (ha' : i < 2 ^ 62) (hb : -(2 ^ 62) ≤ j) (hb' : j < 2 ^ 62) : RgC i j (-1) (i - j).toNat :=
  ⟨by decide, by decide, PySem.W.small_down ha ha' hb hb', PySem.W.rangeSize_downNat i j⟩
def iRng3 (ta : TA) : TI := fun σ H R => ta σ H fun vs H1 => ∃ (i j c : Int) (n : Nat), vs = [.int i, .int j, .int c] ∧ RgC i j c n ∧ R (Itc i c n) H1
section
variable {X : Cx} {tg : Expr}
theorem pi_range3 {a b c : Expr} {ta : TA} {p pos : Pos} (hg : Gl X "range") (hm : X.mg "range" = none) (ha : PA X [a, b, c] ta)
    (hs : starEach [a, b, c] X.env = (false, eval a X.env) :: starEach [b, c] X.env := by rfl) (hpl : (backTo pos (starEach [b, c] X.env)).any (·.1) = false := by rfl) :
    PI X tg (.Call (.Name "range" p) [a, b, c] [] pos) (iRng3 ta) := by
  intro pins s σ H R I h
  refine Call_ (ld_blt I hg hm boot_range (PyProof.Rows.callWith_type1 (thn (ha pos pins s σ H _ I h) fun us s1 ⟨vs, H1, I1, r1, q1⟩ => ?_) hs hpl))
  obtain ⟨i, j, k, n, e, ⟨c0, c1, c2, c3⟩, q⟩ := q1
  subst e
  cases r1 with
  | cons r rr =>
    cases rr with
    | cons r' rr =>
      cases rr with
      | cons r'' rr =>
        cases rr
        obtain ⟨t, rfl⟩ := r
        obtain ⟨t', rfl⟩ := r'
        obtain ⟨t'', rfl⟩ := r''
        refine call_range_3 c0 ?_ (.inl (PyProof.noPylong_small c1))
        refine wpAny_pyIter_range (IsRange.new ..) c2 ?_
        have I2 : Inv X pins σ H1 { s1 with heap := s1.heap.push { cls := .type "range", data := .fields #[.int i t, .int j t', .int k t''] } } := I1.kept (t' := s1.toks) fun b o e => Heap.get?_push_of_some _ e
        refine pi_one (tk := s1.toks) I2 _ (turn_rangeC _ i k n) ?_ q
        have e1 : i + ((0 : Nat) : Int) * k = i := by simp
        have e2 : (n : Int) - ((0 : Nat) : Int) = Builtin.Range.rangeSize i j k := by rw [c3]; simp
        show IsRangeIter _ _ (i + ((0 : Nat) : Int) * k) ((n : Int) - ((0 : Nat) : Int)) k
        rw [e1, e2]
        exact Heap.get?_push_size _ rfl
end
/-- the turns of a step range, for the for loop -/
theorem for_rangeC {lo c : Int} {n : Nat} {g : TG} {tb : TS} {D : Ends} {σ : St} {H : Hp} (Pv : Nat → St → Hp → Prop) (h0 : Pv 0 σ H)
    (hs : ∀ i σ H, i < n → Pv i σ H → g (.int (lo + (i : Nat) * c)) σ H fun σ2 H2 => tb { D with nx := Pv (i + 1), ct := Pv (i + 1), bk := D.nx } σ2 H2) (hd : ∀ σ H, Pv n σ H → D.nx σ H) :
    ∃ W : Nat → Nat → St → Hp → Prop, (∃ m, W 0 m σ H) ∧ ∀ i m σ H, W i m σ H →
      ((Itc lo c n).stop i H ∧ D.nx σ H) ∨ ((Itc lo c n).go i H ∧ ∃ N : St → Hp → Prop, (∀ σ' H', N σ' H' → ∃ m', m' < m ∧ W (i + 1) m' σ' H') ∧ ∀ x H', (Itc lo c n).yld i H x H' → g x σ H' fun σ2 H2 => tb { D with nx := N, ct := N, bk := D.nx } σ2 H2) := by
  refine ⟨fun i m σ H => m = n - i ∧ i ≤ n ∧ Pv i σ H, ⟨n, by simp, Nat.zero_le _, h0⟩, ?_⟩
  rintro i m σ H ⟨rfl, hi, p⟩
  by_cases hlt : i < n
  · refine .inr ⟨hlt, Pv (i + 1), fun σ' H' p' => ⟨n - (i + 1), by lia, rfl, hlt, p'⟩, fun x H' y => ?_⟩
    obtain ⟨e, y⟩ := y
    subst e y
    exact hs i σ _ hlt p
  · have e : i = n := by lia
    subst e
    exact .inl ⟨Nat.le_refl _, hd σ H p⟩
/-- the list at a (n items at the start, which the loop leaves there), from its end -/
def Itv (K : PySem.W.Frag) (a : Addr) (n : Nat) : It :=
  ⟨fun i H => i < n ∧ ∃ (xs : List V) (x : V), SqL K H a xs ∧ xs[n - 1 - i]? = some x, fun i H x H' => H' = H ∧ ∀ xs, SqL K H a xs → xs[n - 1 - i]? = some x, fun i _ => n ≤ i⟩
theorem turn_rev {P : Program} {w : World} {K : PySem.W.Frag} {tg : Expr} (a it : Addr) (n : Nat) : Turn P w K tg (Itv K a n) [it] it (fun i h => i ≤ n ∧ h.IsRevIter it a ((n : Int) - 1 - (i : Nat))) where
  mem := by simp
  obj := fun i h st b hb => by
    have e : b = it := by simpa using hb
    subst e
    obtain ⟨_, o, e, c, d⟩ := st
    exact ⟨o, e, fun v z => by rw [d] at z; cases z⟩
  keep := fun i h h' st k => ⟨st.1, st.2.at fun o e => k it (by simp) o e⟩
  item := by
    intro X hP hw hK hc i pins s σ H E I hf st hg
    subst hP hw hK
    obtain ⟨hin, xs, x, hq, hx⟩ := hg
    obtain ⟨its, rv, p, hz⟩ := I.list hq
    obtain ⟨u, hu, ru⟩ := rv.get hx
    obtain ⟨f0, f1, f2, f3, f4, f5⟩ := hf it (by simp)
    obtain ⟨_, hit⟩ := st
    have e1 : (n : Int) - 1 - ((i : Nat) : Int) = ((n - 1 - i : Nat) : Int) := by lia
    rw [e1] at hit
    refine wpAny_pyNext_rev_item hit p.isList (x := u) (by simpa using hu) fun h' st' sb => ?_
    have e2 : ((n - 1 - i : Nat) : Int) - 1 = (n : Int) - 1 - ((i + 1 : Nat) : Int) := by lia
    rw [e2] at st'
    have I1 : Inv X pins σ H { s with heap := h' } := I.turned (t' := s.toks) (fun b o hb e => (sb.2 b hb).trans e) f0 f1 f3 f4 f5
    obtain ⟨o, e, c, d⟩ := id st'
    exact ⟨u, rfl, go_of (s := { s with heap := h' }) e c d (by decide) ⟨x, H, I1, ru, ⟨rfl, fun ys hy => by rw [I.list_inj hy hq]; exact hx⟩, ⟨hin, st'⟩, fun b hb => (hf b hb).1⟩⟩
  done := by
    intro X hP hw hK hc i pins s σ H E I hf st hg
    subst hP hw hK
    obtain ⟨f0, f1, f2, f3, f4, f5⟩ := hf it (by simp)
    obtain ⟨hin, hit⟩ := st
    have hge : n ≤ i := hg
    have e1 : (n : Int) - 1 - ((i : Nat) : Int) = -1 := by lia
    rw [e1] at hit
    exact wpAny_pyNext_rev_end (I.ok.hd hc) hit fun h' eb => ⟨rfl, I.turned (t' := s.toks) (fun b o hb e => eb b o hb e) f0 f1 f3 f4 f5⟩
  self := fun A i s Q E st h => wpAny_pyIter_revIter st.2 h
def iRev (K : PySem.W.Frag) (ta : TA) : TI := fun σ H R => ta σ H fun vs H1 => ∃ (a : Addr) (xs : List V), vs = [.ref a] ∧ SqL K H1 a xs ∧ R (Itv K a xs.length) H1
section
variable {X : Cx} {tg : Expr}
theorem pi_reversed {e : Expr} {ta : TA} {p pos : Pos} (hg : Gl X "reversed") (hm : X.mg "reversed" = none) (ha : PA X [e] ta) (hs : starEach [e] X.env = [(false, eval e X.env)] := by rfl) : PI X tg (.Call (.Name "reversed" p) [e] [] pos) (iRev X.K ta) := by
  intro pins s σ H R I h
  refine Call_ (ld_blt I hg hm boot_reversed5 (PyProof.Rows.callWith_type1 (thn (ha pos pins s σ H _ I h) fun us s1 ⟨vs, H1, I1, r1, q1⟩ => ?_) hs rfl))
  obtain ⟨a, xs, e, hq, q⟩ := q1
  subst e
  cases r1 with
  | cons r rr =>
    cases rr
    cases r
    obtain ⟨its, rv, p', hz⟩ := I1.list hq
    have hl := rv.length
    have e1 : ((its.toArray.size : Nat) : Int) - 1 = (xs.length : Int) - 1 - ((0 : Nat) : Int) := by simp only [List.size_toArray]; lia
    refine call_reversed_list p'.isList (wpAny_pyIter_revIter (l := a) (i := ((its.toArray.size : Nat) : Int) - 1) ⟨_, Heap.get?_push_size _ rfl, rfl, rfl⟩ ?_)
    refine pi_one (tk := s1.toks) I1 _ (turn_rev a _ xs.length) ⟨Nat.zero_le _, ?_⟩ q
    rw [← e1]
    exact ⟨_, Heap.get?_push_size _ rfl, rfl, rfl⟩
end
section
variable {prog : Program} {w : World} {A : Around} {E : Value → Shared → Prop} {s : Shared}
theorem iter_keys {d : Addr} {o : Obj} {es : Array DictEntry} {ep : Nat} {Q : Value → Shared → Prop} (hd : (d == sysModules) = false) (ho : s.heap.get? d = some o) (hc : o.ExactDict) (hdat : o.data = .dict es ep)
    (hQ : Q (.ref s.heap.objs.size) { s with heap := s.heap.push { cls := .type "dict_keyiterator", data := .fields #[.ref d, .int 0 0, .int es.size 0, .int ep 0] } }) :
    wpAny (model prog w) A (pyIter (.ref d)) Q E s := by
  have hT : s.TypeIs (.ref d) "dict" := ⟨o, ho, hc.1⟩
  refine wpAny_pyIter_slot hT F.slot_dict_iter (wpAny_call_entry F.slot_dict_iter hT F.entry_dict_iter ?_ (F.args_dict_iter_1 _))
  unfold Builtin.«dict.__iter__»
  refine wpAny_bind ?_
  unfold Builtin.Dict.dictSlotNone
  refine wpAny_bind (wpAny_notOrdered_dict hT ?_)
  show wpAny _ _ (pure (Value.ref d)) _ _ s
  refine wpAny_pure ?_
  show wpAny _ _ (Builtin.Dict.showsAll d >>= _) _ _ s
  unfold Builtin.Dict.showsAll
  rw [if_neg (by rw [hd]; exact Bool.false_ne_true)]
  refine wpAny_bind (wpAny_pure ?_)
  refine wpAny_bind (wpAny_dictEntries ho hdat ?_)
  refine wpAny_bind (wpAny_dictEpoch ho hdat ?_)
  refine wpAny_bind (wpAny_newObj_type (wpAny_pure ⟨_, rfl, "dict_keyiterator", _, ⟨_, Heap.get?_push_size _ rfl, rfl⟩, F.slot_dict_keyiterator_next.lookup, ?_⟩))
  simpa [rawInt] using hQ
theorem next_key_item {it d : Addr} {i n ep : Nat} {od : Obj} {es : Array DictEntry} {en : DictEntry} {Q : Option Value → Shared → Prop} (hit : s.heap.IsKeyIter it d i n ep) (hod : s.heap.get? d = some od) (hdd : od.data = .dict es ep)
    (hsz : es.size = n) (hx : es[i]? = some en) (hQ : ∀ h', h'.IsKeyIter it d (i + 1) n ep → Heap.SameBut it s.heap h' → Q (some en.key) { s with heap := h' }) : wpAny (model prog w) A (pyNext (.ref it)) Q E s := by
  obtain ⟨o, ho, hc, hd⟩ := id hit
  unfold pyNext
  refine wpAny_bind (wpAny_attempt (wpAny_callSpecial?_slot (name := Str.ofString "__next__") hit.typeIs F.slot_dict_keyiterator_next
    (wpAny_call_entry F.slot_dict_keyiterator_next hit.typeIs F.entry_dict_keyiterator_next ?_ (F.args_dict_keyiterator_next_1 _))))
  refine wpAny_bind (wpAny_pure ?_)
  refine wpAny_bind ?_
  refine wpAny_bind ?_
  first | refine wpAny_bind (wpAny_typeNameOfWhole_keyiter hit.typeIs (wpAny_pure ?_)) | refine wpAny_bind (wpAny_typeNameOf_keyiter hit.typeIs (wpAny_pure ?_))
  refine wpAny_bind (wpAny_fieldsOf ho hd ?_)
  have hown : Builtin.Dict_items.ownsTuple "dict_keyiterator" = false := by decide
  simp only [hown, Bool.false_eq_true, if_false]
  show wpAny _ _ (if (Value.ref d == Value.none) = true then _ else _) _ _ s
  rw [if_neg (show ¬ ((Value.ref d == Value.none) = true) from Bool.false_ne_true)]
  refine wpAny_bind (wpAny_pure ?_)
  refine wpAny_bind (wpAny_dictEntries hod hdd ?_)
  rw [if_neg (by rw [hsz]; simp)]
  refine wpAny_bind (wpAny_pure ?_)
  refine wpAny_bind (wpAny_dictEpoch hod hdd ?_)
  rw [if_neg (by simp)]
  refine wpAny_pure ?_
  obtain ⟨hlt', hen⟩ := Array.getElem?_eq_some_iff.mp hx
  simp only [show ¬ ((i : Int) < 0) from by lia, if_false, Int.toNat_natCast, Array.getElem?_eq_getElem hlt']
  refine wpAny_bind ?_
  first | refine wpAny_bind (wpAny_typeNameOfWhole_keyiter hit.typeIs (wpAny_pure ?_)) | refine wpAny_bind (wpAny_typeNameOf_keyiter hit.typeIs (wpAny_pure ?_))
  refine wpAny_bind (wpAny_isOneOf_keyiter hit.typeIs ?_)
  show wpAny _ _ (setField (.ref it) 1 (rawInt ((i : Int) + 1)) >>= _) _ _ s
  refine wpAny_bind (wpAny_setField ho hd (by simp) ?_)
  have hit' : (s.heap.update it (Obj.mapFields (·.setIfInBounds 1 (rawInt ((i : Int) + 1))))).IsKeyIter it d (i + 1) n ep :=
    ⟨_, Heap.get?_update_self _ ho (Obj.isFreed_of_fields (Obj.data_mapFields hd _)), (Obj.cls_mapFields ..).trans hc, by rw [Obj.data_mapFields hd]; simp [rawInt]⟩
  refine wpAny_bind (wpAny_holding ?_)
  refine wpAny_bind (wpAny_isOneOf_keyiter (s := { s with heap := s.heap.update it (Obj.mapFields (·.setIfInBounds 1 (rawInt ((i : Int) + 1)))) }) hit'.typeIs ?_)
  show wpAny _ _ (pure es[i].key) _ _ _
  rw [hen]
  exact wpAny_pure (wpAny_pure ⟨_, rfl, wpAny_pure (hQ _ hit' (Heap.SameBut.update ..))⟩)
theorem next_key_end {it d : Addr} {i n ep : Nat} {od : Obj} {es : Array DictEntry} {Q : Option Value → Shared → Prop} (hh : A.handled = none) (hit : s.heap.IsKeyIter it d i n ep) (hod : s.heap.get? d = some od) (hdd : od.data = .dict es ep)
    (hsz : es.size = n) (hge : n ≤ i) (hQ : ∀ h', Heap.ExtBut it s.heap h' → Q none { s with heap := h' }) : wpAny (model prog w) A (pyNext (.ref it)) Q E s := by
  obtain ⟨o, ho, hc, hd⟩ := id hit
  unfold pyNext
  refine wpAny_bind (wpAny_attempt (wpAny_callSpecial?_slot (name := Str.ofString "__next__") hit.typeIs F.slot_dict_keyiterator_next
    (wpAny_call_entry F.slot_dict_keyiterator_next hit.typeIs F.entry_dict_keyiterator_next ?_ (F.args_dict_keyiterator_next_1 _))))
  refine wpAny_bind (wpAny_pure ?_)
  refine wpAny_bind ?_
  refine wpAny_bind ?_
  first | refine wpAny_bind (wpAny_typeNameOfWhole_keyiter hit.typeIs (wpAny_pure ?_)) | refine wpAny_bind (wpAny_typeNameOf_keyiter hit.typeIs (wpAny_pure ?_))
  refine wpAny_bind (wpAny_fieldsOf ho hd ?_)
  have hown : Builtin.Dict_items.ownsTuple "dict_keyiterator" = false := by decide
  simp only [hown, Bool.false_eq_true, if_false]
  show wpAny _ _ (if (Value.ref d == Value.none) = true then _ else _) _ _ s
  rw [if_neg (show ¬ ((Value.ref d == Value.none) = true) from Bool.false_ne_true)]
  refine wpAny_bind (wpAny_pure ?_)
  refine wpAny_bind (wpAny_dictEntries hod hdd ?_)
  rw [if_neg (by rw [hsz]; simp)]
  refine wpAny_bind (wpAny_pure ?_)
  refine wpAny_bind (wpAny_dictEpoch hod hdd ?_)
  rw [if_neg (by simp)]
  refine wpAny_pure ?_
  have hge' : es.size ≤ i := by rw [hsz]; exact hge
  simp only [show ¬ ((i : Int) < 0) from by lia, if_false, Int.toNat_natCast, Array.getElem?_eq_none hge']
  refine wpAny_bind ?_
  first | refine wpAny_bind (wpAny_typeNameOfWhole_keyiter hit.typeIs (wpAny_pure ?_)) | refine wpAny_bind (wpAny_typeNameOf_keyiter hit.typeIs (wpAny_pure ?_))
  show wpAny _ _ (setField (.ref it) 0 .none >>= _) _ _ s
  refine wpAny_bind (wpAny_setField ho hd (by simp) ?_)
  show wpAny _ _ (newExc (.type "StopIteration") [] >>= _) _ _ _
  refine wpAny_bind ?_
  simp only [newExc, newTuple]
  refine wpAny_bind (wpAny_newObj_type ?_ (by size_fits))
  refine wpAny_bind (m := firstArgMember _ _) (wpAny_of_eq (a := Value.none) (by first | rfl | (simp only [firstArgMember]; rfl)) ?_)
  refine wpAny_newObj_type ?_ (by size_fits)
  simp only [raiseNew]
  refine wpAny_bind (wpAny_handled ?_)
  rw [show A.in1.handled = none from hh]
  refine wpAny_bind (wpAny_pure (wpAny_throw ?_))
  refine wpAny_bind (wpAny_isInstance (T := "StopIteration") (b := true) ⟨_, Heap.get?_push_size _ rfl, rfl⟩ isSubtype_stop ?_)
  exact wpAny_pure (hQ _ (((Heap.SameBut.update ..).extBut.push _).push _))
end
theorem kv_get {κ : Type} {kvs : List (κ × V)} {vs : List (κ × Value)} (h : KV kvs vs) : ∀ {i : Nat} {k : κ} {v : V}, kvs[i]? = some (k, v) → ∃ u, vs[i]? = some (k, u) ∧ RelV v u := by
  unfold KV at h
  induction h with
  | nil => intro i k v e; simp at e
  | @cons a b l₁ l₂ r t ih =>
    intro i k v e
    cases i with
    | zero =>
      simp only [List.getElem?_cons_zero, Option.some.injEq] at e
      subst e
      refine ⟨b.2, ?_, r.2⟩
      simp only [List.getElem?_cons_zero]
      exact congrArg some (Prod.ext r.1.symm rfl)
    | succ j =>
      simp only [List.getElem?_cons_succ] at e ⊢
      exact ih e
theorem paired_get {α β : Type} {G : α → β → Prop} {l₁ : List α} {l₂ : List β} (h : Paired G l₁ l₂) : ∀ {i : Nat} {a : α}, l₁[i]? = some a → ∃ b, l₂[i]? = some b ∧ G a b := by
  induction h with
  | nil => intro i a e; simp at e
  | @cons a b l₁ l₂ r t ih =>
    intro i a' e
    cases i with
    | zero =>
      simp only [List.getElem?_cons_zero, Option.some.injEq] at e
      subst e
      exact ⟨b, rfl, r⟩
    | succ j =>
      simp only [List.getElem?_cons_succ] at e ⊢
      exact ih e
theorem relV_key {k : Key} {u : Value} (h : keyIs k u = true) : RelV (kV k) u := by
  rcases keyIs_shape h with ⟨i, t, rfl, rfl⟩ | ⟨x, t, rfl, rfl⟩
  · exact ⟨t, rfl⟩
  · exact ⟨t, rfl⟩
section
variable {X : Cx} {pins : List (Addr × Obj)} {σ : St} {H : Hp} {s : Shared} {d : Addr} {o : Obj}
theorem Inv.frzK {kvs : List (Key × V)} (I : Inv X pins σ H s) (h : H d = some (.frz o (.dK kvs))) :
    (d == sysModules) = false ∧ s.heap.get? d = some o ∧ o.ExactDict ∧ ∃ (es : Array DictEntry) (ep : Nat) (vs : List (Key × Value)), o.data = .dict es ep ∧ es.size = kvs.length ∧ KV kvs vs ∧ s.heap.DictAt (mixKind X.prog X.w) d vs ep := by
  obtain ⟨hd, z, hs, vs, kv, o', es, ep, ho, hx, hdt, r⟩ := I.hok d _ h
  rw [hd] at ho
  cases ho
  refine ⟨hs, hd, hx, es, ep, vs, hdt, ?_, kv, o, es, hd, hx, hdt, r⟩
  have l1 := r.2.1.length
  have l2 : kvs.length = vs.length := Paired.length kv
  rw [Array.length_toList] at l1
  lia
/-- the same for tuple keys -/
theorem Inv.frzT {kvs : List (List Key × V)} (I : Inv X pins σ H s) (h : H d = some (.frz o (.dT kvs))) :
    (d == sysModules) = false ∧ s.heap.get? d = some o ∧ o.ExactDict ∧ ∃ (es : Array DictEntry) (ep : Nat), o.data = .dict es ep ∧ es.size = kvs.length ∧
      ∀ (i : Nat) (k : List Key) (v : V), kvs[i]? = some (k, v) → ∃ (en : DictEntry) (q : Addr), es[i]? = some en ∧ en.key = .ref q ∧ H q = some (.tup (k.map kV)) := by
  obtain ⟨hd, z, hs, xs, pr, o', es, ep, ho, hx, hdt, he, _⟩ := I.hok d _ h
  rw [hd] at ho
  cases ho
  refine ⟨hs, hd, hx, es, ep, hdt, ?_, fun i k v e => ?_⟩
  · have l1 : es.size = xs.length := size_of_entries he
    have l2 : kvs.length = xs.length := Paired.length pr
    lia
  · obtain ⟨b, hb, e1, e2, _⟩ := paired_get pr e
    have q := entry_at he i
    rw [hb] at q
    exact ⟨_, b.2.1, q, rfl, e2⟩
end
/-- the keys of the locked dict at d, in their order -/
def Itk (d : Addr) (o : Obj) (kvs : List (Key × V)) : It :=
  ⟨fun i H => H d = some (.frz o (.dK kvs)) ∧ i < kvs.length, fun i H x H' => H' = H ∧ ∃ k v, kvs[i]? = some (k, v) ∧ x = kV k, fun i H => H d = some (.frz o (.dK kvs)) ∧ kvs.length ≤ i⟩
/-- .. of tuple keys: the key's own tuple -/
def Itkt (d : Addr) (o : Obj) (kvs : List (List Key × V)) : It :=
  ⟨fun i H => H d = some (.frz o (.dT kvs)) ∧ i < kvs.length, fun i H x H' => H' = H ∧ ∃ (k : List Key) (v : V) (q : Addr), kvs[i]? = some (k, v) ∧ x = .ref q ∧ H q = some (.tup (k.map kV)), fun i H => H d = some (.frz o (.dT kvs)) ∧ kvs.length ≤ i⟩
theorem dict_ep {o : Obj} {es es' : Array DictEntry} {ep ep' : Nat} (h : o.data = .dict es ep) (h' : o.data = .dict es' ep') : es' = es ∧ ep' = ep := by
  rw [h] at h'
  cases h'
  exact ⟨rfl, rfl⟩
section
variable {P : Program} {w : World} {K : PySem.W.Frag} {tg : Expr} {d : Addr} {o : Obj} {es : Array DictEntry} {ep : Nat}
theorem turn_keys {kvs : List (Key × V)} (it : Addr) (hod : o.data = .dict es ep) : Turn P w K tg (Itk d o kvs) [it] it (fun i h => h.IsKeyIter it d i kvs.length ep) where
  mem := by simp
  obj := fun i h st b hb => by
    have e : b = it := by simpa using hb
    subst e
    obtain ⟨oi, e, c, dd⟩ := st
    exact ⟨oi, e, fun v z => by rw [dd] at z; cases z⟩
  keep := fun i h h' st k => st.at fun oi e => k it (by simp) oi e
  item := by
    intro X hP hw hK hc i pins s σ H E I hf st hg
    subst hP hw hK
    obtain ⟨hd, hi⟩ := hg
    obtain ⟨f0, f1, f2, f3, f4, f5⟩ := hf it (by simp)
    obtain ⟨hs, hgd, hx, es', ep', vs, hdt, hsz, kv, hm⟩ := I.frzK hd
    obtain ⟨rfl, rfl⟩ := dict_ep hod hdt
    obtain ⟨⟨k, v⟩, hkv⟩ : ∃ p, kvs[i]? = some p := ⟨kvs[i], List.getElem?_eq_getElem hi⟩
    obtain ⟨u, hu, ru⟩ := kv_get kv hkv
    have hl : kvs.length = vs.length := Paired.length kv
    rw [hl] at st
    refine wpAny_pyNext_dict_item st hm hu fun key h' hkey st' sb => ?_
    have I1 : Inv X pins σ H { s with heap := h' } := I.turned (t' := s.toks) (fun b ob hb e => (sb.2 b hb).trans e) f0 f1 f3 f4 f5
    obtain ⟨oi, e, c, dd⟩ := id st'
    refine ⟨key, rfl, go_of (s := { s with heap := h' }) e c dd (by decide) ⟨kV k, H, I1, relV_key (show keyIs k key = true from hkey), ⟨rfl, k, v, hkv, rfl⟩, ?_, fun b hb => (hf b hb).1⟩⟩
    show h'.IsKeyIter it d (i + 1) kvs.length _
    rw [hl]
    exact st'
  done := by
    intro X hP hw hK hc i pins s σ H E I hf st hg
    subst hP hw hK
    obtain ⟨hd, hi⟩ := hg
    obtain ⟨f0, f1, f2, f3, f4, f5⟩ := hf it (by simp)
    obtain ⟨hs, hgd, hx, es', ep', vs, hdt, hsz, kv, hm⟩ := I.frzK hd
    obtain ⟨rfl, rfl⟩ := dict_ep hod hdt
    exact next_key_end (I.ok.hd hc) st hgd hdt hsz hi fun h' eb => ⟨rfl, I.turned (t' := s.toks) (fun b ob hb e => eb b ob hb e) f0 f1 f3 f4 f5⟩
  self := fun A i s Q E st h => wpAny_pyIter_keyiter st h
theorem turn_keysT {kvs : List (List Key × V)} (it : Addr) (hod : o.data = .dict es ep) : Turn P w K tg (Itkt d o kvs) [it] it (fun i h => h.IsKeyIter it d i kvs.length ep) where
  mem := by simp
  obj := fun i h st b hb => by
    have e : b = it := by simpa using hb
    subst e
    obtain ⟨oi, e, c, dd⟩ := st
    exact ⟨oi, e, fun v z => by rw [dd] at z; cases z⟩
  keep := fun i h h' st k => st.at fun oi e => k it (by simp) oi e
  item := by
    intro X hP hw hK hc i pins s σ H E I hf st hg
    subst hP hw hK
    obtain ⟨hd, hi⟩ := hg
    obtain ⟨f0, f1, f2, f3, f4, f5⟩ := hf it (by simp)
    obtain ⟨hs, hgd, hx, es', ep', hdt, hsz, ent⟩ := I.frzT hd
    obtain ⟨rfl, rfl⟩ := dict_ep hod hdt
    obtain ⟨⟨k, v⟩, hkv⟩ : ∃ p, kvs[i]? = some p := ⟨kvs[i], List.getElem?_eq_getElem hi⟩
    obtain ⟨en, q, hen, hkey, hq⟩ := ent i k v hkv
    refine next_key_item st hgd hdt hsz hen fun h' st' sb => ?_
    have I1 : Inv X pins σ H { s with heap := h' } := I.turned (t' := s.toks) (fun b ob hb e => (sb.2 b hb).trans e) f0 f1 f3 f4 f5
    obtain ⟨oi, e, c, dd⟩ := id st'
    exact ⟨en.key, rfl, go_of (s := { s with heap := h' }) e c dd (by decide) ⟨.ref q, H, I1, hkey, ⟨rfl, k, v, q, hkv, rfl, hq⟩, st', fun b hb => (hf b hb).1⟩⟩
  done := by
    intro X hP hw hK hc i pins s σ H E I hf st hg
    subst hP hw hK
    obtain ⟨hd, hi⟩ := hg
    obtain ⟨f0, f1, f2, f3, f4, f5⟩ := hf it (by simp)
    obtain ⟨hs, hgd, hx, es', ep', hdt, hsz, ent⟩ := I.frzT hd
    obtain ⟨rfl, rfl⟩ := dict_ep hod hdt
    exact next_key_end (I.ok.hd hc) st hgd hdt hsz hi fun h' eb => ⟨rfl, I.turned (t' := s.toks) (fun b ob hb e => eb b ob hb e) f0 f1 f3 f4 f5⟩
  self := fun A i s Q E st h => by
    refine wpAny_pyIter_slot st.typeIs F.slot_dict_keyiterator_iter (wpAny_call_entry F.slot_dict_keyiterator_iter st.typeIs F.entry_dict_keyiterator_iter ?_ (F.args_dict_keyiterator_iter_1 _))
    show wpAny _ _ (ret (.ref it)) _ _ s
    exact wpAny_pure ⟨_, rfl, "dict_keyiterator", _, st.typeIs, F.slot_dict_keyiterator_next.lookup, h⟩
end
/-- the dict is locked (tLock, or by the caller) -/
def iKeys (td : TE) : TI := fun σ H R => td σ H fun x H1 => ∃ d o, x = .ref d ∧ ((∃ kvs, H1 d = some (.frz o (.dK kvs)) ∧ R (Itk d o kvs) H1) ∨ ∃ kvs, H1 d = some (.frz o (.dT kvs)) ∧ R (Itkt d o kvs) H1)
section
variable {X : Cx} {tg e : Expr} {td : TE} {apos cpos : Pos}
theorem pi_keys (he : PE X e td) : PI X tg e (iKeys td) := by
  intro pins s σ H R I h
  refine thn (he pins s σ H _ I h) fun u s1 ⟨x, H1, I1, rx, d, o, ex, q⟩ => ?_
  subst ex
  obtain rfl : u = Value.ref d := rx
  rcases q with ⟨kvs, hd, q⟩ | ⟨kvs, hd, q⟩
  · obtain ⟨hs, hgd, hx, es, ep, vs, hdt, hsz, kv, hm⟩ := I1.frzK hd
    refine iter_keys hs hgd hx hdt (pi_one (tk := s1.toks) I1 _ (turn_keys _ hdt) ⟨_, Heap.get?_push_size _ rfl, rfl, ?_⟩ q)
    rw [hsz] <;> rfl
  · obtain ⟨hs, hgd, hx, es, ep, hdt, hsz, ent⟩ := I1.frzT hd
    refine iter_keys hs hgd hx hdt (pi_one (tk := s1.toks) I1 _ (turn_keysT _ hdt) ⟨_, Heap.get?_push_size _ rfl, rfl, ?_⟩ q)
    rw [hsz] <;> rfl
end
/-- the list at a as it stands at each turn, each item in a new pair -/
def Ite (K : PySem.W.Frag) (a : Addr) : It :=
  ⟨fun i H => ∃ (xs : List V) (x : V), SqL K H a xs ∧ xs[i]? = some x, fun i H v H' => ∃ T x, v = .ref T ∧ H T = none ∧ H' = upd H T (.tup [.int (i : Nat), x]) ∧ ∀ xs, SqL K H a xs → xs[i]? = some x, fun i H => ∃ xs : List V, SqL K H a xs ∧ xs.length ≤ i⟩
theorem turn_enum {P : Program} {w : World} {K : PySem.W.Frag} {elts : List Expr} {kk : Nat} {tpos : Pos} (a e it : Addr) :
    Turn P w K (.Tuple elts kk tpos) (Ite K a) [e, it] e (fun i h => (∃ old, IsEnum h e it ((i : Nat) : Int) old) ∧ h.IsListIter it a i ∧ e ≠ it) where
  mem := by simp
  obj := fun i h st b hb => by
    obtain ⟨⟨old, he⟩, ⟨o, ho, hc, hd⟩, _⟩ := st
    have e' : b = e ∨ b = it := by simpa using hb
    rcases e' with z | z
    · rw [z]; exact ⟨_, he, fun v q => nomatch q⟩
    · rw [z]; exact ⟨o, ho, fun v q => by rw [hd] at q; cases q⟩
  keep := fun i h h' st k => let ⟨⟨old, he⟩, hi, hne⟩ := st; ⟨⟨old, k e (by simp) _ he⟩, hi.at fun o q => k it (by simp) o q, hne⟩
  item := by
    intro X hP hw hK hc i pins s σ H E I hf st hg
    subst hP hw hK
    obtain ⟨⟨old, he⟩, hit, hne⟩ := st
    obtain ⟨xs, x, hq, hx⟩ := hg
    obtain ⟨its, rv, p, hz⟩ := I.list hq
    obtain ⟨u, hu, ru⟩ := rv.get hx
    have hel : e < s.heap.objs.size := Heap.lt_size he
    have hil : it < s.heap.objs.size := by obtain ⟨_, q, _⟩ := hit; exact Heap.lt_size q
    refine wpAny_pyNext_enum_item he hit p.isList (x := u) (by simpa using hu) hne fun h' ho hit' hT hsz hk => ?_
    refine ⟨_, rfl, wpAny_letOwnedTupleGo_enum (s := { s with heap := h', toks := s.toks + 1 }) ho fun h'' he' sb => ?_⟩
    have hT2 : h''.get? s.heap.objs.size = some { cls := .type "tuple", data := .seq #[.int i s.toks, u] } := (sb.2 _ (Nat.ne_of_gt hel)).trans hT
    have new : ObjOk X.prog X.w (upd H s.heap.objs.size (.tup [.int (i : Nat), x])) h'' s.heap.objs.size (.tup [.int (i : Nat), x]) :=
      ⟨by show 2 ≤ sizeLine; decide, [.int i s.toks, u], .cons ⟨_, rfl⟩ (.cons ru .nil), ⟨_, hT2, rfl, _, rfl⟩⟩
    have I1 : Inv X pins σ (upd H s.heap.objs.size (.tup [.int (i : Nat), x])) { s with heap := h'', toks := s.toks + 1 } :=
      I.turnedNew (ch := [e, it]) (fun b ob hb q => (sb.2 b (fun z => hb (by simp [z]))).trans (hk b ob (fun z => hb (by simp [z])) (fun z => hb (by simp [z])) q)) hf (Nat.le_refl _) new
    refine ⟨.ref s.heap.objs.size, _, I1, rfl, ⟨_, x, rfl, I.hok.fresh (Nat.le_refl _), rfl, fun ys hy => by rw [I.list_inj hy hq]; exact hx⟩, ⟨⟨u, ?_⟩, hit'.at fun o q => (sb.2 it (Ne.symm hne)).trans q, hne⟩, fun b hb => ?_⟩
    · have e1 : ((i + 1 : Nat) : Int) = (i : Int) + 1 := by lia
      rw [e1]; exact he'
    · have hb' : b < s.heap.objs.size := by
        have e' : b = e ∨ b = it := by simpa using hb
        rcases e' with z | z
        · rw [z]; exact hel
        · rw [z]; exact hil
      rw [upd_ne (Nat.ne_of_lt hb')]
      exact (hf b hb).1
  done := by
    intro X hP hw hK hc i pins s σ H E I hf st hg
    subst hP hw hK
    obtain ⟨⟨old, he⟩, hit, hne⟩ := st
    obtain ⟨xs, hq, hx⟩ := hg
    obtain ⟨its, rv, p, hz⟩ := I.list hq
    obtain ⟨f0, f1, f2, f3, f4, f5⟩ := hf it (by simp)
    have hl := rv.length
    exact wpAny_pyNext_enum_end (I.ok.hd hc) he hit p.isList (by simp; lia) fun h' eb => ⟨rfl, I.turned (t' := s.toks) (fun b o hb q => eb b o hb q) f0 f1 f3 f4 f5⟩
  self := fun A i s Q E st h => let ⟨⟨_, he⟩, _⟩ := st; wpAny_pyIter_enum he h
def iEnum (K : PySem.W.Frag) (ta : TA) : TI := fun σ H R => ta σ H fun vs H1 => ∃ a xs, vs = [.ref a] ∧ SqL K H1 a xs ∧ R (Ite K a) H1
theorem pi_enum {X : Cx} {e : Expr} {ta : TA} {p pos tpos : Pos} {elts : List Expr} {kk : Nat} (hg : Gl X "enumerate") (hm : X.mg "enumerate" = none) (ha : PA X [e] ta) (hs : starEach [e] X.env = [(false, eval e X.env)] := by rfl) :
    PI X (.Tuple elts kk tpos) (.Call (.Name "enumerate" p) [e] [] pos) (iEnum X.K ta) := by
  intro pins s σ H R I h
  refine Call_ (ld_blt I hg hm boot_enumerate (PyProof.Rows.callWith_type1 (thn (ha pos pins s σ H _ I h) fun us s1 ⟨vs, H1, I1, r1, q1⟩ => ?_) hs rfl))
  obtain ⟨a, xs, ex, hq, q⟩ := q1
  subst ex
  cases r1 with
  | cons r rr =>
    cases rr
    cases r
    obtain ⟨its, rv, p', hz⟩ := I1.list hq
    refine call_enumerate_list p'.isList fun h' he hit hsz hk => wpAny_pyIter_enum he ?_
    have I2 : Inv X pins σ H1 { s1 with heap := h' } := I1.kept (t' := s1.toks) hk
    refine ⟨s1.heap.objs.size + 1, [s1.heap.objs.size + 1, s1.heap.objs.size], _, _, H1, rfl, I2, turn_enum a (s1.heap.objs.size + 1) s1.heap.objs.size, ⟨⟨.none, he⟩, hit, Nat.succ_ne_self _⟩, fun b hb => ?_, q⟩
    have e' : b = s1.heap.objs.size + 1 ∨ b = s1.heap.objs.size := by simpa using hb
    have hle : s1.heap.objs.size ≤ b := by
      rcases e' with z | z
      · rw [z]; exact Nat.le_add_right _ _
      · rw [z]; exact Nat.le_refl _
    exact I1.fpOk hle (I1.hok.fresh hle)
end L2
section 
end 
section 
end 
/- THE LAST THEOREM (shape; LID, My.* are yours):
   My.Adr: a structure of the addresses that your layer names (classes, functions); My.Txt K t: a structure (Prop) of the equations over K;
   My.txt_mk : {K} {implicit addresses ..} (e1 : nsIn K mainGlobals "law" = some (some (.ref f))) (e2 : K.lookup f = some ⟨oc, od, .func (fnOf "law" "law" params body scope dV kV doc pm an cdv ct), sl⟩) (e3 : codeIn K cdv "law" = true) .. : ∃ t, My.Txt K t
set_option maxRecDepth 100000 in
set_option maxHeartbeats 0 in
theorem PySem.Challenge.cw_LID_holds : PySem.Challenge.rw_LID.Holds := by
  w_on; o_law; k_head; (case hw => w_witness2)
  k_fill
  refine L2.walk_of (l := PySem.Challenge.rw_LID) (n := 63) (k := 40) (x := "script") (CX := fun w => ..) (sp := fun _ => My.sp_law) rfl (by decide) rfl ⟨rfl, by decide, by decide⟩ (fun w h Y => PySem.W.kIn_of Y) ?F ?S ?C
  case F =>
    intro w mg fa h KX G hmg
    have T : ∃ t, My.Txt (L2.KOf KX) t := by
      dsimp only [L2.KOf]                          -- K must stand as «<heap const> w.params» for k_is
      refine' My.txt_mk ?e1 ?e2 ?e3 ..
      (case e1 => PySem.W.k_is)                    -- in the order: a name -> its address -> its object -> its parts
      (case e2 => PySem.W.k_is)
      ..
    obtain ⟨t, T⟩ := T
    have e0 := hmg.symm.trans (PySem.W.mg_of KX G T.law)
    cases e0                                       -- fa is the law's own address
    exact ⟨_, fun s u => .of_eq rfl, fun base kb nb => My.law_fn T kb nb⟩     -- if «.of_eq rfl» comes too early: refine' ⟨_, ?b, fun base kb nb => My.law_fn T kb nb⟩; exact fun s u => .of_eq rfl
  case S => exact fun w H a ns hl hO hS => ..
  case C => exact ..
(the tactic k_is has no namespace: write k_is) -/
namespace L2
open PySem PySem.Spec PyProof.Rows
/-- the j-th statement of a class's body -/
def inClass (s : Stmt) (j : Nat) : Stmt := match s with
  | .ClassDef _ _ _ body _ _ _ _ _ _ _ => body.getD j (.Pass ⟨0, 0, 0, 0⟩)
  | _ => .Pass ⟨0, 0, 0, 0⟩
def defArgs (s : Stmt) : Arguments := match s with
  | .FunctionDef _ a _ _ _ _ _ _ _ _ => a
  | _ => { posonlyargs := [], args := [], vararg := none, kwonlyargs := [], kw_defaults := [], kwarg := none, defaults := [] }
def defBody (s : Stmt) : List Stmt := match s with
  | .FunctionDef _ _ b _ _ _ _ _ _ _ => b
  | _ => []
def defScope (s : Stmt) : Scope := match s with
  | .FunctionDef _ _ _ _ _ _ sc _ _ _ => sc
  | _ => { kind := .function, names := [], isGenerator := false, isCoroutine := false }
abbrev CX0 : CXT := fun _ _ _ _ _ _ => False
abbrev E0 : XK := fun _ _ _ => False
theorem pass0 {X : Cx} : Passes CX0 X E0 := fun _ _ _ _ _ _ _ h => h.elim
structure Fun (K : PySem.W.Frag) (x qual : Str) (st : Stmt) (f : Addr) (fd : FuncData) : Prop where
  ex : ∃ (oc : Value) (od : Option Addr) (kV doc pm : Value) (an : Option Addr) (cdv ct : Value) (osl : Array (Option Value)),
    fd = PySem.W.fnOf x qual (defArgs st) (defBody st) (defScope st) .none kV doc pm an cdv ct ∧ K.lookup f = some ⟨oc, od, .func fd, osl⟩ ∧ PySem.W.codeIn K cdv qual = true
  kp : PySem.W.keepIn K (.ref f) = true
section
variable {P : Program} {w : World} {K : PySem.W.Frag} {mg : Str → Option Value} {base : Heap}
/-- THE RULE for a def: its body as a term of rules, and the reading of that term -/
theorem Fun.ok {x qual : Str} {st : Stmt} {f : Addr} {fd : FuncData} {N ps : List Str} {k : Nat} {sp : Sp} (F : Fun K x qual st f fd) (S : FnScope N ps (defScope st)) (len : ∀ vs H Q E, sp vs H Q E → vs.length = ps.length)
    (hbody : ∀ (cdv : Value) (A : Around) (outer : List Env) (s : Shared) (H : Hp) (vs : List V) (Q : VK) (E : XK), Room k (A.deeper (envOfC qual (defScope st) s.heap.objs.size f cdv)) → sp vs H Q E →
      ∃ t, PSs (cxOf CX0 P w K mg base N qual (defScope st) f cdv A outer s H E).nox (defBody st) t ∧ t { nx := fun _ H' => Q .non H', rt := Q } (start N vs) H) : FnOk P w K mg base CX0 (k + 1) f fd ps sp := by
  obtain ⟨oc, od, kV, doc, pm, an, cdv, ct, osl, rfl, lk, hcd⟩ := F.ex
  refine fn_of lk hcd S len fun A outer s H vs Q E hr hsp => ?_
  obtain ⟨t, h, q⟩ := hbody cdv A outer s H vs Q E hr hsp
  exact ⟨t, h.nox, q⟩
/-- how its arguments bind (no defaults): h is «fun _ _ _ _ _ _ us hl => match us, hl with | [_, _], _ => rfl», one _ a parameter -/
theorem Fun.binds {x qual : Str} {st : Stmt} {f : Addr} {fd : FuncData} {ps : List Str} (F : Fun K x qual st f fd)
    (h : ∀ (kV doc pm : Value) (an : Option Addr) (cdv ct : Value) (us : List Value), us.length = ps.length → bindArgs (PySem.W.fnOf x qual (defArgs st) (defBody st) (defScope st) .none kV doc pm an cdv ct) ⟨us, []⟩ = pure (ps.zip us)) : Binds K fd ps [] := by
  obtain ⟨oc, od, kV, doc, pm, an, cdv, ct, osl, rfl, lk, hcd⟩ := F.ex
  exact .all (h kV doc pm an cdv ct)
theorem fun_mk {x qual : Str} {st : Stmt} {f : Addr} {oc : Value} {od an : Option Addr} {osl : Array (Option Value)} {kV doc pm cdv ct : Value} (l : K.lookup f = some ⟨oc, od, .func (PySem.W.fnOf x qual (defArgs st) (defBody st) (defScope st) .none kV doc pm an cdv ct), osl⟩)
    (c : PySem.W.codeIn K cdv qual = true) (k : PySem.W.keepIn K (.ref f) = true) : Fun K x qual st f (PySem.W.fnOf x qual (defArgs st) (defBody st) (defScope st) .none kV doc pm an cdv ct) := ⟨⟨oc, od, kV, doc, pm, an, cdv, ct, osl, rfl, l, c⟩, k⟩
end
theorem hu_of {A : Around} {k : Nat} (hr : Room k A) : A.units + 1 < cLine := Nat.lt_of_le_of_lt (Nat.add_le_add_left (by decide : 1 ≤ 64) _) hr.units
theorem small1000 {n : Nat} (h : n ≤ 1000) : n < sizeLine := Nat.lt_of_le_of_lt h (by decide)
section
variable {X : Cx}
theorem pv (i : Nat) {x : Str} {pos : Pos} (hN : X.N[i]? = some x := by rfl) (hv : Vis X.env.scope x := by first | exact Or.inl rfl | exact Or.inr (Or.inl rfl) | exact Or.inr (Or.inr rfl)) (hd : (x == ("__debug__" : Str)) = false := by decide)
    (hcd : (x == ("__classdict__" : Str)) = false := by decide) : PE X (.Name x pos) (tVar i) := pe_var hN hv hd hcd
end
theorem iteF {A B : Prop} (h : B) : if false = true then A else B := by
  rw [if_neg Bool.false_ne_true]
  exact h
theorem iteT {A B : Prop} (h : A) : if true = true then A else B := by
  rw [if_pos rfl]
  exact h
theorem ite2 {c A B : Prop} [Decidable c] (h1 : c → A) (h2 : ¬ c → B) : if c then A else B := by
  by_cases h : c
  · rw [if_pos h]
    exact h1 h
  · rw [if_neg h]
    exact h2 h
/-- all that was tracked is as it was -/
def Same (H H' : Hp) : Prop := ∀ b o, H b = some o → H' b = some o
theorem Same.trans {H H1 H2 : Hp} (a : Same H H1) (b : Same H1 H2) : Same H H2 := fun c o h => b c o (a c o h)
theorem Same.free {H H' : Hp} (e : Same H H') {l : Addr} (h : H' l = Option.none) : H l = Option.none := by
  cases q : H l with
  | none => rfl
  | some o =>
    rw [e l o q] at h
    cases h
theorem Same.seq {K : PySem.W.Frag} {H H' : Hp} {a : Addr} {xs : List V} (e : Same H H') (h : SqL K H a xs) : SqL K H' a xs := by
  rcases h with (h | ⟨o, h⟩) | h
  · exact .inl (.inl (e _ _ h))
  · exact .inl (.inr ⟨o, e _ _ h⟩)
  · exact .inr h
theorem at_of {xs : List V} {z : Int} {j : Nat} {v : V} (e : z = (j : Int)) (h : xs[j]? = some v) : atI xs z = some v := by
  rw [e]
  exact atI_nat h
/-- a new instance and its __init__ leave all that was tracked as it was -/
theorem Same.made {H H1 : Hp} {x dx C : Addr} (nx : H x = Option.none) (nd : H dx = Option.none) (k : ∀ b o, (upd (upd H dx (.own x)) x (.ins C dx [])) b = some o → b ≠ x → H1 b = some o) : Same H H1 := fun b o e =>
  k b o (by rw [upd_ne (ne_of_none e nx), upd_ne (ne_of_none e nd)]; exact e) (ne_of_none e nx)
end L2

section
set_option Elab.async false
set_option linter.all false
set_option maxRecDepth 100000
set_option maxHeartbeats 2000000
namespace L2
open PySem PySem.Spec PyProof.Rows
open PySem.W (WData Codec OpenSpec Well WellAll ReadsW ReadsAllW)
/-! ### an answer as data -/
mutual
/-- x stands for the datum d, lists and tuples all the way -/
inductive Dw (K : PySem.W.Frag) (H : Hp) : V → WData → Prop
  | non : Dw K H .non .none
  | bl (b : Bool) : Dw K H (.bl b) (.bool b)
  | int (i : Int) : Dw K H (.int i) (.int i)
  | str (x : Str) : Dw K H (.str x) (.str x)
  | byt (b : Array UInt8) : Dw K H (.byt b) (.bytes b.toList)
  | lst {a : Addr} {xs : List V} {ds : List WData} : SqL K H a xs → DwAll K H xs ds → Dw K H (.ref a) (.list ds)
  | tup {a : Addr} {xs : List V} {ds : List WData} : SqT K H a xs → DwAll K H xs ds → Dw K H (.ref a) (.tuple ds)
inductive DwAll (K : PySem.W.Frag) (H : Hp) : List V → List WData → Prop
  | nil : DwAll K H [] []
  | cons {v : V} {vs : List V} {d : WData} {ds : List WData} : Dw K H v d → DwAll K H vs ds → DwAll K H (v :: vs) (d :: ds)
end
theorem dw_ints {K : PySem.W.Frag} {H : Hp} : ∀ ns : List Int, DwAll K H (ns.map V.int) (ns.map WData.int)
  | [] => .nil
  | n :: r => .cons (.int n) (dw_ints r)
theorem ints_dw {K : PySem.W.Frag} {H : Hp} : ∀ (ns : List Int) (xs : List V), DwAll K H xs (ns.map WData.int) → xs = ns.map V.int
  | [], xs, h => by
    cases h
    rfl
  | n :: r, xs, h => by
    cases h with
    | cons h1 h2 =>
      cases h1
      rw [ints_dw r _ h2] <;> rfl
section
variable {P : Program} {w : World} {K : PySem.W.Frag} {H : Hp} {h : Heap} {R : PySem.W.WRecords} {cl : Str → Option Addr}
theorem sqL_at {a : Addr} {xs : List V} (hok : HOk P w H h) (KX : K.In h) (q : SqL K H a xs) : ∃ (its : List Value) (o : Obj) (n : Nat), Vals xs its ∧ h.get? a = some o ∧ o.cls = .type "list" ∧ o.data = .seq its.toArray n := by
  rcases q with q | ⟨o, its, n, e, hc, _, hd, _, hv⟩
  · obtain ⟨_, its, n, hv, e⟩ := (show ObjOk P w H h a (.lst xs) from q.ok hok)
    exact ⟨its, _, n, hv, e, rfl, rfl⟩
  · exact ⟨its.toList, o, n, hv, KX _ _ e, hc, by simp [hd]⟩
theorem sqT_at {a : Addr} {xs : List V} (hok : HOk P w H h) (KX : K.In h) (q : SqT K H a xs) : ∃ (its : List Value) (o : Obj) (n : Nat), Vals xs its ∧ h.get? a = some o ∧ o.cls = .type "tuple" ∧ o.data = .seq its.toArray n := by
  rcases q with q | ⟨o, its, n, e, hc, hd, _, hv⟩
  · obtain ⟨_, its, hv, o, e, hc, n, hd⟩ := (show ObjOk P w H h a (.tup xs) from q.ok hok)
    exact ⟨its, o, n, hv, e, hc, hd⟩
  · exact ⟨its.toList, o, n, hv, KX _ _ e, hc, by simp [hd]⟩
mutual
theorem Dw.reads (hok : HOk P w H h) (KX : K.In h) : ∀ (d : WData) (v : V) (u : Value), Dw K H v d → RelV v u → ∃ as, ReadsW R cl h u d as
  | .none, _, _, x, r => by
    cases x
    cases r
    exact ⟨_, ReadsW.none⟩
  | .bool b, _, _, x, r => by
    cases x
    cases r
    exact ⟨_, ReadsW.bool b⟩
  | .int i, _, _, x, r => by
    cases x
    obtain ⟨t, rfl⟩ := r
    exact ⟨_, ReadsW.int i t⟩
  | .str s, _, _, x, r => by
    cases x
    obtain ⟨t, rfl⟩ := r
    exact ⟨_, ReadsW.str s t⟩
  | .bytes b, _, _, x, r => by
    cases x
    obtain ⟨t, rfl⟩ := r
    exact ⟨_, ReadsW.bytes _ t⟩
  | .list ds, _, _, x, r => by
    cases x with
    | lst hs ha =>
      cases r
      obtain ⟨its, o, n, rv, ho, hc, hd⟩ := sqL_at hok KX hs
      obtain ⟨as, hr⟩ := Dw.readsAll hok KX ds _ its ha rv
      exact ⟨_, ReadsW.list ho hc hd hr⟩
  | .tuple ds, _, _, x, r => by
    cases x with
    | tup hs ha =>
      cases r
      obtain ⟨its, o, n, rv, ho, hc, hd⟩ := sqT_at hok KX hs
      obtain ⟨as, hr⟩ := Dw.readsAll hok KX ds _ its ha rv
      exact ⟨_, ReadsW.tuple ho hc hd hr⟩
  | .float _, _, _, x, _ => by cases x
  | .dict _, _, _, x, _ => by cases x
  | .bytearray _, _, _, x, _ => by cases x
  | .set _, _, _, x, _ => by cases x
  | .frozenset _, _, _, x, _ => by cases x
  | .obj _ _, _, _, x, _ => by cases x
theorem Dw.readsAll (hok : HOk P w H h) (KX : K.In h) : ∀ (ds : List WData) (vs : List V) (us : List Value), DwAll K H vs ds → Vals vs us → ∃ as, ReadsAllW R cl h us ds as
  | [], _, _, x, r => by
    cases x
    cases r
    exact ⟨_, ReadsAllW.nil⟩
  | d :: ds, _, _, x, r => by
    cases x with
    | cons h1 h2 =>
      cases r with
      | cons r1 r2 =>
        obtain ⟨as, q1⟩ := Dw.reads hok KX d _ _ h1 r1
        obtain ⟨bs, q2⟩ := Dw.readsAll hok KX ds _ _ h2 r2
        exact ⟨_, ReadsAllW.cons q1 q2⟩
end
end
/-! ### the arguments -/
mutual
/-- data that a codec tells -/
def plW : WData → Bool
  | .none => true
  | .bool _ => true
  | .int _ => true
  | .str _ => true
  | .bytes _ => true
  | .list xs => plWs xs
  | .tuple xs => plWs xs
  | _ => false
def plWs : List WData → Bool
  | [] => true
  | x :: r => plW x && plWs r
end
theorem plWs_map {α : Type} {f : α → WData} (h : ∀ a, plW (f a) = true) : ∀ l : List α, plWs (l.map f) = true
  | [] => rfl
  | x :: r => by
    show (plW (f x) && plWs (r.map f)) = true
    rw [h x, plWs_map h r] <;> rfl
theorem pl_enc : ∀ (c : Codec) (a : c.denote), plW (c.enc a) = true
  | .unit, _ => rfl
  | .bool, _ => rfl
  | .int _ _, _ => rfl
  | .nat _ _, _ => rfl
  | .u8, _ => rfl
  | .bytes _ _, _ => rfl
  | .text _ _ _ _, _ => rfl
  | .list _ _ c, a => plWs_map (fun x => pl_enc c x) a
  | .pair c d, a => by
    show (plW (c.enc a.1) && (plW (d.enc a.2) && true)) = true
    rw [pl_enc c a.1, pl_enc d a.2] <;> rfl
  | .triple c d e, a => by
    show (plW (c.enc a.1) && (plW (d.enc a.2.1) && (plW (e.enc a.2.2) && true))) = true
    rw [pl_enc c a.1, pl_enc d a.2.1, pl_enc e a.2.2] <;> rfl
  | .option c, none => rfl
  | .option c, some x => pl_enc c x
theorem pl_encAll : ∀ (cs : List Codec) (a : Codec.denoteAll cs), plWs (Codec.encAll cs a) = true
  | [], _ => rfl
  | c :: cs, a => by
    show (plW (c.enc a.1) && plWs (Codec.encAll cs a.2)) = true
    rw [pl_enc c a.1, pl_encAll cs a.2] <;> rfl
theorem weight_mem : ∀ {xs : List WData} {d : WData}, d ∈ xs → d.weight ≤ WData.weightAll xs
  | [], d, h => absurd h (by simp)
  | x :: r, d, h => by
    show d.weight ≤ x.weight + 1 + WData.weightAll r
    rcases List.mem_cons.mp h with e | m
    · rw [e]
      omega
    · have z := weight_mem m
      omega
def toV : Value → V
  | .none => .non
  | .bool b => .bl b
  | .int i _ => .int i
  | .str x _ => .str x
  | .bytes b _ => .byt b
  | .ref a => .ref a
  | _ => .non
/-- a value of the arguments, its objects among A -/
def OkU (A : List Addr) : Value → Prop
  | .none => True
  | .bool _ => True
  | .int _ _ => True
  | .str _ _ => True
  | .bytes _ _ => True
  | .ref a => a ∈ A
  | _ => False
theorem OkU.mono {A B : List Addr} (h : ∀ a ∈ A, a ∈ B) : ∀ {u : Value}, OkU A u → OkU B u := fun {u} x => by
  cases u with
  | ref a => exact h a x
  | none => trivial
  | bool b => trivial
  | int i t => trivial
  | str s t => trivial
  | bytes b t => trivial
  | _ => exact False.elim x
theorem relV_toV {A : List Addr} {u : Value} (x : OkU A u) : RelV (toV u) u := by
  cases u with
  | ref a => rfl
  | none => rfl
  | bool b => rfl
  | int i t => exact ⟨t, rfl⟩
  | str s t => exact ⟨t, rfl⟩
  | bytes b t => exact ⟨t, rfl⟩
  | _ => exact False.elim x
theorem vals_toV {A : List Addr} : ∀ {vs : List Value}, (∀ u ∈ vs, OkU A u) → Vals (vs.map toV) vs
  | [], _ => .nil
  | u :: r, h => .cons (relV_toV (h u (List.mem_cons_self ..))) (vals_toV fun x hx => h x (List.mem_cons_of_mem _ hx))
/-- an object of the arguments -/
def ArgOb (h : Heap) (A : List Addr) (a : Addr) : Prop := ∃ vs : List Value, vs.length ≤ sizeLine ∧ (∀ u ∈ vs, OkU A u) ∧
  (h.get? a = some { cls := .type "list", data := .seq vs.toArray } ∨ h.get? a = some { cls := .type "tuple", data := .seq vs.toArray })
theorem ArgOb.mono {h : Heap} {A B : List Addr} {a : Addr} (k : ∀ a ∈ A, a ∈ B) (x : ArgOb h A a) : ArgOb h B a := by
  obtain ⟨vs, h1, h2, h3⟩ := x
  exact ⟨vs, h1, fun u hu => (h2 u hu).mono k, h3⟩
theorem wellAll_len {P : Params} {h : Heap} : ∀ {vs : List Value} {ds : List WData}, WellAll P h vs ds → vs.length = ds.length
  | _, _, .nil => rfl
  | _, _, .cons _ b => by
    show _ + 1 = _ + 1
    rw [wellAll_len b]
theorem well_list {P : Params} {h : Heap} {v : Value} {ds : List WData} (x : Well P h v (.list ds)) : ∃ (a : Addr) (vs : List Value), v = .ref a ∧ h.get? a = some { cls := .type "list", data := .seq vs.toArray } ∧ WellAll P h vs ds := by
  cases x with
  | list ho hall => exact ⟨_, _, rfl, ho, hall⟩
theorem well_tuple {P : Params} {h : Heap} {v : Value} {ds : List WData} (x : Well P h v (.tuple ds)) : ∃ (a : Addr) (vs : List Value), v = .ref a ∧ h.get? a = some { cls := .type "tuple", data := .seq vs.toArray } ∧ WellAll P h vs ds := by
  cases x with
  | tuple ho hall => exact ⟨_, _, rfl, ho, hall⟩
theorem well_cons {P : Params} {h : Heap} {us : List Value} {d : WData} {ds : List WData} (x : WellAll P h us (d :: ds)) : ∃ (v : Value) (vs : List Value), us = v :: vs ∧ Well P h v d ∧ WellAll P h vs ds := by
  cases x with
  | cons a b => exact ⟨_, _, rfl, a, b⟩
theorem line_of {n : Nat} (h : n ≤ 1048576) : n ≤ sizeLine := Nat.le_trans h (by decide)
section
variable {P : Params} {h : Heap}
mutual
theorem area_one : ∀ (d : WData) (v : Value), Well P h v d → plW d = true → d.weight ≤ 1048576 → ∃ A : List Addr, OkU A v ∧ ∀ a ∈ A, ArgOb h A a
  | .none, _, x, _, _ => by
    cases x
    exact ⟨[], trivial, fun a m => absurd m (by simp)⟩
  | .bool b, _, x, _, _ => by
    cases x
    exact ⟨[], trivial, fun a m => absurd m (by simp)⟩
  | .int i, _, x, _, _ => by
    cases x
    exact ⟨[], trivial, fun a m => absurd m (by simp)⟩
  | .str s, _, x, _, _ => by
    cases x
    exact ⟨[], trivial, fun a m => absurd m (by simp)⟩
  | .bytes b, _, x, _, _ => by
    cases x
    exact ⟨[], trivial, fun a m => absurd m (by simp)⟩
  | .list ds, _, x, p, z => by
    obtain ⟨a, vs, rfl, ho, hall⟩ := well_list x
    have z2 : WData.weightAll ds ≤ 1048576 := z
    obtain ⟨A, h1, h2⟩ := area_all ds _ hall p fun d hd => Nat.le_trans (weight_mem hd) z2
    have k : ∀ b ∈ A, b ∈ a :: A := fun b hb => List.mem_cons_of_mem _ hb
    refine ⟨a :: A, List.mem_cons_self .., fun b hb => ?_⟩
    rcases List.mem_cons.mp hb with e | m
    · rw [e]
      exact ⟨vs, line_of (by rw [wellAll_len hall]; exact Nat.le_trans (PySem.W.length_le_weightAllW ds) z2), fun u hu => (h1 u hu).mono k, .inl ho⟩
    · exact (h2 b m).mono k
  | .tuple ds, _, x, p, z => by
    obtain ⟨a, vs, rfl, ho, hall⟩ := well_tuple x
    have z2 : WData.weightAll ds ≤ 1048576 := z
    obtain ⟨A, h1, h2⟩ := area_all ds _ hall p fun d hd => Nat.le_trans (weight_mem hd) z2
    have k : ∀ b ∈ A, b ∈ a :: A := fun b hb => List.mem_cons_of_mem _ hb
    refine ⟨a :: A, List.mem_cons_self .., fun b hb => ?_⟩
    rcases List.mem_cons.mp hb with e | m
    · rw [e]
      exact ⟨vs, line_of (by rw [wellAll_len hall]; exact Nat.le_trans (PySem.W.length_le_weightAllW ds) z2), fun u hu => (h1 u hu).mono k, .inr ho⟩
    · exact (h2 b m).mono k
  | .float _, _, _, p, _ => Bool.noConfusion (show false = true from p)
  | .dict _, _, _, p, _ => Bool.noConfusion (show false = true from p)
  | .bytearray _, _, _, p, _ => Bool.noConfusion (show false = true from p)
  | .set _, _, _, p, _ => Bool.noConfusion (show false = true from p)
  | .frozenset _, _, _, p, _ => Bool.noConfusion (show false = true from p)
  | .obj _ _, _, _, p, _ => Bool.noConfusion (show false = true from p)
theorem area_all : ∀ (ds : List WData) (vs : List Value), WellAll P h vs ds → plWs ds = true → (∀ d ∈ ds, d.weight ≤ 1048576) → ∃ A : List Addr, (∀ u ∈ vs, OkU A u) ∧ ∀ a ∈ A, ArgOb h A a
  | [], _, x, _, _ => by
    cases x
    exact ⟨[], fun u m => absurd m (by simp), fun a m => absurd m (by simp)⟩
  | d :: ds, _, x, p, z => by
    obtain ⟨v, vs, rfl, x1, x2⟩ := well_cons x
    have q : plW d = true ∧ plWs ds = true := Bool.and_eq_true_iff.mp p
    obtain ⟨A, a1, a2⟩ := area_one d v x1 q.1 (z d (List.mem_cons_self ..))
    obtain ⟨B, b1, b2⟩ := area_all ds vs x2 q.2 fun e he => z e (List.mem_cons_of_mem _ he)
    have kA : ∀ b ∈ A, b ∈ A ++ B := fun b hb => List.mem_append.mpr (.inl hb)
    have kB : ∀ b ∈ B, b ∈ A ++ B := fun b hb => List.mem_append.mpr (.inr hb)
    refine ⟨A ++ B, fun u hu => ?_, fun b hb => ?_⟩
    · rcases List.mem_cons.mp hu with e | m
      · rw [e]
        exact a1.mono kA
      · exact (b1 u m).mono kB
    · rcases List.mem_append.mp hb with m | m
      · exact (a2 b m).mono kA
      · exact (b2 b m).mono kB
end
end
/-- what is tracked of an argument's object -/
def hoOf (o : Obj) : Option HO := match o.data with
  | .seq vs _ => if (o.cls == Value.type "list") = true then some (.frz o (.lst (vs.toList.map toV))) else some (.frz o (.tup (vs.toList.map toV)))
  | _ => none
def argH (K : PySem.W.Frag) (h : Heap) (A : List Addr) : Hp := fun b => if b ∈ A then (if (K.lookup b).isNone = true then (h.get? b).bind hoOf else none) else none
/-- nothing is tracked but what is known to the object -/
def OnlyF (H : Hp) : Prop := ∀ b, H b = none ∨ ∃ o u, H b = some (.frz o u)
theorem hoOf_lst (vs : List Value) : hoOf { cls := .type "list", data := .seq vs.toArray } = some (.frz { cls := .type "list", data := .seq vs.toArray } (.lst (vs.map toV))) := by
  show (if (Value.type "list" == Value.type "list") = true then some (HO.frz { cls := .type "list", data := .seq vs.toArray } (.lst (vs.toArray.toList.map toV))) else some (HO.frz { cls := .type "list", data := .seq vs.toArray } (.tup (vs.toArray.toList.map toV)))) = _
  rw [if_pos (beq_self_eq_true _)]
theorem hoOf_tup (vs : List Value) : hoOf { cls := .type "tuple", data := .seq vs.toArray } = some (.frz { cls := .type "tuple", data := .seq vs.toArray } (.tup (vs.map toV))) := by
  show (if (Value.type "tuple" == Value.type "list") = true then some (HO.frz { cls := .type "tuple", data := .seq vs.toArray } (.lst (vs.toArray.toList.map toV))) else some (HO.frz { cls := .type "tuple", data := .seq vs.toArray } (.tup (vs.toArray.toList.map toV)))) = _
  rw [if_neg (by decide)]
section
variable {P : Program} {w : World} {K : PySem.W.Frag} {h : Heap} {A : List Addr}
theorem argH_at {b : Addr} {o : Obj} (hb : b ∈ A) (hk : K.lookup b = none) (e : h.get? b = some o) : argH K h A b = hoOf o := by
  unfold argH
  rw [if_pos hb, hk, if_pos (show (none : Option Obj).isNone = true from rfl), e] <;> rfl
theorem of_argH {b : Addr} {u : HO} (q : argH K h A b = some u) : b ∈ A ∧ K.lookup b = none := by
  unfold argH at q
  by_cases hb : b ∈ A
  · rw [if_pos hb] at q
    cases hk : K.lookup b with
    | none => exact ⟨hb, rfl⟩
    | some o =>
      rw [hk, if_neg (by simp)] at q
      cases q
  · rw [if_neg hb] at q
    cases q
/-- what stands tracked -/
theorem argH_is (ar : ∀ a ∈ A, ArgOb h A a) {b : Addr} {u : HO} (q : argH K h A b = some u) : K.lookup b = none ∧ ∃ vs : List Value, vs.length ≤ sizeLine ∧ (∀ u ∈ vs, OkU A u) ∧
    ((h.get? b = some { cls := .type "list", data := .seq vs.toArray } ∧ u = .frz { cls := .type "list", data := .seq vs.toArray } (.lst (vs.map toV))) ∨
     (h.get? b = some { cls := .type "tuple", data := .seq vs.toArray } ∧ u = .frz { cls := .type "tuple", data := .seq vs.toArray } (.tup (vs.map toV)))) := by
  obtain ⟨hb, hk⟩ := of_argH q
  obtain ⟨vs, h1, h2, h3⟩ := ar b hb
  refine ⟨hk, vs, h1, h2, ?_⟩
  rcases h3 with e | e
  · rw [argH_at hb hk e, hoOf_lst] at q
    exact .inl ⟨e, (Option.some.inj q).symm⟩
  · rw [argH_at hb hk e, hoOf_tup] at q
    exact .inr ⟨e, (Option.some.inj q).symm⟩
theorem argH_only (ar : ∀ a ∈ A, ArgOb h A a) : OnlyF (argH K h A) := fun b => by
  cases q : argH K h A b with
  | none => exact .inl rfl
  | some u =>
    obtain ⟨_, vs, _, _, ⟨_, e⟩ | ⟨_, e⟩⟩ := argH_is ar q
    · exact .inr ⟨_, _, by rw [e]⟩
    · exact .inr ⟨_, _, by rw [e]⟩
theorem argH_ok (ar : ∀ a ∈ A, ArgOb h A a) : HOk P w (argH K h A) h := fun b u q => by
  obtain ⟨_, vs, h1, h2, ⟨e, rfl⟩ | ⟨e, rfl⟩⟩ := argH_is ar q
  · exact ⟨e, by rw [List.length_map]; exact h1, vs, _, vals_toV h2, e⟩
  · exact ⟨e, by rw [List.length_map]; exact h1, vs, vals_toV h2, _, e, rfl, _, rfl⟩
theorem seq_inj {c c' : Value} {vs us : List Value} (e : (some { cls := c, data := .seq vs.toArray } : Option Obj) = some { cls := c', data := .seq us.toArray }) : c = c' ∧ vs = us := by
  have e1 := Option.some.inj e
  have e2 : c = c' := congrArg Obj.cls e1
  have e3 : Data.seq vs.toArray = Data.seq us.toArray := congrArg Obj.data e1
  injection e3 with e4
  refine ⟨e2, ?_⟩
  have e5 := congrArg Array.toList e4
  simpa using e5
/-- a list argument -/
theorem argL (KX : K.In h) (ar : ∀ a ∈ A, ArgOb h A a) {a : Addr} {vs : List Value} (ha : a ∈ A) (e : h.get? a = some { cls := .type "list", data := .seq vs.toArray }) : (∀ u ∈ vs, OkU A u) ∧ SqL K (argH K h A) a (vs.map toV) := by
  obtain ⟨us, h1, h2, h3⟩ := ar a ha
  have hu : us = vs := by
    rcases h3 with q | q
    · rw [e] at q
      exact (seq_inj q).2.symm
    · rw [e] at q
      exact absurd (Value.type.inj (seq_inj q).1) (by decide)
  subst hu
  refine ⟨h2, ?_⟩
  cases hk : K.lookup a with
  | none => exact .inl (.inr ⟨_, by rw [argH_at ha hk e, hoOf_lst]⟩)
  | some o =>
    have e2 := KX a o hk
    rw [e] at e2
    obtain rfl := Option.some.inj e2
    exact .inr ⟨_, us.toArray, _, hk, rfl, rfl, rfl, by rw [List.size_toArray]; exact h1, by simpa using vals_toV h2⟩
theorem argT (KX : K.In h) (ar : ∀ a ∈ A, ArgOb h A a) {a : Addr} {vs : List Value} (ha : a ∈ A) (e : h.get? a = some { cls := .type "tuple", data := .seq vs.toArray }) : (∀ u ∈ vs, OkU A u) ∧ SqT K (argH K h A) a (vs.map toV) := by
  obtain ⟨us, h1, h2, h3⟩ := ar a ha
  have hu : us = vs := by
    rcases h3 with q | q
    · rw [e] at q
      exact absurd (Value.type.inj (seq_inj q).1) (by decide)
    · rw [e] at q
      exact (seq_inj q).2.symm
  subst hu
  refine ⟨h2, ?_⟩
  cases hk : K.lookup a with
  | none => exact .inl (.inr ⟨_, by rw [argH_at ha hk e, hoOf_tup]⟩)
  | some o =>
    have e2 := KX a o hk
    rw [e] at e2
    obtain rfl := Option.some.inj e2
    exact .inr ⟨_, us.toArray, _, hk, rfl, rfl, by rw [List.size_toArray]; exact h1, by simpa using vals_toV h2⟩
mutual
theorem dw_one {Pm : Params} (KX : K.In h) (ar : ∀ a ∈ A, ArgOb h A a) : ∀ (d : WData) (v : Value), Well Pm h v d → plW d = true → OkU A v → Dw K (argH K h A) (toV v) d
  | .none, _, x, _, _ => by
    cases x
    exact .non
  | .bool b, _, x, _, _ => by
    cases x
    exact .bl b
  | .int i, _, x, _, _ => by
    cases x
    exact .int i
  | .str s, _, x, _, _ => by
    cases x
    exact .str s
  | .bytes b, _, x, _, _ => by
    cases x
    have z := Dw.byt (K := K) (H := argH K h A) b.toArray
    exact z
  | .list ds, _, x, p, hu => by
    obtain ⟨a, vs, rfl, ho, hall⟩ := well_list x
    obtain ⟨h2, hs⟩ := argL KX ar hu ho
    exact .lst hs (dw_all KX ar ds _ hall p h2)
  | .tuple ds, _, x, p, hu => by
    obtain ⟨a, vs, rfl, ho, hall⟩ := well_tuple x
    obtain ⟨h2, hs⟩ := argT KX ar hu ho
    exact .tup hs (dw_all KX ar ds _ hall p h2)
  | .float _, _, _, p, _ => Bool.noConfusion (show false = true from p)
  | .dict _, _, _, p, _ => Bool.noConfusion (show false = true from p)
  | .bytearray _, _, _, p, _ => Bool.noConfusion (show false = true from p)
  | .set _, _, _, p, _ => Bool.noConfusion (show false = true from p)
  | .frozenset _, _, _, p, _ => Bool.noConfusion (show false = true from p)
  | .obj _ _, _, _, p, _ => Bool.noConfusion (show false = true from p)
theorem dw_all {Pm : Params} (KX : K.In h) (ar : ∀ a ∈ A, ArgOb h A a) : ∀ (ds : List WData) (vs : List Value), WellAll Pm h vs ds → plWs ds = true → (∀ u ∈ vs, OkU A u) → DwAll K (argH K h A) (vs.map toV) ds
  | [], _, x, _, _ => by
    cases x
    exact .nil
  | d :: ds, _, x, p, hu => by
    obtain ⟨v, vs, rfl, x1, x2⟩ := well_cons x
    have q : plW d = true ∧ plWs ds = true := Bool.and_eq_true_iff.mp p
    exact .cons (dw_one KX ar d v x1 q.1 (hu _ (List.mem_cons_self ..))) (dw_all KX ar ds vs x2 q.2 fun u m => hu u (List.mem_cons_of_mem _ m))
end
end
/-! ### the call -/
theorem spec_call {P : Program} {w : World} {K : PySem.W.Frag} {mg mb : Str → Option Value} {CX : CXT} {k : Nat} {fa : Addr} {fd : FuncData} {ps : List Str} {sp : Sp} {s₁ : Shared} {vals : List Value} {ds : List WData} {R : PySem.W.WRecords} {cl : Str → Option Addr} {d0 : WData}
    (KX : K.In s₁.heap) (hns : s₁.heap.Ns mainGlobals mg) (hb : s₁.heap.Ns builtinsNs mb) (hbb : ∀ x : Str, x ≠ "__name__" → mb x = bootBuiltins x) (hlim : s₁.heap.NoLimit) (hg : s₁.gens = #[])
    (hwl : WellAll w.params s₁.heap vals ds) (hpl : plWs ds = true) (hwt : ∀ d ∈ ds, d.weight ≤ 1048576) (hr : Room k callerA)
    (F : ∀ base : Heap, K.In base → base.Ns mainGlobals mg → FnOk P w K mg base CX k fa fd ps sp) (hbind : ∀ (s : Shared) (us : List Value), us.length = ps.length → BindsTo s fd ⟨us, []⟩ (ps.zip us)) (hlen : ds.length = ps.length)
    (hsp : ∀ (H : Hp) (xs : List V), OnlyF H → DwAll K H xs ds → sp xs H (fun v H' => Dw K H' v d0) fun _ _ _ => False)
    (hCX : ∀ H e s', CX [] H s₁ (fun _ _ _ => False) e s' → False) :
    codeAny (model P w) callerA (.call (.ref fa) ⟨vals, []⟩) (fun r s' => ∃ u as, r = .ok (.ret u) ∧ ReadsW R cl s'.heap u d0 as ∧ OldK s₁.heap s'.heap ∧ s'.os = s₁.os ∧ AllBare s'.gens) s₁ := by
  obtain ⟨A, ho, ar⟩ := area_all ds vals hwl hpl hwt
  have hO : OnlyF (argH K s₁.heap A) := argH_only ar
  have hok : HOk P w (argH K s₁.heap A) s₁.heap := argH_ok ar
  have hS := dw_all KX ar ds vals hwl hpl ho
  have hV := vals_toV ho
  have hK : ∀ b u, argH K s₁.heap A b = some u → K.lookup b = none := fun b u q => (argH_is ar q).1
  have noA : ∀ {b : Addr} {o : Obj} {es : Array DictEntry} {ep : Nat}, s₁.heap.get? b = some o → o.data = .dict es ep → argH K s₁.heap A b = none := fun {b o es ep} e d => by
    cases q : argH K s₁.heap A b with
    | none => rfl
    | some u =>
      obtain ⟨_, vs, _, _, ⟨e2, _⟩ | ⟨e2, _⟩⟩ := argH_is ar q
      · rw [e2] at e
        cases e
        have d' : Data.seq vs.toArray _ = Data.dict es ep := d
        cases d'
      · rw [e2] at e
        cases e
        have d' : Data.seq vs.toArray _ = Data.dict es ep := d
        cases d'
  generalize argH K s₁.heap A = H at hO hok hS hK noA
  have base_of : ∀ {b : Addr} {o : Obj}, s₁.heap.get? b = some o → H b = none → (hidT s₁.heap H).get? b = some o := fun e n => hidT_get e n
  have nsK : ∀ {b : Addr} {m : Str → Option Value}, s₁.heap.Ns b m → (hidT s₁.heap H).Ns b m := fun {b m} ⟨o, es, ep, e, d, r⟩ => ⟨o, es, ep, base_of e (noA e d), d, r⟩
  have nK : ∀ b o, K.lookup b = some o → H b = none := fun b o e => by
    cases q : H b with
    | none => rfl
    | some u =>
      rw [hK b u q] at e
      cases e
  have hKb : K.In (hidT s₁.heap H) := fun b o e => base_of (KX b o e) (nK b o e)
  have hM : Mod K mg (hidT s₁.heap H) := ⟨hKb, nsK hns, ⟨mb, nsK hb, hbb⟩, let ⟨mc, h1, h2⟩ := hlim; ⟨mc, nsK h1, h2⟩⟩
  have e0 : Env0 P w K mg (hidT s₁.heap H) callerA [] s₁ H := ⟨rfl, hM, fun b o e => of_hidT e, Nat.le_of_eq (hidT_size _ _), trivial, fun b hb => absurd (show b ∈ ([] : List Addr) from hb) (by simp), hok, .of_eq hg⟩
  have hl : vals.length = ps.length := by rw [wellAll_len hwl]; exact hlen
  refine codeAny_mono ((F _ hKb (nsK hns)).run callerA [] s₁ H ⟨vals, []⟩ vals (vals.map toV) _ _ hr e0 (hbind s₁ vals hl) hV (hsp H _ hO hS)) fun r s' x => ?_
  cases r with
  | error e => exact (hCX H e s' x).elim
  | ok fl =>
    cases fl with
    | next => exact False.elim x
    | brk => exact False.elim x
    | cont => exact False.elim x
    | ret u =>
      obtain ⟨v, H', os, bare, un, hok', r', q⟩ := x
      have kept : ∀ b o, s₁.heap.get? b = some o → s'.heap.get? b = some o := fun b o e => by
        cases q2 : H b with
        | none => exact un.keep b o e q2 (by intro z; exact absurd (show b ∈ ([] : List Addr) from z) (by simp)) (by simp)
        | some u2 =>
          rcases hO b with z | ⟨ob, u3, z⟩
          · rw [q2] at z
            cases z
          · have z2 := un.frzs b ob _ z
            obtain ⟨e1, _⟩ := hok b _ z
            obtain ⟨e2, _⟩ := hok' b _ z2
            rw [e] at e1
            cases e1
            exact e2
      have KX' : K.In s'.heap := fun b o e => kept b o (KX b o e)
      obtain ⟨as, hrd⟩ := Dw.reads (R := R) (cl := cl) hok' KX' d0 v u q r'
      exact ⟨u, as, rfl, hrd, OldK.of_keep kept, os, bare⟩
/-! ### the row -/
theorem layable_weight {ds : List WData} (h : WData.layableAll ds = true) : ∀ d ∈ ds, d.weight ≤ 1048576 := fun d hd =>
  (PySem.W.layableW_iff.mp (List.all_eq_true.mp h d hd)).2.2
theorem encAll_len : ∀ (cs : List Codec) (a : Codec.denoteAll cs), (Codec.encAll cs a).length = cs.length
  | [], _ => rfl
  | c :: cs, a => by
    show (Codec.encAll cs a.2).length + 1 = cs.length + 1
    rw [encAll_len cs a.2]
/-- the goal that k_headS leaves (case hc), from the promise of the row's def: whatever the arguments that the codecs let and the row asks for, the def gives what stands for enc (f ..) -/
theorem walk_spec {r : OpenSpec} {k : Nat} {q : Program} {loose : List Str} {XP : (Str → Option Value) → Heap → Prop} {YP : World → Heap → Prop} {d : DefRec} {K : Params → PySem.W.Frag} {CX : World → CXT} {ps : List Str} {sp : World → Sp}
    (hwell : r.wellSaid = true) (hdf : d.params.defaults = []) (hlen : r.args.length = ps.length) (hr : Room k callerA)
    (hY : ∀ (w : World) (h : Heap), YP w h → (K w.params).In h)
    (F : ∀ (w : World) (mg : Str → Option Value) (fa : Addr) (h : Heap), YP w h → (K w.params).In h → h.Ns mainGlobals mg → mg d.name = some (.ref fa) →
      ∃ fd : FuncData, (∀ (s : Shared) (us : List Value), us.length = ps.length → BindsTo s fd ⟨us, []⟩ (ps.zip us)) ∧
        ∀ base : Heap, (K w.params).In base → base.Ns mainGlobals mg → FnOk r.prog w (K w.params) mg base (CX w) k fa fd ps (sp w))
    (hsp : ∀ (w : World) (H : Hp) (xs : List V) (a : Codec.denoteAll r.args), OnlyF H → Codec.withinAll r.args a = true → Codec.app r.args r.asked a = true → DwAll (K w.params) H xs (Codec.encAll r.args a) →
      sp w xs H (fun v H' => Dw (K w.params) H' v (r.ret.enc (Codec.app r.args r.f a))) fun _ _ _ => False)
    (hCX : ∀ (w : World) (H : Hp) (s : Shared) (e : Value) (s' : Shared), CX w [] H s (fun _ _ _ => False) e s' → False) :
    PySem.W.WalkOS q loose XP YP r d [] (fun f vs => PySem.call f vs) := by
  intro w s_0 s₁ mg mb G Y fa o pm cd doc dV kV ho hd hcd hD hmg hg args vals as hpre hlay hrd hwl hlo
  obtain ⟨a, e1, e2⟩ := PySem.W.os_pre_some hpre
  obtain ⟨e3, hwi⟩ := Codec.encAll_of_decAll r.args args a e1
  subst e3
  have KX := hY w _ Y
  obtain ⟨fd, hb, hF⟩ := F w mg fa _ Y KX G.T.g hmg
  refine PySem.W.enter_call (codeAny_mono (spec_call (R := []) (cl := classAt s_0.heap) (d0 := r.ret.enc (Codec.app r.args r.f a)) KX G.T.g G.T.b G.T.builtins G.T.nolimit hg hwl (pl_encAll _ _) (layable_weight hlay) hr hF hb (by rw [encAll_len]; exact hlen)
    (fun H xs hO hS => hsp w H xs a hO hwi e2 hS) fun H e s' => hCX w H s₁ e s') fun r' s' hq => ?_)
  obtain ⟨u, as', rfl, h1, h2, h3, h4⟩ := hq
  exact ⟨.inl ⟨u, _, as', rfl, fun _ => rfl, h1, (OpenSpec.post_iff hwell hwi _ _).mpr rfl, fun z => Bool.noConfusion (show false = true from z)⟩, h2, h3, h4⟩
/-- the same where the promise hangs on the written part alone -/
theorem walk_specK {r : OpenSpec} {k : Nat} {q : Program} {loose : List Str} {XP : (Str → Option Value) → Heap → Prop} {YP : World → Heap → Prop} {d : DefRec} {K : Params → PySem.W.Frag} {CX : CXT} {ps : List Str} {sp : PySem.W.Frag → Sp}
    (hwell : r.wellSaid = true) (hdf : d.params.defaults = []) (hlen : r.args.length = ps.length) (hr : Room k callerA)
    (hY : ∀ (w : World) (h : Heap), YP w h → (K w.params).In h)
    (F : ∀ (w : World) (mg : Str → Option Value) (fa : Addr) (h : Heap), YP w h → (K w.params).In h → h.Ns mainGlobals mg → mg d.name = some (.ref fa) →
      ∃ fd : FuncData, (∀ (s : Shared) (us : List Value), us.length = ps.length → BindsTo s fd ⟨us, []⟩ (ps.zip us)) ∧
        ∀ base : Heap, (K w.params).In base → base.Ns mainGlobals mg → FnOk r.prog w (K w.params) mg base CX k fa fd ps (sp (K w.params)))
    (hsp : ∀ (K : PySem.W.Frag) (H : Hp) (xs : List V) (a : Codec.denoteAll r.args), OnlyF H → Codec.withinAll r.args a = true → Codec.app r.args r.asked a = true → DwAll K H xs (Codec.encAll r.args a) →
      sp K xs H (fun v H' => Dw K H' v (r.ret.enc (Codec.app r.args r.f a))) fun _ _ _ => False)
    (hCX : ∀ (H : Hp) (s : Shared) (e : Value) (s' : Shared), CX [] H s (fun _ _ _ => False) e s' → False) :
    PySem.W.WalkOS q loose XP YP r d [] (fun f vs => PySem.call f vs) :=
  walk_spec (K := K) (CX := fun _ => CX) (sp := fun w => sp (K w.params)) hwell hdf hlen hr hY F (fun w H xs a h1 h2 h3 h4 => hsp (K w.params) H xs a h1 h2 h3 h4) fun _ H s e s' => hCX H s e s'
end L2
-- rests on (row put in by the clerk, for the bench that shows a file only what it spells): KE.SpHead KE.OsShapes
end
set_option maxHeartbeats 1000000
namespace GM

/-! ### permutations -/
theorem perm_of_sub : ∀ (l m : List Int), l.Nodup → (∀ x ∈ l, x ∈ m) → m.length ≤ l.length → l.Perm m
  | [], m, _, _, h => by
    have : m = [] := List.eq_nil_of_length_eq_zero (by simpa using h)
    subst this
    exact .nil
  | a :: l, m, hn, hs, hl => by
    have ha : a ∈ m := hs a (by simp)
    obtain ⟨hal, hn'⟩ := List.nodup_cons.mp hn
    have p := List.perm_cons_erase ha
    have hlen : (m.erase a).length + 1 = m.length := by
      have := p.length_eq
      simpa using this.symm
    have ih := perm_of_sub l (m.erase a) hn' (fun x hx => by
      have hx' : x ∈ a :: m.erase a := p.mem_iff.mp (hs x (by simp [hx]))
      rcases List.mem_cons.mp hx' with e | h
      · subst e; exact absurd hx hal
      · exact h) (by simp at hl; lia)
    exact (List.Perm.cons a ih).trans p.symm
theorem perm_sorted_eq : ∀ {l m : List Int}, l.Perm m → l.Pairwise (· ≤ ·) → m.Pairwise (· ≤ ·) → l = m
  | l, m, p, h1, h2 => List.Perm.eq_of_pairwise (fun _ _ _ _ a b => Int.le_antisymm a b) h1 h2 p

def absI (x : Int) : Int := if x < 0 then -x else x
theorem absI_nat (x : Int) : absI x = (x.natAbs : Int) := by unfold absI; split <;> lia
/-- 1, 2, .. n -/
def ups (n : Nat) : List Int := (List.range n).map fun (k : Nat) => (1 : Int) + (k : Int)
theorem ups_mem {n : Nat} {x : Int} : x ∈ ups n ↔ 1 ≤ x ∧ x ≤ n := by
  unfold ups
  rw [List.mem_map]
  constructor
  · rintro ⟨k, hk, rfl⟩
    rw [List.mem_range] at hk
    lia
  · intro h
    exact ⟨(x - 1).toNat, by rw [List.mem_range]; lia, by lia⟩
theorem ups_nodup (n : Nat) : (ups n).Nodup := by
  unfold ups
  refine List.Pairwise.map _ (fun a b h => ?_) (List.nodup_range (n := n))
  lia
theorem ups_sorted (n : Nat) : (ups n).Pairwise (· ≤ ·) := by
  unfold ups
  refine List.Pairwise.map _ (fun a b h => ?_) (List.pairwise_lt_range (n := n))
  lia
theorem ups_len (n : Nat) : (ups n).length = n := by simp [ups]
theorem right_iff {g : List Int} : Rc65.right g = true ↔ ∀ k, k < g.length → ∃ x ∈ g, x.natAbs = k + 1 := by
  unfold Rc65.right
  rw [List.all_eq_true]
  constructor
  · intro h k hk
    have := h k (List.mem_range.mpr hk)
    rw [List.any_eq_true] at this
    obtain ⟨x, hx, e⟩ := this
    exact ⟨x, hx, by simpa using e⟩
  · intro h k hk
    rw [List.any_eq_true]
    obtain ⟨x, hx, e⟩ := h k (List.mem_range.mp hk)
    exact ⟨x, hx, by simpa using e⟩
theorem right_perm {g : List Int} : Rc65.right g = true ↔ (ups g.length).Perm (g.map absI) := by
  rw [right_iff]
  constructor
  · intro h
    refine perm_of_sub _ _ (ups_nodup _) (fun x hx => ?_) (by simp [ups_len])
    rw [ups_mem] at hx
    obtain ⟨y, hy, e⟩ := h (x - 1).toNat (by lia)
    exact List.mem_map.mpr ⟨y, hy, by rw [absI_nat, e]; lia⟩
  · intro p k hk
    have : ((k : Int) + 1) ∈ ups g.length := ups_mem.mpr (by lia)
    obtain ⟨x, hx, e⟩ := List.mem_map.mp (p.mem_iff.mp this)
    exact ⟨x, hx, by rw [absI_nat] at e; lia⟩
theorem right_sorted {g ns : List Int} (p : ns.Perm (g.map absI)) (h : ns.Pairwise (· ≤ ·)) : (ns = ups g.length) ↔ Rc65.right g = true := by
  rw [right_perm]
  constructor
  · rintro rfl; exact p
  · intro q; exact perm_sorted_eq (p.trans q.symm) h (ups_sorted _)
theorem right_nodup {g : List Int} (h : Rc65.right g = true) : (g.map absI).Nodup := (right_perm.mp h).nodup_iff.mp (ups_nodup _)
theorem right_bound {g : List Int} (h : Rc65.right g = true) {x : Int} (hx : x ∈ g) : 1 ≤ x.natAbs ∧ x.natAbs ≤ g.length := by
  have : absI x ∈ ups g.length := (right_perm.mp h).mem_iff.mpr (List.mem_map.mpr ⟨x, hx, rfl⟩)
  rw [ups_mem, absI_nat] at this
  lia
theorem right_inj {g : List Int} (h : Rc65.right g = true) {i j : Nat} {x y : Int} (hx : g[i]? = some x) (hy : g[j]? = some y) (e : x.natAbs = y.natAbs) : i = j := by
  have n := right_nodup h
  obtain ⟨h1, e1⟩ := List.getElem?_eq_some_iff.mp hx
  obtain ⟨h2, e2⟩ := List.getElem?_eq_some_iff.mp hy
  have h1' : i < (g.map absI).length := by simpa using h1
  have h2' : j < (g.map absI).length := by simpa using h2
  refine (List.getElem_inj (h₀ := h1') (h₁ := h2') n).mp ?_
  rw [List.getElem_map, List.getElem_map, e1, e2, absI_nat, absI_nat, e]

/-! ### undone -/
def placeOf (g : List Int) (k : Nat) : Nat := g.findIdx fun x => x.natAbs == k + 1
def undoVal (g : List Int) (k : Nat) : Int := if g.getD (placeOf g k) 0 < 0 then -((placeOf g k + 1 : Nat) : Int) else ((placeOf g k + 1 : Nat) : Int)
theorem undone_eq (g : List Int) : Rc65.undone g = (List.range g.length).map (undoVal g) := rfl
/-- what stands after i places -/
def undoAt (g : List Int) (i : Nat) : List Int := (List.range g.length).map fun k => if placeOf g k < i then undoVal g k else 0
theorem undoAt_zero (g : List Int) : undoAt g 0 = List.replicate g.length 0 := by
  unfold undoAt
  rw [List.eq_replicate_iff]
  refine ⟨by simp, fun b hb => ?_⟩
  obtain ⟨k, _, rfl⟩ := List.mem_map.mp hb
  simp
theorem place_lt {g : List Int} (h : Rc65.right g = true) {k : Nat} (hk : k < g.length) : placeOf g k < g.length := by
  obtain ⟨x, hx, e⟩ := right_iff.mp h k hk
  exact List.findIdx_lt_length_of_exists ⟨x, hx, by simp [e]⟩
theorem undoAt_all {g : List Int} (h : Rc65.right g = true) : undoAt g g.length = Rc65.undone g := by
  rw [undone_eq]
  unfold undoAt
  refine List.map_congr_left fun k hk => ?_
  rw [if_pos (place_lt h (List.mem_range.mp hk))]
theorem place_at {g : List Int} (h : Rc65.right g = true) {i : Nat} {x : Int} (hx : g[i]? = some x) {k : Nat} (hk : x.natAbs = k + 1) : placeOf g k = i := by
  obtain ⟨hi, e⟩ := List.getElem?_eq_some_iff.mp hx
  have hex : ∃ y ∈ g, (fun z : Int => z.natAbs == k + 1) y = true := ⟨x, List.mem_of_getElem? hx, by simp [hk]⟩
  have hlt : placeOf g k < g.length := List.findIdx_lt_length_of_exists hex
  have hp := List.findIdx_getElem (w := hlt)
  have hy : g[placeOf g k]? = some (g[placeOf g k]'hlt) := List.getElem?_eq_getElem hlt
  refine right_inj h hy hx ?_
  have : (g[placeOf g k]'hlt).natAbs = k + 1 := eq_of_beq hp
  rw [this, hk]
theorem undoAt_len (g : List Int) (i : Nat) : (undoAt g i).length = g.length := by simp [undoAt]
theorem undoAt_step {g : List Int} (h : Rc65.right g = true) {i : Nat} {x : Int} (hx : g[i]? = some x) :
    (undoAt g i).set (x.natAbs - 1) (if x < 0 then -((i : Int) + 1) else (i : Int) + 1) = undoAt g (i + 1) := by
  have hb := right_bound h (List.mem_of_getElem? hx)
  have hp : placeOf g (x.natAbs - 1) = i := place_at h hx (by lia)
  refine List.ext_getElem? fun k => ?_
  by_cases hk : k < g.length
  · by_cases e : x.natAbs - 1 = k
    · subst e
      rw [List.getElem?_set_self (by rw [undoAt_len]; exact hk)]
      unfold undoAt
      rw [List.getElem?_map, List.getElem?_range hk]
      show some _ = some (if placeOf g (x.natAbs - 1) < i + 1 then undoVal g (x.natAbs - 1) else 0)
      rw [hp, if_pos (show i < i + 1 by lia)]
      unfold undoVal
      rw [hp, List.getD_eq_getElem?_getD, hx]
      show some (if x < 0 then _ else _) = some (if x < 0 then _ else _)
      split <;> rfl
    · rw [List.getElem?_set_ne e]
      unfold undoAt
      rw [List.getElem?_map, List.getElem?_map, List.getElem?_range hk]
      show some (if placeOf g k < i then undoVal g k else 0) = some (if placeOf g k < i + 1 then undoVal g k else 0)
      have hne : placeOf g k ≠ i := fun q => by
        obtain ⟨y, hy, ey⟩ := right_iff.mp h k hk
        obtain ⟨j, hj⟩ := List.getElem?_of_mem hy
        have := place_at h hj ey
        have hij : j = i := this.symm.trans q
        subst hij
        rw [hx] at hj
        cases hj
        lia
      by_cases hlt : placeOf g k < i
      · rw [if_pos hlt, if_pos (by lia)]
      · rw [if_neg hlt, if_neg (by lia)]
  · rw [List.getElem?_eq_none (by rw [List.length_set, undoAt_len]; lia), List.getElem?_eq_none (by rw [undoAt_len]; lia)]

/-! ### rows stay rows -/
theorem turn_len {g : List Int} {i j : Nat} (h1 : i ≤ j) (h2 : j < g.length) : (Rc65.turn g i j).length = g.length := by
  unfold Rc65.turn
  simp only [List.length_append, List.length_map, List.length_reverse, List.length_take, List.length_drop]
  lia
theorem turn_perm {g : List Int} {i j : Nat} (h1 : i ≤ j) (h2 : j < g.length) : ((Rc65.turn g i j).map absI).Perm (g.map absI) := by
  have e : g = g.take i ++ ((g.drop i).take (j + 1 - i)) ++ g.drop (j + 1) := by
    have a : g.drop (j + 1) = (g.drop i).drop (j + 1 - i) := by rw [List.drop_drop]; congr 1; lia
    rw [a, List.append_assoc, List.take_append_drop, List.take_append_drop]
  have en : ∀ l : List Int, (l.map fun x => -x).map absI = l.map absI := fun l => by
    rw [List.map_map]
    refine List.map_congr_left fun x _ => ?_
    show absI (-x) = absI x
    rw [absI_nat, absI_nat, Int.natAbs_neg]
  unfold Rc65.turn
  rw [List.map_append, List.map_append, en]
  conv => rhs; rw [e]
  rw [List.map_append, List.map_append]
  refine List.Perm.append (List.Perm.append (.refl _) ?_) (.refl _)
  rw [List.map_reverse]
  exact List.reverse_perm _
theorem turn_right {g : List Int} {i j : Nat} (h : Rc65.right g = true) (h1 : i ≤ j) (h2 : j < g.length) : Rc65.right (Rc65.turn g i j) = true := by
  rw [right_perm, turn_len h1 h2]
  exact (right_perm.mp h).trans (turn_perm h1 h2).symm
theorem undone_len (g : List Int) : (Rc65.undone g).length = g.length := by simp [Rc65.undone]
theorem undone_right {g : List Int} (h : Rc65.right g = true) : Rc65.right (Rc65.undone g) = true := by
  rw [right_iff, undone_len]
  intro k hk
  obtain ⟨x, hx⟩ : ∃ x, g[k]? = some x := ⟨_, List.getElem?_eq_getElem hk⟩
  have hb := right_bound h (List.mem_of_getElem? hx)
  have hp : placeOf g (x.natAbs - 1) = k := place_at h hx (by lia)
  refine ⟨undoVal g (x.natAbs - 1), ?_, ?_⟩
  · rw [undone_eq]
    exact List.mem_map.mpr ⟨_, List.mem_range.mpr (by lia), rfl⟩
  · unfold undoVal
    rw [hp]
    split <;> lia
/-! ### signed -/
theorem signed_eq {z : Int} (h0 : 0 ≤ z) (h1 : z < 4294967296) : Rc65.signed z.toNat = if 2147483648 ≤ z then z - 4294967296 else z := by
  unfold Rc65.signed
  have : ((z.toNat : Nat) : Int) = z := Int.toNat_of_nonneg h0
  rw [this]
  split <;> lia
end GM

set_option maxHeartbeats 1000000
set_option linter.unusedVariables false
namespace GM
open PyRc65 (shape whole)
abbrev S1 := Rc65Neutral.step
/-! ### the calls' forms -/
inductive Form : List (List Int) → Prop
  | begin : Form [[0]]
  | row (r : List Int) (h1 : r.length ≤ 32) (h2 : ∀ z ∈ r, 0 ≤ z ∧ z < 4294967296) (h3 : r.length ≤ 10 ∨ Rc65.rowOf (r.map Int.toNat) (r.length : Int) = none) : Form [[1], r]
  | genes : Form [[2]]
  | turn (i j : Int) : Form [[3, i, j]]
  | undo : Form [[4]]
  | distance : Form [[5]]
  | parts : Form [[6]]
  | good (i j : Int) : Form [[7, i, j]]
  | path : Form [[8]]
theorem len0 {α : Type} {l : List α} (h : l.length = 0) : l = [] := List.eq_nil_of_length_eq_zero h
theorem len1 {α : Type} : ∀ {l : List α}, l.length = 1 → ∃ a, l = [a]
  | [a], _ => ⟨a, rfl⟩
theorem len2 {α : Type} : ∀ {l : List α}, l.length = 2 → ∃ a b, l = [a, b]
  | [a, b], _ => ⟨a, b, rfl⟩
theorem form_of {c : List (List Int)} (h : PyFlat.okCall shape c) (q : Rc65Neutral.asked1 (whole c) = true) : Form c := by
  obtain ⟨p, a, xs, rfl, hs⟩ := h
  unfold shape at hs
  have none0 : ∀ {n m : Nat}, some ((n, m) : Nat × Nat) = some (a.length, xs.length) → n = a.length ∧ m = xs.length := fun e => by
    injection e with e
    injection e with e1 e2
    exact ⟨e1, e2⟩
  split at hs
  · rename_i e; subst e
    obtain ⟨e1, e2⟩ := none0 hs
    rw [len0 e1.symm, len0 e2.symm]
    exact .begin
  split at hs
  · rename_i e; subst e
    obtain ⟨e1, e2⟩ := none0 hs
    obtain ⟨r, hr⟩ := len1 e2.symm
    rw [len0 e1.symm, hr] at q ⊢
    have q' : ((decide ((r.length : Int) = Rc65Neutral.upTo (r.length : Int) 1 32) && r.all fun (z : Int) => Rc65Neutral.natural z 32) && (Rc65Neutral.whole32 (r.length : Int) && ((decide (r.length ≤ 10) || (Rc65.rowOf (r.map Int.toNat) (r.length : Int)).isNone)))) = true := q
    rw [Bool.and_eq_true, Bool.and_eq_true, Bool.and_eq_true, Bool.or_eq_true, List.all_eq_true] at q'
    obtain ⟨⟨qa, qb⟩, _, qc⟩ := q'
    have qa' : (r.length : Int) = Rc65Neutral.upTo (r.length : Int) 1 32 := of_decide_eq_true qa
    refine .row r ?_ (fun z hz => ?_) ?_
    · unfold Rc65Neutral.upTo at qa'
      split at qa' <;> lia
    · have := qb z hz
      unfold Rc65Neutral.natural at this
      rw [Bool.and_eq_true] at this
      exact ⟨of_decide_eq_true this.1, of_decide_eq_true this.2⟩
    · rcases qc with qc | qc
      · exact .inl (of_decide_eq_true qc)
      · exact .inr (Option.isNone_iff_eq_none.mp qc)
  split at hs
  · rename_i e; subst e
    obtain ⟨e1, e2⟩ := none0 hs
    rw [len0 e1.symm, len0 e2.symm]
    exact .genes
  split at hs
  · rename_i e; subst e
    obtain ⟨e1, e2⟩ := none0 hs
    obtain ⟨i, j, hij⟩ := len2 e1.symm
    rw [hij, len0 e2.symm]
    exact .turn i j
  split at hs
  · rename_i e; subst e
    obtain ⟨e1, e2⟩ := none0 hs
    rw [len0 e1.symm, len0 e2.symm]
    exact .undo
  split at hs
  · rename_i e; subst e
    obtain ⟨e1, e2⟩ := none0 hs
    rw [len0 e1.symm, len0 e2.symm]
    exact .distance
  split at hs
  · rename_i e; subst e
    obtain ⟨e1, e2⟩ := none0 hs
    rw [len0 e1.symm, len0 e2.symm]
    exact .parts
  split at hs
  · rename_i e; subst e
    obtain ⟨e1, e2⟩ := none0 hs
    obtain ⟨i, j, hij⟩ := len2 e1.symm
    rw [hij, len0 e2.symm]
    exact .good i j
  split at hs
  · rename_i e; subst e
    obtain ⟨e1, e2⟩ := none0 hs
    rw [len0 e1.symm, len0 e2.symm]
    exact .path
  · cases hs
/-- what is asked, taken apart -/
theorem asked_split {l : List Int} (h : PyRc65.answers_asked l = true) : ∃ cs : List (List (List Int)), l = PyFlat.put cs ∧ (∀ c ∈ cs, Form c) ∧ cs.length ≤ 60 ∧
    PyRc65.answers l = PyFlat.told (PyFlat.played S1 Rc65Neutral.start (cs.map whole)) := by
  unfold PyRc65.answers_asked PyRc65.calls at h
  unfold PyRc65.answers PyRc65.calls
  cases e : PyFlat.calls shape l.length l with
  | none => rw [e] at h; cases h
  | some cs =>
    rw [e] at h
    obtain ⟨e1, ok⟩ := PyFlat.put_calls _ _ _ e
    have h' : (PyFlat.atMost 60 (cs.map whole) && Rc65Neutral.asked (cs.map whole)) = true := h
    rw [Bool.and_eq_true] at h'
    have h2 : cs.length ≤ 60 := by
      have := of_decide_eq_true h'.1
      simpa using this
    have h3 := h'.2
    unfold Rc65Neutral.asked at h3
    rw [Bool.and_eq_true] at h3
    have h4 := h3.1
    rw [List.all_eq_true] at h4
    refine ⟨cs, e1, fun c hc => form_of (ok c hc) (h4 _ (List.mem_map.mpr ⟨c, hc, rfl⟩)), h2, rfl⟩
/-! ### the states that there are -/
def OkG (g : List Int) : Prop := g = [] ∨ (Rc65.right g = true ∧ g.length ≤ 10 ∧ g ≠ [])
def nextG (g : List Int) (c : List (List Int)) : List Int := (S1 ⟨g⟩ (whole c)).1.genes
def ansG (g : List Int) (c : List (List Int)) : List Int := (S1 ⟨g⟩ (whole c)).2
theorem S1_eq (g : List Int) (c : List (List Int)) : S1 ⟨g⟩ (whole c) = (⟨nextG g c⟩, ansG g c) := rfl
theorem played_cons (g : List Int) (c : List (List Int)) (cs : List (List (List Int))) :
    PyFlat.told (PyFlat.played S1 ⟨g⟩ ((c :: cs).map whole)) = (((ansG g c).length : Int) :: ansG g c) ++ PyFlat.told (PyFlat.played S1 ⟨nextG g c⟩ (cs.map whole)) := rfl
def sg (z : Int) : Int := if 2147483648 ≤ z then z - 4294967296 else z
theorem sg_eq {z : Int} (h : 0 ≤ z ∧ z < 4294967296) : Rc65.signed z.toNat = sg z := by
  rw [signed_eq h.1 h.2, sg]
theorem signed_row : ∀ {r : List Int}, (∀ z ∈ r, 0 ≤ z ∧ z < 4294967296) → (r.map Int.toNat).map Rc65.signed = r.map sg
  | [], _ => rfl
  | z :: r, h => by
    rw [List.map_cons, List.map_cons, List.map_cons, sg_eq (h z (List.mem_cons_self ..)), signed_row fun y hy => h y (List.mem_cons_of_mem _ hy)]
theorem rowOf_eq {r : List Int} (h1 : r.length ≤ 32) (h : ∀ z ∈ r, 0 ≤ z ∧ z < 4294967296) : Rc65.rowOf (r.map Int.toNat) (r.length : Int) = if r ≠ [] ∧ Rc65.right (r.map sg) = true then some (r.map sg) else none := by
  unfold Rc65.rowOf
  rw [signed_row h, List.length_map]
  by_cases hr : r = []
  · subst hr
    rw [if_pos (Or.inl (by decide)), if_neg (fun q : (([] : List Int) ≠ [] ∧ _) => q.1 rfl)]
  · have hpos : 0 < r.length := List.length_pos_iff.mpr hr
    by_cases hc : Rc65.right (r.map sg) = true
    · have hn : ¬ ((r.length : Int) < 1 ∨ (Rc65.MOST : Int) < (r.length : Int) ∨ (r.length : Int) ≠ (r.length : Int) ∨ Rc65.right (r.map sg) = false) := by
        rintro (q | q | q | q)
        · lia
        · have : (Rc65.MOST : Int) = 32 := rfl
          lia
        · exact q rfl
        · rw [hc] at q; cases q
      rw [if_neg hn, if_pos (show r ≠ [] ∧ Rc65.right (r.map sg) = true from ⟨hr, hc⟩)]
    · have hn : ¬ (r ≠ [] ∧ Rc65.right (r.map sg) = true) := fun q => hc q.2
      rw [if_neg hn, if_pos (Or.inr (Or.inr (Or.inr (by simpa using hc))))]
theorem step_begin (g : List Int) : nextG g [[0]] = [] ∧ ansG g [[0]] = [0] := ⟨rfl, rfl⟩
theorem step_row (g : List Int) {r : List Int} (h1 : r.length ≤ 32) (h2 : ∀ z ∈ r, 0 ≤ z ∧ z < 4294967296) :
    (nextG g [[1], r], ansG g [[1], r]) = if r.map sg ≠ [] ∧ Rc65.right (r.map sg) = true then (r.map sg, [0]) else (g, [-1]) := by
  have e : S1 ⟨g⟩ (whole [[1], r]) = (match Rc65.rowOf (r.map Int.toNat) (r.length : Int) with
    | none => ((⟨g⟩ : Rc65.Abs), [-1])
    | some g' => (⟨g'⟩, [0])) := by
    show (let y := Rc65.does ⟨g⟩ (.row (r.map Int.toNat) (r.length : Int)); (y.1, y.2.value :: y.2.numbers)) = _
    have e0 : Rc65.does ⟨g⟩ (.row (r.map Int.toNat) (r.length : Int)) = (match Rc65.rowOf (r.map Int.toNat) (r.length : Int) with
      | none => (⟨g⟩, Rc65.refused)
      | some g' => (⟨g'⟩, { value := 0 })) := rfl
    rw [e0]
    generalize Rc65.rowOf (r.map Int.toNat) (r.length : Int) = o
    cases o <;> rfl
  unfold nextG ansG
  rw [e, rowOf_eq h1 h2]
  have e2 : (r.map sg ≠ []) ↔ r ≠ [] := by simp
  by_cases hc : r ≠ [] ∧ Rc65.right (r.map sg) = true
  · rw [if_pos hc, if_pos ⟨e2.mpr hc.1, hc.2⟩]
  · rw [if_neg hc, if_neg (fun q => hc ⟨e2.mp q.1, q.2⟩)]
/-- with no row: -4 -/
theorem step_none {c : List (List Int)} (hf : Form c) (h0 : c ≠ [[0]]) (h1 : ∀ r, c ≠ [[1], r]) : nextG [] c = [] ∧ ansG [] c = [-4] := by
  cases hf with
  | begin => exact absurd rfl h0
  | row r _ _ _ => exact absurd rfl (h1 r)
  | genes => exact ⟨rfl, rfl⟩
  | turn i j => exact ⟨rfl, rfl⟩
  | undo => exact ⟨rfl, rfl⟩
  | distance => exact ⟨rfl, rfl⟩
  | parts => exact ⟨rfl, rfl⟩
  | good i j => exact ⟨rfl, rfl⟩
  | path => exact ⟨rfl, rfl⟩
theorem does_some {g : List Int} (hg : g ≠ []) (c : Rc65.Call) (h : ∀ l n, c ≠ .row l n) (h0 : c ≠ .init) : Rc65.does ⟨g⟩ c = match c with
    | .genes => (⟨g⟩, { value := (g.length : Nat), numbers := g })
    | .turn i j => if Rc65.isStretch g i j = false then (⟨g⟩, Rc65.refused) else (⟨Rc65.turn g i.toNat j.toNat⟩, { value := 0 })
    | .undo => (⟨Rc65.undone g⟩, { value := 0 })
    | .distance => (⟨g⟩, { value := (Rc65.told g : Nat) })
    | .parts => (⟨g⟩, { value := 0, numbers := Rc65.ints [Rc65.cycles g, (Rc65.hurdles (Rc65.hards g)).length, (Rc65.fortress (Rc65.hards g)).toNat, Rc65.breaks g] })
    | .good i j => (⟨g⟩, if Rc65.isStretch g i j = false then Rc65.refused else { value := if Rc65.helps g (i.toNat, j.toNat) = true then 1 else 0 })
    | _ => (⟨g⟩, { value := ((2 * (Rc65.wayOf (Rc65.told g) g).length : Nat) : Int), numbers := Rc65.ints ((Rc65.wayOf (Rc65.told g) g).flatMap fun p => [p.1, p.2]) }) := by
  cases c with
  | init => exact absurd rfl h0
  | row l n => exact absurd rfl (h l n)
  | genes => simp only [Rc65.does, if_neg hg]
  | turn i j => simp only [Rc65.does, if_neg hg]
  | undo => simp only [Rc65.does, if_neg hg]
  | distance => simp only [Rc65.does, if_neg hg]
  | parts => simp only [Rc65.does, if_neg hg]
  | good i j => simp only [Rc65.does, if_neg hg]
  | path => simp only [Rc65.does, if_neg hg]
theorem step_some {g : List Int} (c : List (List Int)) (x : Rc65.Call) (e : Rc65Neutral.callOf (whole c) = some x) : nextG g c = (Rc65.does ⟨g⟩ x).1.genes ∧ ansG g c = (Rc65.does ⟨g⟩ x).2.value :: (Rc65.does ⟨g⟩ x).2.numbers := by
  unfold nextG ansG S1 Rc65Neutral.step
  rw [e]
  exact ⟨rfl, rfl⟩
theorem step_genes {g : List Int} (hg : g ≠ []) : nextG g [[2]] = g ∧ ansG g [[2]] = (g.length : Int) :: g := by
  obtain ⟨a, b⟩ := step_some (g := g) [[2]] .genes rfl
  rw [does_some hg _ (fun _ _ q => by cases q) (fun q => by cases q)] at a b
  exact ⟨a, b⟩
theorem isStretch_iff {g : List Int} {i j : Int} : Rc65.isStretch g i j = false ↔ ¬ (0 ≤ i ∧ i ≤ j ∧ j < (g.length : Int)) := by
  unfold Rc65.isStretch
  exact decide_eq_false_iff_not
theorem step_turn {g : List Int} (hg : g ≠ []) (i j : Int) : (nextG g [[3, i, j]], ansG g [[3, i, j]]) = if 0 ≤ i ∧ i ≤ j ∧ j < (g.length : Int) then (Rc65.turn g i.toNat j.toNat, [0]) else (g, [-1]) := by
  obtain ⟨a, b⟩ := step_some (g := g) [[3, i, j]] (.turn i j) rfl
  rw [does_some hg _ (fun _ _ q => by cases q) (fun q => by cases q)] at a b
  rw [a, b]
  by_cases hc : 0 ≤ i ∧ i ≤ j ∧ j < (g.length : Int)
  · rw [if_pos hc]
    simp only [if_neg (fun q => (isStretch_iff.mp q) hc)]
  · rw [if_neg hc]
    simp only [if_pos (isStretch_iff.mpr hc)]
    rfl
theorem step_undo {g : List Int} (hg : g ≠ []) : nextG g [[4]] = Rc65.undone g ∧ ansG g [[4]] = [0] := by
  obtain ⟨a, b⟩ := step_some (g := g) [[4]] .undo rfl
  rw [does_some hg _ (fun _ _ q => by cases q) (fun q => by cases q)] at a b
  exact ⟨a, b⟩
theorem step_distance {g : List Int} (hg : g ≠ []) : nextG g [[5]] = g ∧ ansG g [[5]] = [(Rc65.told g : Int)] := by
  obtain ⟨a, b⟩ := step_some (g := g) [[5]] .distance rfl
  rw [does_some hg _ (fun _ _ q => by cases q) (fun q => by cases q)] at a b
  exact ⟨a, b⟩
theorem step_parts {g : List Int} (hg : g ≠ []) : nextG g [[6]] = g ∧ ansG g [[6]] = [0, (Rc65.cycles g : Int), ((Rc65.hurdles (Rc65.hards g)).length : Int), ((Rc65.fortress (Rc65.hards g)).toNat : Int), (Rc65.breaks g : Int)] := by
  obtain ⟨a, b⟩ := step_some (g := g) [[6]] .parts rfl
  rw [does_some hg _ (fun _ _ q => by cases q) (fun q => by cases q)] at a b
  exact ⟨a, b⟩
theorem step_good {g : List Int} (hg : g ≠ []) (i j : Int) : nextG g [[7, i, j]] = g ∧ ansG g [[7, i, j]] = if 0 ≤ i ∧ i ≤ j ∧ j < (g.length : Int) then (if Rc65.told (Rc65.turn g i.toNat j.toNat) + 1 = Rc65.told g then [1] else [0]) else [-1] := by
  obtain ⟨a, b⟩ := step_some (g := g) [[7, i, j]] (.good i j) rfl
  rw [does_some hg _ (fun _ _ q => by cases q) (fun q => by cases q)] at a b
  refine ⟨a, ?_⟩
  rw [b]
  by_cases hc : 0 ≤ i ∧ i ≤ j ∧ j < (g.length : Int)
  · rw [if_pos hc]
    simp only [if_neg (fun q => (isStretch_iff.mp q) hc)]
    by_cases h2 : Rc65.told (Rc65.turn g i.toNat j.toNat) + 1 = Rc65.told g
    · rw [if_pos h2, if_pos (by unfold Rc65.helps; exact beq_iff_eq.mpr h2)]
    · rw [if_neg h2, if_neg (by unfold Rc65.helps; intro q; exact h2 (beq_iff_eq.mp q))]
  · rw [if_neg hc]
    simp only [if_pos (isStretch_iff.mpr hc)]
    rfl
theorem step_path {g : List Int} (hg : g ≠ []) : nextG g [[8]] = g ∧ ansG g [[8]] = ((2 * (Rc65.wayOf (Rc65.told g) g).length : Nat) : Int) :: Rc65.ints ((Rc65.wayOf (Rc65.told g) g).flatMap fun p => [p.1, p.2]) := by
  obtain ⟨a, b⟩ := step_some (g := g) [[8]] .path rfl
  rw [does_some hg _ (fun _ _ q => by cases q) (fun q => by cases q)] at a b
  exact ⟨a, b⟩
theorem okG_next {g : List Int} {c : List (List Int)} (hf : Form c) (h : OkG g) : OkG (nextG g c) := by
  by_cases hg : g = []
  · subst hg
    by_cases h0 : c = [[0]]
    · subst h0; exact .inl rfl
    · by_cases h1 : ∃ r, c = [[1], r]
      · obtain ⟨r, rfl⟩ := h1
        cases hf with
        | row r a b d =>
          have e := step_row [] a b
          by_cases hc : r.map sg ≠ [] ∧ Rc65.right (r.map sg) = true
          · rw [if_pos hc] at e
            have e1 := congrArg Prod.fst e
            rw [show nextG [] [[1], r] = r.map sg from e1]
            refine .inr ⟨hc.2, ?_, hc.1⟩
            rw [List.length_map]
            rcases d with d | d
            · exact d
            · rw [rowOf_eq a b, if_pos ⟨by simpa using hc.1, hc.2⟩] at d
              cases d
          · rw [if_neg hc] at e
            rw [show nextG [] [[1], r] = [] from congrArg Prod.fst e]
            exact .inl rfl
      · rw [(step_none hf h0 (fun r e => h1 ⟨r, e⟩)).1]
        exact .inl rfl
  · have hr := h.resolve_left hg
    cases hf with
    | begin => exact .inl rfl
    | row r a b d =>
      have e := step_row g a b
      by_cases hc : r.map sg ≠ [] ∧ Rc65.right (r.map sg) = true
      · rw [if_pos hc] at e
        rw [show nextG g [[1], r] = r.map sg from congrArg Prod.fst e]
        refine .inr ⟨hc.2, ?_, hc.1⟩
        rw [List.length_map]
        rcases d with d | d
        · exact d
        · rw [rowOf_eq a b, if_pos ⟨by simpa using hc.1, hc.2⟩] at d
          cases d
      · rw [if_neg hc] at e
        rw [show nextG g [[1], r] = g from congrArg Prod.fst e]
        exact h
    | genes => rw [(step_genes hg).1]; exact h
    | turn i j =>
      have e := step_turn hg i j
      by_cases hc : 0 ≤ i ∧ i ≤ j ∧ j < (g.length : Int)
      · rw [if_pos hc] at e
        rw [show nextG g [[3, i, j]] = Rc65.turn g i.toNat j.toNat from congrArg Prod.fst e]
        have tl := turn_len (g := g) (i := i.toNat) (j := j.toNat) (by lia) (by lia)
        refine .inr ⟨turn_right hr.1 (by lia) (by lia), by rw [tl]; exact hr.2.1, fun q => hg (len0 ?_)⟩
        rw [← tl, q]; rfl
      · rw [if_neg hc] at e
        rw [show nextG g [[3, i, j]] = g from congrArg Prod.fst e]
        exact h
    | undo =>
      rw [(step_undo hg).1]
      refine .inr ⟨undone_right hr.1, by rw [undone_len]; exact hr.2.1, fun q => hg (len0 ?_)⟩
      rw [← undone_len, q]; rfl
    | distance => rw [(step_distance hg).1]; exact h
    | parts => rw [(step_parts hg).1]; exact h
    | good i j => rw [(step_good hg i j).1]; exact h
    | path => rw [(step_path hg).1]; exact h
end GM

set_option maxHeartbeats 1000000
set_option linter.unusedVariables false
namespace GM
theorem eraseDups_le : ∀ (n : Nat) (l : List Nat), l.length ≤ n → l.eraseDups.length ≤ l.length
  | _, [], _ => by simp
  | 0, a :: l, h => by simp at h
  | n + 1, a :: l, h => by
    rw [List.eraseDups_cons, List.length_cons, List.length_cons]
    have h1 : (l.filter fun b => !b == a).length ≤ l.length := List.length_filter_le _ _
    have h2 := eraseDups_le n (l.filter fun b => !b == a) (by simp at h; lia)
    lia
theorem hurdles_le (l : List Nat) : (Rc65.hurdles l).length ≤ l.length := by
  unfold Rc65.hurdles
  exact Nat.le_trans (List.length_filter_le _ _) (eraseDups_le _ l (Nat.le_refl _))
theorem ends_len (g : List Int) : (Rc65.ends g).length = 2 * g.length + 2 := by
  unfold Rc65.ends
  have e : ∀ l : List Int, (l.flatMap fun x => if 0 < x then [2 * x.natAbs - 1, 2 * x.natAbs] else [2 * x.natAbs, 2 * x.natAbs - 1]).length = 2 * l.length := fun l => by
    induction l with
    | nil => rfl
    | cons x l ih =>
      rw [List.flatMap_cons, List.length_append, ih, List.length_cons]
      split <;> (simp; lia)
  rw [List.length_append, List.length_cons, e]
  rfl
theorem hards_le (g : List Int) : (Rc65.hards g).length ≤ 2 * g.length + 2 := by
  unfold Rc65.hards
  refine Nat.le_trans (List.length_filter_le _ _) ?_
  rw [List.length_map, ends_len]
  exact Nat.le_refl _
theorem told_le (g : List Int) : Rc65.told g ≤ 3 * g.length + 4 := by
  unfold Rc65.told
  have h1 := Nat.le_trans (hurdles_le (Rc65.hards g)) (hards_le g)
  have h2 : (Rc65.fortress (Rc65.hards g)).toNat ≤ 1 := Bool.toNat_le _
  lia
theorem wayOf_le : ∀ (k : Nat) (g : List Int), (Rc65.wayOf k g).length ≤ k
  | 0, g => by simp [Rc65.wayOf]
  | k + 1, g => by
    unfold Rc65.wayOf
    split
    · rename_i p _
      rw [List.length_cons]
      have := wayOf_le k (Rc65.turn g p.1 p.2)
      lia
    · simp
theorem flat2_len {α : Type} (f g : α → Nat) : ∀ l : List α, (l.flatMap fun p => [f p, g p]).length = 2 * l.length
  | [] => rfl
  | p :: l => by
    rw [List.flatMap_cons, List.length_append, flat2_len f g l, List.length_cons]
    simp
    lia
theorem ansG_le {g : List Int} {c : List (List Int)} (hf : Form c) (h : OkG g) : (ansG g c).length ≤ 100 := by
  by_cases h0 : c = [[0]]
  · subst h0; rw [(step_begin g).2]; decide
  by_cases h1 : ∃ r, c = [[1], r]
  · obtain ⟨r, rfl⟩ := h1
    cases hf with
    | row r a b d =>
      have e := step_row g a b
      split at e
      · rw [show ansG g [[1], r] = [0] from congrArg Prod.snd e]; decide
      · rw [show ansG g [[1], r] = [-1] from congrArg Prod.snd e]; decide
  by_cases hg : g = []
  · subst hg
    rw [(step_none hf h0 (fun r e => h1 ⟨r, e⟩)).2]
    decide
  have hr := h.resolve_left hg
  cases hf with
  | begin => exact absurd rfl h0
  | row r a b d => exact absurd ⟨r, rfl⟩ h1
  | genes =>
    rw [(step_genes hg).2, List.length_cons]
    lia
  | turn i j =>
    have e := step_turn hg i j
    split at e
    · rw [show ansG g [[3, i, j]] = [0] from congrArg Prod.snd e]; decide
    · rw [show ansG g [[3, i, j]] = [-1] from congrArg Prod.snd e]; decide
  | undo => rw [(step_undo hg).2]; decide
  | distance => rw [(step_distance hg).2]; simp
  | parts => rw [(step_parts hg).2]; simp
  | good i j =>
    rw [(step_good hg i j).2]
    split
    · split <;> decide
    · decide
  | path =>
    rw [(step_path hg).2, List.length_cons, Rc65.ints, List.length_map, flat2_len]
    have h3 := wayOf_le (Rc65.told g) g
    have h4 := told_le g
    lia
/-! ### the flat list -/
theorem put_cons (c : List (List Int)) (cs : List (List (List Int))) : PyFlat.put (c :: cs) = PyFlat.put1 c ++ PyFlat.put cs := rfl
/-- how many numbers a call takes, as the program tells it -/
def lenAt (l : List Int) (st : Nat) : Int := if l.getD st 0 = 1 then 2 + l.getD (st + 1) 0 else if l.getD st 0 = 3 ∨ l.getD st 0 = 7 then 3 else 1
theorem getD_drop (l : List Int) (st i : Nat) : l.getD (st + i) 0 = (l.drop st).getD i 0 := by
  rw [List.getD_eq_getElem?_getD, List.getD_eq_getElem?_getD, List.getElem?_drop]
theorem put1_ne {c : List (List Int)} (h : Form c) : PyFlat.put1 c ≠ [] := by
  cases h <;> simp [PyFlat.put1]
theorem lenAt_form {l : List Int} {st : Nat} {c : List (List Int)} {t : List Int} (hf : Form c) (e : l.drop st = PyFlat.put1 c ++ t) : lenAt l st = ((PyFlat.put1 c).length : Int) := by
  unfold lenAt
  have e0 : l.getD st 0 = (PyFlat.put1 c ++ t).getD 0 0 := by rw [← e, ← getD_drop, Nat.add_zero]
  have e1 : l.getD (st + 1) 0 = (PyFlat.put1 c ++ t).getD 1 0 := by rw [← e, ← getD_drop]
  rw [e0, e1]
  cases hf with
  | begin => rfl
  | row r _ _ _ =>
    show (if (1 : Int) = 1 then 2 + (r.length : Int) else _) = (([1] ++ (((r.length : Int) :: r) ++ [])).length : Int)
    rw [if_pos rfl]
    simp
    lia
  | genes => rfl
  | turn i j => rfl
  | undo => rfl
  | distance => rfl
  | parts => rfl
  | good i j => rfl
  | path => rfl
end GM

set_option Elab.async false
set_option maxRecDepth 100000
set_option maxHeartbeats 2000000
namespace GR
open PySem PySem.Spec PyProof.Rows L2
section
variable {X : Cx}
/-- lo, lo + 1, .. below hi -/
def rngI (lo hi : Int) : List Int := (List.range (hi - lo).toNat).map fun (k : Nat) => lo + (k : Int)
theorem call_range2R : CallR X (.type "range") (fun xs H Q => ∃ i j : Int, xs = [.int i, .int j] ∧ ∀ p, H p = none → Q (.ref p) (upd H p (.rng i j))) := by
  intro pins s σ H xs us Q I r h
  obtain ⟨i, j, rfl, q⟩ := h
  obtain ⟨u, v, rfl, ⟨t, rfl⟩, ⟨t', rfl⟩⟩ := vals2 r
  refine call_range_2 ?_
  refine ⟨.ref s.heap.objs.size, _, I.laid (a := s.heap.objs.size) (o := .rng i j) (fun b o e => Heap.get?_push_of_some _ e) (Nat.le_refl _) ?_, rfl, q _ (I.hok.fresh (Nat.le_refl _))⟩
  exact ⟨_, _, _, Heap.get?_push_size _ rfl⟩
theorem vals_rng : ∀ (n : Nat) (lo : Int) (its : List Value), its.length = n → (∀ (j : Nat) (v : Value), its[j]? = some v → ∃ t : Tok, v = Value.int (lo + (j : Nat) * 1) t) → Vals (((List.range n).map fun (k : Nat) => lo + (k : Int)).map V.int) its
  | 0, lo, its, hl, _ => by
    have : its = [] := List.eq_nil_of_length_eq_zero hl
    subst this
    exact Paired.nil
  | n + 1, lo, [], hl, _ => by simp at hl
  | n + 1, lo, v :: r, hl, h => by
    obtain ⟨t, e⟩ := h 0 v rfl
    have hr := vals_rng n (lo + 1) r (by simpa using hl) (fun j w hw => by
      obtain ⟨t, e⟩ := h (j + 1) w hw
      refine ⟨t, e.trans ?_⟩
      congr 1
      lia)
    rw [List.range_succ_eq_map, List.map_cons, List.map_cons, List.map_map, List.map_map]
    refine Paired.cons ⟨t, ?_⟩ ?_
    · rw [e]
      congr 1
    · rw [List.map_map] at hr
      have e2 : ((V.int ∘ fun (k : Nat) => lo + (k : Int)) ∘ Nat.succ) = (V.int ∘ fun (k : Nat) => lo + 1 + (k : Int)) := by
        funext k
        show V.int (lo + ((k + 1 : Nat) : Int)) = V.int (lo + 1 + (k : Int))
        congr 1
        lia
      rw [e2]
      exact hr
theorem call_listR (hc : X.calm = true) : CallR X (.type "list") (fun xs H Q => ∃ (p : Addr) (lo hi : Int), xs = [.ref p] ∧ H p = some (.rng lo hi) ∧ (-1000 ≤ lo ∧ lo ≤ 1000) ∧ (-1000 ≤ hi ∧ hi ≤ 1000) ∧
    ∀ l, H l = none → Q (.ref l) (upd H l (.lst ((rngI lo hi).map V.int)))) := by
  intro pins s σ H xs us Q I r h
  obtain ⟨p, lo, hi, rfl, hp, ⟨l1, l2⟩, ⟨h1, h2⟩, q⟩ := h
  rw [Vals.ref1 r]
  obtain ⟨t, u, v, e⟩ := (show ObjOk X.prog X.w H s.heap p (.rng lo hi) from I.hok p _ hp)
  have hn : Builtin.Range.rangeSize lo hi 1 = (((hi - lo).toNat : Nat) : Int) := by rw [rangeSize_one]; split <;> lia
  refine call_list_range (n := (hi - lo).toNat) (I.ok.hd hc) (show IsRange s.heap p lo hi 1 t u v from e) (small_one (by lia) (by lia) (by lia) (by lia)) hn (by lia) fun h' tk acc' c' hk hS hacc => ?_
  refine ⟨.ref s.heap.objs.size, _, I.laid (a := s.heap.objs.size) (o := .lst ((rngI lo hi).map V.int)) hk (Nat.le_refl _) ⟨?_, acc'.toList, c', ?_, ?_⟩, rfl, q _ (I.hok.fresh (Nat.le_refl _))⟩
  · rw [List.length_map, rngI, List.length_map, List.length_range, sizeLine_eq]
    lia
  · exact vals_rng _ lo acc'.toList (by simpa using hacc.1) (fun j v hv => hacc.2 j v (by simpa using hv))
  · simpa using hS
/-- == of two lists of ints -/
theorem dp_ints {K : PySem.W.Frag} {H : Hp} : ∀ ns : List Int, DpAll K H (ns.map V.int) (ns.map PyData.int)
  | [] => .nil
  | n :: r => .cons (.int n) (dp_ints r)
theorem eqv_ints : ∀ a b : List Int, PyData.eqvAll (a.map PyData.int) (b.map PyData.int) = decide (a = b)
  | [], [] => by simp [PyData.eqvAll]
  | [], _ :: _ => by simp [PyData.eqvAll]
  | _ :: _, [] => by simp [PyData.eqvAll]
  | x :: a, y :: b => by
    rw [List.map_cons, List.map_cons, PyData.eqvAll, eqv_ints a b]
    by_cases h : x = y
    · subst h
      by_cases h2 : a = b
      · subst h2; simp [PyData.eqv]
      · simp [PyData.eqv, h2]
    · simp [PyData.eqv, h]
end
/-! ### comprehensions whose turn changes nothing else -/
theorem take_snoc {α : Type} : ∀ {l : List α} {i : Nat} {x : α}, l[i]? = some x → l.take (i + 1) = l.take i ++ [x]
  | [], i, x, h => by simp at h
  | a :: l, 0, x, h => by
    have e : a = x := Option.some.inj h
    subst e
    rfl
  | a :: l, i + 1, x, h => by
    have ih := take_snoc (l := l) (i := i) (x := x) h
    show a :: l.take (i + 1) = a :: l.take i ++ [x]
    rw [ih]
    rfl
/-- what the items so far have left -/
def fm (p : V → Bool) (f : V → V) (xs : List V) : List V := (xs.filter p).map f
theorem fm_snoc_t {p : V → Bool} {f : V → V} {xs : List V} {x : V} (h : p x = true) : fm p f (xs ++ [x]) = fm p f xs ++ [f x] := by
  unfold fm
  rw [List.filter_append, List.filter_cons, if_pos h, List.filter_nil, List.map_append]
  rfl
theorem fm_snoc_f {p : V → Bool} {f : V → V} {xs : List V} {x : V} (h : p x = false) : fm p f (xs ++ [x]) = fm p f xs := by
  unfold fm
  rw [List.filter_append, List.filter_cons, if_neg (by rw [h]; exact Bool.false_ne_true), List.filter_nil, List.append_nil]
theorem fm_len (p : V → Bool) (f : V → V) (xs : List V) : (fm p f xs).length ≤ xs.length := by
  unfold fm
  rw [List.length_map]
  exact List.length_filter_le _ _
theorem same_upd {H : Hp} {D : Addr} {o : HO} (hD : H D = none) : Same H (upd H D o) := fun b u e => by
  rw [upd_ne (ne_of_none e hD)]
  exact e
/-- over a list -/
theorem lc_listFM {K : PySem.W.Frag} {a : Addr} {xs : List V} {g : TG} {tt : TT} {te : TE} {vs : List Nat} {σ : L2.St} {H1 : Hp} {D : Addr} {Qd : Hp → Prop} (p : V → Bool) (f : V → V) (hq : SqL K H1 a xs) (hD : H1 D = none) (hz : xs.length < sizeLine)
    (hs : ∀ (i : Nat) (x : V) (H : Hp) (Q : VK) (R : Hp → Prop), xs[i]? = some x → Same H1 H → (p x = true → Q (f x) H) → (p x = false → R H) → g x (wipe σ vs) H fun σ2 H2 => wipe σ2 vs = wipe σ vs ∧ tt σ2 H2 fun b H3 =>
      if b = true then te σ2 H3 Q else R H3) (hd : Qd (upd H1 D (.lst (fm p f xs)))) :
    ∃ W : Nat → Nat → Hp → Prop, (∃ m, W 0 m (upd H1 D (.lst []))) ∧ ∀ i m H, W i m H →
      ((Itl K a).stop i H ∧ Qd H) ∨ ((Itl K a).go i H ∧ ∃ Nx : Hp → Prop, (∀ H', Nx H' → ∃ m', m' < m ∧ W (i + 1) m' H') ∧ ∀ x H', (Itl K a).yld i H x H' → g x (wipe σ vs) H' fun σ2 H2 => wipe σ2 vs = wipe σ vs ∧ tt σ2 H2 fun b H3 =>
        if b = true then te σ2 H3 fun y H4 => ∃ acc, H4 D = some (.lst acc) ∧ acc.length < sizeLine ∧ Nx (upd H4 D (.lst (acc ++ [y]))) else Nx H3) := by
  refine lc_list (K := K) (a := a) (xs := xs) (fun i H => H = upd H1 D (.lst (fm p f (xs.take i)))) rfl (fun i H _ e => by subst e; exact (same_upd hD).seq hq) (fun i x H hx e => ?_) (fun H e => ?_)
  · subst e
    refine hs i x _ _ _ hx (same_upd hD) (fun hp => ?_) (fun hp => ?_)
    · refine ⟨_, upd_same, Nat.lt_of_le_of_lt (fm_len _ _ _) (Nat.lt_of_le_of_lt (List.length_take_le _ _) ?_), ?_⟩
      · exact Nat.lt_of_le_of_lt (Nat.le_of_lt (List.getElem?_eq_some_iff.mp hx).1) hz
      · rw [upd_upd, take_snoc hx, fm_snoc_t hp]
    · show _ = _
      rw [take_snoc hx, fm_snoc_f hp]
  · subst e
    rw [List.take_length]
    exact hd
/-- over a range -/
theorem lc_rangeFM {lo : Int} {n : Nat} {g : TG} {tt : TT} {te : TE} {vs : List Nat} {σ : L2.St} {H1 : Hp} {D : Addr} {Qd : Hp → Prop} (p : V → Bool) (f : V → V) (hD : H1 D = none) (hz : n < sizeLine)
    (hs : ∀ (i : Nat) H (Q : VK) (R : Hp → Prop), i < n → Same H1 H → (p (.int (lo + (i : Nat))) = true → Q (f (.int (lo + (i : Nat)))) H) → (p (.int (lo + (i : Nat))) = false → R H) → g (.int (lo + (i : Nat))) (wipe σ vs) H fun σ2 H2 => wipe σ2 vs = wipe σ vs ∧ tt σ2 H2 fun b H3 =>
      if b = true then te σ2 H3 Q else R H3) (hd : Qd (upd H1 D (.lst (fm p f ((List.range n).map fun (k : Nat) => V.int (lo + (k : Nat))))))) :
    ∃ W : Nat → Nat → Hp → Prop, (∃ m, W 0 m (upd H1 D (.lst []))) ∧ ∀ i m H, W i m H →
      ((Itr lo n).stop i H ∧ Qd H) ∨ ((Itr lo n).go i H ∧ ∃ Nx : Hp → Prop, (∀ H', Nx H' → ∃ m', m' < m ∧ W (i + 1) m' H') ∧ ∀ x H', (Itr lo n).yld i H x H' → g x (wipe σ vs) H' fun σ2 H2 => wipe σ2 vs = wipe σ vs ∧ tt σ2 H2 fun b H3 =>
        if b = true then te σ2 H3 fun y H4 => ∃ acc, H4 D = some (.lst acc) ∧ acc.length < sizeLine ∧ Nx (upd H4 D (.lst (acc ++ [y]))) else Nx H3) := by
  have hsn : ∀ i : Nat, (List.range (i + 1)).map (fun (k : Nat) => V.int (lo + (k : Nat))) = (List.range i).map (fun (k : Nat) => V.int (lo + (k : Nat))) ++ [V.int (lo + (i : Nat))] := fun i => by
    rw [List.range_succ, List.map_append]
    rfl
  refine lc_range (fun i H => H = upd H1 D (.lst (fm p f ((List.range i).map fun (k : Nat) => V.int (lo + (k : Nat)))))) rfl (fun i H hi e => ?_) (fun H e => ?_)
  · subst e
    refine hs i _ _ _ hi (same_upd hD) (fun hp => ?_) (fun hp => ?_)
    · refine ⟨_, upd_same, Nat.lt_of_le_of_lt (fm_len _ _ _) ?_, ?_⟩
      · rw [List.length_map, List.length_range]
        lia
      · rw [upd_upd, hsn, fm_snoc_t hp]
    · show _ = _
      rw [hsn, fm_snoc_f hp]
  · subst e
    exact hd
/-- over a list from its end -/
theorem lc_revFM {K : PySem.W.Frag} {a : Addr} {xs : List V} {g : TG} {tt : TT} {te : TE} {vs : List Nat} {σ : L2.St} {H1 : Hp} {D : Addr} {Qd : Hp → Prop} (p : V → Bool) (f : V → V) (hq : SqL K H1 a xs) (hD : H1 D = none) (hz : xs.length < sizeLine)
    (hs : ∀ (x : V) (H : Hp) (Q : VK) (R : Hp → Prop), x ∈ xs → Same H1 H → (p x = true → Q (f x) H) → (p x = false → R H) → g x (wipe σ vs) H fun σ2 H2 => wipe σ2 vs = wipe σ vs ∧ tt σ2 H2 fun b H3 =>
      if b = true then te σ2 H3 Q else R H3) (hd : Qd (upd H1 D (.lst (fm p f xs.reverse)))) :
    ∃ W : Nat → Nat → Hp → Prop, (∃ m, W 0 m (upd H1 D (.lst []))) ∧ ∀ i m H, W i m H →
      ((Itv K a xs.length).stop i H ∧ Qd H) ∨ ((Itv K a xs.length).go i H ∧ ∃ Nx : Hp → Prop, (∀ H', Nx H' → ∃ m', m' < m ∧ W (i + 1) m' H') ∧ ∀ x H', (Itv K a xs.length).yld i H x H' → g x (wipe σ vs) H' fun σ2 H2 => wipe σ2 vs = wipe σ vs ∧ tt σ2 H2 fun b H3 =>
        if b = true then te σ2 H3 fun y H4 => ∃ acc, H4 D = some (.lst acc) ∧ acc.length < sizeLine ∧ Nx (upd H4 D (.lst (acc ++ [y]))) else Nx H3) := by
  refine ⟨fun i m H => m = xs.length - i ∧ i ≤ xs.length ∧ H = upd H1 D (.lst (fm p f (xs.reverse.take i))), ⟨xs.length, by simp, Nat.zero_le _, rfl⟩, ?_⟩
  rintro i m H ⟨rfl, hi, rfl⟩
  have q : SqL K (upd H1 D (.lst (fm p f (xs.reverse.take i)))) a xs := (same_upd hD).seq hq
  by_cases hlt : i < xs.length
  · have hr : xs.reverse[i]? = xs[xs.length - 1 - i]? := List.getElem?_reverse hlt
    have hx0 : xs[xs.length - 1 - i]? = some (xs[xs.length - 1 - i]'(by lia)) := List.getElem?_eq_getElem (by lia)
    refine .inr ⟨⟨hlt, xs, _, q, hx0⟩, fun H => H = upd H1 D (.lst (fm p f (xs.reverse.take (i + 1)))), fun H' e => ⟨xs.length - (i + 1), by lia, rfl, hlt, e⟩, fun x H' y => ?_⟩
    obtain ⟨e, y⟩ := y
    subst e
    have hx : xs.reverse[i]? = some x := hr.trans (y xs q)
    refine hs x _ _ _ (List.mem_of_getElem? (y xs q)) (same_upd hD) (fun hp => ?_) (fun hp => ?_)
    · refine ⟨_, upd_same, Nat.lt_of_le_of_lt (fm_len _ _ _) (Nat.lt_of_le_of_lt (List.length_take_le _ _) ?_), ?_⟩
      · lia
      · rw [upd_upd, take_snoc hx, fm_snoc_t hp]
    · show _ = _
      rw [take_snoc hx, fm_snoc_f hp]
  · have e : i = xs.length := by lia
    subst e
    refine .inl ⟨Nat.le_refl _, ?_⟩
    have e2 : xs.reverse.take xs.length = xs.reverse := by rw [List.take_of_length_le (by simp)]
    rw [e2]
    exact hd
theorem for_enum {K : PySem.W.Frag} {a : Addr} {xs : List V} {g : TG} {tb : TS} {D : Ends} {σ : L2.St} {H : Hp} (Pv : Nat → L2.St → Hp → Prop) (h0 : Pv 0 σ H) (hl : ∀ i σ H, i ≤ xs.length → Pv i σ H → SqL K H a xs)
    (hs : ∀ (i : Nat) (x : V) σ H (T : Addr), xs[i]? = some x → Pv i σ H → H T = none → g (.ref T) σ (upd H T (.tup [.int (i : Nat), x])) fun σ2 H2 => tb { D with nx := Pv (i + 1), ct := Pv (i + 1), bk := D.nx } σ2 H2) (hd : ∀ σ H, Pv xs.length σ H → D.nx σ H) :
    ∃ W : Nat → Nat → L2.St → Hp → Prop, (∃ m, W 0 m σ H) ∧ ∀ i m σ H, W i m σ H →
      ((Ite K a).stop i H ∧ D.nx σ H) ∨ ((Ite K a).go i H ∧ ∃ N : L2.St → Hp → Prop, (∀ σ' H', N σ' H' → ∃ m', m' < m ∧ W (i + 1) m' σ' H') ∧ ∀ x H', (Ite K a).yld i H x H' → g x σ H' fun σ2 H2 => tb { D with nx := N, ct := N, bk := D.nx } σ2 H2) := by
  refine ⟨fun i m σ H => m = xs.length - i ∧ i ≤ xs.length ∧ Pv i σ H, ⟨xs.length, by simp, Nat.zero_le _, h0⟩, ?_⟩
  rintro i m σ H ⟨rfl, hi, p⟩
  have q := hl i σ H hi p
  by_cases hlt : i < xs.length
  · refine .inr ⟨⟨xs, xs[i], q, by simp [hlt]⟩, Pv (i + 1), fun σ' H' p' => ⟨xs.length - (i + 1), by lia, rfl, hlt, p'⟩, fun x H' y => ?_⟩
    obtain ⟨T, x', e1, hT, e2, y⟩ := y
    subst e1 e2
    exact hs i x' σ _ T (y xs q) p hT
  · have e : i = xs.length := by lia
    subst e
    exact .inl ⟨⟨xs, q, Nat.le_refl _⟩, hd σ H p⟩
theorem yes_if {σ : L2.St} {H : Hp} {P1 P2 : Hp → Prop} (h : P1 H) : tYes σ H (fun b H3 => if b = true then P1 H3 else P2 H3) := by
  show if true = true then P1 H else P2 H
  rw [if_pos rfl]
  exact h
theorem b_sorted : bootBuiltins "sorted" = some (.builtin "sorted") := by decide +kernel
theorem b_abs : bootBuiltins "abs" = some (.builtin "abs") := by decide +kernel
theorem b_list : bootBuiltins "list" = some (.type "list") := by decide +kernel
theorem b_range : bootBuiltins "range" = some (.type "range") := by decide +kernel
end GR

set_option Elab.async false
set_option maxRecDepth 100000
set_option maxHeartbeats 2000000
namespace GR
open PySem PySem.Spec PyProof.Rows L2
section
variable {X : Cx} {a b c d : Expr} {ta tb tc td : TE} {pos : Pos}
/-- a op1 b op2 c op3 d -/
def tChain3 (r1 r2 r3 : R2) (ta tb tc td : TE) : TE := fun σ H Q => ta σ H fun x H1 => tb σ H1 fun y H2 => r1 x y H2 fun z H3 => ∃ k, z = .bl k ∧
  (if k = true then tc σ H3 fun w' H4 => r2 y w' H4 fun z2 H5 => ∃ k2, z2 = .bl k2 ∧ (if k2 = true then td σ H5 fun v' H6 => r3 w' v' H6 Q else Q (.bl false) H5) else Q (.bl false) H3)
theorem pe_chain3 {o1 o2 o3 : CmpOp} {r1 r2 r3 : R2} (h1 : OpR X (compareOp o1) r1) (h2 : OpR X (compareOp o2) r2) (h3 : OpR X (compareOp o3) r3) (ha : PE X a ta) (hb : PE X b tb) (hc : PE X c tc) (hd : PE X d td)
    (hm : lastMarks [o1, o2, o3] [b, c, d] = false := by with_unfolding_all rfl) : PE X (.Compare a [o1, o2, o3] [b, c, d] pos) (tChain3 r1 r2 r3 ta tb tc td) := by
  intro pins s σ H Q I h
  refine Compare_chain (thn (ha pins s σ H _ I h) fun v s1 ⟨x, H1, I1, q1, k1⟩ => chain_link (thn (hb pins s1 σ H1 _ I1 k1) fun u s2 ⟨y, H2, I2, q2, k2⟩ =>
    thn (h1 pins s2 σ H2 x y v u _ I2 q1 q2 k2) fun e s3 ⟨z, H3, I3, q3, k, ez, k3⟩ => ?_)) hm
  subst ez
  cases q3
  refine wpAny_truthy_bool ?_
  cases k with
  | false => exact ite_ff ⟨.bl false, H3, I3, rfl, k3⟩
  | true =>
    refine ite_tt (chain_link (thn (hc pins s3 σ H3 _ I3 k3) fun w' s4 ⟨z', H4, I4, q4, k4⟩ => thn (h2 pins s4 σ H4 y z' u w' _ I4 q2 q4 k4) fun e s5 ⟨z2, H5, I5, q5, k', ez, k5⟩ => ?_))
    subst ez
    cases q5
    refine wpAny_truthy_bool ?_
    cases k' with
    | false => exact ite_ff ⟨.bl false, H5, I5, rfl, k5⟩
    | true => exact ite_tt (chain_last (thn (hd pins s5 σ H5 _ I5 k5) fun v' s6 ⟨z3, H6, I6, q6, k6⟩ => h3 pins s6 σ H6 z' z3 w' v' Q I6 q4 q6 k6))
end
section
variable {X : Cx}
theorem extend_tuple (l : Addr) (xs : Array Value) (n : Nat) (b : Addr) (ys : Array Value) (n2 : Nat) (dd : Option Addr) (sl : Array (Option Value)) (h0 : ¬(!xs.isEmpty && Builtin.List.listTooLong (xs.size + ys.size)) = true) (h1 : xs.size ≤ sizeLine) (h2 : xs.size + ys.size ≤ sizeLine + 1) :
    Meets (Builtin.«list.extend» ⟨[.ref l, .ref b], []⟩) (fun _ R s => s.heap.get? l = some { cls := .type "list", dict := none, data := .seq xs n, slots := #[] } ∧ s.heap.get? b = some { cls := .type "tuple", dict := dd, data := .seq ys n2, slots := sl } ∧
      R (.ok (.ret Value.none)) { s with heap := s.heap.update l (Obj.mapSeq fun x => x ++ ys), toks := s.toks }) :=
  .of_wp fun prog w A R s h => by
    obtain ⟨hp, g, d, tk, os⟩ := s
    obtain ⟨hl, hb, h⟩ := h
    have f1 := PySem.AutoSeq1.idx_int
    have f2 := PySem.AutoSeq1.sub_tuple_tuple
    have f3 := PySem.AutoSeq1.sub_list_list
    have f4 := PySem.AutoSeq1.sub_tuple_list
    have f5 := PySem.AutoSeq1.sub_list_tuple
    have hz : (xs ++ ys).size ≤ sizeLine + 1 := by
      rw [Array.size_append]
      exact h2
    wp_walk using (wpAny_updateSeq hl rfl (hz := h1) (_hz' := hz)), PySem.AutoSeq1.wpAny_loadPart' hl, PySem.AutoSeq1.wpAny_loadPart' hb
    exact ⟨_, rfl, h⟩
/-- xs.extend(t), t a tuple -/
def rExtendT (K : PySem.W.Frag) : V → List V → Hp → VK → Prop := fun x vs H Q => ∃ l b xs zs, x = .ref l ∧ vs = [.ref b] ∧ H l = some (.lst xs) ∧ SqT K H b zs ∧ xs.length + zs.length ≤ sizeLine ∧ Q .non (upd H l (.lst (xs ++ zs)))
theorem mt_extendT : MtM X "list.extend" (rExtendT X.K) := by
  intro pins s σ H x vs v us Q I rx rv h
  obtain ⟨l, b, xs, zs, rfl, rfl, hH, hB, hz, q⟩ := h
  cases rx
  obtain ⟨u, rfl, ru⟩ := rv.one
  cases ru
  obtain ⟨z, its, n, r, hl, e⟩ := I.lstM hH
  obtain ⟨its2, r2, tp, z2⟩ := I.tuple hB
  obtain ⟨o2, e2, oc, n2, od⟩ := tp
  obtain ⟨cls2, dd2, data2, sl2⟩ := o2
  cases oc
  cases od
  have hl2 := r2.length
  have hsz : its.toArray.size + its2.toArray.size ≤ sizeLine := by rw [List.size_toArray, List.size_toArray]; lia
  have hlong : ¬ (!its.toArray.isEmpty && Builtin.List.listTooLong (its.toArray.size + its2.toArray.size)) = true := by
    rw [notLongL hsz, Bool.and_false]
    exact Bool.false_ne_true
  refine call_meets F.slot_list_extend ⟨_, e, rfl⟩ F.entry_list_extend (F.args_list_extend_2 _ _)
    (extend_tuple l its.toArray n b its2.toArray n2 dd2 sl2 hlong (by rw [List.size_toArray]; lia) (by lia)) ⟨e, e2, ?_⟩
  refine ⟨.non, _, I.lset (its' := its ++ its2) hH e (by simp) (r.append r2) ?_, rfl, q⟩
  rw [List.length_append]
  lia
/-- sorted(ts), tuples of two ints: by their first -/
def rSortedT (K : PySem.W.Frag) : List V → Hp → VK → Prop := fun vs H Q => ∃ (a : Addr) (ts : List Addr) (key : Addr → Int × Int), vs = [V.ref a] ∧ SqL K H a (ts.map V.ref) ∧ (∀ t ∈ ts, H t = some (.tup [.int (key t).1, .int (key t).2])) ∧
  ∀ (ts' : List Addr) (p : Addr), ts'.Perm ts → ts'.Pairwise (fun t u => (key t).1 ≤ (key u).1) → H p = none → Q (.ref p) (upd H p (.lst (ts'.map V.ref)))
theorem vals_refs : ∀ {ts : List Addr} {its : List Value}, Vals (ts.map V.ref) its → its = ts.map Value.ref
  | [], its, h => by cases h; rfl
  | t :: ts, its, h => by
    cases h with
    | cons r rr =>
      cases r
      rw [vals_refs rr]
      rfl
theorem refs_vals : ∀ ts : List Addr, Vals (ts.map V.ref) (ts.map Value.ref)
  | [] => .nil
  | t :: ts => .cons rfl (refs_vals ts)
def adrOf : Value → Addr
  | .ref a => a
  | _ => 0
theorem cr_sortedT : CallR X (.builtin "sorted") (rSortedT X.K) := by
  intro pins s σ H vs us Q I r h
  obtain ⟨a, ts, key, rfl, hs, ht, q⟩ := h
  obtain ⟨its, rv, hl, hz⟩ := I.list hs
  rw [Vals.ref1 r]
  have hits := vals_refs rv
  subst hits
  rw [List.length_map] at hz
  have tup : ∀ t ∈ ts, ∃ o u1 u2 n, s.heap.get? t = some o ∧ o.cls = .type "tuple" ∧ o.data = .seq #[.int (key t).1 u1, .int (key t).2 u2] n := fun t htm => by
    obtain ⟨_, its, rv, tp⟩ := I.hok t _ (ht t htm)
    obtain ⟨o, e1, e2, n, e3⟩ := tp
    cases rv with
    | cons r1 rr =>
      cases rr with
      | cons r2 rr =>
        cases rr
        obtain ⟨u1, rfl⟩ := r1
        obtain ⟨u2, rfl⟩ := r2
        exact ⟨o, u1, u2, n, e1, e2, e3⟩
  have keyC : ∀ t ∈ ts, PyProof.Rows.G.tupKeyC s.heap (fun _ => false) (.ref t) = some [Sum.inl (key t).1, Sum.inl (key t).2] := fun t htm => by
    obtain ⟨o, u1, u2, n, e1, e2, e3⟩ := tup t htm
    unfold PyProof.Rows.G.tupKeyC
    have i1 : PyProof.Rows.G.isTupObj s.heap (.ref t) = true := by simp [PyProof.Rows.G.isTupObj, e1, e2]
    rw [if_pos i1]
    simp only [PyProof.Rows.tupKey, e1, e3]
    rfl
  have tups : ∀ ts : List Addr, (∀ t ∈ ts, ∃ o u1 u2 n, s.heap.get? t = some o ∧ o.cls = .type "tuple" ∧ o.data = .seq #[.int (key t).1 u1, .int (key t).2 u2] n) → ∃ fs, PyProof.Rows.TupsOf s.heap (fun _ => false) (ts.map Value.ref) fs := fun ts => by
    induction ts with
    | nil => intro _; exact ⟨[], .nil⟩
    | cons t ts ih =>
      intro hh
      obtain ⟨fs, hfs⟩ := ih fun u hu => hh u (List.mem_cons_of_mem _ hu)
      obtain ⟨o, u1, u2, n, e1, e2, e3⟩ := hh t (List.mem_cons_self ..)
      exact ⟨_ :: fs, .cons ⟨t, o, _, n, rfl, e1, e2, e3, rfl, fun _ => ⟨_, _, rfl⟩, fun z => absurd z (by decide)⟩ hfs⟩
  obtain ⟨fs, hfs⟩ := tups ts tup
  refine PyProof.Rows.G.sorted_tups hl.isList hfs (fun v hv => ?_) (by rw [List.length_map]; exact hz) fun st' hp hst _ => ?_
  · obtain ⟨t, htm, rfl⟩ := List.mem_map.mp hv
    exact ⟨_, keyC t htm⟩
  · generalize PyProof.Rows.arrOf st' = arr at hp hst
    have hlp : arr.toList.Perm ((ts.map Value.ref).zip (ts.map Value.ref)) := by
      rw [← PyProof.Rows.pairsOf_toList]
      exact Array.perm_iff_toList_perm.mp hp
    have hmem : ∀ p ∈ arr.toList, p.1 = p.2 ∧ ∃ t ∈ ts, p.1 = Value.ref t := fun p hpm => by
      obtain ⟨m1, m2⟩ := PyProof.Rows.mem_zip_self (hlp.mem_iff.mp hpm)
      obtain ⟨t, htm, e⟩ := List.mem_map.mp m2
      exact ⟨m1, t, htm, e.symm⟩
    have hperm : (arr.toList.map fun p => adrOf p.1).Perm ts := by
      have h1 := hlp.map (fun p : Value × Value => adrOf p.1)
      have e2 : ((ts.map Value.ref).zip (ts.map Value.ref)).map (fun p : Value × Value => adrOf p.1) = ts := by
        have e3 : ((ts.map Value.ref).zip (ts.map Value.ref)).map (fun p : Value × Value => adrOf p.1) = (((ts.map Value.ref).zip (ts.map Value.ref)).map Prod.fst).map adrOf := by
          rw [List.map_map]
          rfl
        rw [e3, List.map_fst_zip (Nat.le_refl _), List.map_map]
        have : (adrOf ∘ Value.ref) = id := by funext z; rfl
        rw [this, List.map_id]
      rw [e2] at h1
      exact h1
    have hout : (arr.map (·.2)).toList = (arr.toList.map fun p => adrOf p.1).map Value.ref := by
      rw [Array.toList_map, List.map_map]
      refine List.map_congr_left fun p hpm => ?_
      obtain ⟨m1, t, _, m2⟩ := hmem p hpm
      show p.2 = Value.ref (adrOf p.1)
      rw [← m1, m2]
      rfl
    obtain ⟨ep, he'⟩ := PyProof.Rows.sortedAll_at s.heap (ts.map Value.ref) (arr.map (·.2))
    have hlen : ((arr.toList.map fun p => adrOf p.1).map V.ref).length ≤ sizeLine := by
      rw [List.length_map, hperm.length_eq]
      exact hz
    refine ⟨.ref _, upd H (s.heap.objs.size + 1) (.lst ((arr.toList.map fun p => adrOf p.1).map V.ref)), I.laid (t' := s.toks) (fun _ _ => PyProof.Rows.sortedAll_old) (Nat.le_succ _) ⟨hlen, (arr.map (·.2)).toList, ep, ?_, he'⟩, rfl, q _ _ hperm ?_ (I.hok.fresh (Nat.le_succ _))⟩
    · rw [hout]
      exact refs_vals _
    · rw [List.pairwise_map]
      have hsz : (PyProof.Rows.pairsOf (ts.map Value.ref)).size = arr.toList.length := by
        rw [PyProof.Rows.pairsOf_size, List.length_map, ← hperm.length_eq, List.length_map]
      rw [List.pairwise_iff_getElem]
      intro i j hi hj hij
      have k := hst i j (Nat.le_of_lt hij) (by rw [hsz]; exact hj)
      have g1 : arr[i]? = some (arr.toList[i]'hi) := by rw [← Array.getElem?_toList]; exact List.getElem?_eq_getElem hi
      have g2 : arr[j]? = some (arr.toList[j]'hj) := by rw [← Array.getElem?_toList]; exact List.getElem?_eq_getElem hj
      unfold PyProof.Rows.KK at k
      rw [g1, g2] at k
      obtain ⟨_, t, m2, m3⟩ := hmem _ (List.getElem_mem hi)
      obtain ⟨_, u, w2, w3⟩ := hmem _ (List.getElem_mem hj)
      simp only [m3, w3] at k ⊢
      have k' : PyProof.Rows.lexLt PyProof.Rows.itemOrd ((PyProof.Rows.G.tupKeyC s.heap (fun _ => false) (.ref u)).getD []) ((PyProof.Rows.G.tupKeyC s.heap (fun _ => false) (.ref t)).getD []) = false := k
      rw [keyC t m2, keyC u w2] at k'
      have k2 := (PyProof.Rows.lex_false.mp k').1
      have k3 : ¬ (key u).1 < (key t).1 := of_decide_eq_false k2
      show (key t).1 ≤ (key u).1
      lia
end
/-! ### more comprehensions -/
theorem lc_rangeC {lo c : Int} {n : Nat} {g : TG} {tt : TT} {te : TE} {vs : List Nat} {σ : L2.St} {H1 : Hp} {D : Addr} {Qd : Hp → Prop} (Pv : Nat → Hp → Prop) (h0 : Pv 0 (upd H1 D (.lst [])))
    (hs : ∀ (i : Nat) H, i < n → Pv i H → g (.int (lo + (i : Nat) * c)) (wipe σ vs) H fun σ2 H2 => wipe σ2 vs = wipe σ vs ∧ tt σ2 H2 fun b H3 =>
      if b = true then te σ2 H3 fun y H4 => ∃ acc, H4 D = some (.lst acc) ∧ acc.length < sizeLine ∧ Pv (i + 1) (upd H4 D (.lst (acc ++ [y]))) else Pv (i + 1) H3) (hd : ∀ H, Pv n H → Qd H) :
    ∃ W : Nat → Nat → Hp → Prop, (∃ m, W 0 m (upd H1 D (.lst []))) ∧ ∀ i m H, W i m H →
      ((Itc lo c n).stop i H ∧ Qd H) ∨ ((Itc lo c n).go i H ∧ ∃ Nx : Hp → Prop, (∀ H', Nx H' → ∃ m', m' < m ∧ W (i + 1) m' H') ∧ ∀ x H', (Itc lo c n).yld i H x H' → g x (wipe σ vs) H' fun σ2 H2 => wipe σ2 vs = wipe σ vs ∧ tt σ2 H2 fun b H3 =>
        if b = true then te σ2 H3 fun y H4 => ∃ acc, H4 D = some (.lst acc) ∧ acc.length < sizeLine ∧ Nx (upd H4 D (.lst (acc ++ [y]))) else Nx H3) := by
  refine ⟨fun i m H => m = n - i ∧ i ≤ n ∧ Pv i H, ⟨n, rfl, Nat.zero_le _, h0⟩, fun i m H ⟨e, hi, p⟩ => ?_⟩
  subst e
  by_cases hlt : i < n
  · refine .inr ⟨hlt, Pv (i + 1), fun H' p' => ⟨n - (i + 1), by lia, rfl, hlt, p'⟩, fun x H' ⟨e, y⟩ => ?_⟩
    subst e y
    exact hs i _ hlt p
  · obtain rfl : i = n := by lia
    exact .inl ⟨Nat.le_refl _, hd H p⟩
/-- over a dict's keys, which is locked -/
theorem lc_keys {d : Addr} {o : Obj} {kvs : List (Key × V)} {g : TG} {tt : TT} {te : TE} {vs : List Nat} {σ : L2.St} {H1 : Hp} {D : Addr} {Qd : Hp → Prop} (Pv : Nat → Hp → Prop) (h0 : Pv 0 (upd H1 D (.lst []))) (hl : ∀ i H, i ≤ kvs.length → Pv i H → H d = some (.frz o (.dK kvs)))
    (hs : ∀ (i : Nat) k v H, kvs[i]? = some (k, v) → Pv i H → g (kV k) (wipe σ vs) H fun σ2 H2 => wipe σ2 vs = wipe σ vs ∧ tt σ2 H2 fun b H3 =>
      if b = true then te σ2 H3 fun y H4 => ∃ acc, H4 D = some (.lst acc) ∧ acc.length < sizeLine ∧ Pv (i + 1) (upd H4 D (.lst (acc ++ [y]))) else Pv (i + 1) H3) (hd : ∀ H, Pv kvs.length H → Qd H) :
    ∃ W : Nat → Nat → Hp → Prop, (∃ m, W 0 m (upd H1 D (.lst []))) ∧ ∀ i m H, W i m H →
      ((Itk d o kvs).stop i H ∧ Qd H) ∨ ((Itk d o kvs).go i H ∧ ∃ Nx : Hp → Prop, (∀ H', Nx H' → ∃ m', m' < m ∧ W (i + 1) m' H') ∧ ∀ x H', (Itk d o kvs).yld i H x H' → g x (wipe σ vs) H' fun σ2 H2 => wipe σ2 vs = wipe σ vs ∧ tt σ2 H2 fun b H3 =>
        if b = true then te σ2 H3 fun y H4 => ∃ acc, H4 D = some (.lst acc) ∧ acc.length < sizeLine ∧ Nx (upd H4 D (.lst (acc ++ [y]))) else Nx H3) := by
  refine ⟨fun i m H => m = kvs.length - i ∧ i ≤ kvs.length ∧ Pv i H, ⟨_, rfl, Nat.zero_le _, h0⟩, fun i m H ⟨e, hi, p⟩ => ?_⟩
  subst e
  have q := hl i H hi p
  by_cases hlt : i < kvs.length
  · refine .inr ⟨⟨q, hlt⟩, Pv (i + 1), fun H' p' => ⟨kvs.length - (i + 1), by lia, rfl, hlt, p'⟩, fun x H' ⟨e, k, v, hk, y⟩ => ?_⟩
    subst e y
    exact hs i k v _ hk p
  · obtain rfl : i = kvs.length := by lia
    exact .inl ⟨⟨q, Nat.le_refl _⟩, hd H p⟩
theorem b_min : bootBuiltins "min" = some (.builtin "min") := by decide +kernel
theorem b_max : bootBuiltins "max" = some (.builtin "max") := by decide +kernel
theorem b_any : bootBuiltins "any" = some (.builtin "any") := by decide +kernel
theorem b_all : bootBuiltins "all" = some (.builtin "all") := by decide +kernel
end GR

set_option Elab.async false
set_option maxRecDepth 100000
set_option maxHeartbeats 2000000
namespace GR
open PySem PySem.Spec PyProof.Rows L2
section
variable {X : Cx} {K : PySem.W.Frag}
/-! the rules with the text's own K, for a comprehension's block -/
theorem ix_listK (h : X.K = K) : IxR X (rIxL K) := by subst h; exact ix_list
theorem ix_tupK (h : X.K = K) : IxR X (rIxT K) := by subst h; exact ix_tup
theorem sl_listK (h : X.K = K) : SlR X (rSlL K) := by subst h; exact sl_list
theorem notInK (h : X.K = K) : OpR X (compareOp .NotIn) (rIn K true) := by subst h; exact op_notIn_seq
theorem minK (h : X.K = K) (hc : X.calm = true) : CallR X (.builtin "min") (rMin K) := by subst h; exact cr_min hc
theorem maxK (h : X.K = K) (hc : X.calm = true) : CallR X (.builtin "max") (rMax K) := by subst h; exact cr_max hc
theorem lenK (h : X.K = K) : CallR X (.builtin "len") (fun xs H Q => ∃ p ys, xs = [.ref p] ∧ (SqL K H p ys ∨ SqT K H p ys) ∧ Q (.int ys.length) H) := by subst h; exact call_len_seq
theorem pg_tupK {pos : Pos} {es : List Expr} {k : Nat} {t : TGs} {n : Nat} (h : X.K = K) (hc : X.calm = true) (hp : PGs X es t) (hn : (assignEach es X.env).length = n := by rfl) (hst : (assignEach es X.env).findIdx? (·.1) = none := by rfl) : PG X (.Tuple es k pos) (gTup K n t) := by
  subst h
  exact pg_tup hc hp hn hst
end
end GR

set_option maxHeartbeats 1000000
set_option linter.unusedVariables false
namespace GX
/-! ### reaching -/
inductive Rc (R : Nat → Nat → Prop) : Nat → Nat → Prop
  | refl (p : Nat) : Rc R p p
  | head {p r q : Nat} : R p r → Rc R r q → Rc R p q
namespace Rc
variable {R S : Nat → Nat → Prop}
theorem one {p q : Nat} (h : R p q) : Rc R p q := .head h (.refl _)
theorem trans {p q r : Nat} (h : Rc R p q) (k : Rc R q r) : Rc R p r := by
  induction h with
  | refl => exact k
  | head a _ ih => exact .head a (ih k)
theorem symm (hs : ∀ a b, R a b → R b a) {p q : Nat} (h : Rc R p q) : Rc R q p := by
  induction h with
  | refl => exact .refl _
  | head a _ ih => exact ih.trans (.one (hs _ _ a))
theorem bind {p q : Nat} (h : Rc R p q) (k : ∀ a b, R a b → Rc S a b) : Rc S p q := by
  induction h with
  | refl => exact .refl _
  | head a _ ih => exact (k _ _ a).trans ih
theorem inv {p q : Nat} (h : Rc R p q) (P : Nat → Prop) (hp : P p) (k : ∀ a b, P a → R a b → P b) : P q := by
  induction h with
  | refl => exact hp
  | head a _ ih => exact ih (k _ _ hp a)
/-- along a way whose every place keeps to P -/
theorem mapI {p q : Nat} (h : Rc R p q) (P : Nat → Prop) (hp : P p) (k : ∀ a b, P a → R a b → P b ∧ Rc S a b) : P q ∧ Rc S p q := by
  induction h with
  | refl => exact ⟨hp, .refl _⟩
  | head a _ ih =>
    obtain ⟨h1, h2⟩ := k _ _ hp a
    obtain ⟨h3, h4⟩ := ih h1
    exact ⟨h3, h2.trans h4⟩
end Rc
/-! ### counting -/
theorem filter_lt {P Q : Nat → Bool} : ∀ {l : List Nat}, (∀ x ∈ l, P x = true → Q x = true) → (∃ x ∈ l, Q x = true ∧ P x = false) → (l.filter P).length < (l.filter Q).length
  | [], _, h => by obtain ⟨x, hx, _⟩ := h; cases hx
  | a :: l, h, he => by
    have hle : ∀ l : List Nat, (∀ x ∈ l, P x = true → Q x = true) → (l.filter P).length ≤ (l.filter Q).length := fun l => by
      induction l with
      | nil => intro _; exact Nat.le_refl _
      | cons b l ih =>
        intro hh
        have i := ih fun x hx => hh x (List.mem_cons_of_mem _ hx)
        have := hh b (List.mem_cons_self ..)
        rw [List.filter_cons, List.filter_cons]
        cases hP : P b <;> cases hQ : Q b <;> simp_all <;> lia
    have ht : ∀ x ∈ l, P x = true → Q x = true := fun x hx => h x (List.mem_cons_of_mem _ hx)
    obtain ⟨x, hx, hq, hp⟩ := he
    rw [List.filter_cons, List.filter_cons]
    rcases List.mem_cons.mp hx with e | hx
    · subst e
      have := hle l ht
      rw [hq, hp]
      simp
      lia
    · have i := filter_lt ht ⟨x, hx, hq, hp⟩
      have := h a (List.mem_cons_self ..)
      cases hP : P a <;> cases hQ : Q a <;> simp_all <;> lia
/-! ### falling labels -/
def adj (near : List (List Nat)) (p q : Nat) : Prop := p < near.length ∧ q ∈ near.getD p []
theorem leastAt_spec (l : List Nat) (N : Nat) (hl : l.length = N) (p : Nat) : ∀ (ps : List Nat), (∀ q ∈ ps, q < N) → ∀ m0 : Nat,
    let r := ps.foldl (fun (m q : Nat) => min m (l.getD q m)) m0
    r ≤ m0 ∧ (∀ q ∈ ps, r ≤ l.getD q 0) ∧ (r = m0 ∨ ∃ q ∈ ps, r = l.getD q 0)
  | [], _, m0 => ⟨Nat.le_refl _, (fun q hq => by cases hq), .inl rfl⟩
  | a :: ps, h, m0 => by
    have ha : a < l.length := by rw [hl]; exact h a (List.mem_cons_self ..)
    have e : l.getD a m0 = l.getD a 0 := by
      rw [List.getD_eq_getElem?_getD, List.getD_eq_getElem?_getD, List.getElem?_eq_getElem ha]
      rfl
    obtain ⟨h1, h2, h3⟩ := leastAt_spec l N hl p ps (fun q hq => h q (List.mem_cons_of_mem _ hq)) (min m0 (l.getD a m0))
    rw [List.foldl_cons]
    rw [e] at h1 h2 h3 ⊢
    refine ⟨by lia, fun q hq => ?_, ?_⟩
    · rcases List.mem_cons.mp hq with rfl | hq
      · exact Nat.le_trans h1 (Nat.min_le_right _ _)
      · exact h2 q hq
    · rcases h3 with h3 | ⟨q, hq, h3⟩
      · by_cases hc : m0 ≤ l.getD a 0
        · left; rw [h3, Nat.min_eq_left hc]
        · right; exact ⟨a, List.mem_cons_self .., by rw [h3, Nat.min_eq_right (by lia)]⟩
      · exact .inr ⟨q, List.mem_cons_of_mem _ hq, h3⟩
def stepL (near : List (List Nat)) (l : List Nat) : List Nat := near.zipIdx.map fun x => Rc65.leastAt l x.2 x.1
theorem stepL_len (near : List (List Nat)) (l : List Nat) : (stepL near l).length = near.length := by simp [stepL]
theorem stepL_get {near : List (List Nat)} {l : List Nat} {p : Nat} (h : p < near.length) : (stepL near l).getD p 0 = Rc65.leastAt l p (near.getD p []) := by
  unfold stepL
  rw [List.getD_eq_getElem?_getD, List.getElem?_map, List.getElem?_zipIdx, List.getD_eq_getElem?_getD, List.getElem?_eq_getElem h]
  simp
def within (near : List (List Nat)) : Nat → Nat → Nat → Prop
  | 0, p, q => p = q
  | k + 1, p, q => within near k p q ∨ ∃ r, adj near p r ∧ within near k r q
section
variable {near : List (List Nat)} (hb : ∀ p, p < near.length → ∀ q ∈ near.getD p [], q < near.length)
include hb
theorem falls_low : ∀ (k : Nat) (l : List Nat), l.length = near.length → (∀ p, p < near.length → Rc (adj near) p (l.getD p 0)) → (Rc65.falls near k l).length = near.length ∧ ∀ p, p < near.length → Rc (adj near) p ((Rc65.falls near k l).getD p 0)
  | 0, l, hl, h => ⟨hl, h⟩
  | k + 1, l, hl, h => by
    refine falls_low k (stepL near l) (stepL_len _ _) fun p hp => ?_
    rw [stepL_get hp]
    obtain ⟨_, _, h3⟩ := leastAt_spec l near.length hl p (near.getD p []) (hb p hp) (l.getD p 0)
    rcases h3 with h3 | ⟨q, hq, h3⟩
    · unfold Rc65.leastAt
      rw [h3]
      exact h p hp
    · unfold Rc65.leastAt
      rw [h3]
      exact .head ⟨hp, hq⟩ (h q (hb p hp q hq))
theorem falls_bound : ∀ (k j : Nat) (l : List Nat), l.length = near.length → (∀ p, p < near.length → ∀ q, within near j p q → l.getD p 0 ≤ q) → ∀ p, p < near.length → ∀ q, within near (j + k) p q → (Rc65.falls near k l).getD p 0 ≤ q
  | 0, j, l, hl, h => h
  | k + 1, j, l, hl, h => by
    have := falls_bound k (j + 1) (stepL near l) (stepL_len _ _) fun p hp q hq => ?_
    · intro p hp q hq
      exact this p hp q (by rw [show j + 1 + k = j + (k + 1) by lia]; exact hq)
    · rw [stepL_get hp]
      obtain ⟨h1, h2, _⟩ := leastAt_spec l near.length hl p (near.getD p []) (hb p hp) (l.getD p 0)
      rcases hq with hq | ⟨r, hr, hq⟩
      · exact Nat.le_trans h1 (h p hp q hq)
      · exact Nat.le_trans (h2 r hr.2) (h r (hb p hp r hr.2) q hq)
open Classical in
theorem within_all {q0 : Nat} (h0 : q0 < near.length) : ∀ p, p < near.length → Rc (adj near) p q0 → within near near.length p q0 := by
  have key : ∀ k, (∀ p r, adj near p r → within near k r q0 → within near k p q0) ∨ k + 1 ≤ ((List.range near.length).filter fun p => decide (within near k p q0)).length := by
    intro k
    induction k with
    | zero =>
      right
      have : 0 < ((List.range near.length).filter fun p => decide (within near 0 p q0)).length := by
        rw [List.length_pos_iff_exists_mem]
        exact ⟨q0, List.mem_filter.mpr ⟨List.mem_range.mpr h0, decide_eq_true (show q0 = q0 from rfl)⟩⟩
      lia
    | succ k ih =>
      by_cases hc : ∀ p r, adj near p r → within near k r q0 → within near k p q0
      · left
        intro p r hpr hr
        rcases hr with hr | ⟨r2, h2, h3⟩
        · exact .inl (hc p r hpr hr)
        · exact .inl (hc p r hpr (hc r r2 h2 h3))
      · right
        have ih := ih.resolve_left hc
        have ⟨p, hp⟩ := Classical.not_forall.mp hc
        have ⟨r, hr⟩ := Classical.not_forall.mp hp
        obtain ⟨h1, hr⟩ := Classical.not_imp.mp hr
        obtain ⟨h2, h3⟩ := Classical.not_imp.mp hr
        have := filter_lt (P := fun p => decide (within near k p q0)) (Q := fun p => decide (within near (k + 1) p q0)) (l := List.range near.length)
          (fun x _ hx => decide_eq_true (.inl (of_decide_eq_true hx))) ⟨p, List.mem_range.mpr h1.1, decide_eq_true (.inr ⟨r, h1, h2⟩), decide_eq_false h3⟩
        lia
  have hN := (key near.length).resolve_right (by
    have := List.length_filter_le (fun p => decide (within near near.length p q0)) (List.range near.length)
    rw [List.length_range] at this
    lia)
  have hz : ∀ k, within near k q0 q0 := fun k => by
    induction k with
    | zero => rfl
    | succ k ih => exact .inl ih
  intro p hp h
  clear hp
  induction h with
  | refl => exact hz _
  | head a _ ih => exact hN _ _ a (ih h0 key hN hz)
/-- **labels**: the least that is reached -/
theorem falls_spec : (Rc65.falls near near.length (List.range near.length)).length = near.length ∧ ∀ p, p < near.length → Rc (adj near) p ((Rc65.falls near near.length (List.range near.length)).getD p 0) ∧
    ∀ q, Rc (adj near) p q → (Rc65.falls near near.length (List.range near.length)).getD p 0 ≤ q := by
  have hr : ∀ p, p < near.length → (List.range near.length).getD p 0 = p := fun p hp => by
    rw [List.getD_eq_getElem?_getD, List.getElem?_range hp]
    rfl
  obtain ⟨h1, h2⟩ := falls_low hb near.length (List.range near.length) (List.length_range) fun p hp => by rw [hr p hp]; exact .refl _
  refine ⟨h1, fun p hp => ⟨h2 p hp, fun q hq => ?_⟩⟩
  have hq' : q < near.length := hq.inv (fun z => z < near.length) hp fun a b ha hab => hb a ha b hab.2
  refine falls_bound hb near.length 0 (List.range near.length) (List.length_range) (fun p hp q hq => ?_) p hp q ?_
  · rw [hr p hp]
    exact Nat.le_of_eq hq
  · rw [Nat.zero_add]
    exact within_all hb hq' p hp hq
end
end GX

set_option maxHeartbeats 1000000
set_option linter.unusedVariables false
namespace GX
open GM
def e1 (x : Int) : Nat := if 0 < x then 2 * x.natAbs - 1 else 2 * x.natAbs
def e2 (x : Int) : Nat := if 0 < x then 2 * x.natAbs else 2 * x.natAbs - 1
abbrev endsF (x : Int) : List Nat := if 0 < x then [2 * x.natAbs - 1, 2 * x.natAbs] else [2 * x.natAbs, 2 * x.natAbs - 1]
theorem endsF_eq (x : Int) : endsF x = [e1 x, e2 x] := by unfold endsF e1 e2; split <;> rfl
theorem flat_get : ∀ (g : List Int) (t : Nat), t < g.length → (g.flatMap endsF)[2 * t]? = some (e1 (g.getD t 0)) ∧ (g.flatMap endsF)[2 * t + 1]? = some (e2 (g.getD t 0))
  | [], t, h => by simp at h
  | x :: g, 0, h => by rw [List.flatMap_cons, endsF_eq]; exact ⟨rfl, rfl⟩
  | x :: g, t + 1, h => by
    have ih := flat_get g t (by simpa using h)
    rw [List.flatMap_cons, endsF_eq]
    exact ih
theorem flat_len : ∀ g : List Int, (g.flatMap endsF).length = 2 * g.length
  | [] => rfl
  | x :: g => by rw [List.flatMap_cons, endsF_eq, List.length_append, flat_len g, List.length_cons]; simp; lia
theorem ends_eq (g : List Int) : Rc65.ends g = 0 :: (g.flatMap endsF ++ [2 * g.length + 1]) := rfl
def EE (g : List Int) (p : Nat) : Nat := (Rc65.ends g).getD p 0
theorem EE_0 (g : List Int) : EE g 0 = 0 := rfl
theorem EE_1 {g : List Int} {t : Nat} (h : t < g.length) : EE g (2 * t + 1) = e1 (g.getD t 0) := by
  unfold EE
  rw [ends_eq, List.getD_eq_getElem?_getD, List.getElem?_cons_succ, List.getElem?_append_left (by rw [flat_len]; lia), (flat_get g t h).1]
  rfl
theorem EE_2 {g : List Int} {t : Nat} (h : t < g.length) : EE g (2 * t + 2) = e2 (g.getD t 0) := by
  unfold EE
  rw [ends_eq, List.getD_eq_getElem?_getD, List.getElem?_cons_succ, List.getElem?_append_left (by rw [flat_len]; lia), (flat_get g t h).2]
  rfl
theorem EE_n (g : List Int) : EE g (2 * g.length + 1) = 2 * g.length + 1 := by
  unfold EE
  rw [ends_eq, List.getD_eq_getElem?_getD, List.getElem?_cons_succ, List.getElem?_append_right (by rw [flat_len]; lia), flat_len]
  simp
theorem place_cases {n p : Nat} (h : p < 2 * n + 2) : p = 0 ∨ p = 2 * n + 1 ∨ ∃ t, t < n ∧ (p = 2 * t + 1 ∨ p = 2 * t + 2) := by
  by_cases h0 : p = 0
  · exact .inl h0
  · by_cases h1 : p = 2 * n + 1
    · exact .inr (.inl h1)
    · exact .inr (.inr ⟨(p - 1) / 2, by lia, by lia⟩)
theorem getD_mem {g : List Int} {t : Nat} (h : t < g.length) : g.getD t 0 ∈ g ∧ g[t]? = some (g.getD t 0) := by
  have e : g[t]? = some (g.getD t 0) := by rw [List.getD_eq_getElem?_getD, List.getElem?_eq_getElem h]; rfl
  exact ⟨List.mem_of_getElem? e, e⟩
section
variable {g : List Int} (hg : Rc65.right g = true)
include hg
theorem e_bound {t : Nat} (h : t < g.length) : 1 ≤ e1 (g.getD t 0) ∧ e1 (g.getD t 0) ≤ 2 * g.length ∧ 1 ≤ e2 (g.getD t 0) ∧ e2 (g.getD t 0) ≤ 2 * g.length ∧ e1 (g.getD t 0) ≠ e2 (g.getD t 0) := by
  have := right_bound hg (getD_mem h).1
  unfold e1 e2
  split <;> lia
theorem EE_lt {p : Nat} (h : p < 2 * g.length + 2) : EE g p < 2 * g.length + 2 := by
  rcases place_cases h with rfl | rfl | ⟨t, ht, rfl | rfl⟩
  · rw [EE_0]; lia
  · rw [EE_n]; lia
  · have := e_bound hg ht; rw [EE_1 ht]; lia
  · have := e_bound hg ht; rw [EE_2 ht]; lia
theorem e_inj {t s : Nat} (ht : t < g.length) (hs : s < g.length) (h : (g.getD t 0).natAbs = (g.getD s 0).natAbs) : t = s := right_inj hg (getD_mem ht).2 (getD_mem hs).2 h
theorem EE_inj {p q : Nat} (hp : p < 2 * g.length + 2) (hq : q < 2 * g.length + 2) (h : EE g p = EE g q) : p = q := by
  have a1 : ∀ x : Int, 1 ≤ x.natAbs → (e1 x + 1) / 2 = x.natAbs ∧ (e2 x + 1) / 2 = x.natAbs ∧ e1 x ≠ e2 x := fun x hx => by unfold e1 e2; split <;> lia
  rcases place_cases hp with rfl | rfl | ⟨t, ht, rfl | rfl⟩ <;> rcases place_cases hq with rfl | rfl | ⟨s, hs, rfl | rfl⟩
  · rfl
  · rw [EE_0, EE_n] at h; lia
  · have := e_bound hg hs; rw [EE_0, EE_1 hs] at h; lia
  · have := e_bound hg hs; rw [EE_0, EE_2 hs] at h; lia
  · rw [EE_0, EE_n] at h; lia
  · rfl
  · have := e_bound hg hs; rw [EE_n, EE_1 hs] at h; lia
  · have := e_bound hg hs; rw [EE_n, EE_2 hs] at h; lia
  · have := e_bound hg ht; rw [EE_0, EE_1 ht] at h; lia
  · have := e_bound hg ht; rw [EE_n, EE_1 ht] at h; lia
  all_goals
    have bt := a1 _ (right_bound hg (getD_mem ht).1).1
  any_goals
    have bs := a1 _ (right_bound hg (getD_mem hs).1).1
  · rw [EE_1 ht, EE_1 hs] at h
    have := e_inj hg ht hs (by lia)
    lia
  · rw [EE_1 ht, EE_2 hs] at h
    have := e_inj hg ht hs (by lia)
    subst this
    exact absurd h bt.2.2
  · have := e_bound hg ht; rw [EE_0, EE_2 ht] at h; lia
  · have := e_bound hg ht; rw [EE_n, EE_2 ht] at h; lia
  · rw [EE_2 ht, EE_1 hs] at h
    have := e_inj hg ht hs (by lia)
    subst this
    exact absurd h.symm bt.2.2
  · rw [EE_2 ht, EE_2 hs] at h
    have := e_inj hg ht hs (by lia)
    lia
theorem EE_surj {v : Nat} (hv : v < 2 * g.length + 2) : ∃ p, p < 2 * g.length + 2 ∧ EE g p = v := by
  rcases place_cases hv with rfl | rfl | ⟨k, hk, hv'⟩
  · exact ⟨0, by lia, EE_0 g⟩
  · exact ⟨_, hv, EE_n g⟩
  · obtain ⟨x, hx, e⟩ := right_iff.mp hg k hk
    obtain ⟨t, ht⟩ := List.getElem?_of_mem hx
    have htl : t < g.length := (List.getElem?_eq_some_iff.mp ht).1
    have ex : g.getD t 0 = x := by rw [List.getD_eq_getElem?_getD, ht]; rfl
    by_cases h1 : v = e1 x
    · exact ⟨2 * t + 1, by lia, by rw [EE_1 htl, ex]; exact h1.symm⟩
    · refine ⟨2 * t + 2, by lia, ?_⟩
      rw [EE_2 htl, ex]
      unfold e1 at h1
      unfold e2
      by_cases c : 0 < x
      · rw [if_pos c] at h1 ⊢; lia
      · rw [if_neg c] at h1 ⊢; lia
end
/-- the place of an end -/
def AA (g : List Int) (v : Nat) : Nat := Rc65.at_ (Rc65.ends g) v
section
variable {g : List Int} (hg : Rc65.right g = true)
include hg
theorem AA_spec {v : Nat} (hv : v < 2 * g.length + 2) : AA g v < 2 * g.length + 2 ∧ EE g (AA g v) = v := by
  obtain ⟨p, hp, e⟩ := EE_surj hg hv
  have hpl : p < (Rc65.ends g).length := by rw [ends_len]; exact hp
  have hm : ∃ x ∈ Rc65.ends g, (x == v) = true := ⟨(Rc65.ends g)[p], List.getElem_mem hpl, by
    unfold EE at e
    rw [List.getD_eq_getElem?_getD, List.getElem?_eq_getElem hpl] at e
    simpa using e⟩
  have hlt : (Rc65.ends g).findIdx (fun x => x == v) < (Rc65.ends g).length := List.findIdx_lt_length_of_exists hm
  refine ⟨by unfold AA Rc65.at_; rw [← ends_len]; exact hlt, ?_⟩
  have := List.findIdx_getElem (w := hlt)
  unfold EE AA Rc65.at_
  rw [List.getD_eq_getElem?_getD, List.getElem?_eq_getElem hlt]
  simpa using this
theorem AA_EE {p : Nat} (hp : p < 2 * g.length + 2) : AA g (EE g p) = p := EE_inj hg (AA_spec hg (EE_lt hg hp)).1 hp (AA_spec hg (EE_lt hg hp)).2
end
/-! ### the picture of a row -/
structure Cfg where
  n : Nat
  E : Nat → Nat
  A : Nat → Nat
  E_lt : ∀ p, p < 2 * n + 2 → E p < 2 * n + 2
  A_lt : ∀ v, v < 2 * n + 2 → A v < 2 * n + 2
  AE : ∀ p, p < 2 * n + 2 → A (E p) = p
  EA : ∀ v, v < 2 * n + 2 → E (A v) = v
  E0 : E 0 = 0
  gene : ∀ t, t < n → ∃ k, 1 ≤ k ∧ k ≤ n ∧ ((E (2 * t + 1) = 2 * k - 1 ∧ E (2 * t + 2) = 2 * k) ∨ (E (2 * t + 1) = 2 * k ∧ E (2 * t + 2) = 2 * k - 1))
def cfg (g : List Int) (hg : Rc65.right g = true) : Cfg where
  n := g.length
  E := EE g
  A := AA g
  E_lt := fun p hp => EE_lt hg hp
  A_lt := fun v hv => (AA_spec hg hv).1
  AE := fun p hp => AA_EE hg hp
  EA := fun v hv => (AA_spec hg hv).2
  E0 := EE_0 g
  gene := fun t ht => by
    have hb := right_bound hg (getD_mem ht).1
    refine ⟨(g.getD t 0).natAbs, hb.1, hb.2, ?_⟩
    rw [EE_1 ht, EE_2 ht]
    unfold e1 e2
    split
    · exact .inl ⟨rfl, rfl⟩
    · exact .inr ⟨rfl, rfl⟩
/-! ### a turn -/
def sw (x y z : Nat) : Nat := if x ≤ z ∧ z ≤ y then x + y - z else z
theorem sw_sw (x y z : Nat) : sw x y (sw x y z) = z := by 
  unfold sw
  by_cases c : x ≤ z ∧ z ≤ y
  · rw [if_pos c, if_pos (by lia)]; lia
  · rw [if_neg c, if_neg c]
theorem ij_lt0 {i j t n : Nat} (h : t < n) (h2 : j < n) (c1 : i ≤ t) (c2 : t ≤ j) : i + j - t < n := by lia
theorem tg0 {i j n : Nat} (h1 : i ≤ j) (h2 : j < n) : min i n = i ∧ min (j + 1 - i) (n - i) = j + 1 - i ∧ i ≤ n := by lia
theorem tg1 {i j t : Nat} (c1 : ¬ t < i) (c2 : t ≤ j) : t - i < j + 1 - i ∧ j + 1 - i - 1 - (t - i) < j + 1 - i ∧ i + (j + 1 - i - 1 - (t - i)) = i + j - t := by lia
theorem tg2 {i j t : Nat} (h1 : i ≤ j) (c2 : ¬ t ≤ j) : i + (j + 1 - i) ≤ t ∧ j + 1 + (t - (i + (j + 1 - i))) = t := by lia
theorem turn_get {g : List Int} {i j t : Nat} (h1 : i ≤ j) (h2 : j < g.length) (ht : t < g.length) : (Rc65.turn g i j).getD t 0 = if i ≤ t ∧ t ≤ j then - g.getD (i + j - t) 0 else g.getD t 0 := by
  unfold Rc65.turn
  rw [List.getD_eq_getElem?_getD, List.getD_eq_getElem?_getD, List.getD_eq_getElem?_getD]
  obtain ⟨m1, m2, m3⟩ := tg0 h1 h2
  have l1 : (g.take i).length = i := by rw [List.length_take]; exact m1
  have l0 : ((g.drop i).take (j + 1 - i)).length = j + 1 - i := by rw [List.length_take, List.length_drop]; exact m2
  have l2 : (((g.drop i).take (j + 1 - i)).reverse.map fun x => -x).length = j + 1 - i := by rw [List.length_map, List.length_reverse]; exact l0
  by_cases c1 : t < i
  · rw [List.append_assoc, List.getElem?_append_left (by rw [l1]; exact c1), List.getElem?_take_of_lt c1, if_neg (fun z => Nat.not_le_of_lt c1 z.1)]
  · by_cases c2 : t ≤ j
    · obtain ⟨a1, a2, a3⟩ := tg1 c1 c2
      rw [List.append_assoc, List.getElem?_append_right (by rw [l1]; exact Nat.le_of_not_lt c1), l1, List.getElem?_append_left (by rw [l2]; exact a1), if_pos ⟨Nat.le_of_not_lt c1, c2⟩, List.getElem?_map,
        List.getElem?_reverse (by rw [l0]; exact a1), l0, List.getElem?_take_of_lt a2, List.getElem?_drop, a3, List.getElem?_eq_getElem (ij_lt0 ht h2 (Nat.le_of_not_lt c1) c2)]
      rfl
    · obtain ⟨a1, a2⟩ := tg2 h1 c2
      rw [List.getElem?_append_right (by rw [List.length_append, l1, l2]; exact a1), if_neg (fun z => c2 z.2), List.length_append, l1, l2, List.getElem?_drop, a2]
theorem sw_a {i j t : Nat} (c : i ≤ t ∧ t ≤ j) : sw (2 * i + 1) (2 * j + 2) (2 * t + 1) = 2 * (i + j - t) + 2 := by unfold sw; rw [if_pos (by lia)]; lia
theorem sw_b {i j t : Nat} (c : i ≤ t ∧ t ≤ j) : sw (2 * i + 1) (2 * j + 2) (2 * t + 2) = 2 * (i + j - t) + 1 := by unfold sw; rw [if_pos (by lia)]; lia
theorem sw_c {i j t : Nat} (c : ¬ (i ≤ t ∧ t ≤ j)) : sw (2 * i + 1) (2 * j + 2) (2 * t + 1) = 2 * t + 1 := by unfold sw; rw [if_neg (by lia)]
theorem sw_d {i j t : Nat} (c : ¬ (i ≤ t ∧ t ≤ j)) : sw (2 * i + 1) (2 * j + 2) (2 * t + 2) = 2 * t + 2 := by unfold sw; rw [if_neg (by lia)]
theorem sw_0 {i j : Nat} : sw (2 * i + 1) (2 * j + 2) 0 = 0 := by unfold sw; rw [if_neg (by lia)]
theorem sw_n {i j n : Nat} (h : j < n) : sw (2 * i + 1) (2 * j + 2) (2 * n + 1) = 2 * n + 1 := by unfold sw; rw [if_neg (by lia)]
theorem e_neg (x : Int) (hx : 1 ≤ x.natAbs) : e1 (-x) = e2 x ∧ e2 (-x) = e1 x := by unfold e1 e2; constructor <;> (split <;> split <;> lia)
theorem ij_lt {i j t n : Nat} (h : t < n) (h2 : j < n) (c : i ≤ t ∧ t ≤ j) : i + j - t < n := by lia
theorem EE_turn {g : List Int} (hg : Rc65.right g = true) {i j : Nat} (h1 : i ≤ j) (h2 : j < g.length) {p : Nat} (hp : p < 2 * g.length + 2) : EE (Rc65.turn g i j) p = EE g (sw (2 * i + 1) (2 * j + 2) p) := by
  have tl := turn_len (g := g) h1 h2
  rcases place_cases hp with rfl | rfl | ⟨t, ht, rfl | rfl⟩
  · rw [sw_0, EE_0, EE_0]
  · rw [sw_n h2, EE_n, ← tl, EE_n]
  · rw [EE_1 (by rw [tl]; exact ht), turn_get h1 h2 ht]
    by_cases c : i ≤ t ∧ t ≤ j
    · have hl := ij_lt ht h2 c
      rw [if_pos c, sw_a c, (e_neg _ (right_bound hg (getD_mem hl).1).1).1, EE_2 hl]
    · rw [if_neg c, sw_c c, EE_1 ht]
  · rw [EE_2 (by rw [tl]; exact ht), turn_get h1 h2 ht]
    by_cases c : i ≤ t ∧ t ≤ j
    · have hl := ij_lt ht h2 c
      rw [if_pos c, sw_b c, (e_neg _ (right_bound hg (getD_mem hl).1).1).2, EE_1 hl]
    · rw [if_neg c, sw_d c, EE_2 ht]
theorem AA_turn {g : List Int} (hg : Rc65.right g = true) {i j : Nat} (h1 : i ≤ j) (h2 : j < g.length) {v : Nat} (hv : v < 2 * g.length + 2) : AA (Rc65.turn g i j) v = sw (2 * i + 1) (2 * j + 2) (AA g v) := by
  have tl := turn_len (g := g) h1 h2
  have hg' := turn_right hg h1 h2
  obtain ⟨a1, a2⟩ := AA_spec hg hv
  obtain ⟨b1, b2⟩ := AA_spec hg' (by rw [tl]; exact hv)
  rw [tl] at b1
  have b3 : sw (2 * i + 1) (2 * j + 2) (AA g v) < 2 * g.length + 2 := by unfold sw; split <;> lia
  refine EE_inj hg' (by rw [tl]; exact b1) (by rw [tl]; exact b3) ?_
  rw [b2, EE_turn hg h1 h2 b3, sw_sw, a2]
end GX

set_option maxHeartbeats 1000000
set_option linter.unusedVariables false
namespace GX
abbrev par := Rc65.beside
theorem par_def (p : Nat) : (p % 2 = 0 ∧ par p = p + 1) ∨ (p % 2 = 1 ∧ par p + 1 = p) := by
  unfold par Rc65.beside
  split <;> lia
theorem par_par (p : Nat) : par (par p) = p := by have := par_def p; have := par_def (par p); lia
theorem par_ne (p : Nat) : par p ≠ p := by have := par_def p; lia
theorem par_lt {p n : Nat} (h : p < 2 * n + 2) : par p < 2 * n + 2 := by have := par_def p; lia
theorem par_half (p : Nat) : par p / 2 = p / 2 := by have := par_def p; lia
theorem even_len (f : Nat → Nat) : ∀ (n : Nat) (l : List Nat), l.length ≤ n → l.Nodup → (∀ x ∈ l, f x ∈ l ∧ f (f x) = x ∧ f x ≠ x) → l.length % 2 = 0
  | _, [], _, _, _ => rfl
  | 0, a :: l, h, _, _ => by simp at h
  | n + 1, a :: l, h, hn, hf => by
    obtain ⟨hal, hn'⟩ := List.nodup_cons.mp hn
    obtain ⟨f1, f2, f3⟩ := hf a (List.mem_cons_self ..)
    have fa : f a ∈ l := by
      rcases List.mem_cons.mp f1 with e | e
      · exact absurd e f3
      · exact e
    have hl : (l.erase (f a)).length + 1 = l.length := by
      rw [List.length_erase_of_mem fa]
      have := List.length_pos_of_mem fa
      lia
    have ih := even_len f n (l.erase (f a)) (by rw [List.length_cons] at h; lia) (hn'.erase _) fun x hx => by
      have hx' := (List.Nodup.mem_erase_iff hn').mp hx
      obtain ⟨g1, g2, g3⟩ := hf x (List.mem_cons_of_mem _ hx'.2)
      refine ⟨(List.Nodup.mem_erase_iff hn').mpr ⟨fun e => ?_, ?_⟩, g2, g3⟩
      · have : x = a := by rw [← g2, e, f2]
        subst this
        exact hal hx'.2
      · rcases List.mem_cons.mp g1 with e | e
        · exact absurd (by rw [← e, g2] : f a = x) (fun q => hx'.1 q.symm)
        · exact e
    rw [List.length_cons]
    lia
def Btw (p q r : Nat) : Prop := (p < r ∧ r < q) ∨ (q < r ∧ r < p)
theorem btw_convex {p q a b r : Nat} (ha : Btw p q a) (hb : Btw p q b) (h : Btw a b r) : Btw p q r := by
  unfold Btw at *
  lia
def In (x y z : Nat) : Prop := x ≤ z ∧ z ≤ y
theorem in_convex {x y a b r : Nat} (ha : In x y a) (hb : In x y b) (h : Btw a b r) : In x y r := by
  unfold In Btw at *
  lia
theorem btw_comm (p q r : Nat) : Btw p q r ↔ Btw q p r := by unfold Btw; exact or_comm
theorem sw_in {x y z : Nat} (h : In x y z) : sw x y z = x + y - z := if_pos h
theorem sw_out {x y z : Nat} (h : ¬ In x y z) : sw x y z = z := if_neg h
theorem bs1 {t p q r : Nat} (hp : p ≤ t) (hq : q ≤ t) (hr : r ≤ t) : Btw (t - p) (t - q) (t - r) ↔ Btw p q r := by unfold Btw; lia
theorem bs2 {x y p q r : Nat} (hp : In x y p) (hq : ¬ In x y q) (hr : In x y r) (n : r ≠ p) : Btw (x + y - p) q (x + y - r) ↔ ¬ Btw p q r := by unfold Btw In at *; lia
theorem bs3 {x y p q r : Nat} (hp : In x y p) (hq : ¬ In x y q) (hr : ¬ In x y r) : Btw (x + y - p) q r ↔ Btw p q r := by unfold Btw In at *; lia
theorem bs4 {x y p q r : Nat} (hp : ¬ In x y p) (hq : ¬ In x y q) (hr : In x y r) : Btw p q (x + y - r) ↔ Btw p q r := by unfold Btw In at *; lia
theorem bs5 {x y p : Nat} (h : In x y p) : p ≤ x + y ∧ In x y (x + y - p) := by unfold In at *; lia
theorem btw_sw {x y p q r : Nat} (h1 : p ≠ q) (h2 : r ≠ p) (h3 : r ≠ q) : Btw (sw x y p) (sw x y q) (sw x y r) ↔ ¬ (Btw p q r ↔ (¬ (In x y p ↔ In x y q) ∧ In x y r)) := by
  by_cases cp : In x y p <;> by_cases cq : In x y q <;> by_cases cr : In x y r
  · rw [sw_in cp, sw_in cq, sw_in cr, bs1 (bs5 cp).1 (bs5 cq).1 (bs5 cr).1]
    simp [cp, cq]
  · rw [sw_in cp, sw_in cq, sw_out cr]
    have n1 : ¬ Btw p q r := fun z => cr (in_convex cp cq z)
    have n2 : ¬ Btw (x + y - p) (x + y - q) r := fun z => cr (in_convex (bs5 cp).2 (bs5 cq).2 z)
    simp [cr, n1, n2]
  · rw [sw_in cp, sw_out cq, sw_in cr, bs2 cp cq cr h2]
    simp [cp, cq, cr]
  · rw [sw_in cp, sw_out cq, sw_out cr, bs3 cp cq cr]
    simp [cr]
  · rw [sw_out cp, sw_in cq, sw_in cr, btw_comm, bs2 cq cp cr h3, btw_comm]
    simp [cp, cq, cr]
  · rw [sw_out cp, sw_in cq, sw_out cr, btw_comm, bs3 cq cp cr, btw_comm]
    simp [cr]
  · rw [sw_out cp, sw_out cq, sw_in cr, bs4 cp cq cr]
    simp [cp, cq]
  · rw [sw_out cp, sw_out cq, sw_out cr]
    simp [cr]
/-- a stretch that has both or none of two places of unlike kinds -/
theorem st_b {lo hi n : Nat} (l1 : lo < hi) (l2 : hi < 2 * n + 2) (h : ¬ (hi - lo) % 2 = 0) (hf : lo % 2 = 0 → hi ≠ lo + 1) : ∃ i j, i ≤ j ∧ j < n ∧ ((2 * i = lo ∧ 2 * j + 3 = hi) ∨ (2 * i + 1 = lo ∧ 2 * j + 2 = hi)) := by
  by_cases ev : lo % 2 = 0
  · have := hf ev
    exact ⟨lo / 2, (hi - 3) / 2, by lia, by lia, .inl (by lia)⟩
  · exact ⟨(lo - 1) / 2, (hi - 2) / 2, by lia, by lia, .inr (by lia)⟩
theorem in_b {lo hi i j z : Nat} (hI : (2 * i = lo ∧ 2 * j + 3 = hi) ∨ (2 * i + 1 = lo ∧ 2 * j + 2 = hi)) (z1 : z ≠ lo) (z2 : z ≠ hi) : In (2 * i + 1) (2 * j + 2) z ↔ (lo < z ∧ z < hi) := by
  unfold In
  lia
theorem in_both {lo hi i j : Nat} (hij : i ≤ j) (hI : (2 * i = lo ∧ 2 * j + 3 = hi) ∨ (2 * i + 1 = lo ∧ 2 * j + 2 = hi)) : In (2 * i + 1) (2 * j + 2) lo ↔ In (2 * i + 1) (2 * j + 2) hi := by
  unfold In
  lia
theorem bt_lo {a b lo hi z : Nat} (l : lo < hi) (h : (lo = a ∧ hi = b) ∨ (lo = b ∧ hi = a)) : Btw a b z ↔ (lo < z ∧ z < hi) := by unfold Btw; lia
theorem odd_lo {a b lo hi : Nat} (he : ¬ (a + b) % 2 = 0) (l : lo < hi) (h : (lo = a ∧ hi = b) ∨ (lo = b ∧ hi = a)) : ¬ (hi - lo) % 2 = 0 := by lia
theorem far_lo {a b lo hi : Nat} (hm : ¬ b = par a) (h : (lo = a ∧ hi = b) ∨ (lo = b ∧ hi = a)) (ev : lo % 2 = 0) : hi ≠ lo + 1 := fun q => hm (by
  have d := par_def a
  lia)
namespace Cfg
variable (c : Cfg)
def m : Nat := 2 * c.n + 2
def N : Nat := c.n + 1
def W (p : Nat) : Nat := c.A (par (c.E p))
def a (k : Nat) : Nat := c.A (2 * k)
def b (k : Nat) : Nat := c.A (2 * k + 1)
def bk (p : Nat) : Nat := c.E p / 2
theorem m_eq : c.m = 2 * c.n + 2 := rfl
theorem N_eq : c.N = c.n + 1 := rfl
variable {c}
theorem W_lt {p : Nat} (h : p < c.m) : c.W p < c.m := c.A_lt _ (par_lt (c.E_lt p h))
theorem E_W {p : Nat} (h : p < c.m) : c.E (c.W p) = par (c.E p) := c.EA _ (par_lt (c.E_lt p h))
theorem W_W {p : Nat} (h : p < c.m) : c.W (c.W p) = p := by
  show c.A (par (c.E (c.W p))) = p
  rw [E_W h, par_par, c.AE p h]
theorem W_ne {p : Nat} (h : p < c.m) : c.W p ≠ p := fun e => by
  have := E_W h
  rw [e] at this
  exact par_ne _ this.symm
theorem E_inj {p q : Nat} (hp : p < c.m) (hq : q < c.m) (h : c.E p = c.E q) : p = q := by rw [← c.AE p hp, h, c.AE q hq]
theorem A_inj {p q : Nat} (hp : p < c.m) (hq : q < c.m) (h : c.A p = c.A q) : p = q := by rw [← c.EA p hp, h, c.EA q hq]
theorem a_lt {k : Nat} (h : k < c.N) : c.a k < c.m := c.A_lt _ (by have := c.N_eq; lia)
theorem b_lt {k : Nat} (h : k < c.N) : c.b k < c.m := c.A_lt _ (by have := c.N_eq; lia)
theorem E_a {k : Nat} (h : k < c.N) : c.E (c.a k) = 2 * k := c.EA _ (by have := c.N_eq; lia)
theorem E_b {k : Nat} (h : k < c.N) : c.E (c.b k) = 2 * k + 1 := c.EA _ (by have := c.N_eq; lia)
theorem bk_lt {p : Nat} (h : p < c.m) : c.bk p < c.N := by
  have := c.E_lt p h
  unfold bk N
  lia
theorem bk_a {k : Nat} (h : k < c.N) : c.bk (c.a k) = k := by unfold bk; rw [E_a h]; lia
theorem bk_b {k : Nat} (h : k < c.N) : c.bk (c.b k) = k := by unfold bk; rw [E_b h]; lia
theorem W_a {k : Nat} (h : k < c.N) : c.W (c.a k) = c.b k := by
  unfold W
  rw [E_a h]
  have := par_def (2 * k)
  rw [show par (2 * k) = 2 * k + 1 by lia]
  rfl
theorem W_b {k : Nat} (h : k < c.N) : c.W (c.b k) = c.a k := by rw [← W_a h, W_W (a_lt h)]
theorem bk_W {p : Nat} (h : p < c.m) : c.bk (c.W p) = c.bk p := by
  unfold bk
  rw [E_W h, par_half]
theorem place_of {p : Nat} (h : p < c.m) : p = c.a (c.bk p) ∨ p = c.b (c.bk p) := by
  have hb := bk_lt h
  have e : c.E p = 2 * c.bk p ∨ c.E p = 2 * c.bk p + 1 := by unfold bk; lia
  rcases e with e | e
  · exact .inl (E_inj h (a_lt hb) (by rw [E_a hb, e]))
  · exact .inr (E_inj h (b_lt hb) (by rw [E_b hb, e]))
theorem ab_ne {k : Nat} (h : k < c.N) : c.a k ≠ c.b k := fun e => by
  have := E_a h
  rw [e, E_b h] at this
  lia
theorem ne_of_bk {p q : Nat} (h : c.bk p ≠ c.bk q) : p ≠ q := fun e => h (by rw [e])
theorem oi1 {q i j n : Nat} (h : In (2 * i + 1) (2 * j + 2) q) (h2 : j < n) : (q - 1) / 2 < n ∧ 1 ≤ q := by unfold In at h; lia
theorem oi2 {q i j : Nat} (o : q % 2 = 1) (h : In (2 * i + 1) (2 * j + 2) q) : 2 * ((q - 1) / 2) + 1 = q ∧ 2 * ((q - 1) / 2) + 2 = q + 1 ∧ In (2 * i + 1) (2 * j + 2) (q + 1) := by unfold In at *; lia
theorem oi3 {q i j : Nat} (o : ¬ q % 2 = 1) (h : In (2 * i + 1) (2 * j + 2) q) : 2 * ((q - 1) / 2) + 1 = q - 1 ∧ 2 * ((q - 1) / 2) + 2 = q ∧ In (2 * i + 1) (2 * j + 2) (q - 1) := by unfold In at *; lia
theorem oi4 {v k e : Nat} (hp : ¬ v % 2 = 1) (h0 : ¬ v = 0) (k1 : 1 ≤ k) (h : (v = 2 * k - 1 ∧ e = 2 * k) ∨ (v = 2 * k ∧ e = 2 * k - 1)) : e = v - 1 := by lia
theorem oi5 {q i j n : Nat} (h : In (2 * i + 1) (2 * j + 2) q) (h2 : j < n) : q < 2 * n + 2 := by unfold In at h; lia
/-- one path of genes and bonds: no stretch of genes is closed -/
theorem open_I {i j : Nat} (h1 : i ≤ j) (h2 : j < c.n) : ∃ z, In (2 * i + 1) (2 * j + 2) z ∧ ¬ In (2 * i + 1) (2 * j + 2) (c.W z) := by
  refine Classical.byContradiction fun hno => ?_
  have hcl : ∀ z, In (2 * i + 1) (2 * j + 2) z → In (2 * i + 1) (2 * j + 2) (c.W z) := fun z hz => Classical.byContradiction fun q => hno ⟨z, hz, q⟩
  have key : ∀ v, v < c.m → ¬ In (2 * i + 1) (2 * j + 2) (c.A v) := by
    intro v
    induction v using Nat.strongRecOn with
    | ind v ih =>
      intro hv hI
      by_cases h0 : v = 0
      · subst h0
        have e := c.AE 0 (by lia)
        rw [c.E0] at e
        rw [e] at hI
        unfold In at hI
        lia
      · by_cases hp : v % 2 = 1
        · refine ih (v - 1) (by lia) (by lia) ?_
          have e : c.A (v - 1) = c.W (c.A v) := by
            unfold W
            rw [c.EA v hv]
            congr 1
            have := par_def v
            lia
          rw [e]
          exact hcl _ hI
        · refine ih (v - 1) (by lia) (by lia) ?_
          have hE := c.EA v hv
          obtain ⟨ht, hq1⟩ := oi1 hI h2
          obtain ⟨k, k1, k2, hk⟩ := c.gene _ ht
          by_cases hodd : c.A v % 2 = 1
          · obtain ⟨o1, o2, o3⟩ := oi2 (i := i) (j := j) hodd hI
            rw [o1, o2, hE] at hk
            have e : c.E (c.A v + 1) = v - 1 := oi4 hp h0 k1 hk
            have : c.A (v - 1) = c.A v + 1 := by rw [← e, c.AE _ (oi5 o3 h2)]
            rw [this]
            exact o3
          · obtain ⟨o1, o2, o3⟩ := oi3 (i := i) (j := j) hodd hI
            rw [o1, o2, hE] at hk
            have e : c.E (c.A v - 1) = v - 1 := oi4 hp h0 k1 (hk.elim (fun z => .inr ⟨z.2, z.1⟩) (fun z => .inl ⟨z.2, z.1⟩))
            have : c.A (v - 1) = c.A v - 1 := by rw [← e, c.AE _ (oi5 o3 h2)]
            rw [this]
            exact o3
  have hx : 2 * i + 1 < c.m := by rw [m_eq]; lia
  refine key (c.E (2 * i + 1)) (c.E_lt _ hx) ?_
  rw [c.AE _ hx]
  unfold In
  lia
/-- a closed stretch of places has an even number of them -/
theorem even_I {x y : Nat} (h1 : x ≤ y) (h2 : y < c.m) (h : ∀ z, In x y z → In x y (c.W z)) : (y - x) % 2 = 1 := by
  have := even_len c.W (y + 1 - x) ((List.range (y + 1 - x)).map (x + ·)) (by simp) (by
    refine List.Pairwise.map _ (fun a b h => ?_) (List.nodup_range (n := y + 1 - x))
    lia) fun z hz => by
      obtain ⟨t, ht, rfl⟩ := List.mem_map.mp hz
      rw [List.mem_range] at ht
      have hw := h (x + t) (by unfold In; lia)
      refine ⟨?_, W_W (by lia), W_ne (by lia)⟩
      unfold In at hw
      exact List.mem_map.mpr ⟨c.W (x + t) - x, List.mem_range.mpr (by lia), by lia⟩
  rw [List.length_map, List.length_range] at this
  lia
/-! ### bonds that cross -/
def X (c : Cfg) (k l : Nat) : Prop := k ≠ l ∧ ¬ (Btw (c.a k) (c.b k) (c.a l) ↔ Btw (c.a k) (c.b k) (c.b l))
def Xr (c : Cfg) (k l : Nat) : Prop := k < c.N ∧ l < c.N ∧ c.X k l
theorem four {k l : Nat} (hk : k < c.N) (hl : l < c.N) (h : k ≠ l) : c.a k ≠ c.b k ∧ c.a l ≠ c.b l ∧ c.a k ≠ c.a l ∧ c.a k ≠ c.b l ∧ c.b k ≠ c.a l ∧ c.b k ≠ c.b l :=
  ⟨ab_ne hk, ab_ne hl, ne_of_bk (by rw [bk_a hk, bk_a hl]; exact h), ne_of_bk (by rw [bk_a hk, bk_b hl]; exact h), ne_of_bk (by rw [bk_b hk, bk_a hl]; exact h), ne_of_bk (by rw [bk_b hk, bk_b hl]; exact h)⟩
theorem X_symm {k l : Nat} (hk : k < c.N) (hl : l < c.N) (h : c.X k l) : c.X l k := by
  have f := four hk hl h.1
  refine ⟨fun e => h.1 e.symm, fun q => h.2 ?_⟩
  unfold Btw at *
  lia
theorem Xr_symm {k l : Nat} (h : c.Xr k l) : c.Xr l k := ⟨h.2.1, h.1, X_symm h.1 h.2.1 h.2.2⟩
/-- crowds -/
abbrev Cr (c : Cfg) : Nat → Nat → Prop := Rc c.Xr
theorem Cr.sy {k l : Nat} (h : c.Cr k l) : c.Cr l k := h.symm fun _ _ => Xr_symm
theorem Cr.lt {k l : Nat} (h : c.Cr k l) (hk : k < c.N) : l < c.N := h.inv (· < c.N) hk fun _ _ _ r => r.2.1
theorem sep {P : Nat → Prop} (hP : ∀ p q r, P p → P q → Btw p q r → P r) {k l : Nat} (hk : k < c.N) (h : c.Cr k l) (h1 : P (c.a k) ∨ P (c.b k)) (h2 : ¬ P (c.a l) ∨ ¬ P (c.b l)) : ∃ e, e < c.N ∧ c.Cr k e ∧ ¬ (P (c.a e) ↔ P (c.b e)) := by
  refine Classical.byContradiction fun hno => ?_
  have hall : ∀ e, c.Cr k e → (P (c.a e) ↔ P (c.b e)) := fun e he => Classical.byContradiction fun q => hno ⟨e, he.lt hk, he, q⟩
  have hkk := hall k (.refl _)
  have := h.inv (fun e => c.Cr k e ∧ P (c.a e) ∧ P (c.b e)) ⟨.refl _, by rcases h1 with h1 | h1 <;> simp_all⟩ fun e f he hef => by
    have hf := he.1.trans (.one hef)
    have hff := hall f hf
    refine ⟨hf, ?_⟩
    have hx := hef.2.2.2
    by_cases q1 : Btw (c.a e) (c.b e) (c.a f)
    · have := hP _ _ _ he.2.1 he.2.2 q1
      exact ⟨this, hff.mp this⟩
    · by_cases q2 : Btw (c.a e) (c.b e) (c.b f)
      · have := hP _ _ _ he.2.1 he.2.2 q2
        exact ⟨hff.mpr this, this⟩
      · exact absurd ⟨fun q => absurd q q1, fun q => absurd q q2⟩ hx
  rcases h2 with h2 | h2
  · exact h2 this.2.1
  · exact h2 this.2.2
/-- the same by places -/
theorem sepP {P : Nat → Prop} (hP : ∀ p q r, P p → P q → Btw p q r → P r) {p q : Nat} (hp : p < c.m) (hq : q < c.m) (h : c.Cr (c.bk p) (c.bk q)) (h1 : P p) (h2 : ¬ P q) : ∃ e, e < c.N ∧ c.Cr (c.bk p) e ∧ ¬ (P (c.a e) ↔ P (c.b e)) := by
  refine sep hP (bk_lt hp) h ?_ ?_
  · rcases place_of hp with e | e
    · left; rw [← e]; exact h1
    · right; rw [← e]; exact h1
  · rcases place_of hq with e | e
    · left; rw [← e]; exact h2
    · right; rw [← e]; exact h2
/-- crowds don't cross -/
theorem abab {p1 p2 p3 p4 : Nat} (h12 : p1 < p2) (h23 : p2 < p3) (h34 : p3 < p4) (h4 : p4 < c.m) (h13 : c.Cr (c.bk p1) (c.bk p3)) (h24 : c.Cr (c.bk p2) (c.bk p4)) : c.Cr (c.bk p1) (c.bk p2) := by
  refine Classical.byContradiction fun hno => ?_
  obtain ⟨e, he, hce, hx⟩ := sepP (c := c) (P := Btw p2 p4) (fun _ _ _ => btw_convex) (p := p3) (q := p1) (by lia) (by lia) h13.sy (by unfold Btw; lia) (by unfold Btw; lia)
  have h1e : c.Cr (c.bk p1) e := h13.trans hce
  have n2 : ∀ z, z < c.m → c.Cr (c.bk p2) (c.bk z) → c.bk z ≠ e := fun z hz hc q => hno (h1e.trans (by rw [← q]; exact hc.sy))
  have m2 := n2 p2 (by lia) (.refl _)
  have m4 := n2 p4 h4 h24
  have ea := bk_a he
  have eb := bk_b he
  have d1 : c.a e ≠ p2 := ne_of_bk (by rw [ea]; exact Ne.symm m2)
  have d2 : c.a e ≠ p4 := ne_of_bk (by rw [ea]; exact Ne.symm m4)
  have d3 : c.b e ≠ p2 := ne_of_bk (by rw [eb]; exact Ne.symm m2)
  have d4 : c.b e ≠ p4 := ne_of_bk (by rw [eb]; exact Ne.symm m4)
  have hy : ¬ (Btw (c.a e) (c.b e) p2 ↔ Btw (c.a e) (c.b e) p4) := by unfold Btw at *; lia
  have fin : ∀ d, d < c.N → c.Cr (c.bk p2) d → ¬ (Btw (c.a e) (c.b e) (c.a d) ↔ Btw (c.a e) (c.b e) (c.b d)) → False := fun d hd hcd hxd => by
    refine hno (h1e.trans (Rc.head (r := d) ⟨he, hd, ?_, hxd⟩ hcd.sy))
    intro q
    subst q
    exact hno (h1e.trans hcd.sy)
  by_cases q2 : Btw (c.a e) (c.b e) p2
  · obtain ⟨d, hd, hcd, hxd⟩ := sepP (c := c) (P := Btw (c.a e) (c.b e)) (fun _ _ _ => btw_convex) (p := p2) (q := p4) (by lia) h4 h24 q2 (fun q => hy ⟨fun _ => q, fun _ => q2⟩)
    exact fin d hd hcd hxd
  · have q4 : Btw (c.a e) (c.b e) p4 := Classical.byContradiction fun q => hy ⟨fun z => absurd z q2, fun z => absurd z q⟩
    obtain ⟨d, hd, hcd, hxd⟩ := sepP (c := c) (P := Btw (c.a e) (c.b e)) (fun _ _ _ => btw_convex) (p := p4) (q := p2) h4 (by lia) h24.sy q4 q2
    exact fin d hd (h24.trans hcd) hxd
def easy (c : Cfg) (k : Nat) : Prop := (c.a k + c.b k) % 2 = 0
def met (c : Cfg) (k : Nat) : Prop := c.b k = par (c.a k)
theorem met_easy {k : Nat} (h : c.met k) : ¬ c.easy k := by
  unfold met at h
  unfold easy
  have := par_def (c.a k)
  lia
theorem met_iso {k l : Nat} (h : c.met k) (hk : k < c.N) : ¬ c.Xr k l := fun q => by
  have f := four q.1 q.2.1 q.2.2.1
  have := q.2.2.2
  unfold met at h
  have := par_def (c.a k)
  unfold Btw at *
  lia
/-- the bond that has one end in I and one outside it, as a place -/
theorem iso_met {k : Nat} (hk : k < c.N) (h : ∀ l, ¬ c.Xr k l) (he : ¬ c.easy k) : c.met k := by
  -- a stretch of places between or with k's ends is closed
  have hcl : ∀ z, z < c.m → c.bk z ≠ k → (Btw (c.a k) (c.b k) z ↔ Btw (c.a k) (c.b k) (c.W z)) := fun z hz hzk => by
    have hb := bk_lt hz
    have := h (c.bk z)
    have hx : ¬ c.X k (c.bk z) := fun q => this ⟨hk, hb, q⟩
    have hx2 : Btw (c.a k) (c.b k) (c.a (c.bk z)) ↔ Btw (c.a k) (c.b k) (c.b (c.bk z)) := Classical.byContradiction fun q => hx ⟨fun e => hzk e.symm, q⟩
    rcases place_of hz with e | e
    · have e2 : c.W z = c.b (c.bk z) := by rw [show c.W z = c.W (c.a (c.bk z)) by rw [← e]]; exact W_a hb
      rw [e2]
      rw [← e] at hx2
      exact hx2
    · have e2 : c.W z = c.a (c.bk z) := by rw [show c.W z = c.W (c.b (c.bk z)) by rw [← e]]; exact W_b hb
      rw [e2]
      rw [← e] at hx2
      exact hx2.symm
  have ha := a_lt hk
  have hb := b_lt hk
  have hab := ab_ne hk
  refine Classical.byContradiction fun hm => ?_
  have main : ∀ lo hi, lo < hi → hi < c.m → ((lo = c.a k ∧ hi = c.b k) ∨ (lo = c.b k ∧ hi = c.a k)) → c.W lo = hi → c.W hi = lo → c.bk lo = k → c.bk hi = k → False := fun lo hi hlh hhi hlo w1 w2 k1 k2 => by
    obtain ⟨i, j, hij, hj, hI⟩ := st_b (n := c.n) hlh hhi (odd_lo he hlh hlo) (far_lo hm hlo)
    obtain ⟨z, hz1, hz2⟩ := open_I (c := c) hij hj
    have hzm : z < c.m := Nat.lt_of_le_of_lt hz1.2 (by rw [m_eq]; exact Nat.add_lt_add_right (Nat.mul_lt_mul_of_pos_left hj (by decide)) 2)
    have hbo := in_both hij hI
    by_cases e1 : z = lo
    · subst e1
      rw [w1] at hz2
      exact hz2 (hbo.mp hz1)
    · by_cases e2 : z = hi
      · subst e2
        rw [w2] at hz2
        exact hz2 (hbo.mpr hz1)
      · have hzk : c.bk z ≠ k := fun q => by
          have := place_of hzm
          rw [q] at this
          rcases this with q | q <;> rcases hlo with ⟨l1, l2⟩ | ⟨l1, l2⟩
          · exact e1 (by rw [l1]; exact q)
          · exact e2 (by rw [l2]; exact q)
          · exact e2 (by rw [l2]; exact q)
          · exact e1 (by rw [l1]; exact q)
        have n1 : c.W z ≠ lo := fun q => e2 (by rw [← W_W hzm, q, w1])
        have n2 : c.W z ≠ hi := fun q => e1 (by rw [← W_W hzm, q, w2])
        have := hcl z hzm hzk
        rw [bt_lo hlh hlo, bt_lo hlh hlo, ← in_b hI e1 e2, ← in_b hI n1 n2] at this
        exact hz2 (this.mp hz1)
  rcases Nat.lt_or_gt_of_ne hab with q | q
  · exact main _ _ q hb (.inl ⟨rfl, rfl⟩) (W_a hk) (W_b hk) (bk_a hk) (bk_b hk)
  · exact main _ _ q ha (.inr ⟨rfl, rfl⟩) (W_b hk) (W_a hk) (bk_b hk) (bk_a hk)
end Cfg
end GX

set_option maxHeartbeats 1000000
set_option linter.unusedVariables false
namespace GX
theorem least_ex {P : Nat → Prop} : (∃ x, P x) → ∃ x, P x ∧ ∀ y, y < x → ¬ P y := by
  rintro ⟨x, hx⟩
  induction x using Nat.strongRecOn with
  | ind x ih =>
    by_cases h : ∃ y, y < x ∧ P y
    · obtain ⟨y, hy, hp⟩ := h
      exact ih y hy hp
    · exact ⟨x, hx, fun y hy hp => h ⟨y, hy, hp⟩⟩
theorem max_ex (f : Nat → Int) (P : Nat → Prop) : ∀ N : Nat, (∃ k, k < N ∧ P k) → ∃ v, v < N ∧ P v ∧ ∀ k, k < N → P k → f k ≤ f v
  | 0, ⟨k, h, _⟩ => by lia
  | N + 1, ⟨k, hk, hp⟩ => by
    by_cases h : ∃ k, k < N ∧ P k
    · obtain ⟨v, hv, pv, mv⟩ := max_ex f P N h
      by_cases hN : P N ∧ f v ≤ f N
      · refine ⟨N, by lia, hN.1, fun k hk pk => ?_⟩
        by_cases e : k = N
        · subst e; exact Int.le_refl _
        · exact Int.le_trans (mv k (by lia) pk) hN.2
      · refine ⟨v, by lia, pv, fun k hk pk => ?_⟩
        by_cases e : k = N
        · subst e
          have : ¬ f v ≤ f k := fun q => hN ⟨pk, q⟩
          lia
        · exact mv k (by lia) pk
    · have e : k = N := Classical.byContradiction fun q => h ⟨k, by lia, hp⟩
      subst e
      exact ⟨k, hk, hp, fun k' hk' pk' => by
        have : k' = k := Classical.byContradiction fun q => h ⟨k', by lia, pk'⟩
        subst this; exact Int.le_refl _⟩
/-- two relations that are alike where T doesn't hold -/
theorem alike {R R' : Nat → Nat → Prop} {T : Nat → Prop} (h : ∀ e f, ¬ T e → (R e f ↔ R' e f)) {k : Nat} (hu : ∀ e, Rc R k e → ¬ T e) (e : Nat) : Rc R k e ↔ Rc R' k e := by
  constructor
  · intro q
    exact (q.mapI (S := R') (fun z => Rc R k z) (.refl _) fun a b ha hab => ⟨ha.trans (.one hab), .one ((h a b (hu a ha)).mp hab)⟩).2
  · intro q
    exact q.inv (fun z => Rc R k z) (.refl _) fun a b ha hab => ha.trans (.one ((h a b (hu a ha)).mpr hab))
namespace Cfg
variable {c : Cfg}
/-- a bond has both of another crowd's places on one side -/
theorem noSep {z z1 z2 : Nat} (hz : z < c.m) (h1 : z1 < c.m) (h2 : z2 < c.m) (h12 : c.Cr (c.bk z1) (c.bk z2)) (hno : ¬ c.Cr (c.bk z1) (c.bk z)) : Btw z (c.W z) z1 ↔ Btw z (c.W z) z2 := by
  have key : ∀ u1 u2, u1 < c.m → u2 < c.m → c.Cr (c.bk z1) (c.bk u1) → c.Cr (c.bk u1) (c.bk u2) → Btw z (c.W z) u1 → ¬ Btw z (c.W z) u2 → False := fun u1 u2 l1 l2 h0 h q1 q2 => by
    obtain ⟨e, he, hce, hx⟩ := sepP (c := c) (P := Btw z (c.W z)) (fun _ _ _ => btw_convex) l1 l2 h q1 q2
    refine hno ((h0.trans hce).trans (Cr.sy (.one ⟨bk_lt hz, he, ?_, ?_⟩)))
    · intro q
      exact hno (by rw [q]; exact h0.trans hce)
    · have hb := bk_lt hz
      have sw : ∀ p q r, Btw p q r ↔ Btw q p r := fun p q r => by unfold Btw; lia
      rcases place_of hz with e1 | e1
      · have e2 : c.W z = c.b (c.bk z) := by rw [show c.W z = c.W (c.a (c.bk z)) by rw [← e1]]; exact W_a hb
        rw [e2] at hx
        rw [← e1]
        exact hx
      · have e2 : c.W z = c.a (c.bk z) := by rw [show c.W z = c.W (c.b (c.bk z)) by rw [← e1]]; exact W_b hb
        rw [e2, sw, sw z] at hx
        rw [← e1]
        exact hx
  constructor
  · intro q
    exact Classical.byContradiction fun q2 => key z1 z2 h1 h2 (.refl _) h12 q q2
  · intro q
    exact Classical.byContradiction fun q2 => key z2 z1 h2 h1 h12 h12.sy q q2
theorem gap_w {z z1 z2 w : Nat} (hz : z1 + 1 ≤ z ∧ z ≤ z2 - 1) (h12 : z1 < z2) (h : Btw z w z1 ↔ Btw z w z2) (n1 : w ≠ z1) (n2 : w ≠ z2) : In (z1 + 1) (z2 - 1) w := by
  unfold Btw at h
  unfold In
  lia
theorem me1 {p z n : Nat} (he : p % 2 = 0) (h1 : p < z) (hne : z ≠ p + 1) (hodd : (z - p) % 2 = 1) (h2 : z < 2 * n + 2) : ∃ i j, i ≤ j ∧ j < n ∧ 2 * i + 1 = p + 1 ∧ 2 * j + 2 = z - 1 := ⟨p / 2, (z - 3) / 2, by lia⟩
theorem me2 {p z n : Nat} (he : p % 2 = 0) (h1 : z ≤ p) (hodd : (p - z) % 2 = 1) (h2 : p + 1 < 2 * n + 2) : ∃ i j, i ≤ j ∧ j < n ∧ 2 * i + 1 = z ∧ 2 * j + 2 = p := ⟨(z - 1) / 2, (p - 2) / 2, by lia⟩
theorem me3 {z z1 p w : Nat} (hz : z1 ≤ z ∧ z ≤ p) (h : Btw z w p ↔ Btw z w z1) (n : w ≠ z1 ∧ w ≠ p ∧ z ≠ z1 ∧ z ≠ p) : In z1 p w := by
  unfold Btw at h
  unfold In
  lia
theorem gapW {z1 z2 : Nat} (h12 : z1 < z2) (h2 : z2 < c.m) (hc : c.Cr (c.bk z1) (c.bk z2)) (hno : ∀ z, z1 < z → z < z2 → ¬ c.Cr (c.bk z1) (c.bk z)) : ∀ z, In (z1 + 1) (z2 - 1) z → In (z1 + 1) (z2 - 1) (c.W z) := by
  intro z hz
  unfold In at hz
  have hzm : z < c.m := by lia
  have hn := hno z (by lia) (by lia)
  have := noSep hzm (by lia) h2 hc hn
  have hw1 : c.W z ≠ z1 := ne_of_bk (fun e => hn (by rw [bk_W hzm] at e; rw [e]; exact .refl _))
  have hw2 : c.W z ≠ z2 := ne_of_bk (fun e => hn (by rw [bk_W hzm] at e; rw [e]; exact hc))
  exact gap_w hz h12 this hw1 hw2
theorem gapI {z1 z2 : Nat} (h12 : z1 < z2) (h2 : z2 < c.m) (hc : c.Cr (c.bk z1) (c.bk z2)) (hno : ∀ z, z1 < z → z < z2 → ¬ c.Cr (c.bk z1) (c.bk z)) : (z2 - z1) % 2 = 1 := by
  by_cases e : z1 + 1 = z2
  · lia
  · have := even_I (c := c) (x := z1 + 1) (y := z2 - 1) (by lia) (by lia) (gapW h12 h2 hc hno)
    lia
/-- ends that meet are in one crowd -/
theorem meet_even {p : Nat} (hp : p + 1 < c.m) (he : p % 2 = 0) : c.Cr (c.bk p) (c.bk (p + 1)) := by
  refine Classical.byContradiction fun hno => ?_
  have hm := c.m_eq
  by_cases hex : ∃ z, p < z ∧ z < c.m ∧ c.Cr (c.bk p) (c.bk z)
  · obtain ⟨z2, ⟨h1, h2, h3⟩, hmin⟩ := least_ex hex
    have hn : ∀ z, p < z → z < z2 → ¬ c.Cr (c.bk p) (c.bk z) := fun z q1 q2 q3 => hmin z q2 ⟨q1, by lia, q3⟩
    have hne : z2 ≠ p + 1 := fun e => hno (by rw [← e]; exact h3)
    have hodd := gapI h1 h2 h3 hn
    have hW := gapW h1 h2 h3 hn
    obtain ⟨i, j, hij, hj, ei, ej⟩ := me1 (n := c.n) he h1 hne hodd h2
    obtain ⟨z, q1, q2⟩ := open_I (c := c) hij hj
    rw [ei, ej] at q1 q2
    exact q2 (hW z q1)
  · have hno2 : ∀ z, z < c.m → c.Cr (c.bk p) (c.bk z) → z ≤ p := fun z q1 q2 => Classical.byContradiction fun q => hex ⟨z, by lia, q1, q2⟩
    obtain ⟨z1, ⟨h1, h2⟩, hmin⟩ := least_ex (P := fun z => z < c.m ∧ c.Cr (c.bk p) (c.bk z)) ⟨p, by lia, .refl _⟩
    have hz1p := hno2 z1 h1 h2
    have hW : ∀ z, In z1 p z → In z1 p (c.W z) := fun z hz => by
      unfold In at hz
      have hzm : z < c.m := by lia
      have hWm := W_lt hzm
      have hbW := bk_W hzm
      by_cases hc : c.Cr (c.bk p) (c.bk z)
      · have hcW : c.Cr (c.bk p) (c.bk (c.W z)) := by rw [hbW]; exact hc
        have a1 := hno2 _ hWm hcW
        have a2 : ¬ c.W z < z1 := fun q => hmin _ q ⟨hWm, hcW⟩
        unfold In
        lia
      · have := noSep (c := c) hzm (by lia) h1 h2 hc
        have hw1 : c.W z ≠ z1 := ne_of_bk (fun e => hc (by rw [hbW] at e; rw [e]; exact h2))
        have hw2 : c.W z ≠ p := ne_of_bk (fun e => hc (by rw [hbW] at e; rw [e]; exact .refl _))
        have hz1 : z ≠ z1 := ne_of_bk (fun e => hc (by rw [e]; exact h2))
        have hz2 : z ≠ p := ne_of_bk (fun e => hc (by rw [e]; exact .refl _))
        exact me3 hz this ⟨hw1, hw2, hz1, hz2⟩
    have hodd := even_I (c := c) hz1p (Nat.lt_of_succ_lt hp) hW
    obtain ⟨i, j, hij, hj, ei, ej⟩ := me2 (n := c.n) he hz1p hodd hp
    obtain ⟨z, q1, q2⟩ := open_I (c := c) hij hj
    rw [ei, ej] at q1 q2
    exact q2 (hW z q1)
theorem meet {p : Nat} (hp : p < c.m) : c.Cr (c.bk p) (c.bk (par p)) := by
  have hd := par_def p
  have hm := c.m_eq
  rcases hd with ⟨h, e⟩ | ⟨h, e⟩
  · rw [e]; exact meet_even (by lia) h
  · have := meet_even (c := c) (p := par p) (by lia) (by lia)
    rw [e] at this
    exact this.sy
/-- hard crowds -/
def Hard (c : Cfg) (k : Nat) : Prop := k < c.N ∧ (∀ e, c.Cr k e → ¬ c.easy e) ∧ ∃ l, c.Xr k l
theorem Hard.of {k l : Nat} (h : c.Hard k) (q : c.Cr k l) : c.Hard l := by
  refine ⟨q.lt h.1, fun e he => h.2.1 e (q.trans he), ?_⟩
  cases q.sy with
  | refl => exact h.2.2
  | head a _ => exact ⟨_, a⟩
theorem hard_iff {k : Nat} (hk : k < c.N) : (∀ e, c.Cr k e → ¬ c.easy e ∧ ¬ c.met e) ↔ c.Hard k := by
  constructor
  · intro h
    refine ⟨hk, fun e he => (h e he).1, Classical.byContradiction fun q => ?_⟩
    exact (h k (.refl _)).2 (iso_met hk (fun l hl => q ⟨l, hl⟩) (h k (.refl _)).1)
  · intro h e he
    refine ⟨h.2.1 e he, fun q => ?_⟩
    obtain ⟨l, hl⟩ := (h.of he).2.2
    exact met_iso q hl.1 hl
theorem par3 {p r q : Nat} (h1 : p < r) (h2 : r < q) (g1 : (r - p) % 2 = 1) (g2 : (q - r) % 2 = 1) : (q - p) % 2 = 0 := by lia
theorem out1 {p q r s z : Nat} (h1 : p < r) (h2 : r < q) (h4 : ¬ (p < s ∧ s < q)) (q1 : p < z) (q2 : z < r) (h : z = p ∨ z = q ∨ z = r ∨ z = s) : False := by lia
theorem out2 {p q r s z : Nat} (h1 : p < r) (h2 : r < q) (h4 : ¬ (p < s ∧ s < q)) (q1 : r < z) (q2 : z < q) (h : z = p ∨ z = q ∨ z = r ∨ z = s) : False := by lia
theorem ev_lo {a b lo hi : Nat} (l : lo < hi) (h : (lo = a ∧ hi = b) ∨ (lo = b ∧ hi = a)) (e : (hi - lo) % 2 = 0) : (a + b) % 2 = 0 := by lia
theorem three_core {p q r s k l : Nat} (h1 : p < r) (h2 : r < q) (h3 : q < c.m) (h4 : ¬ (p < s ∧ s < q)) (e1 : c.bk p = k) (e2 : c.bk q = k) (e3 : c.bk r = l) (cl : c.Cr k l) (hz : ∀ z, z < c.m → c.Cr k (c.bk z) → z = p ∨ z = q ∨ z = r ∨ z = s) : (q - p) % 2 = 0 := by
  have g1 := gapI (c := c) (z1 := p) (z2 := r) h1 (Nat.lt_trans h2 h3) (by rw [e1, e3]; exact cl) fun z q1 q2 q3 => by
    rw [e1] at q3
    exact out1 h1 h2 h4 q1 q2 (hz z (Nat.lt_trans q2 (Nat.lt_trans h2 h3)) q3)
  have g2 := gapI (c := c) (z1 := r) (z2 := q) h2 h3 (by rw [e2, e3]; exact cl.sy) fun z q1 q2 q3 => by
    rw [e3] at q3
    exact out2 h1 h2 h4 q1 q2 (hz z (Nat.lt_trans q2 h3) (cl.trans q3))
  exact par3 h1 h2 g1 g2
/-- a hard crowd has three bonds -/
theorem three {k l : Nat} (h : c.Hard k) (hl : c.Xr k l) : ∃ d, d < c.N ∧ c.Cr k d ∧ d ≠ k ∧ d ≠ l := by
  refine Classical.byContradiction fun hno => ?_
  have hall : ∀ z, z < c.m → c.Cr k (c.bk z) → (z = c.a k ∨ z = c.b k) ∨ z = c.a l ∨ z = c.b l := fun z hz hc => by
    have hb := bk_lt hz
    have : c.bk z = k ∨ c.bk z = l := Classical.byContradiction fun q => hno ⟨c.bk z, hb, hc, fun e => q (.inl e), fun e => q (.inr e)⟩
    have hp := place_of hz
    rcases this with e | e <;> rw [e] at hp
    · exact .inl hp
    · exact .inr hp
  have cl : c.Cr k l := .one hl
  have he := h.2.1 k (.refl _)
  have fin : ∀ lo hi, lo < hi → hi < c.m → ((lo = c.a k ∧ hi = c.b k) ∨ (lo = c.b k ∧ hi = c.a k)) → c.bk lo = k → c.bk hi = k → False := fun lo hi l1 l2 hlo k1 k2 => by
    have hw : ∀ z, (z = c.a k ∨ z = c.b k) → z = lo ∨ z = hi := fun z hz => by
      rcases hlo with ⟨q1, q2⟩ | ⟨q1, q2⟩
      · rw [q1, q2]; exact hz
      · rw [q1, q2]; exact hz.symm
    have hx := hl.2.2.2
    rw [bt_lo l1 hlo, bt_lo l1 hlo] at hx
    have go : ∀ r s, (lo < r ∧ r < hi) → ¬ (lo < s ∧ s < hi) → c.bk r = l → (∀ z, (z = c.a l ∨ z = c.b l) → z = r ∨ z = s) → False := fun r s hr hs hrl hrs => by
      refine he (ev_lo l1 hlo (three_core hr.1 hr.2 l2 hs k1 k2 hrl cl fun z hz hc => ?_))
      rcases hall z hz hc with q | q
      · rcases hw z q with q | q
        · exact .inl q
        · exact .inr (.inl q)
      · rcases hrs z q with q | q
        · exact .inr (.inr (.inl q))
        · exact .inr (.inr (.inr q))
    by_cases q1 : lo < c.a l ∧ c.a l < hi
    · exact go _ _ q1 (fun q2 => hx ⟨fun _ => q2, fun _ => q1⟩) (bk_a hl.2.1) (fun z hz => hz)
    · have q2 : lo < c.b l ∧ c.b l < hi := Classical.byContradiction fun q2 => hx ⟨fun z => absurd z q1, fun z => absurd z q2⟩
      exact go _ _ q2 q1 (bk_b hl.2.1) (fun z hz => hz.symm)
  rcases Nat.lt_or_gt_of_ne (ab_ne hl.1) with q | q
  · exact fin _ _ q (b_lt hl.1) (.inl ⟨rfl, rfl⟩) (bk_a hl.1) (bk_b hl.1)
  · exact fin _ _ q (a_lt hl.1) (.inr ⟨rfl, rfl⟩) (bk_b hl.1) (bk_a hl.1)
end Cfg
/-! ### a turn's picture -/
structure Turned (c d : Cfg) (x y : Nat) : Prop where
  n : d.n = c.n
  A : ∀ v, v < c.m → d.A v = sw x y (c.A v)
  E : ∀ p, p < c.m → d.E p = c.E (sw x y p)
  ij : ∃ i j, i ≤ j ∧ j < c.n ∧ x = 2 * i + 1 ∧ y = 2 * j + 2
namespace Turned
variable {c d : Cfg} {x y : Nat} (t : Turned c d x y)
/-- one end in the stretch -/
def T (c : Cfg) (x y k : Nat) : Prop := ¬ (In x y (c.a k) ↔ In x y (c.b k))
include t
theorem m_ : d.m = c.m := by unfold Cfg.m; rw [t.n]
theorem N_ : d.N = c.N := by unfold Cfg.N; rw [t.n]
theorem a_ {k : Nat} (h : k < c.N) : d.a k = sw x y (c.a k) := t.A _ (by have := c.N_eq; have := c.m_eq; lia)
theorem b_ {k : Nat} (h : k < c.N) : d.b k = sw x y (c.b k) := t.A _ (by have := c.N_eq; have := c.m_eq; lia)
theorem bk_ {p : Nat} (h : p < c.m) : d.bk p = c.bk (sw x y p) := by unfold Cfg.bk; rw [t.E p h]
theorem sw_lt {p : Nat} (h : p < c.m) : sw x y p < c.m := by
  obtain ⟨i, j, h1, h2, rfl, rfl⟩ := t.ij
  have := c.m_eq
  unfold sw
  split <;> lia
theorem X_ {k l : Nat} (hk : k < c.N) (hl : l < c.N) : d.X k l ↔ k ≠ l ∧ ¬ (c.X k l ↔ (T c x y k ∧ T c x y l)) := by
  unfold Cfg.X
  rw [t.a_ hk, t.b_ hk, t.a_ hl, t.b_ hl]
  by_cases e : k = l
  · simp [e]
  · have f := Cfg.four hk hl e
    rw [btw_sw f.1 (Ne.symm f.2.2.1) (Ne.symm f.2.2.2.2.1), btw_sw f.1 (Ne.symm f.2.2.2.1) (Ne.symm f.2.2.2.2.2)]
    unfold T
    by_cases q1 : Btw (c.a k) (c.b k) (c.a l) <;> by_cases q2 : Btw (c.a k) (c.b k) (c.b l) <;> by_cases q3 : In x y (c.a k) <;> by_cases q4 : In x y (c.b k) <;> by_cases q5 : In x y (c.a l) <;> by_cases q6 : In x y (c.b l) <;> simp [q1, q2, q3, q4, q5, q6, e]
theorem easy_ {k : Nat} (hk : k < c.N) : d.easy k ↔ ¬ (c.easy k ↔ T c x y k) := by
  obtain ⟨i, j, h1, h2, rfl, rfl⟩ := t.ij
  unfold Cfg.easy T
  rw [t.a_ hk, t.b_ hk]
  unfold sw In
  by_cases q1 : 2 * i + 1 ≤ c.a k ∧ c.a k ≤ 2 * j + 2 <;> by_cases q2 : 2 * i + 1 ≤ c.b k ∧ c.b k ≤ 2 * j + 2 <;> simp only [q1, q2, if_true, if_false] <;> simp <;> lia
theorem Xr_ {k l : Nat} (h : ¬ T c x y k) : c.Xr k l ↔ d.Xr k l := by
  unfold Cfg.Xr
  rw [t.N_]
  constructor
  · rintro ⟨h1, h2, h3⟩
    refine ⟨h1, h2, (t.X_ h1 h2).mpr ⟨h3.1, fun q => ?_⟩⟩
    exact h (q.mp h3).1
  · rintro ⟨h1, h2, h3⟩
    refine ⟨h1, h2, Classical.byContradiction fun q => ?_⟩
    exact ((t.X_ h1 h2).mp h3).2 ⟨fun z => absurd z q, fun z => absurd z.1 h⟩
theorem unt1 {k : Nat} (hu : ∀ e, c.Cr k e → ¬ T c x y e) (e : Nat) : c.Cr k e ↔ d.Cr k e := alike (T := T c x y) (fun e f h => t.Xr_ h) hu e
theorem unt2 {k : Nat} (hu : ∀ e, d.Cr k e → ¬ T c x y e) (e : Nat) : c.Cr k e ↔ d.Cr k e := (alike (T := T c x y) (fun e f h => (t.Xr_ h).symm) hu e).symm
/-- hard crowds that no bond of the turn belongs to stay -/
theorem hard_of {k : Nat} (hu : ∀ e, c.Cr k e → ¬ T c x y e) (h : c.Hard k) : d.Hard k := by
  refine ⟨by rw [t.N_]; exact h.1, fun e he => ?_, ?_⟩
  · have he' := (t.unt1 hu e).mpr he
    rw [t.easy_ (he'.lt h.1)]
    have := h.2.1 e he'
    have := hu e he'
    simp_all
  · obtain ⟨l, hl⟩ := h.2.2
    exact ⟨l, (t.Xr_ (hu k (.refl _))).mp hl⟩
theorem hard_back {k : Nat} (hu : ∀ e, d.Cr k e → ¬ T c x y e) (h : d.Hard k) : c.Hard k := by
  have hk : k < c.N := by rw [← t.N_]; exact h.1
  refine ⟨hk, fun e he => ?_, ?_⟩
  · have he' := (t.unt2 hu e).mp he
    have h1 := h.2.1 e he'
    rw [t.easy_ (he.lt hk)] at h1
    have := hu e he'
    simp_all
  · obtain ⟨l, hl⟩ := h.2.2
    exact ⟨l, (t.Xr_ (hu k (.refl _))).mpr hl⟩
/-- (b) no bond is easy: those that are touched are hard no more -/
theorem hard_b (hne : ∀ k, k < c.N → ¬ c.easy k) {k : Nat} : d.Hard k ↔ c.Hard k ∧ ∀ e, c.Cr k e → ¬ T c x y e := by
  constructor
  · intro h
    have hk : k < c.N := by rw [← t.N_]; exact h.1
    have hu : ∀ e, d.Cr k e → ¬ T c x y e := fun e he q => by
      have hel : e < c.N := by rw [← t.N_]; exact he.lt h.1
      exact h.2.1 e he ((t.easy_ hel).mpr (fun z => hne e hel (z.mpr q)))
    exact ⟨t.hard_back hu h, fun e he => hu e ((t.unt2 hu e).mp he)⟩
  · rintro ⟨h, hu⟩
    exact t.hard_of hu h
open Classical in
/-- (a) an easy bond with most neighbours that aren't easy, less those that are -/
theorem hard_a {v : Nat} (hv : v < c.N) (hve : c.easy v) (hT : ∀ k, k < c.N → (T c x y k ↔ k = v ∨ c.X v k))
    (hmax : ∀ w, w < c.N → c.easy w →
      (((List.range c.N).filter fun u => decide (c.X w u ∧ ¬ c.easy u)).length : Int) - (((List.range c.N).filter fun u => decide (c.easy u ∧ (u = w ∨ c.X w u))).length : Int) ≤
      (((List.range c.N).filter fun u => decide (c.X v u ∧ ¬ c.easy u)).length : Int) - (((List.range c.N).filter fun u => decide (c.easy u ∧ (u = v ∨ c.X v u))).length : Int)) {k : Nat} :
    d.Hard k ↔ c.Hard k := by
  have hTv : T c x y v := (hT v hv).mpr (.inl rfl)
  constructor
  · intro h
    have hk : k < c.N := by rw [← t.N_]; exact h.1
    refine t.hard_back (fun w hw q => ?_) h
    have hwl : w < c.N := by rw [← t.N_]; exact hw.lt h.1
    have hHw := h.of hw
    have hX : ∀ u, u < c.N → d.X w u → ¬ d.easy u := fun u hu hx => hHw.2.1 u (.one ⟨hHw.1, by rw [t.N_]; exact hu, hx⟩)
    have hwe : c.easy w := by
      have := h.2.1 w hw
      rw [t.easy_ hwl] at this
      simp_all
    by_cases hwv : w = v
    · -- v is alone
      subst hwv
      obtain ⟨l, hl⟩ := hHw.2.2
      have hll : l < c.N := by rw [← t.N_]; exact hl.2.1
      have := (t.X_ hwl hll).mp hl.2.2
      have h2 := hT l hll
      have h3 : ¬ l = w := fun e => hl.2.2.1 e.symm
      simp_all
    · have hvw : c.X v w := ((hT w hwl).mp q).resolve_left hwv
      have hwv' : c.X w v := Cfg.X_symm hv hwl hvw
      -- U(v) within U(w)
      have hU : ∀ u, u < c.N → c.X v u ∧ ¬ c.easy u → c.X w u ∧ ¬ c.easy u := fun u hu ⟨u1, u2⟩ => by
        refine ⟨Classical.byContradiction fun q2 => ?_, u2⟩
        have huw : w ≠ u := fun e => u2 (by rw [← e]; exact hwe)
        have hTu : T c x y u := (hT u hu).mpr (.inr u1)
        have hx' : d.X w u := (t.X_ hwl hu).mpr ⟨huw, fun z => q2 (z.mpr ⟨q, hTu⟩)⟩
        exact hX u hu hx' ((t.easy_ hu).mpr fun z => u2 (z.mpr hTu))
      have hO : ∀ u, u < c.N → c.easy u ∧ (u = w ∨ c.X w u) → c.easy u ∧ (u = v ∨ c.X v u) := fun u hu ⟨u1, u2⟩ => by
        refine ⟨u1, ?_⟩
        rcases u2 with u2 | u2
        · right; rw [u2]; exact hvw
        · refine Classical.byContradiction fun q2 => ?_
          have hTu : ¬ T c x y u := fun z => q2 ((hT u hu).mp z)
          have hx' : d.X w u := (t.X_ hwl hu).mpr ⟨u2.1, fun z => hTu (z.mp u2).2⟩
          exact hX u hu hx' ((t.easy_ hu).mpr fun z => hTu (z.mp u1))
      have hm := hmax w hwl hwe
      have le1 : ((List.range c.N).filter fun u => decide (c.X v u ∧ ¬ c.easy u)).length ≤ ((List.range c.N).filter fun u => decide (c.X w u ∧ ¬ c.easy u)).length := by
        rw [← List.countP_eq_length_filter, ← List.countP_eq_length_filter]
        refine List.countP_mono_left fun u hu z => ?_
        exact decide_eq_true (hU u (List.mem_range.mp hu) (of_decide_eq_true z))
      have le2 : ((List.range c.N).filter fun u => decide (c.easy u ∧ (u = w ∨ c.X w u))).length ≤ ((List.range c.N).filter fun u => decide (c.easy u ∧ (u = v ∨ c.X v u))).length := by
        rw [← List.countP_eq_length_filter, ← List.countP_eq_length_filter]
        refine List.countP_mono_left fun u hu z => ?_
        exact decide_eq_true (hO u (List.mem_range.mp hu) (of_decide_eq_true z))
      have hU2 : ∀ u, u < c.N → c.X w u ∧ ¬ c.easy u → c.X v u ∧ ¬ c.easy u := fun u hu z => Classical.byContradiction fun q2 => by
        have := filter_lt (P := fun u => decide (c.X v u ∧ ¬ c.easy u)) (Q := fun u => decide (c.X w u ∧ ¬ c.easy u)) (l := List.range c.N)
          (fun u hu z => decide_eq_true (hU u (List.mem_range.mp hu) (of_decide_eq_true z))) ⟨u, List.mem_range.mpr hu, decide_eq_true z, decide_eq_false q2⟩
        lia
      have hO2 : ∀ u, u < c.N → c.easy u ∧ (u = v ∨ c.X v u) → c.easy u ∧ (u = w ∨ c.X w u) := fun u hu z => Classical.byContradiction fun q2 => by
        have := filter_lt (P := fun u => decide (c.easy u ∧ (u = w ∨ c.X w u))) (Q := fun u => decide (c.easy u ∧ (u = v ∨ c.X v u))) (l := List.range c.N)
          (fun u hu z => decide_eq_true (hO u (List.mem_range.mp hu) (of_decide_eq_true z))) ⟨u, List.mem_range.mpr hu, decide_eq_true z, decide_eq_false q2⟩
        lia
      -- w is alone
      obtain ⟨l, hl⟩ := hHw.2.2
      have hll : l < c.N := by rw [← t.N_]; exact hl.2.1
      have hxl := (t.X_ hwl hll).mp hl.2.2
      have hlw : ¬ l = w := fun e => hl.2.2.1 e.symm
      refine hxl.2 ⟨fun z => ⟨q, ?_⟩, fun z => ?_⟩
      · refine (hT l hll).mpr ?_
        by_cases el : c.easy l
        · exact (hO l hll ⟨el, .inr z⟩).2
        · exact .inr (hU2 l hll ⟨z, el⟩).1
      · rcases (hT l hll).mp z.2 with e | e
        · rw [e]; exact hwv'
        · by_cases el : c.easy l
          · exact (hO2 l hll ⟨el, .inr e⟩).2.resolve_left hlw
          · exact (hU l hll ⟨e, el⟩).1
  · intro h
    refine t.hard_of (fun e he q => ?_) h
    have hel := he.lt h.1
    rcases (hT e hel).mp q with e1 | e1
    · subst e1
      exact h.2.1 e he hve
    · exact h.2.1 v (he.trans (.one ⟨hel, hv, Cfg.X_symm hv hel e1⟩)) hve
end Turned
end GX

set_option maxHeartbeats 1000000
set_option linter.unusedVariables false
namespace GX
/-! ### transversals -/
theorem inj_len {Q : Nat → Nat → Prop} (hs : ∀ a b, Q a b → Q b a) (ht : ∀ a b d, Q a b → Q b d → Q a d) : ∀ (S S' : List Nat), S.Pairwise (fun a b => ¬ Q a b) → (∀ s ∈ S, ∃ s' ∈ S', Q s s') → S.length ≤ S'.length
  | [], S', _, _ => Nat.zero_le _
  | s :: S, S', hp, h => by
    obtain ⟨h1, h2⟩ := List.pairwise_cons.mp hp
    obtain ⟨s', hs', hq⟩ := h s (List.mem_cons_self ..)
    have hl : (S'.erase s').length + 1 = S'.length := by
      rw [List.length_erase_of_mem hs']
      have := List.length_pos_of_mem hs'
      lia
    have ih := inj_len hs ht S (S'.erase s') h2 fun r hr => by
      obtain ⟨r', hr', hq'⟩ := h r (List.mem_cons_of_mem _ hr)
      refine ⟨r', ?_, hq'⟩
      have : r' ≠ s' := fun e => h1 r hr (ht _ _ _ hq (hs _ _ (by rw [← e]; exact hq')))
      exact (List.mem_erase_of_ne this).mpr hr'
    rw [List.length_cons]
    lia
structure Tv (m : Nat) (Q : Nat → Nat → Prop) (S : List Nat) : Prop where
  lt : ∀ s ∈ S, s < m
  pw : S.Pairwise (fun a b => ¬ Q a b)
  cov : ∀ p, p < m → ∃ s ∈ S, Q p s
theorem Tv.len {m : Nat} {Q : Nat → Nat → Prop} (hs : ∀ a b, Q a b → Q b a) (ht : ∀ a b d, Q a b → Q b d → Q a d) {S S' : List Nat} (h : Tv m Q S) (h' : Tv m Q S') : S.length = S'.length :=
  Nat.le_antisymm (inj_len hs ht S S' h.pw fun s hs => h'.cov s (h.lt s hs)) (inj_len hs ht S' S h'.pw fun s hs => h.cov s (h'.lt s hs))
theorem Tv.congr {m : Nat} {Q Q' : Nat → Nat → Prop} {S : List Nat} (h : Tv m Q S) (e : ∀ a b, a < m → b < m → (Q a b ↔ Q' a b)) : Tv m Q' S :=
  ⟨h.lt, List.Pairwise.imp_of_mem (fun ha hb q z => q ((e _ _ (h.lt _ ha) (h.lt _ hb)).mpr z)) h.pw, fun p hp => by
    obtain ⟨s, h1, h2⟩ := h.cov p hp
    exact ⟨s, h1, (e _ _ hp (h.lt s h1)).mp h2⟩⟩
/-- two steps: by P, by W -/
def RW (m : Nat) (P W : Nat → Nat) (p q : Nat) : Prop := p < m ∧ (q = P p ∨ q = W p)
structure Inv2 (m : Nat) (P : Nat → Nat) : Prop where
  lt : ∀ p, p < m → P p < m
  inv : ∀ p, p < m → P (P p) = p
  ne : ∀ p, p < m → P p ≠ p
section
variable {m : Nat} {P P' W : Nat → Nat}
theorem RW.lt' (hP : Inv2 m P) (hW : Inv2 m W) {p q : Nat} (h : RW m P W p q) : q < m := by
  rcases h with ⟨h1, rfl | rfl⟩
  · exact hP.lt p h1
  · exact hW.lt p h1
theorem RW.sy (hP : Inv2 m P) (hW : Inv2 m W) (a b : Nat) (h : RW m P W a b) : RW m P W b a := by
  rcases h with ⟨h1, rfl | rfl⟩
  · exact ⟨hP.lt a h1, .inl (hP.inv a h1).symm⟩
  · exact ⟨hW.lt a h1, .inr (hW.inv a h1).symm⟩
/-- two pairs change about -/
structure Sw (m : Nat) (P P' : Nat → Nat) (q0 q1 q2 q3 : Nat) : Prop where
  l0 : q0 < m
  l1 : q1 < m
  l2 : q2 < m
  l3 : q3 < m
  p0 : P q0 = q1
  p1 : P q1 = q0
  p2 : P q2 = q3
  p3 : P q3 = q2
  r0 : P' q0 = q2
  r1 : P' q1 = q3
  r2 : P' q2 = q0
  r3 : P' q3 = q1
  ag : ∀ p, p < m → p ≠ q0 → p ≠ q1 → p ≠ q2 → p ≠ q3 → P' p = P p
  ds : q0 ≠ q1 ∧ q0 ≠ q2 ∧ q0 ≠ q3 ∧ q1 ≠ q2 ∧ q1 ≠ q3 ∧ q2 ≠ q3
theorem Sw.flip {q0 q1 q2 q3 : Nat} (s : Sw m P P' q0 q1 q2 q3) : Sw m P' P q0 q2 q1 q3 :=
  ⟨s.l0, s.l2, s.l1, s.l3, s.r0, s.r2, s.r1, s.r3, s.p0, s.p2, s.p1, s.p3, fun p h a b d e => (s.ag p h a d b e).symm, by have := s.ds; lia⟩
theorem Sw.turn {q0 q1 q2 q3 : Nat} (s : Sw m P P' q0 q1 q2 q3) : Sw m P P' q1 q0 q3 q2 :=
  ⟨s.l1, s.l0, s.l3, s.l2, s.p1, s.p0, s.p3, s.p2, s.r1, s.r0, s.r3, s.r2, fun p h a b d e => s.ag p h b a e d, by have := s.ds; lia⟩
theorem Sw.back {q0 q1 q2 q3 : Nat} (s : Sw m P P' q0 q1 q2 q3) : Sw m P P' q2 q3 q0 q1 :=
  ⟨s.l2, s.l3, s.l0, s.l1, s.p2, s.p3, s.p0, s.p1, s.r2, s.r3, s.r0, s.r1, fun p h a b d e => s.ag p h d e a b, by have := s.ds; lia⟩
theorem cut1 {q0 q1 q2 q3 : Nat} (s : Sw m P P' q0 q1 q2 q3) (hW : Inv2 m W) (h : W q0 = q3) (p q : Nat) (hr : RW m P W p q) : Rc (RW m P' W) p q := by
  have h' : W q3 = q0 := by rw [← h, hW.inv _ s.l0]
  rcases hr with ⟨h1, rfl | rfl⟩
  · by_cases e0 : p = q0
    · subst e0; rw [s.p0]
      exact .head ⟨h1, .inr rfl⟩ (.one ⟨by rw [h]; exact s.l3, .inl (by rw [h, s.r3])⟩)
    · by_cases e1 : p = q1
      · subst e1; rw [s.p1]
        exact .head ⟨h1, .inl rfl⟩ (.one ⟨by rw [s.r1]; exact s.l3, .inr (by rw [s.r1, h'])⟩)
      · by_cases e2 : p = q2
        · subst e2; rw [s.p2]
          exact .head ⟨h1, .inl rfl⟩ (.one ⟨by rw [s.r2]; exact s.l0, .inr (by rw [s.r2, h])⟩)
        · by_cases e3 : p = q3
          · subst e3; rw [s.p3]
            exact .head ⟨h1, .inr rfl⟩ (.one ⟨by rw [h']; exact s.l0, .inl (by rw [h', s.r0])⟩)
          · exact .one ⟨h1, .inl (s.ag p h1 e0 e1 e2 e3).symm⟩
  · exact .one ⟨h1, .inr rfl⟩
/-- a cut: the cycles stay -/
theorem cutR {q0 q1 q2 q3 : Nat} (s : Sw m P P' q0 q1 q2 q3) (hW : Inv2 m W) (h : W q0 = q3) (p q : Nat) : Rc (RW m P W) p q ↔ Rc (RW m P' W) p q :=
  ⟨fun z => z.bind (cut1 s hW h), fun z => z.bind (cut1 s.flip hW h)⟩
/-- a split: q0 and q2 are a cycle of their own -/
theorem splitR {q0 q1 q2 q3 : Nat} (s : Sw m P P' q0 q1 q2 q3) (hP : Inv2 m P) (hP' : Inv2 m P') (hW : Inv2 m W) (h : W q0 = q2) {S : List Nat} (hS : Tv m (Rc (RW m P W)) S) :
    ∃ S', Tv m (Rc (RW m P' W)) S' ∧ S'.length = S.length + 1 := by
  have h' : W q2 = q0 := by rw [← h, hW.inv _ s.l0]
  obtain ⟨d01, d02, d03, d12, d13, d23⟩ := s.ds
  have sR := fun a b => Rc.symm (RW.sy hP hW) (p := a) (q := b)
  have sR' := fun a b => Rc.symm (RW.sy hP' hW) (p := a) (q := b)
  have step13 : RW m P' W q1 q3 := ⟨s.l1, .inl s.r1.symm⟩
  -- (1) away from the two both relations are alike
  have fwd : ∀ z t, z ≠ q0 → z ≠ q2 → z < m → Rc (RW m P W) z t → (t ≠ q0 ∧ t ≠ q2 ∧ Rc (RW m P' W) z t) ∨ ((t = q0 ∨ t = q2) ∧ Rc (RW m P' W) z q1) := fun z t z0 z2 zm hzt => by
    refine (hzt.inv (fun t => t < m ∧ ((t ≠ q0 ∧ t ≠ q2 ∧ Rc (RW m P' W) z t) ∨ ((t = q0 ∨ t = q2) ∧ Rc (RW m P' W) z q1))) ⟨zm, .inl ⟨z0, z2, .refl _⟩⟩ fun t u ht hu => ?_).2
    refine ⟨RW.lt' hP hW hu, ?_⟩
    obtain ⟨tm, ht⟩ := ht
    rcases ht with ⟨t0, t2, ht⟩ | ⟨t02, ht⟩
    · rcases hu with ⟨_, rfl | rfl⟩
      · by_cases e1 : t = q1
        · subst e1; right; exact ⟨.inl s.p1, ht⟩
        · by_cases e3 : t = q3
          · subst e3; right; exact ⟨.inr s.p3, ht.trans (sR' _ _ (.one step13))⟩
          · left
            have ea := s.ag t tm t0 e1 t2 e3
            refine ⟨fun e => e1 ?_, fun e => e3 ?_, ht.trans (.one ⟨tm, .inl ea.symm⟩)⟩
            · rw [← hP.inv t tm, e, s.p0]
            · rw [← hP.inv t tm, e, s.p2]
      · left
        refine ⟨fun e => t2 ?_, fun e => t0 ?_, ht.trans (.one ⟨tm, .inr rfl⟩)⟩
        · rw [← hW.inv t tm, e, h]
        · rw [← hW.inv t tm, e, h']
    · rcases t02 with rfl | rfl
      · rcases hu with ⟨_, rfl | rfl⟩
        · left; rw [s.p0]; exact ⟨Ne.symm d01, d12, ht⟩
        · right; exact ⟨.inr h, ht⟩
      · rcases hu with ⟨_, rfl | rfl⟩
        · left; rw [s.p2]; exact ⟨Ne.symm d03, Ne.symm d23, ht.trans (.one step13)⟩
        · right; exact ⟨.inl h', ht⟩
  have bwd : ∀ z t, z ≠ q0 → z ≠ q2 → z < m → Rc (RW m P' W) z t → t ≠ q0 ∧ t ≠ q2 ∧ Rc (RW m P W) z t := fun z t z0 z2 zm hzt => by
    have := hzt.mapI (S := RW m P W) (fun t => t < m ∧ t ≠ q0 ∧ t ≠ q2) ⟨zm, z0, z2⟩ fun t u ht hu => ?_
    · exact ⟨this.1.2.1, this.1.2.2, this.2⟩
    · obtain ⟨tm, t0, t2⟩ := ht
      have um := RW.lt' hP' hW hu
      rcases hu with ⟨_, rfl | rfl⟩
      · refine ⟨⟨um, fun e => t2 ?_, fun e => t0 ?_⟩, ?_⟩
        · rw [← hP'.inv t tm, e, s.r0]
        · rw [← hP'.inv t tm, e, s.r2]
        · by_cases e1 : t = q1
          · subst e1; rw [s.r1]
            exact .head ⟨s.l1, .inl s.p1.symm⟩ (.head ⟨s.l0, .inr h.symm⟩ (.one ⟨s.l2, .inl s.p2.symm⟩))
          · by_cases e3 : t = q3
            · subst e3; rw [s.r3]
              exact .head ⟨s.l3, .inl s.p3.symm⟩ (.head ⟨s.l2, .inr h'.symm⟩ (.one ⟨s.l0, .inl s.p0.symm⟩))
            · exact .one ⟨tm, .inl (s.ag t tm t0 e1 t2 e3)⟩
      · refine ⟨⟨um, fun e => t2 ?_, fun e => t0 ?_⟩, .one ⟨tm, .inr rfl⟩⟩
        · rw [← hW.inv t tm, e, h]
        · rw [← hW.inv t tm, e, h']
  have own : ∀ t, Rc (RW m P' W) q0 t → t = q0 ∨ t = q2 := fun t ht => ht.inv (fun t => t = q0 ∨ t = q2) (.inl rfl) fun a b ha hb => by
    rcases ha with rfl | rfl
    · rcases hb with ⟨_, rfl | rfl⟩
      · exact .inr s.r0
      · exact .inr h
    · rcases hb with ⟨_, rfl | rfl⟩
      · exact .inl s.r2
      · exact .inl h'
  -- (2) the representatives away from the two
  have fR : ∀ t, t < m → Rc (RW m P W) t (if t = q0 ∨ t = q2 then q1 else t) := fun t ht => by
    by_cases e : t = q0 ∨ t = q2
    · rw [if_pos e]
      rcases e with rfl | rfl
      · exact .one ⟨s.l0, .inl s.p0.symm⟩
      · exact .head ⟨s.l2, .inr h'.symm⟩ (.one ⟨s.l0, .inl s.p0.symm⟩)
    · rw [if_neg e]; exact .refl _
  have fN : ∀ t, (if t = q0 ∨ t = q2 then q1 else t) ≠ q0 ∧ (if t = q0 ∨ t = q2 then q1 else t) ≠ q2 := fun t => by
    by_cases e : t = q0 ∨ t = q2
    · rw [if_pos e]; exact ⟨Ne.symm d01, d12⟩
    · rw [if_neg e]; exact ⟨fun q => e (.inl q), fun q => e (.inr q)⟩
  have fL : ∀ t, t < m → (if t = q0 ∨ t = q2 then q1 else t) < m := fun t ht => by
    split
    · exact s.l1
    · exact ht
  refine ⟨q0 :: S.map (fun t => if t = q0 ∨ t = q2 then q1 else t), ⟨fun t ht => ?_, List.pairwise_cons.mpr ⟨fun t ht => ?_, ?_⟩, fun p hp => ?_⟩, by simp⟩
  · rcases List.mem_cons.mp ht with rfl | ht
    · exact s.l0
    · obtain ⟨u, hu, rfl⟩ := List.mem_map.mp ht
      exact fL u (hS.lt u hu)
  · obtain ⟨u, hu, rfl⟩ := List.mem_map.mp ht
    intro q
    rcases own _ q with e | e
    · exact (fN u).1 e
    · exact (fN u).2 e
  · refine List.Pairwise.map _ (fun a b hab => hab) ?_
    refine List.Pairwise.imp_of_mem (fun ha hb hab q => ?_) hS.pw
    rename_i a b
    obtain ⟨_, _, q⟩ := bwd _ _ (fN a).1 (fN a).2 (fL a (hS.lt a ha)) q
    exact hab (((fR a (hS.lt a ha)).trans q).trans (sR _ _ (fR b (hS.lt b hb))))
  · by_cases e : p = q0 ∨ p = q2
    · refine ⟨q0, List.mem_cons_self .., ?_⟩
      rcases e with rfl | rfl
      · exact .refl _
      · exact .one ⟨s.l2, .inr h'.symm⟩
    · obtain ⟨u, hu, hq⟩ := hS.cov p hp
      refine ⟨_, List.mem_cons_of_mem _ (List.mem_map.mpr ⟨u, hu, rfl⟩), ?_⟩
      rcases fwd p _ (fun q => e (.inl q)) (fun q => e (.inr q)) hp (hq.trans (fR u (hS.lt u hu))) with q | q
      · exact q.2.2
      · rcases q.1 with q | q
        · exact absurd q (fN u).1
        · exact absurd q (fN u).2
/-- without the two pairs -/
def RM (m : Nat) (P W : Nat → Nat) (q0 q1 q2 q3 p q : Nat) : Prop := p < m ∧ (q = W p ∨ (p ≠ q0 ∧ p ≠ q1 ∧ p ≠ q2 ∧ p ≠ q3 ∧ q = P p))
open Classical in
theorem still {q0 q1 q2 q3 : Nat} (s : Sw m P P' q0 q1 q2 q3) (hP : Inv2 m P) (hW : Inv2 m W) (hno : ¬ Rc (RW m P W) q0 q2) : Rc (RM m P W q0 q1 q2 q3) q1 q0 := by
  refine Classical.byContradiction fun hq => ?_
  obtain ⟨d01, d02, d03, d12, d13, d23⟩ := s.ds
  have sub : ∀ a b, RM m P W q0 q1 q2 q3 a b → Rc (RW m P W) a b := fun a b h => by
    rcases h with ⟨h1, h2 | ⟨_, _, _, _, h2⟩⟩
    · exact .one ⟨h1, .inr h2⟩
    · exact .one ⟨h1, .inl h2⟩
  have hlt : ∀ z, Rc (RM m P W q0 q1 q2 q3) q1 z → z < m := fun z hz => hz.inv (· < m) s.l1 fun a b ha h => by
    rcases h with ⟨h1, rfl | ⟨_, _, _, _, rfl⟩⟩
    · exact hW.lt a h1
    · exact hP.lt a h1
  have n2 : ∀ z, Rc (RM m P W q0 q1 q2 q3) q1 z → z ≠ q0 ∧ z ≠ q2 ∧ z ≠ q3 := fun z hz => by
    have hR : Rc (RW m P W) q0 z := .head ⟨s.l0, .inl s.p0.symm⟩ (hz.bind sub)
    refine ⟨fun e => hq (e ▸ hz), fun e => hno (e ▸ hR), fun e => hno ?_⟩
    subst e
    exact hR.trans (.one ⟨s.l3, .inl s.p3.symm⟩)
  let L := (List.range m).filter fun z => decide (Rc (RM m P W q0 q1 q2 q3) q1 z)
  have hnd : L.Nodup := List.Pairwise.filter _ List.nodup_range
  have mem : ∀ z, z ∈ L ↔ Rc (RM m P W q0 q1 q2 q3) q1 z := fun z => by
    rw [List.mem_filter, List.mem_range]
    exact ⟨fun h => of_decide_eq_true h.2, fun h => ⟨hlt z h, decide_eq_true h⟩⟩
  have e1 := even_len W L.length L (Nat.le_refl _) hnd fun z hz => by
    have hz' := (mem z).mp hz
    have hm := hlt z hz'
    exact ⟨(mem _).mpr (hz'.trans (.one ⟨hm, .inl rfl⟩)), hW.inv z hm, hW.ne z hm⟩
  have hin : q1 ∈ L := (mem q1).mpr (.refl _)
  have e2 := even_len P (L.erase q1).length (L.erase q1) (Nat.le_refl _) (hnd.erase _) fun z hz => by
    obtain ⟨z1, z2⟩ := (List.Nodup.mem_erase_iff hnd).mp hz
    have hz' := (mem z).mp z2
    have hm := hlt z hz'
    obtain ⟨n0, n2', n3⟩ := n2 z hz'
    refine ⟨(List.Nodup.mem_erase_iff hnd).mpr ⟨fun e => n0 ?_, (mem _).mpr (hz'.trans (.one ⟨hm, .inr ⟨n0, z1, n2', n3, rfl⟩⟩))⟩, hP.inv z hm, hP.ne z hm⟩
    rw [← hP.inv z hm, e, s.p1]
  rw [List.length_erase_of_mem hin] at e2
  have := List.length_pos_of_mem hin
  lia
/-- a merge: two cycles are one -/
theorem mergeR {q0 q1 q2 q3 : Nat} (s : Sw m P P' q0 q1 q2 q3) (hP : Inv2 m P) (hP' : Inv2 m P') (hW : Inv2 m W) (hno : ¬ Rc (RW m P W) q0 q2) {S : List Nat} (hS : Tv m (Rc (RW m P W)) S) :
    ∃ S', Tv m (Rc (RW m P' W)) S' ∧ S'.length + 1 = S.length := by
  obtain ⟨d01, d02, d03, d12, d13, d23⟩ := s.ds
  have sR := fun a b => Rc.symm (RW.sy hP hW) (p := a) (q := b)
  have sR' := fun a b => Rc.symm (RW.sy hP' hW) (p := a) (q := b)
  have sub' : ∀ a b, RM m P W q0 q1 q2 q3 a b → Rc (RW m P' W) a b := fun a b h => by
    rcases h with ⟨h1, h2 | ⟨n0, n1, n2, n3, h2⟩⟩
    · exact .one ⟨h1, .inr h2⟩
    · exact .one ⟨h1, .inl (by rw [s.ag a h1 n0 n1 n2 n3]; exact h2)⟩
  have c10 : Rc (RW m P' W) q1 q0 := (still s hP hW hno).bind sub'
  have c32 : Rc (RW m P' W) q3 q2 := by
    have h3 := still s.back hP hW (fun q => hno (sR _ _ q))
    refine h3.bind fun a b h => sub' a b ?_
    rcases h with ⟨h1, h2 | ⟨n0, n1, n2, n3, h2⟩⟩
    · exact ⟨h1, .inl h2⟩
    · exact ⟨h1, .inr ⟨n2, n3, n0, n1, h2⟩⟩
  have c02 : Rc (RW m P' W) q0 q2 := .one ⟨s.l0, .inl s.r0.symm⟩
  have up : ∀ a b, Rc (RW m P W) a b → Rc (RW m P' W) a b := fun a b h => h.bind fun t u hu => by
    rcases hu with ⟨tm, rfl | rfl⟩
    · by_cases e0 : t = q0
      · subst e0; rw [s.p0]; exact sR' _ _ c10
      · by_cases e1 : t = q1
        · subst e1; rw [s.p1]; exact c10
        · by_cases e2 : t = q2
          · subst e2; rw [s.p2]; exact sR' _ _ c32
          · by_cases e3 : t = q3
            · subst e3; rw [s.p3]; exact c32
            · exact .one ⟨tm, .inl (s.ag t tm e0 e1 e2 e3).symm⟩
    · exact .one ⟨tm, .inr rfl⟩
  -- back
  have K0 : ∀ t, (t = q0 ∨ t = q1 ∨ t = q2 ∨ t = q3) → Rc (RW m P W) t q0 ∨ Rc (RW m P W) t q2 := fun t ht => by
    rcases ht with rfl | rfl | rfl | rfl
    · exact .inl (.refl _)
    · exact .inl (.one ⟨s.l1, .inl s.p1.symm⟩)
    · exact .inr (.refl _)
    · exact .inr (.one ⟨s.l3, .inl s.p3.symm⟩)
  have down : ∀ z t, z < m → Rc (RW m P' W) z t → Rc (RW m P W) z t ∨ ((Rc (RW m P W) z q0 ∨ Rc (RW m P W) z q2) ∧ (Rc (RW m P W) t q0 ∨ Rc (RW m P W) t q2)) := fun z t zm h => by
    refine (h.inv (fun t => t < m ∧ (Rc (RW m P W) z t ∨ ((Rc (RW m P W) z q0 ∨ Rc (RW m P W) z q2) ∧ (Rc (RW m P W) t q0 ∨ Rc (RW m P W) t q2)))) ⟨zm, .inl (.refl _)⟩ fun t u ht hu => ?_).2
    refine ⟨RW.lt' hP' hW hu, ?_⟩
    obtain ⟨tm, ht⟩ := ht
    by_cases eq : t = q0 ∨ t = q1 ∨ t = q2 ∨ t = q3
    · -- both in K
      have kt := K0 t eq
      have kz : Rc (RW m P W) z q0 ∨ Rc (RW m P W) z q2 := by
        rcases ht with ht | ht
        · rcases kt with kt | kt
          · exact .inl (ht.trans kt)
          · exact .inr (ht.trans kt)
        · exact ht.1
      right
      refine ⟨kz, ?_⟩
      rcases hu with ⟨_, rfl | rfl⟩
      · refine K0 _ ?_
        rcases eq with rfl | rfl | rfl | rfl
        · rw [s.r0]; simp
        · rw [s.r1]; simp
        · rw [s.r2]; simp
        · rw [s.r3]; simp
      · have hs : Rc (RW m P W) (W t) t := sR _ _ (.one ⟨tm, .inr rfl⟩)
        rcases kt with kt | kt
        · exact .inl (hs.trans kt)
        · exact .inr (hs.trans kt)
    · have hst : Rc (RW m P W) t u := by
        rcases hu with ⟨_, rfl | rfl⟩
        · exact .one ⟨tm, .inl (s.ag t tm (fun e => eq (by simp [e])) (fun e => eq (by simp [e])) (fun e => eq (by simp [e])) (fun e => eq (by simp [e])))⟩
        · exact .one ⟨tm, .inr rfl⟩
      rcases ht with ht | ⟨h1, h2⟩
      · exact .inl (ht.trans hst)
      · refine .inr ⟨h1, ?_⟩
        rcases h2 with h2 | h2
        · exact .inl ((sR _ _ hst).trans h2)
        · exact .inr ((sR _ _ hst).trans h2)
  obtain ⟨s1, hs1, r1⟩ := hS.cov q0 s.l0
  obtain ⟨s2, hs2, r2⟩ := hS.cov q2 s.l2
  have hne : s1 ≠ s2 := fun e => hno (r1.trans (by rw [e]; exact sR _ _ r2))
  have hirr : ∀ a b, a ∈ S → b ∈ S → a ≠ b → ¬ Rc (RW m P W) a b := fun a b ha hb hab q => by
    have := hS.pw
    obtain ⟨l1, l2, rfl⟩ := List.append_of_mem ha
    rw [List.pairwise_append, List.pairwise_cons] at this
    rcases List.mem_append.mp hb with hb | hb
    · exact this.2.2 b hb a (List.mem_cons_self ..) (sR _ _ q)
    · rcases List.mem_cons.mp hb with hb | hb
      · exact hab hb.symm
      · exact this.2.1.1 b hb q
  have hnd : S.Nodup := hS.pw.imp fun h e => h (by rw [e]; exact .refl _)
  have hmem : ∀ a, a ∈ S.erase s2 ↔ a ≠ s2 ∧ a ∈ S := fun a => List.Nodup.mem_erase_iff hnd
  refine ⟨S.erase s2, ⟨fun a ha => hS.lt a ((hmem a).mp ha).2, ?_, fun p hp => ?_⟩, ?_⟩
  · refine List.Pairwise.imp_of_mem (fun ha hb hab q => ?_) (hS.pw.sublist List.erase_sublist)
    rename_i a b
    obtain ⟨a1, a2⟩ := (hmem a).mp ha
    obtain ⟨b1, b2⟩ := (hmem b).mp hb
    rcases down a b (hS.lt a a2) q with q | ⟨ka, kb⟩
    · exact hab q
    · have kk : ∀ t, t ∈ S → t ≠ s2 → (Rc (RW m P W) t q0 ∨ Rc (RW m P W) t q2) → Rc (RW m P W) t q0 := fun t ht hts k => by
        rcases k with k | k
        · exact k
        · exact absurd (k.trans r2) (hirr t s2 ht hs2 hts)
      exact hab ((kk a a2 a1 ka).trans (sR _ _ (kk b b2 b1 kb)))
  · obtain ⟨u, hu, hq⟩ := hS.cov p hp
    by_cases e : u = s2
    · subst e
      refine ⟨s1, (hmem s1).mpr ⟨hne, hs1⟩, ?_⟩
      exact (((up _ _ hq).trans (sR' _ _ (up _ _ r2))).trans (sR' _ _ c02)).trans (up _ _ r1)
    · exact ⟨u, (hmem u).mpr ⟨e, hu⟩, up _ _ hq⟩
  · rw [List.length_erase_of_mem hs2]
    have := List.length_pos_of_mem hs2
    lia
end
end GX

set_option maxHeartbeats 1000000
set_option linter.unusedVariables false
namespace GX
theorem zipIdx_eq (l : List Nat) : l.zipIdx = (List.range l.length).map fun p => (l.getD p 0, p) := by
  refine List.ext_getElem? fun i => ?_
  rw [List.getElem?_zipIdx, List.getElem?_map]
  by_cases h : i < l.length
  · rw [List.getElem?_eq_getElem h, List.getElem?_range h, Option.map_some, Option.map_some, List.getD_eq_getElem?_getD, List.getElem?_eq_getElem h]
    simp
  · rw [List.getElem?_eq_none (by lia), List.getElem?_eq_none (by rw [List.length_range]; lia)]
    rfl
theorem Rc.map {R S : Nat → Nat → Prop} (f : Nat → Nat) (h : ∀ a b, R a b → S (f a) (f b)) {p q : Nat} (k : Rc R p q) : Rc S (f p) (f q) := by
  induction k with
  | refl => exact .refl _
  | head a _ ih => exact .head (h _ _ a) ih
theorem Rc.congr {R S : Nat → Nat → Prop} (h : ∀ a b, R a b ↔ S a b) {p q : Nat} : Rc R p q ↔ Rc S p q := ⟨fun k => k.bind fun a b z => .one ((h a b).mp z), fun k => k.bind fun a b z => .one ((h a b).mpr z)⟩
theorem tvlen {P W : Nat → Nat} {m : Nat} (hP : Inv2 m P) (hW : Inv2 m W) {S S' : List Nat} (h : Tv m (Rc (RW m P W)) S) (h' : Tv m (Rc (RW m P W)) S') : S.length = S'.length :=
  Tv.len (Q := Rc (RW m P W)) (fun _ _ => Rc.symm (RW.sy hP hW)) (fun _ _ _ => Rc.trans) h h'
namespace Cfg
variable (c : Cfg)
/-- cycles -/
abbrev Cy : Nat → Nat → Prop := Rc (RW c.m par c.W)
theorem iPar : Inv2 c.m par := ⟨fun p h => par_lt h, fun p _ => par_par p, fun p _ => par_ne p⟩
theorem iW : Inv2 c.m c.W := ⟨fun p h => W_lt h, fun p h => W_W h, fun p h => W_ne h⟩
theorem Cy.sy {c : Cfg} {p q : Nat} (h : c.Cy p q) : c.Cy q p := h.symm (RW.sy c.iPar c.iW)
/-- a cycle lies in one crowd -/
theorem Cy.cr {c : Cfg} {p q : Nat} (h : c.Cy p q) : c.Cr (c.bk p) (c.bk q) := by
  induction h with
  | refl => exact .refl _
  | head a _ ih =>
    refine Rc.trans ?_ ih
    rcases a with ⟨h1, rfl | rfl⟩
    · exact meet h1
    · rw [bk_W h1]; exact .refl _
end Cfg
section
variable {g : List Int} (hg : Rc65.right g = true)
theorem near_get {u : List Nat} {p : Nat} (h : p < u.length) : ((List.range u.length).map fun (p : Nat) => [Rc65.beside p, Rc65.wanted u p]).getD p [] = [Rc65.beside p, Rc65.wanted u p] := by
  rw [List.getD_eq_getElem?_getD, List.getElem?_map, List.getElem?_range h]
  rfl
theorem wanted_eq (p : Nat) : Rc65.wanted (Rc65.ends g) p = (cfg g hg).W p := rfl
theorem cyc_labels : (Rc65.cyclesOf (Rc65.ends g)).length = (cfg g hg).m ∧ ∀ p, p < (cfg g hg).m → (cfg g hg).Cy p ((Rc65.cyclesOf (Rc65.ends g)).getD p 0) ∧ ∀ q, (cfg g hg).Cy p q → (Rc65.cyclesOf (Rc65.ends g)).getD p 0 ≤ q := by
  have hl : (Rc65.ends g).length = (cfg g hg).m := GM.ends_len g
  have nl : ((List.range (Rc65.ends g).length).map fun (p : Nat) => [Rc65.beside p, Rc65.wanted (Rc65.ends g) p]).length = (cfg g hg).m := by rw [List.length_map, List.length_range, hl]
  have had : ∀ a b, adj ((List.range (Rc65.ends g).length).map fun (p : Nat) => [Rc65.beside p, Rc65.wanted (Rc65.ends g) p]) a b ↔ RW (cfg g hg).m par (cfg g hg).W a b := fun a b => by
    unfold adj RW
    rw [nl]
    refine and_congr_right fun h => ?_
    rw [near_get (by rw [hl]; exact h), List.mem_cons, List.mem_singleton]
    rfl
  have := falls_spec (near := (List.range (Rc65.ends g).length).map fun (p : Nat) => [Rc65.beside p, Rc65.wanted (Rc65.ends g) p]) fun p hp q hq => by
    rw [nl] at hp ⊢
    have := (had p q).mp ⟨by rw [nl]; exact hp, hq⟩
    exact RW.lt' (cfg g hg).iPar (cfg g hg).iW this
  rw [nl] at this
  unfold Rc65.cyclesOf
  rw [hl] at this ⊢
  rw [hl] at had
  refine ⟨this.1, fun p hp => ⟨(Rc.congr had).mp (this.2 p hp).1, fun q hq => (this.2 p hp).2 q ((Rc.congr had).mpr hq)⟩⟩
theorem cycles_tv : ∃ S, Tv (cfg g hg).m (cfg g hg).Cy S ∧ S.length = Rc65.cycles g := by
  obtain ⟨h1, h2⟩ := cyc_labels hg
  refine ⟨(List.range (cfg g hg).m).filter fun p => (Rc65.cyclesOf (Rc65.ends g)).getD p 0 == p, ⟨fun s hs => List.mem_range.mp (List.mem_filter.mp hs).1, ?_, fun p hp => ?_⟩, ?_⟩
  · refine List.Pairwise.imp_of_mem (fun ha hb hab q => ?_) (List.Pairwise.filter _ (List.pairwise_lt_range (n := (cfg g hg).m)))
    rename_i a b
    obtain ⟨a1, a2⟩ := List.mem_filter.mp ha
    obtain ⟨b1, b2⟩ := List.mem_filter.mp hb
    have e : (Rc65.cyclesOf (Rc65.ends g)).getD b 0 = b := eq_of_beq b2
    have := (h2 b (List.mem_range.mp b1)).2 a q.sy
    lia
  · obtain ⟨c1, c2⟩ := h2 p hp
    have hlt : (Rc65.cyclesOf (Rc65.ends g)).getD p 0 < (cfg g hg).m := c1.inv (· < (cfg g hg).m) hp fun a b _ r => RW.lt' (cfg g hg).iPar (cfg g hg).iW r
    refine ⟨_, List.mem_filter.mpr ⟨List.mem_range.mpr hlt, beq_iff_eq.mpr ?_⟩, c1⟩
    obtain ⟨d1, d2⟩ := h2 _ hlt
    have k1 := d2 _ (.refl _)
    have k2 := c2 _ (c1.trans d1)
    lia
  · unfold Rc65.cycles
    rw [zipIdx_eq, h1, List.filter_map, List.length_map]
    rfl
include hg in
theorem cycles_le : Rc65.cycles g ≤ g.length + 1 := by
  obtain ⟨S, hS, e⟩ := cycles_tv hg
  rw [← e]
  have := inj_len (Q := (cfg g hg).Cy) (fun a b => Cfg.Cy.sy) (fun a b d => Rc.trans) S ((List.range (g.length + 1)).map (2 * ·)) hS.pw fun s hs => by
    have hm : s < 2 * g.length + 2 := hS.lt s hs
    have hd := par_def s
    by_cases h : s % 2 = 0
    · exact ⟨s, List.mem_map.mpr ⟨s / 2, List.mem_range.mpr (by lia), by lia⟩, .refl _⟩
    · exact ⟨par s, List.mem_map.mpr ⟨s / 2, List.mem_range.mpr (by lia), by lia⟩, .one ⟨hm, .inl rfl⟩⟩
  simpa using this
variable {i j : Nat} (h1 : i ≤ j) (h2 : j < g.length)
theorem turned : Turned (cfg g hg) (cfg (Rc65.turn g i j) (GM.turn_right hg h1 h2)) (2 * i + 1) (2 * j + 2) :=
  ⟨GM.turn_len h1 h2, fun v hv => AA_turn hg h1 h2 hv, fun p hp => EE_turn hg h1 h2 hp, i, j, h1, h2, rfl, rfl⟩
def par' (x y p : Nat) : Nat := sw x y (par (sw x y p))
theorem s_1 {i j : Nat} : sw (2 * i + 1) (2 * j + 2) (2 * i) = 2 * i := by unfold sw; rw [if_neg (by lia)]
theorem s_2 {i j : Nat} (h : i ≤ j) : sw (2 * i + 1) (2 * j + 2) (2 * i + 1) = 2 * j + 2 := by unfold sw; rw [if_pos (by lia)]; lia
theorem s_3 {i j : Nat} (h : i ≤ j) : sw (2 * i + 1) (2 * j + 2) (2 * j + 2) = 2 * i + 1 := by unfold sw; rw [if_pos (by lia)]; lia
theorem s_4 {i j : Nat} : sw (2 * i + 1) (2 * j + 2) (2 * j + 3) = 2 * j + 3 := by unfold sw; rw [if_neg (by lia)]
theorem par_e (k : Nat) : par (2 * k) = 2 * k + 1 ∧ par (2 * k + 1) = 2 * k := by
  have h1 := par_def (2 * k)
  have h2 := par_def (2 * k + 1)
  lia
theorem s_ag {i j p : Nat} (n0 : p ≠ 2 * i) (n1 : p ≠ 2 * i + 1) (n2 : p ≠ 2 * j + 2) (n3 : p ≠ 2 * j + 3) : par' (2 * i + 1) (2 * j + 2) p = par p := by
  have hp2 := par_def p
  unfold par'
  by_cases c : In (2 * i + 1) (2 * j + 2) p
  · have hq := par_def (2 * i + 1 + (2 * j + 2) - p)
    have c2 : In (2 * i + 1) (2 * j + 2) (par (2 * i + 1 + (2 * j + 2) - p)) := by unfold In at *; lia
    rw [sw_in c, sw_in c2]
    unfold In at c c2
    lia
  · have c2 : ¬ In (2 * i + 1) (2 * j + 2) (par p) := by unfold In at *; lia
    rw [sw_out c, sw_out c2]
theorem s_lt {i j n : Nat} (h1 : i ≤ j) (h2 : j < n) : 2 * i < 2 * n + 2 ∧ 2 * i + 1 < 2 * n + 2 ∧ 2 * j + 2 < 2 * n + 2 ∧ 2 * j + 3 < 2 * n + 2 := by lia
theorem s_ne {i j : Nat} (h1 : i ≤ j) : 2 * i ≠ 2 * i + 1 ∧ 2 * i ≠ 2 * j + 2 ∧ 2 * i ≠ 2 * j + 3 ∧ 2 * i + 1 ≠ 2 * j + 2 ∧ 2 * i + 1 ≠ 2 * j + 3 ∧ 2 * j + 2 ≠ 2 * j + 3 := by lia
include h1 h2
theorem sw_pairs : Sw (cfg g hg).m par (par' (2 * i + 1) (2 * j + 2)) (2 * i) (2 * i + 1) (2 * j + 2) (2 * j + 3) := by
  obtain ⟨l0, l1, l2, l3⟩ := s_lt (n := g.length) h1 h2
  have p0 := (par_e i).1
  have p1 := (par_e i).2
  have p2 : par (2 * j + 2) = 2 * j + 3 := (par_e (j + 1)).1
  have p3 : par (2 * j + 3) = 2 * j + 2 := (par_e (j + 1)).2
  refine ⟨l0, l1, l2, l3, p0, p1, p2, p3, ?_, ?_, ?_, ?_, fun p _ n0 n1 n2 n3 => s_ag n0 n1 n2 n3, s_ne h1⟩
  · unfold par'; rw [s_1, p0, s_2 h1]
  · unfold par'; rw [s_2 h1, p2, s_4]
  · unfold par'; rw [s_3 h1, p1, s_1]
  · unfold par'; rw [s_4, p3, s_3 h1]
/-- the turned row's cycles, by the places before -/
theorem cycles_tv' : ∃ S, Tv (cfg g hg).m (Rc (RW (cfg g hg).m (par' (2 * i + 1) (2 * j + 2)) (cfg g hg).W)) S ∧ S.length = Rc65.cycles (Rc65.turn g i j) := by
  obtain ⟨S, hS, e⟩ := cycles_tv (GM.turn_right hg h1 h2)
  have t := turned hg h1 h2
  have hm := t.m_
  have hW : ∀ p, p < (cfg g hg).m → (cfg (Rc65.turn g i j) (GM.turn_right hg h1 h2)).W p = sw (2 * i + 1) (2 * j + 2) ((cfg g hg).W (sw (2 * i + 1) (2 * j + 2) p)) := fun p hp => by
    unfold Cfg.W
    have := (cfg g hg).E_lt _ (t.sw_lt hp)
    rw [t.E p hp, t.A _ (par_lt this)]
  refine ⟨S.map (sw (2 * i + 1) (2 * j + 2)), ⟨fun s hs => ?_, ?_, fun p hp => ?_⟩, by rw [List.length_map, e]⟩
  · obtain ⟨u, hu, rfl⟩ := List.mem_map.mp hs
    exact t.sw_lt (by rw [← hm]; exact hS.lt u hu)
  · refine List.Pairwise.map _ (fun a b hab q => hab ?_) hS.pw
    have := q.map (S := RW (cfg (Rc65.turn g i j) (GM.turn_right hg h1 h2)).m par (cfg (Rc65.turn g i j) (GM.turn_right hg h1 h2)).W) (sw (2 * i + 1) (2 * j + 2)) fun a b hab => by
      rcases hab with ⟨k1, k2⟩
      refine ⟨by rw [hm]; exact t.sw_lt k1, ?_⟩
      rcases k2 with rfl | rfl
      · left; unfold par'; rw [sw_sw]
      · right; rw [hW _ (t.sw_lt k1), sw_sw]
    rw [sw_sw, sw_sw] at this
    exact this
  · obtain ⟨s, hs, hq⟩ := hS.cov (sw (2 * i + 1) (2 * j + 2) p) (by rw [hm]; exact t.sw_lt hp)
    refine ⟨_, List.mem_map.mpr ⟨s, hs, rfl⟩, ?_⟩
    have := hq.map (S := RW (cfg g hg).m (par' (2 * i + 1) (2 * j + 2)) (cfg g hg).W) (sw (2 * i + 1) (2 * j + 2)) fun a b hab => by
      rcases hab with ⟨k1, k2⟩
      rw [hm] at k1
      refine ⟨t.sw_lt k1, ?_⟩
      rcases k2 with rfl | rfl
      · left; unfold par'; rw [sw_sw]
      · right; rw [hW _ k1, sw_sw]
    rw [sw_sw] at this
    exact this
theorem iPar' : Inv2 (cfg g hg).m (par' (2 * i + 1) (2 * j + 2)) := by
  have t := turned hg h1 h2
  refine ⟨fun p hp => t.sw_lt (par_lt (t.sw_lt hp)), fun p hp => ?_, fun p hp e => ?_⟩
  · unfold par'; rw [sw_sw, par_par, sw_sw]
  · unfold par' at e
    have e2 := congrArg (sw (2 * i + 1) (2 * j + 2)) e
    rw [sw_sw] at e2
    exact par_ne _ e2
theorem cycles_cut (h : (cfg g hg).W (2 * i) = 2 * j + 3 ∨ (cfg g hg).W (2 * i + 1) = 2 * j + 2) : Rc65.cycles (Rc65.turn g i j) = Rc65.cycles g := by
  obtain ⟨S, hS, e⟩ := cycles_tv hg
  obtain ⟨S', hS', e'⟩ := cycles_tv' hg h1 h2
  have s := sw_pairs hg h1 h2
  rw [← e, ← e']
  refine tvlen (iPar' hg h1 h2) (cfg g hg).iW hS' (hS.congr fun a b _ _ => ?_)
  rcases h with h | h
  · exact cutR s (cfg g hg).iW h a b
  · exact cutR s.turn (cfg g hg).iW h a b
theorem cycles_split (h : (cfg g hg).W (2 * i) = 2 * j + 2 ∨ (cfg g hg).W (2 * i + 1) = 2 * j + 3) : Rc65.cycles (Rc65.turn g i j) = Rc65.cycles g + 1 := by
  obtain ⟨S, hS, e⟩ := cycles_tv hg
  obtain ⟨S', hS', e'⟩ := cycles_tv' hg h1 h2
  have s := sw_pairs hg h1 h2
  rw [← e, ← e']
  obtain ⟨S2, hS2, e2⟩ : ∃ S2, Tv (cfg g hg).m (Rc (RW (cfg g hg).m (par' (2 * i + 1) (2 * j + 2)) (cfg g hg).W)) S2 ∧ S2.length = S.length + 1 := by
    rcases h with h | h
    · exact splitR s (cfg g hg).iPar (iPar' hg h1 h2) (cfg g hg).iW h hS
    · exact splitR s.turn (cfg g hg).iPar (iPar' hg h1 h2) (cfg g hg).iW h hS
  rw [← e2]
  exact tvlen (iPar' hg h1 h2) (cfg g hg).iW hS' hS2
theorem cycles_merge (h : ¬ (cfg g hg).Cy (2 * i) (2 * j + 2)) : Rc65.cycles (Rc65.turn g i j) + 1 = Rc65.cycles g := by
  obtain ⟨S, hS, e⟩ := cycles_tv hg
  obtain ⟨S', hS', e'⟩ := cycles_tv' hg h1 h2
  rw [← e, ← e']
  obtain ⟨S2, hS2, e2⟩ := mergeR (sw_pairs hg h1 h2) (cfg g hg).iPar (iPar' hg h1 h2) (cfg g hg).iW h hS
  rw [← e2, tvlen (iPar' hg h1 h2) (cfg g hg).iW hS' hS2]
end
end GX

set_option maxHeartbeats 1000000
set_option linter.unusedVariables false
namespace GX
/-! ### lists: sublists by places -/
theorem sub_range' : ∀ (n a : Nat) (is : List Nat), is.Pairwise (· < ·) → (∀ i ∈ is, a ≤ i ∧ i < a + n) → is.Sublist (List.range' a n)
  | 0, a, [], _, _ => List.nil_sublist _
  | 0, a, i :: t, _, h => by have := h i (List.mem_cons_self ..); lia
  | n + 1, a, [], _, _ => List.nil_sublist _
  | n + 1, a, i :: t, hp, h => by
    obtain ⟨h1, h2⟩ := List.pairwise_cons.mp hp
    have hi := h i (List.mem_cons_self ..)
    rw [List.range'_succ]
    by_cases e : i = a
    · subst e
      exact List.Sublist.cons_cons _ (sub_range' n (i + 1) t h2 fun k hk => by have := h1 k hk; have := h k (List.mem_cons_of_mem _ hk); lia)
    · refine List.Sublist.cons _ (sub_range' n (a + 1) (i :: t) hp fun k hk => ?_)
      have hk2 := h k hk
      rcases List.mem_cons.mp hk with rfl | hk'
      · lia
      · have := h1 k hk'; lia
theorem sub_range {m : Nat} {is : List Nat} (hp : is.Pairwise (· < ·)) (h : ∀ i ∈ is, i < m) : is.Sublist (List.range m) := by
  rw [List.range_eq_range']
  exact sub_range' m 0 is hp fun i hi => ⟨Nat.zero_le _, by have := h i hi; lia⟩
theorem of_sub_range {m : Nat} {is : List Nat} (h : is.Sublist (List.range m)) : is.Pairwise (· < ·) ∧ ∀ i ∈ is, i < m :=
  ⟨List.Pairwise.sublist h (List.pairwise_lt_range), fun i hi => List.mem_range.mp (h.subset hi)⟩
theorem nodup_eraseDups : ∀ (n : Nat) (l : List Nat), l.length ≤ n → l.eraseDups.Nodup
  | _, [], _ => by simp
  | 0, a :: l, h => by simp at h
  | n + 1, a :: l, h => by
    rw [List.eraseDups_cons, List.nodup_cons]
    refine ⟨fun q => ?_, nodup_eraseDups n _ (Nat.le_trans (List.length_filter_le _ _) (by simpa using h))⟩
    rw [List.mem_eraseDups, List.mem_filter] at q
    simp at q
theorem map_range_get (l : List Nat) : (List.range l.length).map (fun i => l.getD i 0) = l := by
  refine List.ext_getElem? fun i => ?_
  rw [List.getElem?_map]
  by_cases h : i < l.length
  · rw [List.getElem?_range h, Option.map_some, List.getD_eq_getElem?_getD, List.getElem?_eq_getElem h]
    rfl
  · rw [List.getElem?_eq_none (by rw [List.length_range]; lia), List.getElem?_eq_none (by lia)]
    rfl
/-! ### c x c y, gone round -/
def Alt (l : List Nat) (c : Nat) : Prop := ∃ x y, x ≠ c ∧ y ≠ c ∧ ([c, x, c, y].Sublist l ∨ [x, c, y, c].Sublist l)
/-- by places of a list that is made of some places -/
theorem sub_places {m : Nat} {B : Nat → Bool} {f : Nat → Nat} {u1 u2 u3 u4 : Nat} : [u1, u2, u3, u4].Sublist (((List.range m).filter B).map f) ↔
    ∃ p1 p2 p3 p4, p1 < p2 ∧ p2 < p3 ∧ p3 < p4 ∧ p4 < m ∧ B p1 = true ∧ B p2 = true ∧ B p3 = true ∧ B p4 = true ∧ f p1 = u1 ∧ f p2 = u2 ∧ f p3 = u3 ∧ f p4 = u4 := by
  rw [List.sublist_map_iff]
  constructor
  · rintro ⟨is, h, e⟩
    match is, e with
    | [p1, p2, p3, p4], e =>
      simp only [List.map_cons, List.map_nil, List.cons.injEq, and_true] at e
      obtain ⟨h1, h2⟩ := of_sub_range (h.trans List.filter_sublist)
      have hB : ∀ i ∈ [p1, p2, p3, p4], B i = true := fun i hi => (List.mem_filter.mp (h.subset hi)).2
      simp at h1 h2 hB
      exact ⟨p1, p2, p3, p4, by lia, by lia, by lia, by lia, hB.1, hB.2.1, hB.2.2.1, hB.2.2.2, e.1.symm, e.2.1.symm, e.2.2.1.symm, e.2.2.2.symm⟩
  · rintro ⟨p1, p2, p3, p4, h1, h2, h3, h4, b1, b2, b3, b4, rfl, rfl, rfl, rfl⟩
    refine ⟨[p1, p2, p3, p4], ?_, rfl⟩
    have := (sub_range (m := m) (is := [p1, p2, p3, p4]) (by simp; lia) (by simp; lia)).filter B
    simpa [List.filter_cons, b1, b2, b3, b4] using this
theorem two_mem {F : List Nat} {a b : Nat} (ha : a ∈ F) (hb : b ∈ F) (h : a ≠ b) : 2 ≤ F.length := by
  match F, ha, hb with
  | [x], ha, hb => simp at ha hb; lia
  | x :: y :: r, _, _ => simp
theorem sub_idx {l : List Nat} {u1 u2 u3 u4 : Nat} : [u1, u2, u3, u4].Sublist l ↔ ∃ p1 p2 p3 p4, p1 < p2 ∧ p2 < p3 ∧ p3 < p4 ∧ p4 < l.length ∧ l.getD p1 0 = u1 ∧ l.getD p2 0 = u2 ∧ l.getD p3 0 = u3 ∧ l.getD p4 0 = u4 := by
  have e : l = ((List.range l.length).filter fun _ => true).map (fun i => l.getD i 0) := by
    rw [List.filter_eq_self.mpr (fun _ _ => rfl), map_range_get]
  conv => lhs; rw [e]
  rw [sub_places]
  simp
theorem start_in {l : List Nat} {c i j : Nat} (h1 : i < j) (h2 : l.getD i 0 ≠ c) (h3 : l.getD j 0 = c) : ∃ t, i < t ∧ t ≤ j ∧ l.getD t 0 = c ∧ l.getD (t - 1) 0 ≠ c := by
  obtain ⟨t, ⟨q1, q2⟩, hmin⟩ := least_ex (P := fun t => i < t ∧ l.getD t 0 = c) ⟨j, h1, h3⟩
  refine ⟨t, q1, ?_, q2, fun q => ?_⟩
  · exact Classical.byContradiction fun z => hmin j (by lia) ⟨h1, h3⟩
  · by_cases e : t - 1 = i
    · exact h2 (by rw [← e]; exact q)
    · exact hmin (t - 1) (by lia) ⟨by lia, q⟩
theorem anew_mem {l : List Nat} {c t : Nat} (h : t < l.length) (h1 : l.getD t 0 = c) (h2 : l.getD ((t + l.length - 1) % l.length) 0 ≠ c) : t ∈ (List.range l.length).filter fun i => l.getD i 0 == c && l.getD ((i + l.length - 1) % l.length) 0 != c := by
  rw [List.mem_filter, List.mem_range]
  refine ⟨h, ?_⟩
  rw [Bool.and_eq_true]
  exact ⟨beq_iff_eq.mpr h1, bne_iff_ne.mpr h2⟩
theorem prev_of {n t : Nat} (h : t < n) (h0 : 0 < t) : (t + n - 1) % n = t - 1 := by
  rw [show t + n - 1 = (t - 1) + n by lia, Nat.add_mod_right, Nat.mod_eq_of_lt (by lia)]
theorem prev_0 {n : Nat} (h : 0 < n) : (0 + n - 1) % n = n - 1 := by rw [Nat.zero_add, Nat.mod_eq_of_lt (by lia)]
theorem anew_alt {l : List Nat} {c : Nat} : Rc65.anew l c ≤ 1 ↔ ¬ Alt l c := by
  constructor
  · rintro h ⟨x, y, hx, hy, hs⟩
    have fin : ∀ a b, a < l.length → b < l.length → a ≠ b → l.getD a 0 = c → l.getD b 0 = c → l.getD ((a + l.length - 1) % l.length) 0 ≠ c → l.getD ((b + l.length - 1) % l.length) 0 ≠ c → False := fun a b ha hb hab a1 b1 a2 b2 => by
      have := two_mem (anew_mem ha a1 a2) (anew_mem hb b1 b2) hab
      unfold Rc65.anew at h
      lia
    rcases hs with hs | hs
    · obtain ⟨p1, p2, p3, p4, h1, h2, h3, h4, e1, e2, e3, e4⟩ := sub_idx.mp hs
      obtain ⟨t, t1, t2, t3, t4⟩ := start_in h2 (by rw [e2]; exact hx) e3
      have ht : l.getD ((t + l.length - 1) % l.length) 0 ≠ c := by rw [prev_of (by lia) (by lia)]; exact t4
      obtain ⟨r, hr, hmin⟩ := least_ex (P := fun r => l.getD r 0 = c) ⟨p1, e1⟩
      have hr1 : r ≤ p1 := Classical.byContradiction fun z => hmin p1 (by lia) e1
      by_cases r0 : 0 < r
      · exact fin t r (by lia) (by lia) (by lia) t3 hr ht (by rw [prev_of (by lia) r0]; exact fun q => hmin (r - 1) (by lia) q)
      · have r0 : r = 0 := by lia
        subst r0
        by_cases hl : l.getD (l.length - 1) 0 = c
        · have : p4 ≠ l.length - 1 := fun e => hy (by rw [← e4, e]; exact hl)
          obtain ⟨s, s1, s2, s3, s4⟩ := start_in (i := p4) (j := l.length - 1) (by lia) (by rw [e4]; exact hy) hl
          exact fin t s (by lia) (by lia) (by lia) t3 s3 ht (by rw [prev_of (by lia) (by lia)]; exact s4)
        · exact fin t 0 (by lia) (by lia) (by lia) t3 hr ht (by rw [prev_0 (by lia)]; exact hl)
    · obtain ⟨p1, p2, p3, p4, h1, h2, h3, h4, e1, e2, e3, e4⟩ := sub_idx.mp hs
      obtain ⟨t, t1, t2, t3, t4⟩ := start_in h1 (by rw [e1]; exact hx) e2
      obtain ⟨s, s1, s2, s3, s4⟩ := start_in h3 (by rw [e3]; exact hy) e4
      exact fin t s (by lia) (by lia) (by lia) t3 s3 (by rw [prev_of (by lia) (by lia)]; exact t4) (by rw [prev_of (by lia) (by lia)]; exact s4)
  · intro h
    refine Classical.byContradiction fun hn => h ?_
    have hn : 2 ≤ ((List.range l.length).filter fun i => l.getD i 0 == c && l.getD ((i + l.length - 1) % l.length) 0 != c).length := by
      unfold Rc65.anew at hn; lia
    have hpw := List.Pairwise.filter (fun i => l.getD i 0 == c && l.getD ((i + l.length - 1) % l.length) 0 != c) (List.pairwise_lt_range (n := l.length))
    have hmem : ∀ i, i ∈ (List.range l.length).filter (fun i => l.getD i 0 == c && l.getD ((i + l.length - 1) % l.length) 0 != c) → i < l.length ∧ l.getD i 0 = c ∧ l.getD ((i + l.length - 1) % l.length) 0 ≠ c := fun i hi => by
      obtain ⟨q1, q2⟩ := List.mem_filter.mp hi
      rw [Bool.and_eq_true] at q2
      exact ⟨List.mem_range.mp q1, eq_of_beq q2.1, bne_iff_ne.mp q2.2⟩
    revert hn hpw hmem
    generalize (List.range l.length).filter (fun i => l.getD i 0 == c && l.getD ((i + l.length - 1) % l.length) 0 != c) = F
    intro hn hpw hmem
    match F, hn with
    | i1 :: i2 :: r, _ =>
      have h12 : i1 < i2 := (List.pairwise_cons.mp hpw).1 i2 (by simp)
      obtain ⟨a1, a2, a3⟩ := hmem i1 (by simp)
      obtain ⟨b1, b2, b3⟩ := hmem i2 (by simp)
      rw [prev_of b1 (by lia)] at b3
      have hne : i1 ≠ i2 - 1 := fun e => b3 (by rw [← e]; exact a2)
      by_cases i0 : 0 < i1
      · rw [prev_of a1 i0] at a3
        exact ⟨_, _, a3, b3, .inr (sub_idx.mpr ⟨i1 - 1, i1, i2 - 1, i2, by lia, by lia, by lia, b1, rfl, a2, rfl, b2⟩)⟩
      · have i0 : i1 = 0 := by lia
        subst i0
        rw [prev_0 (by lia)] at a3
        have hne2 : i2 ≠ l.length - 1 := fun e => a3 (by rw [← e]; exact b2)
        exact ⟨_, _, b3, a3, .inl (sub_idx.mpr ⟨0, i2 - 1, i2, l.length - 1, by lia, by lia, by lia, by lia, a2, rfl, b2, rfl⟩)⟩
theorem mem_hurdles {l : List Nat} {c : Nat} : c ∈ Rc65.hurdles l ↔ c ∈ l ∧ ¬ Alt l c := by
  unfold Rc65.hurdles
  rw [List.mem_filter, List.mem_eraseDups, decide_eq_true_iff, anew_alt]
theorem hurdles_nodup (l : List Nat) : (Rc65.hurdles l).Nodup := List.Pairwise.filter _ (nodup_eraseDups l.length l (Nat.le_refl _))
theorem fort_no {l : List Nat} (h : ∀ c, ¬ Alt l c) : Rc65.fortress l = false := by
  unfold Rc65.fortress
  have hk : ∀ c, Rc65.keeps l c = false := fun c => by
    unfold Rc65.keeps
    rw [List.any_eq_false]
    intro d hd
    have hd' := (mem_hurdles.mp hd).1
    have : d ∈ Rc65.hurdles l := mem_hurdles.mpr ⟨(List.mem_filter.mp hd').1, h d⟩
    simp [this]
  cases e : Rc65.hurdles l with
  | nil => rfl
  | cons a r =>
    rw [List.all_cons, hk a]
    simp
/-! ### by places and bonds -/
def PL (c : Cfg) (L : Nat → Nat) (B : Nat → Bool) : List Nat := ((List.range c.m).filter fun p => B (c.bk p)).map fun p => L (c.bk p)
def AltB (c : Cfg) (L : Nat → Nat) (B : Nat → Bool) (c0 : Nat) : Prop := ∃ p q r s, p < c.m ∧ q < c.m ∧ r < c.m ∧ s < c.m ∧ B (c.bk p) = true ∧ B (c.bk q) = true ∧ B (c.bk r) = true ∧ B (c.bk s) = true ∧
  L (c.bk p) = c0 ∧ L (c.bk q) = c0 ∧ L (c.bk r) ≠ c0 ∧ L (c.bk s) ≠ c0 ∧ Btw p q r ∧ ¬ Btw p q s
theorem alt_PL {c : Cfg} {L : Nat → Nat} {B : Nat → Bool} {c0 : Nat} : Alt (PL c L B) c0 ↔ AltB c L B c0 := by
  constructor
  · rintro ⟨x, y, hx, hy, hs | hs⟩
    · obtain ⟨p1, p2, p3, p4, h1, h2, h3, h4, b1, b2, b3, b4, e1, e2, e3, e4⟩ := sub_places.mp hs
      exact ⟨p1, p3, p2, p4, by lia, by lia, by lia, h4, b1, b3, b2, b4, e1, e3, by rw [e2]; exact hx, by rw [e4]; exact hy, by unfold Btw; lia, by unfold Btw; lia⟩
    · obtain ⟨p1, p2, p3, p4, h1, h2, h3, h4, b1, b2, b3, b4, e1, e2, e3, e4⟩ := sub_places.mp hs
      exact ⟨p2, p4, p3, p1, by lia, by lia, by lia, by lia, b2, b4, b3, b1, e2, e4, by rw [e3]; exact hy, by rw [e1]; exact hx, by unfold Btw; lia, by unfold Btw; lia⟩
  · rintro ⟨p, q, r, s, hp, hq, hr, hs, bp, bq, br, bs, lp, lq, lr, ls, h1, h2⟩
    have n1 : s ≠ p := fun e => ls (by rw [e]; exact lp)
    have n2 : s ≠ q := fun e => ls (by rw [e]; exact lq)
    have main : ∀ p q, p < c.m → q < c.m → B (c.bk p) = true → B (c.bk q) = true → L (c.bk p) = c0 → L (c.bk q) = c0 → p < r → r < q → (s < p ∨ q < s) → Alt (PL c L B) c0 := fun p q hp hq bp bq lp lq q1 q2 q3 => by
      rcases q3 with q3 | q3
      · exact ⟨_, _, ls, lr, .inr (sub_places.mpr ⟨s, p, r, q, q3, q1, q2, hq, bs, bp, br, bq, rfl, lp, rfl, lq⟩)⟩
      · exact ⟨_, _, lr, ls, .inl (sub_places.mpr ⟨p, r, q, s, q1, q2, q3, hs, bp, br, bq, bs, lp, rfl, lq, rfl⟩)⟩
    unfold Btw at h1 h2
    by_cases c1 : p < q
    · exact main p q hp hq bp bq lp lq (by lia) (by lia) (by lia)
    · exact main q p hq hp bq bp lq lp (by lia) (by lia) (by lia)
theorem mem_PL {c : Cfg} {L : Nat → Nat} {B : Nat → Bool} {c0 : Nat} : c0 ∈ PL c L B ↔ ∃ k, k < c.N ∧ B k = true ∧ L k = c0 := by
  unfold PL
  rw [List.mem_map]
  constructor
  · rintro ⟨p, hp, rfl⟩
    obtain ⟨h1, h2⟩ := List.mem_filter.mp hp
    exact ⟨c.bk p, Cfg.bk_lt (List.mem_range.mp h1), h2, rfl⟩
  · rintro ⟨k, hk, hB, rfl⟩
    exact ⟨c.a k, List.mem_filter.mpr ⟨List.mem_range.mpr (Cfg.a_lt hk), by rw [Cfg.bk_a hk]; exact hB⟩, by rw [Cfg.bk_a hk]⟩
theorem PL_congr {c : Cfg} {L L' : Nat → Nat} {B B' : Nat → Bool} (hB : ∀ k, k < c.N → B k = B' k) (hL : ∀ k, k < c.N → B k = true → L k = L' k) : PL c L B = PL c L' B' := by
  unfold PL
  have e : (List.range c.m).filter (fun p => B (c.bk p)) = (List.range c.m).filter (fun p => B' (c.bk p)) := List.filter_congr fun p hp => hB _ (Cfg.bk_lt (List.mem_range.mp hp))
  rw [← e]
  refine List.map_congr_left fun p hp => ?_
  obtain ⟨h1, h2⟩ := List.mem_filter.mp hp
  exact hL _ (Cfg.bk_lt (List.mem_range.mp h1)) h2
/-- untouched crowds lie on one side, and stay as they lie -/
theorem alt_turn {c d : Cfg} {x y : Nat} (t : Turned c d x y) {L : Nat → Nat} {B : Nat → Bool} (hB : ∀ k, k < c.N → B k = true → ∀ e, c.Cr k e → ¬ Turned.T c x y e) (hL : ∀ k l, k < c.N → l < c.N → B k = true → B l = true → L k = L l → c.Cr k l) {c0 : Nat} :
    Alt (PL d L B) c0 ↔ Alt (PL c L B) c0 := by
  rw [alt_PL, alt_PL]
  have side : ∀ p q, p < c.m → q < c.m → B (c.bk p) = true → B (c.bk q) = true → L (c.bk p) = L (c.bk q) → (In x y p ↔ In x y q) := by
    have one : ∀ p q, p < c.m → q < c.m → B (c.bk p) = true → B (c.bk q) = true → L (c.bk p) = L (c.bk q) → In x y p → In x y q := fun p q hp hq bp bq e h => Classical.byContradiction fun h2 => by
      obtain ⟨f, f1, f2, f3⟩ := Cfg.sepP (c := c) (P := In x y) (fun _ _ _ => in_convex) hp hq (hL _ _ (Cfg.bk_lt hp) (Cfg.bk_lt hq) bp bq e) h h2
      exact hB _ (Cfg.bk_lt hp) bp f f2 f3
    exact fun p q hp hq bp bq e => ⟨one p q hp hq bp bq e, one q p hq hp bq bp e.symm⟩
  have hm := t.m_
  constructor
  · rintro ⟨p, q, r, s, hp, hq, hr, hs, bp, bq, br, bs, lp, lq, lr, ls, h1, h2⟩
    rw [hm] at hp hq hr hs
    rw [t.bk_ hp] at bp lp; rw [t.bk_ hq] at bq lq; rw [t.bk_ hr] at br lr; rw [t.bk_ hs] at bs ls
    have sd := side _ _ (t.sw_lt hp) (t.sw_lt hq) bp bq (by rw [lp, lq])
    have e1 := btw_sw (x := x) (y := y) (p := sw x y p) (q := sw x y q) (r := sw x y r)
    have e2 := btw_sw (x := x) (y := y) (p := sw x y p) (q := sw x y q) (r := sw x y s)
    have hpq : sw x y p ≠ sw x y q := fun e => by
      have := congrArg (sw x y) e
      rw [sw_sw, sw_sw] at this
      subst this
      unfold Btw at h1
      lia
    have nrp : sw x y r ≠ sw x y p := fun e => lr (by rw [e]; exact lp)
    have nrq : sw x y r ≠ sw x y q := fun e => lr (by rw [e]; exact lq)
    have nsp : sw x y s ≠ sw x y p := fun e => ls (by rw [e]; exact lp)
    have nsq : sw x y s ≠ sw x y q := fun e => ls (by rw [e]; exact lq)
    have e1 := e1 hpq nrp nrq
    have e2 := e2 hpq nsp nsq
    rw [sw_sw, sw_sw, sw_sw] at e1 e2
    refine ⟨sw x y p, sw x y q, sw x y r, sw x y s, t.sw_lt hp, t.sw_lt hq, t.sw_lt hr, t.sw_lt hs, bp, bq, br, bs, lp, lq, lr, ls, ?_, ?_⟩ <;> simp_all
  · rintro ⟨p, q, r, s, hp, hq, hr, hs, bp, bq, br, bs, lp, lq, lr, ls, h1, h2⟩
    have sd := side _ _ hp hq bp bq (by rw [lp, lq])
    have hpq : p ≠ q := fun e => by
      subst e
      unfold Btw at h1
      lia
    have nrp : r ≠ p := fun e => lr (by rw [e]; exact lp)
    have nrq : r ≠ q := fun e => lr (by rw [e]; exact lq)
    have nsp : s ≠ p := fun e => ls (by rw [e]; exact lp)
    have nsq : s ≠ q := fun e => ls (by rw [e]; exact lq)
    have e1 := btw_sw (x := x) (y := y) hpq nrp nrq
    have e2 := btw_sw (x := x) (y := y) hpq nsp nsq
    have bk : ∀ z, z < c.m → d.bk (sw x y z) = c.bk z := fun z hz => by rw [t.bk_ (t.sw_lt hz), sw_sw]
    refine ⟨sw x y p, sw x y q, sw x y r, sw x y s, by rw [hm]; exact t.sw_lt hp, by rw [hm]; exact t.sw_lt hq, by rw [hm]; exact t.sw_lt hr, by rw [hm]; exact t.sw_lt hs, ?_⟩
    rw [bk p hp, bk q hq, bk r hr, bk s hs]
    refine ⟨bp, bq, br, bs, lp, lq, lr, ls, ?_, ?_⟩ <;> simp_all
end GX

set_option maxHeartbeats 1000000
set_option linter.unusedVariables false
namespace GX
def LL (g : List Int) (k : Nat) : Nat := (Rc65.crowds (Rc65.bonds (Rc65.ends g) g.length)).getD k 0
section
variable {g : List Int} (hg : Rc65.right g = true)
theorem bond_eq (k : Nat) : Rc65.bond (Rc65.ends g) k = (min ((cfg g hg).a k) ((cfg g hg).b k), max ((cfg g hg).a k) ((cfg g hg).b k)) := rfl
theorem cross_core {a b d e : Nat} (h : a < b) (h' : d < e) (n : a ≠ d ∧ a ≠ e ∧ b ≠ d ∧ b ≠ e) : ((a < d ∧ d < b ∧ b < e) ∨ (d < a ∧ a < e ∧ e < b)) ↔ ¬ ((a < d ∧ d < b) ↔ (a < e ∧ e < b)) := by lia
theorem cross_lo {lo hi lo' hi' a b a' b' : Nat} (h : lo < hi) (h' : lo' < hi') (e : (lo = a ∧ hi = b) ∨ (lo = b ∧ hi = a)) (e' : (lo' = a' ∧ hi' = b') ∨ (lo' = b' ∧ hi' = a')) (f : a ≠ b ∧ a' ≠ b' ∧ a ≠ a' ∧ a ≠ b' ∧ b ≠ a' ∧ b ≠ b') :
    ((lo < lo' ∧ lo' < hi ∧ hi < hi') ∨ (lo' < lo ∧ lo < hi' ∧ hi' < hi)) ↔ ¬ (Btw a b a' ↔ Btw a b b') := by
  rw [bt_lo h e, bt_lo h e]
  obtain ⟨_, _, f1, f2, f3, f4⟩ := f
  rcases e' with ⟨rfl, rfl⟩ | ⟨rfl, rfl⟩
  · refine cross_core h h' ?_
    rcases e with ⟨rfl, rfl⟩ | ⟨rfl, rfl⟩
    · exact ⟨f1, f2, f3, f4⟩
    · exact ⟨f3, f4, f1, f2⟩
  · refine (cross_core h h' ?_).trans (not_congr ⟨Iff.symm, Iff.symm⟩)
    rcases e with ⟨rfl, rfl⟩ | ⟨rfl, rfl⟩
    · exact ⟨f2, f1, f4, f3⟩
    · exact ⟨f4, f3, f2, f1⟩
theorem cross_iff {k l : Nat} (hk : k < (cfg g hg).N) (hl : l < (cfg g hg).N) : Rc65.cross (Rc65.bond (Rc65.ends g) k) (Rc65.bond (Rc65.ends g) l) = true ↔ (cfg g hg).X k l := by
  rw [bond_eq hg, bond_eq hg]
  unfold Rc65.cross Cfg.X
  simp only [Bool.or_eq_true, Bool.and_eq_true, decide_eq_true_iff]
  by_cases e : k = l
  · subst e
    simp
  · have f := Cfg.four hk hl e
    simp only [ne_eq, e, not_false_eq_true, true_and]
    have mm : ∀ x y : Nat, x ≠ y → min x y < max x y ∧ ((min x y = x ∧ max x y = y) ∨ (min x y = y ∧ max x y = x)) := fun x y h => by lia
    obtain ⟨m1, m2⟩ := mm _ _ f.1
    obtain ⟨m3, m4⟩ := mm _ _ f.2.1
    exact cross_lo m1 m3 m2 m4 f
theorem bonds_get {k : Nat} (h : k < g.length + 1) : (Rc65.bonds (Rc65.ends g) g.length)[k]? = some (Rc65.bond (Rc65.ends g) k) := by
  unfold Rc65.bonds
  rw [List.getElem?_map, List.getElem?_range h]
  rfl
theorem bonds_len : (Rc65.bonds (Rc65.ends g) g.length).length = g.length + 1 := by simp [Rc65.bonds]
theorem crowd_labels : (Rc65.crowds (Rc65.bonds (Rc65.ends g) g.length)).length = (cfg g hg).N ∧ ∀ k, k < (cfg g hg).N → (cfg g hg).Cr k (LL g k) ∧ ∀ l, (cfg g hg).Cr k l → LL g k ≤ l := by
  have hN : (cfg g hg).N = g.length + 1 := rfl
  have bl := bonds_len (g := g)
  let near := (Rc65.bonds (Rc65.ends g) g.length).map fun (x : Nat × Nat) => ((Rc65.bonds (Rc65.ends g) g.length).zipIdx.filter fun y => Rc65.cross x y.1).map fun y => y.2
  have nl : near.length = (cfg g hg).N := by rw [List.length_map, bl, hN]
  have had : ∀ a b, adj near a b ↔ (cfg g hg).Xr a b := fun a b => by
    unfold adj Cfg.Xr
    rw [nl]
    refine and_congr_right fun h => ?_
    have e : near.getD a [] = ((Rc65.bonds (Rc65.ends g) g.length).zipIdx.filter fun y => Rc65.cross (Rc65.bond (Rc65.ends g) a) y.1).map fun y => y.2 := by
      rw [List.getD_eq_getElem?_getD, List.getElem?_map, bonds_get (by rw [← hN]; exact h)]
      rfl
    rw [e, List.mem_map]
    constructor
    · rintro ⟨y, hy, rfl⟩
      obtain ⟨y1, y2⟩ := List.mem_filter.mp hy
      have y1 := List.mem_zipIdx_iff_getElem?.mp y1
      have hlt : y.2 < g.length + 1 := by rw [← bl]; exact (List.getElem?_eq_some_iff.mp y1).1
      rw [bonds_get hlt] at y1
      rw [← Option.some.inj y1] at y2
      exact ⟨hlt, (cross_iff hg h hlt).mp y2⟩
    · rintro ⟨h1, h2⟩
      exact ⟨(Rc65.bond (Rc65.ends g) b, b), List.mem_filter.mpr ⟨List.mem_zipIdx_iff_getElem?.mpr (bonds_get h1), (cross_iff hg h h1).mpr h2⟩, rfl⟩
  have := falls_spec (near := near) fun p hp q hq => by
    have := (had p q).mp ⟨hp, hq⟩
    rw [nl]
    exact this.2.1
  rw [nl] at this
  have e : Rc65.crowds (Rc65.bonds (Rc65.ends g) g.length) = Rc65.falls near (cfg g hg).N (List.range (cfg g hg).N) := by
    unfold Rc65.crowds
    rw [bl]
    rfl
  unfold LL
  rw [e]
  exact ⟨this.1, fun k hk => ⟨(Rc.congr had).mp (this.2 k hk).1, fun l hl => (this.2 k hk).2 l ((Rc.congr had).mpr hl)⟩⟩
theorem LL_iff {k l : Nat} (hk : k < (cfg g hg).N) (hl : l < (cfg g hg).N) : LL g k = LL g l ↔ (cfg g hg).Cr k l := by
  obtain ⟨a1, a2⟩ := (crowd_labels hg).2 k hk
  obtain ⟨b1, b2⟩ := (crowd_labels hg).2 l hl
  constructor
  · intro e
    rw [e] at a1
    exact a1.trans b1.sy
  · intro h
    have := a2 _ (h.trans b1)
    have := b2 _ (h.sy.trans a1)
    lia
theorem easy_iff (k : Nat) : Rc65.easy (Rc65.bond (Rc65.ends g) k) = true ↔ (cfg g hg).easy k := by
  rw [bond_eq hg]
  unfold Rc65.easy Cfg.easy
  rw [beq_iff_eq]
  show (min ((cfg g hg).a k) ((cfg g hg).b k) + max ((cfg g hg).a k) ((cfg g hg).b k)) % 2 = 0 ↔ _
  lia
theorem met_iff {k : Nat} (hk : k < (cfg g hg).N) : Rc65.met (Rc65.bond (Rc65.ends g) k) = true ↔ (cfg g hg).met k := by
  rw [bond_eq hg]
  unfold Rc65.met Cfg.met
  rw [beq_iff_eq]
  show max ((cfg g hg).a k) ((cfg g hg).b k) = par (min ((cfg g hg).a k) ((cfg g hg).b k)) ↔ _
  have h := Cfg.ab_ne hk
  have d1 := par_def ((cfg g hg).a k)
  have d2 := par_def ((cfg g hg).b k)
  rcases Nat.lt_or_gt_of_ne h with q | q
  · rw [Nat.max_eq_right (by lia), Nat.min_eq_left (by lia)]
  · rw [Nat.max_eq_left (by lia), Nat.min_eq_right (by lia)]; lia
theorem hard_label {k : Nat} (hk : k < (cfg g hg).N) : (Rc65.hardOnes (Rc65.bonds (Rc65.ends g) g.length) (Rc65.crowds (Rc65.bonds (Rc65.ends g) g.length))).contains (LL g k) = true ↔ (cfg g hg).Hard k := by
  obtain ⟨cl, _⟩ := crowd_labels hg
  have hN : (cfg g hg).N = g.length + 1 := rfl
  have getc : ∀ l, l < (cfg g hg).N → (Rc65.crowds (Rc65.bonds (Rc65.ends g) g.length))[l]? = some (LL g l) := fun l hl => by
    unfold LL
    rw [List.getD_eq_getElem?_getD, List.getElem?_eq_getElem (by rw [cl]; exact hl)]
    rfl
  rw [← Cfg.hard_iff hk, List.contains_iff_mem]
  unfold Rc65.hardOnes
  rw [List.mem_filter, List.mem_eraseDups, List.all_eq_true]
  have zipm : ∀ x, x ∈ (Rc65.bonds (Rc65.ends g) g.length).zip (Rc65.crowds (Rc65.bonds (Rc65.ends g) g.length)) ↔ ∃ l, l < (cfg g hg).N ∧ x = (Rc65.bond (Rc65.ends g) l, LL g l) := fun x => by
    rw [List.mem_iff_getElem?]
    constructor
    · rintro ⟨l, hl⟩
      rw [List.getElem?_zip_eq_some] at hl
      have hlt : l < (cfg g hg).N := by rw [← cl]; exact (List.getElem?_eq_some_iff.mp hl.2).1
      rw [bonds_get hlt, getc l hlt] at hl
      exact ⟨l, hlt, Prod.ext (Option.some.inj hl.1).symm (Option.some.inj hl.2).symm⟩
    · rintro ⟨l, hlt, rfl⟩
      exact ⟨l, List.getElem?_zip_eq_some.mpr ⟨bonds_get hlt, getc l hlt⟩⟩
  constructor
  · rintro ⟨_, h⟩ e he
    have hel := he.lt hk
    have := h _ ((zipm _).mpr ⟨e, hel, rfl⟩)
    rw [Bool.or_eq_true, Bool.and_eq_true] at this
    rcases this with h1 | ⟨h1, h2⟩
    · exact absurd ((LL_iff hg hk hel).mpr he).symm (bne_iff_ne.mp h1)
    · rw [← easy_iff hg, ← met_iff hg hel]
      simp at h1 h2
      simp [h1, h2]
  · intro h
    refine ⟨List.mem_of_getElem? (getc k hk), fun x hx => ?_⟩
    obtain ⟨l, hl, rfl⟩ := (zipm x).mp hx
    rw [Bool.or_eq_true]
    by_cases e : LL g l = LL g k
    · right
      have := h l ((LL_iff hg hk hl).mp e.symm)
      rw [← easy_iff hg, ← met_iff hg hl] at this
      simp at this
      simp [this]
    · left
      exact bne_iff_ne.mpr e
open Classical in
theorem hards_eq : Rc65.hards g = PL (cfg g hg) (LL g) fun k => decide ((cfg g hg).Hard k) := by
  have hl : (Rc65.ends g).length = (cfg g hg).m := GM.ends_len g
  have e : (Rc65.ends g) = (List.range (cfg g hg).m).map (cfg g hg).E := by
    conv => lhs; rw [← map_range_get (Rc65.ends g)]
    rw [hl]
    rfl
  unfold Rc65.hards PL
  show List.filter (fun (c : Nat) => (Rc65.hardOnes (Rc65.bonds (Rc65.ends g) g.length) (Rc65.crowds (Rc65.bonds (Rc65.ends g) g.length))).contains c) ((Rc65.ends g).map fun (v : Nat) => LL g (v / 2)) = _
  have e2 : ((Rc65.ends g).map fun (v : Nat) => LL g (v / 2)) = (List.range (cfg g hg).m).map fun p => LL g ((cfg g hg).bk p) := by
    conv => lhs; rw [e]
    rw [List.map_map]
    rfl
  rw [e2, List.filter_map]
  congr 1
  refine List.filter_congr fun p hp => ?_
  have hb := Cfg.bk_lt (List.mem_range.mp hp)
  have := hard_label hg hb
  show (Rc65.hardOnes (Rc65.bonds (Rc65.ends g) g.length) (Rc65.crowds (Rc65.bonds (Rc65.ends g) g.length))).contains (LL g ((cfg g hg).bk p)) = _
  rw [Bool.eq_iff_iff, this, decide_eq_true_iff]
end
/-! ### few hard crowds -/
theorem few {c : Cfg} : ∀ (S U : List Nat), S.Pairwise (fun a b => ¬ c.Cr a b) → (∀ s ∈ S, c.Hard s) → U.Nodup → (∀ s ∈ S, ∀ e, c.Cr s e → e ∈ U) → 3 * S.length ≤ U.length
  | [], U, _, _, _, _ => by simp
  | s :: S, U, hp, hh, hU, hc => by
    obtain ⟨h1, h2⟩ := List.pairwise_cons.mp hp
    have hs := hh s (List.mem_cons_self ..)
    obtain ⟨l, hl⟩ := hs.2.2
    obtain ⟨d, d1, d2, d3, d4⟩ := Cfg.three hs hl
    have hsl : c.Cr s l := .one hl
    have m1 : s ∈ U := hc s (List.mem_cons_self ..) s (.refl _)
    have m2 : l ∈ U.erase s := (List.Nodup.mem_erase_iff hU).mpr ⟨fun e => hl.2.2.1 e.symm, hc s (List.mem_cons_self ..) l hsl⟩
    have hU1 := hU.erase s
    have m3 : d ∈ (U.erase s).erase l := (List.Nodup.mem_erase_iff hU1).mpr ⟨d4, (List.Nodup.mem_erase_iff hU).mpr ⟨d3, hc s (List.mem_cons_self ..) d d2⟩⟩
    have hU2 := hU1.erase l
    have ih := few S (((U.erase s).erase l).erase d) h2 (fun r hr => hh r (List.mem_cons_of_mem _ hr)) (hU2.erase d) fun r hr e he => by
      have hne : ∀ z, c.Cr s z → e ≠ z := fun z hz q => h1 r hr (hz.trans (by rw [← q]; exact he.sy))
      exact (List.Nodup.mem_erase_iff hU2).mpr ⟨hne d d2, (List.Nodup.mem_erase_iff hU1).mpr ⟨hne l hsl, (List.Nodup.mem_erase_iff hU).mpr ⟨hne s (.refl _), hc r (List.mem_cons_of_mem _ hr) e he⟩⟩⟩
    rw [List.length_erase_of_mem m3, List.length_erase_of_mem m2, List.length_erase_of_mem m1] at ih
    have p1 := List.length_pos_of_mem m1
    have p2 := List.length_pos_of_mem m2
    have p3 := List.length_pos_of_mem m3
    rw [List.length_erase_of_mem m1] at p2
    rw [List.length_erase_of_mem m2, List.length_erase_of_mem m1] at p3
    rw [List.length_cons]
    lia
/-- another crowd's places lie on one side of two places of a crowd -/
theorem side {c : Cfg} {p q d1 d2 : Nat} (hp : p < c.m) (hq : q < c.m) (h1 : d1 < c.m) (h2 : d2 < c.m) (hpq : c.Cr (c.bk p) (c.bk q)) (hd : c.Cr (c.bk d1) (c.bk d2)) (hno : ¬ c.Cr (c.bk p) (c.bk d1)) : Btw p q d1 ↔ Btw p q d2 := by
  have n1 : d1 ≠ p := fun e => hno (by rw [e]; exact .refl _)
  have n2 : d1 ≠ q := fun e => hno (by rw [e]; exact hpq)
  have n3 : d2 ≠ p := fun e => hno (by rw [← e]; exact hd.sy)
  have n4 : d2 ≠ q := fun e => hno (hpq.trans (by rw [← e]; exact hd.sy))
  have key : ∀ p q d1 d2, p < q → q < c.m → d1 < c.m → d2 < c.m → c.Cr (c.bk p) (c.bk q) → c.Cr (c.bk d1) (c.bk d2) → ¬ c.Cr (c.bk p) (c.bk d1) → d2 ≠ p → d2 ≠ q → p < d1 → d1 < q → p < d2 ∧ d2 < q := fun p q d1 d2 hpq' hq h1 h2 hpq hd hno m1 m2 k1 k2 => by
    by_cases r1 : d2 < p
    · exact absurd (Cfg.abab (c := c) (p1 := d2) (p2 := p) (p3 := d1) (p4 := q) r1 k1 k2 hq hd.sy hpq) (fun z => hno (z.sy.trans hd.sy))
    · by_cases r2 : q < d2
      · exact absurd (Cfg.abab (c := c) (p1 := p) (p2 := d1) (p3 := q) (p4 := d2) k1 k2 r2 h2 hpq hd) hno
      · lia
  have hno2 : ¬ c.Cr (c.bk p) (c.bk d2) := fun z => hno (z.trans hd.sy)
  unfold Btw
  by_cases o : p < q
  · constructor
    · intro z
      have := key p q d1 d2 o hq h1 h2 hpq hd hno n3 n4 (by lia) (by lia)
      lia
    · intro z
      have := key p q d2 d1 o hq h2 h1 hpq hd.sy hno2 n1 n2 (by lia) (by lia)
      lia
  · by_cases o2 : q < p
    · constructor
      · intro z
        have := key q p d1 d2 o2 hp h1 h2 hpq.sy hd (fun z => hno (hpq.trans z)) n4 n3 (by lia) (by lia)
        lia
      · intro z
        have := key q p d2 d1 o2 hp h2 h1 hpq.sy hd.sy (fun z => hno2 (hpq.trans z)) n2 n1 (by lia) (by lia)
        lia
    · lia
end GX

set_option maxHeartbeats 1000000
set_option linter.unusedVariables false
namespace GX
open Classical
theorem bt1 {p q p' q' : Nat} (sp : Btw p q p') (sq : Btw p q q') : ¬ Btw p' q' p := by
  unfold Btw at *
  lia
theorem bt2 {p q r p' q' : Nat} (b : Btw p q r) (sp : ¬ Btw p q p') (sq : ¬ Btw p q q') (d : p' ≠ p ∧ q' ≠ p ∧ p' ≠ q ∧ q' ≠ q ∧ r ≠ p' ∧ r ≠ q') (k : Btw p' q' p ↔ Btw p' q' q) : Btw p' q' p ↔ Btw p' q' r := by
  by_cases h : Btw p' q' p
  · exact ⟨fun _ => btw_convex h (k.mp h) b, fun _ => h⟩
  · refine ⟨fun z => absurd z h, fun z => absurd z fun z => ?_⟩
    have h2 : ¬ Btw p' q' q := fun w => h (k.mpr w)
    clear k
    unfold Btw at *
    lia
section
variable {g : List Int} (hg : Rc65.right g = true)
/-- Alt among the hard places, taken apart -/
theorem alt_hards {c0 : Nat} : Alt (Rc65.hards g) c0 ↔ AltB (cfg g hg) (LL g) (fun k => decide ((cfg g hg).Hard k)) c0 := by rw [hards_eq hg, alt_PL]
theorem mem_hards {c0 : Nat} : c0 ∈ Rc65.hards g ↔ ∃ k, (cfg g hg).Hard k ∧ LL g k = c0 := by
  rw [hards_eq hg, mem_PL]
  constructor
  · rintro ⟨k, h1, h2, h3⟩
    exact ⟨k, of_decide_eq_true h2, h3⟩
  · rintro ⟨k, h2, h3⟩
    exact ⟨k, h2.1, decide_eq_true h2, h3⟩
/-- c0 x c0 y: three hard crowds, no others; hurdles are two -/
structure Three (c : Cfg) (L : Nat → Nat) (p q r s : Nat) : Prop where
  lp : p < c.m
  lq : q < c.m
  lr : r < c.m
  ls : s < c.m
  hp : c.Hard (c.bk p)
  hr : c.Hard (c.bk r)
  hs : c.Hard (c.bk s)
  pq : c.Cr (c.bk p) (c.bk q)
  pr : ¬ c.Cr (c.bk p) (c.bk r)
  ps : ¬ c.Cr (c.bk p) (c.bk s)
  rs : ¬ c.Cr (c.bk r) (c.bk s)
  b1 : Btw p q r
  b2 : ¬ Btw p q s
  all : ∀ k, c.Hard k → c.Cr (c.bk p) k ∨ c.Cr (c.bk r) k ∨ c.Cr (c.bk s) k
theorem three_of (hn : g.length ≤ 10) {c0 : Nat} (h : Alt (Rc65.hards g) c0) : ∃ p q r s, Three (cfg g hg) (LL g) p q r s ∧ LL g ((cfg g hg).bk p) = c0 := by
  obtain ⟨p, q, r, s, lp, lq, lr, ls, bp, bq, br, bs, ep, eq, er, es, h1, h2⟩ := (alt_hards hg).mp h
  have bp := of_decide_eq_true bp
  have bq := of_decide_eq_true bq
  have br := of_decide_eq_true br
  have bs := of_decide_eq_true bs
  have pq : (cfg g hg).Cr ((cfg g hg).bk p) ((cfg g hg).bk q) := (LL_iff hg bp.1 bq.1).mp (by rw [ep, eq])
  have pr : ¬ (cfg g hg).Cr ((cfg g hg).bk p) ((cfg g hg).bk r) := fun z => er (by rw [← (LL_iff hg bp.1 br.1).mpr z]; exact ep)
  have ps : ¬ (cfg g hg).Cr ((cfg g hg).bk p) ((cfg g hg).bk s) := fun z => es (by rw [← (LL_iff hg bp.1 bs.1).mpr z]; exact ep)
  have rs : ¬ (cfg g hg).Cr ((cfg g hg).bk r) ((cfg g hg).bk s) := fun z => by
    have := side lp lq lr ls pq z pr
    exact h2 (this.mp h1)
  refine ⟨p, q, r, s, ⟨lp, lq, lr, ls, bp, br, bs, pq, pr, ps, rs, h1, h2, fun k hk => Classical.byContradiction fun hno => ?_⟩, ep⟩
  have n1 : ¬ (cfg g hg).Cr ((cfg g hg).bk p) k := fun z => hno (.inl z)
  have n2 : ¬ (cfg g hg).Cr ((cfg g hg).bk r) k := fun z => hno (.inr (.inl z))
  have n3 : ¬ (cfg g hg).Cr ((cfg g hg).bk s) k := fun z => hno (.inr (.inr z))
  have := few (c := cfg g hg) [(cfg g hg).bk p, (cfg g hg).bk r, (cfg g hg).bk s, k] (List.range (cfg g hg).N) (by
    simp only [List.pairwise_cons, List.mem_cons, List.not_mem_nil, or_false, forall_eq_or_imp, forall_eq, List.Pairwise.nil, and_true, false_implies, implies_true]
    exact ⟨⟨pr, ps, n1⟩, ⟨rs, n2⟩, n3⟩) (by
    simp only [List.mem_cons, List.not_mem_nil, or_false, forall_eq_or_imp, forall_eq]
    exact ⟨bp, br, bs, hk⟩) List.nodup_range fun t ht e he => by
      have : (cfg g hg).Hard t := by
        simp only [List.mem_cons, List.not_mem_nil, or_false] at ht
        rcases ht with rfl | rfl | rfl | rfl
        · exact bp
        · exact br
        · exact bs
        · exact hk
      exact List.mem_range.mpr (he.lt this.1)
  rw [List.length_range] at this
  have hN : (cfg g hg).N = g.length + 1 := rfl
  simp at this
  lia
theorem hurdles_two {p q r s : Nat} (h : Three (cfg g hg) (LL g) p q r s) (ha : Alt (Rc65.hards g) (LL g ((cfg g hg).bk p))) : (Rc65.hurdles (Rc65.hards g)).length = 2 := by
  have hne : LL g ((cfg g hg).bk r) ≠ LL g ((cfg g hg).bk s) := fun e => h.rs ((LL_iff hg h.hr.1 h.hs.1).mp e)
  -- the side of each hard place
  have cls : ∀ z, z < (cfg g hg).m → (cfg g hg).Hard ((cfg g hg).bk z) → (cfg g hg).Cr ((cfg g hg).bk p) ((cfg g hg).bk z) ∨ (cfg g hg).Cr ((cfg g hg).bk r) ((cfg g hg).bk z) ∨ (cfg g hg).Cr ((cfg g hg).bk s) ((cfg g hg).bk z) := fun z hz hh => h.all _ hh
  have nr : ¬ Alt (Rc65.hards g) (LL g ((cfg g hg).bk r)) := fun q1 => by
    obtain ⟨p', q', r', s', lp, lq, lr, ls, bp, bq, br, bs, ep, eq, er, es, h1, h2⟩ := (alt_hards hg).mp q1
    have bp := of_decide_eq_true bp
    have bq := of_decide_eq_true bq
    have br := of_decide_eq_true br
    have bs := of_decide_eq_true bs
    have c1 : (cfg g hg).Cr ((cfg g hg).bk r) ((cfg g hg).bk p') := ((LL_iff hg bp.1 h.hr.1).mp ep).sy
    have c2 : (cfg g hg).Cr ((cfg g hg).bk r) ((cfg g hg).bk q') := ((LL_iff hg bq.1 h.hr.1).mp eq).sy
    have n1 : ¬ (cfg g hg).Cr ((cfg g hg).bk r) ((cfg g hg).bk r') := fun z => er ((LL_iff hg h.hr.1 br.1).mpr z).symm
    have n2 : ¬ (cfg g hg).Cr ((cfg g hg).bk r) ((cfg g hg).bk s') := fun z => es ((LL_iff hg h.hr.1 bs.1).mpr z).symm
    have c12 := c1.sy.trans c2
    -- p' and q' lie where r lies
    have sp := (side h.lp h.lq h.lr lp h.pq c1 h.pr).mp h.b1
    have sq := (side h.lp h.lq h.lr lq h.pq c2 h.pr).mp h.b1
    have hpn : ¬ (cfg g hg).Cr ((cfg g hg).bk p') ((cfg g hg).bk p) := fun z => h.pr (Cfg.Cr.sy (c1.trans z))
    have hsn : ¬ (cfg g hg).Cr ((cfg g hg).bk p') ((cfg g hg).bk s) := fun z => h.rs (c1.trans z)
    have np : ¬ Btw p' q' p := bt1 sp sq
    have ns : ¬ Btw p' q' s := fun z => h.b2 (btw_convex sp sq z)
    have any : ∀ z, z < (cfg g hg).m → (cfg g hg).Hard ((cfg g hg).bk z) → ¬ (cfg g hg).Cr ((cfg g hg).bk r) ((cfg g hg).bk z) → ¬ Btw p' q' z := fun z lz hz nz => by
      rcases cls z lz hz with k | k | k
      · exact fun b => np ((side lp lq h.lp lz c12 k hpn).mpr b)
      · exact absurd k nz
      · exact fun b => ns ((side lp lq h.ls lz c12 k hsn).mpr b)
    exact any r' lr br n1 h1
  have nsA : ¬ Alt (Rc65.hards g) (LL g ((cfg g hg).bk s)) := fun q1 => by
    obtain ⟨p', q', r', s', lp, lq, lr, ls, bp, bq, br, bs, ep, eq, er, es, h1, h2⟩ := (alt_hards hg).mp q1
    have bp := of_decide_eq_true bp
    have bq := of_decide_eq_true bq
    have br := of_decide_eq_true br
    have bs := of_decide_eq_true bs
    have c1 : (cfg g hg).Cr ((cfg g hg).bk s) ((cfg g hg).bk p') := ((LL_iff hg bp.1 h.hs.1).mp ep).sy
    have c2 : (cfg g hg).Cr ((cfg g hg).bk s) ((cfg g hg).bk q') := ((LL_iff hg bq.1 h.hs.1).mp eq).sy
    have n1 : ¬ (cfg g hg).Cr ((cfg g hg).bk s) ((cfg g hg).bk r') := fun z => er ((LL_iff hg h.hs.1 br.1).mpr z).symm
    have n2 : ¬ (cfg g hg).Cr ((cfg g hg).bk s) ((cfg g hg).bk s') := fun z => es ((LL_iff hg h.hs.1 bs.1).mpr z).symm
    have c12 := c1.sy.trans c2
    have sp : ¬ Btw p q p' := fun z => h.b2 ((side h.lp h.lq h.ls lp h.pq c1 h.ps).mpr z)
    have sq : ¬ Btw p q q' := fun z => h.b2 ((side h.lp h.lq h.ls lq h.pq c2 h.ps).mpr z)
    have hpn : ¬ (cfg g hg).Cr ((cfg g hg).bk p') ((cfg g hg).bk p) := fun z => h.ps (Cfg.Cr.sy (c1.trans z))
    have hrn : ¬ (cfg g hg).Cr ((cfg g hg).bk p') ((cfg g hg).bk r) := fun z => h.rs (Cfg.Cr.sy (c1.trans z))
    have d1 : p' ≠ p := fun e => hpn (by rw [e]; exact .refl _)
    have d2 : q' ≠ p := fun e => hpn (by rw [← e]; exact c12)
    have d3 : p' ≠ q := fun e => hpn (by rw [e]; exact h.pq.sy)
    have d4 : q' ≠ q := fun e => hpn (c12.trans (by rw [e]; exact h.pq.sy))
    have pqs := side lp lq h.lp h.lq c12 h.pq hpn
    have e1 : r ≠ p' := fun e => hrn (by rw [← e]; exact .refl _)
    have e2 : r ≠ q' := fun e => hrn (by rw [e]; exact c12)
    have pr : Btw p' q' p ↔ Btw p' q' r := bt2 h.b1 sp sq ⟨d1, d2, d3, d4, e1, e2⟩ pqs
    have any : ∀ z, z < (cfg g hg).m → (cfg g hg).Hard ((cfg g hg).bk z) → ¬ (cfg g hg).Cr ((cfg g hg).bk s) ((cfg g hg).bk z) → (Btw p' q' p ↔ Btw p' q' z) := fun z lz hz nz => by
      rcases cls z lz hz with k | k | k
      · exact side lp lq h.lp lz c12 k hpn
      · exact pr.trans (side lp lq h.lr lz c12 k hrn)
      · exact absurd k nz
    exact h2 ((any s' ls bs n2).mp ((any r' lr br n1).mpr h1))
  have perm : (Rc65.hurdles (Rc65.hards g)).Perm [LL g ((cfg g hg).bk r), LL g ((cfg g hg).bk s)] := by
    refine (List.perm_ext_iff_of_nodup (hurdles_nodup _) (by simp [hne])).mpr fun z => ?_
    rw [mem_hurdles, mem_hards hg]
    constructor
    · rintro ⟨⟨k, hk, rfl⟩, hz⟩
      rcases h.all k hk with q1 | q1 | q1
      · rw [← (LL_iff hg h.hp.1 hk.1).mpr q1] at hz
        exact absurd ha hz
      · rw [(LL_iff hg h.hr.1 hk.1).mpr q1]; simp
      · rw [(LL_iff hg h.hs.1 hk.1).mpr q1]; simp
    · intro hz
      simp at hz
      rcases hz with rfl | rfl
      · exact ⟨⟨_, h.hr, rfl⟩, nr⟩
      · exact ⟨⟨_, h.hs, rfl⟩, nsA⟩
  rw [perm.length_eq]
  rfl
include hg in
theorem fort_false (hn : g.length ≤ 10) : Rc65.fortress (Rc65.hards g) = false := by
  by_cases h : ∃ c0, Alt (Rc65.hards g) c0
  · obtain ⟨c0, h0⟩ := h
    obtain ⟨p, q, r, s, t, e⟩ := three_of hg hn h0
    have := hurdles_two hg t (by rw [e]; exact h0)
    unfold Rc65.fortress
    rw [this]
    rfl
  · exact fort_no fun c z => h ⟨c, z⟩
include hg in
theorem told_eq (hn : g.length ≤ 10) : Rc65.told g + Rc65.cycles g = g.length + 1 + (Rc65.hurdles (Rc65.hards g)).length := by
  unfold Rc65.told
  rw [fort_false hg hn]
  have := cycles_le hg
  simp
  lia
theorem hurd_all (h : ∀ c0, ¬ Alt (Rc65.hards g) c0) (z : Nat) : z ∈ Rc65.hurdles (Rc65.hards g) ↔ ∃ k, (cfg g hg).Hard k ∧ LL g k = z := by
  rw [mem_hurdles, mem_hards hg]
  exact ⟨fun q => q.1, fun q => ⟨q, h z⟩⟩
end
/-! ### turns -/
section
variable {g : List Int} (hg : Rc65.right g = true) {i j : Nat} (h1 : i ≤ j) (h2 : j < g.length)
include h1 h2 in
/-- a crowd that is hard before and behind has one label -/
theorem LL_same {k : Nat} (hu : ∀ e, (cfg g hg).Cr k e → ¬ Turned.T (cfg g hg) (2 * i + 1) (2 * j + 2) e) (hk : k < (cfg g hg).N) : LL (Rc65.turn g i j) k = LL g k := by
  have t := turned hg h1 h2
  have hk' : k < (cfg (Rc65.turn g i j) (GM.turn_right hg h1 h2)).N := by rw [t.N_]; exact hk
  obtain ⟨a1, a2⟩ := (crowd_labels hg).2 k hk
  obtain ⟨b1, b2⟩ := (crowd_labels (GM.turn_right hg h1 h2)).2 k hk'
  have q1 := a2 _ ((t.unt1 hu _).mpr b1)
  have q2 := b2 _ ((t.unt1 hu _).mp a1)
  lia
theorem hards_turn (B : Nat → Bool) (hB : ∀ k, k < (cfg g hg).N → (B k = true ↔ (cfg (Rc65.turn g i j) (GM.turn_right hg h1 h2)).Hard k)) (hu : ∀ k, k < (cfg g hg).N → B k = true → ∀ e, (cfg g hg).Cr k e → ¬ Turned.T (cfg g hg) (2 * i + 1) (2 * j + 2) e) :
    (∀ c0, Alt (Rc65.hards (Rc65.turn g i j)) c0 ↔ Alt (PL (cfg g hg) (LL g) B) c0) ∧ ∀ z, z ∈ Rc65.hards (Rc65.turn g i j) ↔ ∃ k, k < (cfg g hg).N ∧ B k = true ∧ LL g k = z := by
  have t := turned hg h1 h2
  have e : Rc65.hards (Rc65.turn g i j) = PL (cfg (Rc65.turn g i j) (GM.turn_right hg h1 h2)) (LL g) B := by
    rw [hards_eq (GM.turn_right hg h1 h2)]
    refine PL_congr (fun k hk => ?_) fun k hk hh => ?_
    · rw [t.N_] at hk
      rw [Bool.eq_iff_iff, decide_eq_true_iff, hB k hk]
    · rw [t.N_] at hk
      exact LL_same hg h1 h2 (hu k hk ((hB k hk).mpr (of_decide_eq_true hh))) hk
  refine ⟨fun c0 => ?_, fun z => ?_⟩
  · rw [e]
    exact alt_turn t hu (fun k l hk hl _ _ q => (LL_iff hg hk hl).mp q)
  · rw [e, mem_PL, t.N_]
/-- (a) -/
theorem step_a (hn : g.length ≤ 10) {v : Nat} (hv : v < (cfg g hg).N) (hve : (cfg g hg).easy v) (hT : ∀ k, k < (cfg g hg).N → (Turned.T (cfg g hg) (2 * i + 1) (2 * j + 2) k ↔ k = v ∨ (cfg g hg).X v k))
    (hh : ∀ k, (cfg (Rc65.turn g i j) (GM.turn_right hg h1 h2)).Hard k ↔ (cfg g hg).Hard k) (hc : Rc65.cycles (Rc65.turn g i j) = Rc65.cycles g + 1) : Rc65.told (Rc65.turn g i j) + 1 = Rc65.told g := by
  have t := turned hg h1 h2
  have tl := GM.turn_len (g := g) h1 h2
  have hu : ∀ k, k < (cfg g hg).N → (decide ((cfg g hg).Hard k)) = true → ∀ e, (cfg g hg).Cr k e → ¬ Turned.T (cfg g hg) (2 * i + 1) (2 * j + 2) e := fun k hk hb e he q => by
    have hb := of_decide_eq_true hb
    have hel := he.lt hk
    rcases (hT e hel).mp q with e1 | e1
    · subst e1
      exact hb.2.1 e he hve
    · exact hb.2.1 v (he.trans (.one ⟨hel, hv, Cfg.X_symm hv hel e1⟩)) hve
  obtain ⟨a1, a2⟩ := hards_turn hg h1 h2 (fun k => decide ((cfg g hg).Hard k)) (fun k hk => by rw [decide_eq_true_iff, hh]) hu
  have hp : (Rc65.hurdles (Rc65.hards (Rc65.turn g i j))).Perm (Rc65.hurdles (Rc65.hards g)) := by
    refine (List.perm_ext_iff_of_nodup (hurdles_nodup _) (hurdles_nodup _)).mpr fun z => ?_
    rw [mem_hurdles, mem_hurdles, a1, a2, hards_eq hg, mem_PL]
  have e1 := told_eq hg hn
  have e2 := told_eq (GM.turn_right hg h1 h2) (by rw [tl]; exact hn)
  rw [hp.length_eq, tl, hc] at e2
  lia
/-- (b1) -/
theorem step_b1 (hn : g.length ≤ 10) (hno : ∀ c0, ¬ Alt (Rc65.hards g) c0) {v : Nat} (hv : (cfg g hg).Hard v)
    (hh : ∀ k, (cfg (Rc65.turn g i j) (GM.turn_right hg h1 h2)).Hard k ↔ (cfg g hg).Hard k ∧ ∀ e, (cfg g hg).Cr k e → ¬ Turned.T (cfg g hg) (2 * i + 1) (2 * j + 2) e)
    (hT : ∀ k, k < (cfg g hg).N → ((∀ e, (cfg g hg).Cr k e → ¬ Turned.T (cfg g hg) (2 * i + 1) (2 * j + 2) e) ↔ ¬ (cfg g hg).Cr v k)) (hc : Rc65.cycles (Rc65.turn g i j) = Rc65.cycles g) : Rc65.told (Rc65.turn g i j) + 1 = Rc65.told g := by
  have t := turned hg h1 h2
  have tl := GM.turn_len (g := g) h1 h2
  have hB : ∀ k, k < (cfg g hg).N → (decide ((cfg g hg).Hard k ∧ ¬ (cfg g hg).Cr v k) = true ↔ (cfg (Rc65.turn g i j) (GM.turn_right hg h1 h2)).Hard k) := fun k hk => by
    rw [decide_eq_true_iff, hh, hT k hk]
  obtain ⟨a1, a2⟩ := hards_turn hg h1 h2 (fun k => decide ((cfg g hg).Hard k ∧ ¬ (cfg g hg).Cr v k)) hB (fun k hk hb => (hT k hk).mpr (of_decide_eq_true hb).2)
  have hno' : ∀ c0, ¬ Alt (Rc65.hards (Rc65.turn g i j)) c0 := fun c0 q => by
    rw [a1, alt_PL] at q
    refine hno c0 ((alt_hards hg).mpr ?_)
    obtain ⟨p, q, r, s, lp, lq, lr, ls, bp, bq, br, bs, rest⟩ := q
    exact ⟨p, q, r, s, lp, lq, lr, ls, decide_eq_true (of_decide_eq_true bp).1, decide_eq_true (of_decide_eq_true bq).1, decide_eq_true (of_decide_eq_true br).1, decide_eq_true (of_decide_eq_true bs).1, rest⟩
  have hp : (Rc65.hurdles (Rc65.hards g)).Perm (LL g v :: Rc65.hurdles (Rc65.hards (Rc65.turn g i j))) := by
    refine (List.perm_ext_iff_of_nodup (hurdles_nodup _) (List.nodup_cons.mpr ⟨fun q => ?_, hurdles_nodup _⟩)).mpr fun z => ?_
    · obtain ⟨k, hk, hb, e⟩ := (a2 _).mp (mem_hurdles.mp q).1
      exact (of_decide_eq_true hb).2 ((LL_iff hg hv.1 hk).mp e.symm)
    · rw [hurd_all hg hno, List.mem_cons, mem_hurdles, a2]
      constructor
      · rintro ⟨k, hk, rfl⟩
        by_cases q : (cfg g hg).Cr v k
        · exact .inl ((LL_iff hg hv.1 hk.1).mpr q).symm
        · exact .inr ⟨⟨k, hk.1, decide_eq_true ⟨hk, q⟩, rfl⟩, hno' _⟩
      · rintro (rfl | ⟨⟨k, hk, hb, rfl⟩, _⟩)
        · exact ⟨v, hv, rfl⟩
        · exact ⟨k, (of_decide_eq_true hb).1, rfl⟩
  have e1 := told_eq hg hn
  have e2 := told_eq (GM.turn_right hg h1 h2) (by rw [tl]; exact hn)
  rw [hp.length_eq, List.length_cons] at e1
  rw [tl, hc] at e2
  lia
/-- (b2) -/
theorem step_b2 (hn : g.length ≤ 10) (h : (Rc65.hurdles (Rc65.hards g)).length = 2) (hh : ∀ k, ¬ (cfg (Rc65.turn g i j) (GM.turn_right hg h1 h2)).Hard k) (hc : Rc65.cycles (Rc65.turn g i j) + 1 = Rc65.cycles g) : Rc65.told (Rc65.turn g i j) + 1 = Rc65.told g := by
  have tl := GM.turn_len (g := g) h1 h2
  have e1 := told_eq hg hn
  have e2 := told_eq (GM.turn_right hg h1 h2) (by rw [tl]; exact hn)
  have e3 : Rc65.hurdles (Rc65.hards (Rc65.turn g i j)) = [] := by
    refine List.eq_nil_iff_forall_not_mem.mpr fun z hz => ?_
    obtain ⟨k, hk, _⟩ := (mem_hards (GM.turn_right hg h1 h2)).mp (mem_hurdles.mp hz).1
    exact hh k hk
  rw [h] at e1
  rw [tl, e3] at e2
  simp at e2
  lia
end
end GX

set_option maxHeartbeats 1000000
set_option linter.unusedVariables false
namespace GX
open Classical
theorem half_of {u w : Nat} (h : w / 2 = u / 2) : w = u ∨ w = par u := by
  have hd := par_def u
  lia
theorem hf0 (x : Nat) : 2 * (x / 2) / 2 = x / 2 := by lia
theorem hf1 (x : Nat) : (2 * (x / 2) + 1) / 2 = x / 2 := by lia
theorem hf2 {x : Nat} (h : 1 ≤ x / 2) : (2 * (x / 2 - 1) + 2) / 2 = x / 2 := by lia
theorem hf3 {x : Nat} (h : 1 ≤ x / 2) : (2 * (x / 2 - 1) + 3) / 2 = x / 2 := by lia
/-- a stretch that has one of two places of the same kind -/
theorem st_a {lo hi n : Nat} (l1 : lo < hi) (l2 : hi < 2 * n + 2) (h : (hi - lo) % 2 = 0) : ∃ i j, i ≤ j ∧ j < n ∧ ((2 * i = lo ∧ 2 * j + 2 = hi) ∨ (2 * i + 1 = lo ∧ 2 * j + 3 = hi)) := by
  by_cases ev : lo % 2 = 0
  · exact ⟨lo / 2, hi / 2 - 1, by lia, by lia, .inl (by lia)⟩
  · exact ⟨(lo - 1) / 2, (hi - 3) / 2, by lia, by lia, .inr (by lia)⟩
theorem in_a {lo hi i j z : Nat} (hI : (2 * i = lo ∧ 2 * j + 2 = hi) ∨ (2 * i + 1 = lo ∧ 2 * j + 3 = hi)) (z1 : z ≠ lo) (z2 : z ≠ hi) : In (2 * i + 1) (2 * j + 2) z ↔ (lo < z ∧ z < hi) := by
  unfold In
  lia
theorem in_lo {lo hi i j : Nat} (l1 : lo < hi) (hij : i ≤ j) (hI : (2 * i = lo ∧ 2 * j + 2 = hi) ∨ (2 * i + 1 = lo ∧ 2 * j + 3 = hi)) : ¬ (In (2 * i + 1) (2 * j + 2) lo ↔ In (2 * i + 1) (2 * j + 2) hi) := by
  unfold In
  lia
theorem ne4 {a b c d lo hi : Nat} (f : a ≠ b ∧ c ≠ d ∧ a ≠ c ∧ a ≠ d ∧ b ≠ c ∧ b ≠ d) (h : a = lo ∧ b = hi ∨ a = hi ∧ b = lo) : c ≠ lo ∧ c ≠ hi ∧ d ≠ lo ∧ d ≠ hi := by
  rcases h with ⟨rfl, rfl⟩ | ⟨rfl, rfl⟩
  · exact ⟨Ne.symm f.2.2.1, Ne.symm f.2.2.2.2.1, Ne.symm f.2.2.2.1, Ne.symm f.2.2.2.2.2⟩
  · exact ⟨Ne.symm f.2.2.2.2.1, Ne.symm f.2.2.1, Ne.symm f.2.2.2.2.2, Ne.symm f.2.2.2.1⟩
theorem tri1 {p q r : Nat} (b1 : (p < r ∧ r < q) ∨ (q < r ∧ r < p)) (h : p < q) : p < r ∧ r < q := by lia
theorem tri2 {p q s : Nat} (b2 : ¬ ((p < s ∧ s < q) ∨ (q < s ∧ s < p))) (d1 : s ≠ p) (d2 : s ≠ q) (h : p < q) (sq : ¬ q < s) : s < p := by lia
theorem tri3 {p q r : Nat} (b1 : (p < r ∧ r < q) ∨ (q < r ∧ r < p)) (h : ¬ p < q) : q < r ∧ r < p := by lia
theorem tri4 {p q s : Nat} (b2 : ¬ ((p < s ∧ s < q) ∨ (q < s ∧ s < p))) (d1 : s ≠ p) (d2 : s ≠ q) (h : q < p) (sq : ¬ p < s) : s < q := by lia
theorem hvs {z r s : Nat} (a1 : z / 2 ≠ r / 2) (a2 : z / 2 ≠ s / 2) (k1 : r < z) (k2 : z < s) : 1 ≤ s / 2 ∧ r / 2 ≤ s / 2 - 1 := by lia
theorem hvn {s n : Nat} (k : s < 2 * n + 2) (h : 1 ≤ s / 2) : s / 2 - 1 < n := by lia
theorem hvi {z r s : Nat} (a1 : z / 2 ≠ r / 2) (a2 : z / 2 ≠ s / 2) (k1 : r < z) (k2 : z < s) : In (2 * (r / 2) + 1) (2 * (s / 2 - 1) + 2) z := by unfold In; lia
theorem hvo {z r s : Nat} (a1 : z / 2 ≠ r / 2) (a2 : z / 2 ≠ s / 2) (k : z < r ∨ s < z) (hp : 1 ≤ s / 2) (h : r / 2 ≤ s / 2 - 1) : ¬ In (2 * (r / 2) + 1) (2 * (s / 2 - 1) + 2) z := by unfold In; lia
theorem in_i {i j : Nat} (h : i ≤ j) : In (2 * i + 1) (2 * j + 2) (2 * i + 1) ∧ ¬ In (2 * i + 1) (2 * j + 2) (2 * i) ∧ In (2 * i + 1) (2 * j + 2) (2 * j + 2) ∧ ¬ In (2 * i + 1) (2 * j + 2) (2 * j + 3) := by unfold In; lia
theorem hvj {j n : Nat} (h : j < n) : 2 * j + 3 < 2 * n + 2 := by lia
theorem far_met {a b lo hi : Nat} (d : (a % 2 = 0 ∧ par a = a + 1) ∨ (a % 2 = 1 ∧ par a + 1 = a)) (l8 : a = lo ∧ b = hi ∨ a = hi ∧ b = lo) (ev : lo % 2 = 0) (q : hi = lo + 1) : b = par a := by lia
section
variable {g : List Int} (hg : Rc65.right g = true)
/-- a bond's places, the lower one first -/
theorem lohi {v : Nat} (hv : v < (cfg g hg).N) : ∃ lo hi, lo < hi ∧ hi < 2 * g.length + 2 ∧ (cfg g hg).W lo = hi ∧ (cfg g hg).bk lo = v ∧ (cfg g hg).bk hi = v ∧ ((cfg g hg).easy v ↔ (hi - lo) % 2 = 0) ∧
    (∀ z, Btw ((cfg g hg).a v) ((cfg g hg).b v) z ↔ lo < z ∧ z < hi) ∧ ((cfg g hg).a v = lo ∧ (cfg g hg).b v = hi ∨ (cfg g hg).a v = hi ∧ (cfg g hg).b v = lo) := by
  have ha := Cfg.a_lt hv
  have hb := Cfg.b_lt hv
  have hm : (cfg g hg).m = 2 * g.length + 2 := rfl
  have hab := Cfg.ab_ne hv
  rcases Nat.lt_or_gt_of_ne hab with q | q
  · exact ⟨_, _, q, by lia, Cfg.W_a hv, Cfg.bk_a hv, Cfg.bk_b hv, by unfold Cfg.easy; lia, fun z => by unfold Btw; lia, .inl ⟨rfl, rfl⟩⟩
  · exact ⟨_, _, q, by lia, Cfg.W_b hv, Cfg.bk_b hv, Cfg.bk_a hv, by unfold Cfg.easy; lia, fun z => by unfold Btw; lia, .inr ⟨rfl, rfl⟩⟩
theorem help_a (hn : g.length ≤ 10) (he : ∃ v, v < (cfg g hg).N ∧ (cfg g hg).easy v) : ∃ i j, i ≤ j ∧ j < g.length ∧ Rc65.told (Rc65.turn g i j) + 1 = Rc65.told g := by
  obtain ⟨v, hv, hve, hmax⟩ := max_ex (fun w => (((List.range (cfg g hg).N).filter fun u => decide ((cfg g hg).X w u ∧ ¬ (cfg g hg).easy u)).length : Int) - (((List.range (cfg g hg).N).filter fun u => decide ((cfg g hg).easy u ∧ (u = w ∨ (cfg g hg).X w u))).length : Int)) (fun k => (cfg g hg).easy k) (cfg g hg).N he
  obtain ⟨lo, hi, l1, l2, l3, l4, l5, l6, l7, l8⟩ := lohi hg hv
  have hev := l6.mp hve
  -- the stretch
  obtain ⟨i, j, hij, hj, hI⟩ := st_a l1 l2 hev
  have hsp : (cfg g hg).W (2 * i) = 2 * j + 2 ∨ (cfg g hg).W (2 * i + 1) = 2 * j + 3 := by
    rcases hI with ⟨e1, e2⟩ | ⟨e1, e2⟩
    · left; rw [e1, e2]; exact l3
    · right; rw [e1, e2]; exact l3
  have hT : ∀ k, k < (cfg g hg).N → (Turned.T (cfg g hg) (2 * i + 1) (2 * j + 2) k ↔ k = v ∨ (cfg g hg).X v k) := fun k hk => by
    by_cases e : k = v
    · subst e
      refine ⟨fun _ => .inl rfl, fun _ => ?_⟩
      have := in_lo l1 hij hI
      unfold Turned.T
      rcases l8 with ⟨e1, e2⟩ | ⟨e1, e2⟩
      · rw [e1, e2]; exact this
      · rw [e1, e2]; exact fun q => this q.symm
    · have n1 := ne4 (Cfg.four hv hk (fun q => e q.symm)) l8
      have : v ≠ k := fun q => e q.symm
      unfold Turned.T Cfg.X
      rw [l7, l7, in_a hI n1.1 n1.2.1, in_a hI n1.2.2.1 n1.2.2.2]
      exact ⟨fun q => .inr ⟨this, q⟩, fun q => (q.resolve_left e).2⟩
  refine ⟨i, j, hij, hj, step_a hg hij hj hn hv hve hT (fun k => ?_) (cycles_split hg hij hj hsp)⟩
  exact (turned hg hij hj).hard_a hv hve hT hmax
theorem help_b (hn : g.length ≤ 10) (he : ∀ k, k < (cfg g hg).N → ¬ (cfg g hg).easy k) (hh : ∃ v, (cfg g hg).Hard v) : ∃ i j, i ≤ j ∧ j < g.length ∧ Rc65.told (Rc65.turn g i j) + 1 = Rc65.told g := by
  by_cases ha : ∃ c0, Alt (Rc65.hards g) c0
  · obtain ⟨c0, h0⟩ := ha
    obtain ⟨p, q, r, s, t, e⟩ := three_of hg hn h0
    have h2 := hurdles_two hg t (by rw [e]; exact h0)
    have hm : (cfg g hg).m = 2 * g.length + 2 := rfl
    have lp := t.lp
    have lq := t.lq
    have lr := t.lr
    have ls := t.ls
    -- r0 < z < s0, z' outside
    obtain ⟨r0, s0, z, z', k1, k2, k3, k4, k5, k6, k7, k8, k9, k10⟩ : ∃ r0 s0 z z', r0 < z ∧ z < s0 ∧ s0 < (cfg g hg).m ∧ z' < (cfg g hg).m ∧ (z' < r0 ∨ s0 < z') ∧ (cfg g hg).Cr ((cfg g hg).bk z) ((cfg g hg).bk z') ∧ ¬ (cfg g hg).Cr ((cfg g hg).bk z) ((cfg g hg).bk r0) ∧ ¬ (cfg g hg).Cr ((cfg g hg).bk z) ((cfg g hg).bk s0) ∧
        ¬ (cfg g hg).Cr ((cfg g hg).bk r0) ((cfg g hg).bk s0) ∧ ∀ k, (cfg g hg).Hard k → (cfg g hg).Cr ((cfg g hg).bk z) k ∨ (cfg g hg).Cr ((cfg g hg).bk r0) k ∨ (cfg g hg).Cr ((cfg g hg).bk s0) k := by
      have b1 := t.b1
      have b2 := t.b2
      have d1 : s ≠ p := fun e => t.ps (by rw [e]; exact .refl _)
      have d2 : s ≠ q := fun e => t.ps (by rw [e]; exact t.pq)
      have nqr : ¬ (cfg g hg).Cr ((cfg g hg).bk q) ((cfg g hg).bk r) := fun z => t.pr (t.pq.trans z)
      have nqs : ¬ (cfg g hg).Cr ((cfg g hg).bk q) ((cfg g hg).bk s) := fun z => t.ps (t.pq.trans z)
      have alq : ∀ k, (cfg g hg).Hard k → (cfg g hg).Cr ((cfg g hg).bk q) k ∨ (cfg g hg).Cr ((cfg g hg).bk r) k ∨ (cfg g hg).Cr ((cfg g hg).bk s) k := fun k hk => by
        rcases t.all k hk with w | w | w
        · exact .inl (t.pq.sy.trans w)
        · exact .inr (.inl w)
        · exact .inr (.inr w)
      have swp : ∀ u, (∀ k, (cfg g hg).Hard k → (cfg g hg).Cr u k ∨ (cfg g hg).Cr ((cfg g hg).bk r) k ∨ (cfg g hg).Cr ((cfg g hg).bk s) k) → ∀ k, (cfg g hg).Hard k → (cfg g hg).Cr u k ∨ (cfg g hg).Cr ((cfg g hg).bk s) k ∨ (cfg g hg).Cr ((cfg g hg).bk r) k := fun u h k hk => by
        rcases h k hk with w | w | w
        · exact .inl w
        · exact .inr (.inr w)
        · exact .inr (.inl w)
      have nsr : ¬ (cfg g hg).Cr ((cfg g hg).bk s) ((cfg g hg).bk r) := fun z => t.rs z.sy
      unfold Btw at b1 b2
      by_cases pq : p < q
      · have hb : p < r ∧ r < q := tri1 b1 pq
        by_cases sq : q < s
        · exact ⟨r, s, q, p, hb.2, sq, ls, lp, .inl hb.1, t.pq.sy, nqr, nqs, t.rs, alq⟩
        · have hs : s < p := tri2 b2 d1 d2 pq sq
          exact ⟨s, r, p, q, hs, hb.1, lr, lq, .inr hb.2, t.pq, t.ps, t.pr, nsr, swp _ t.all⟩
      · have hb : q < r ∧ r < p := tri3 b1 pq
        by_cases sq : p < s
        · exact ⟨r, s, p, q, hb.2, sq, ls, lq, .inl hb.1, t.pq, t.pr, t.ps, t.rs, t.all⟩
        · have hs : s < q := tri4 b2 d1 d2 (Nat.lt_trans hb.1 hb.2) sq
          exact ⟨s, r, q, p, hs, hb.1, lr, lp, .inr hb.2, t.pq.sy, nqs, nqr, nsr, swp _ alq⟩
    -- halves differ
    have cr : ∀ u w, u < (cfg g hg).m → w / 2 = u / 2 → (cfg g hg).Cr ((cfg g hg).bk u) ((cfg g hg).bk w) := fun u w hu hw => by
      rcases half_of hw with e | e
      · rw [e]; exact .refl _
      · rw [e]; exact Cfg.meet hu
    have half : ∀ u w, u < (cfg g hg).m → ¬ (cfg g hg).Cr ((cfg g hg).bk u) ((cfg g hg).bk w) → u / 2 ≠ w / 2 := fun u w hu hno q => hno (cr u w hu q.symm)
    have kz : z < (cfg g hg).m := Nat.lt_trans k2 k3
    have kr : r0 < (cfg g hg).m := Nat.lt_trans k1 kz
    have a1 := half z r0 kz k7
    have a2 := half z s0 kz k8
    have a3 := half z' r0 k4 (fun w => k7 (k6.trans w))
    have a4 := half z' s0 k4 (fun w => k8 (k6.trans w))
    obtain ⟨hp1, hij⟩ := hvs a1 a2 k1 k2
    have hj : s0 / 2 - 1 < g.length := hvn (by rw [← hm]; exact k3) hp1
    have hjm : 2 * (s0 / 2 - 1) + 3 < (cfg g hg).m := by rw [hm]; exact hvj hj
    have hjm2 : 2 * (s0 / 2 - 1) + 2 < (cfg g hg).m := Nat.lt_trans (Nat.lt_succ_self _) hjm
    have him : 2 * (r0 / 2) + 1 < (cfg g hg).m := Nat.lt_of_le_of_lt (Nat.add_le_add_right (Nat.mul_le_mul_left 2 hij) 1) (Nat.lt_trans (Nat.add_lt_add_left (by decide) _) hjm)
    have him0 : 2 * (r0 / 2) < (cfg g hg).m := Nat.lt_trans (Nat.lt_succ_self _) him
    -- the pairs
    have r1 := cr r0 (2 * (r0 / 2)) kr (hf0 r0)
    have r2 := cr r0 (2 * (r0 / 2) + 1) kr (hf1 r0)
    have s1 := cr s0 (2 * (s0 / 2 - 1) + 2) k3 (hf2 hp1)
    have s2 := cr s0 (2 * (s0 / 2 - 1) + 3) k3 (hf3 hp1)
    have touch : ∀ u w k, u < (cfg g hg).m → w < (cfg g hg).m → (cfg g hg).Cr ((cfg g hg).bk u) ((cfg g hg).bk w) → (cfg g hg).Cr ((cfg g hg).bk u) k → In (2 * (r0 / 2) + 1) (2 * (s0 / 2 - 1) + 2) u → ¬ In (2 * (r0 / 2) + 1) (2 * (s0 / 2 - 1) + 2) w → ∃ e, (cfg g hg).Cr k e ∧ Turned.T (cfg g hg) (2 * (r0 / 2) + 1) (2 * (s0 / 2 - 1) + 2) e := fun u w k hu hw huw huk i1 i2 => by
      obtain ⟨e, _, e2, e3⟩ := Cfg.sepP (c := cfg g hg) (P := In (2 * (r0 / 2) + 1) (2 * (s0 / 2 - 1) + 2)) (fun _ _ _ => in_convex) hu hw huw i1 i2
      exact ⟨e, huk.sy.trans e2, e3⟩
    refine ⟨r0 / 2, s0 / 2 - 1, hij, hj, step_b2 hg hij hj hn h2 (fun k hk => ?_) (cycles_merge hg hij hj fun q => ?_)⟩
    · have := ((turned hg hij hj).hard_b he).mp hk
      have fin : (∃ e, (cfg g hg).Cr k e ∧ Turned.T (cfg g hg) (2 * (r0 / 2) + 1) (2 * (s0 / 2 - 1) + 2) e) → False := fun ⟨e, e1, e2⟩ => this.2 e e1 e2
      rcases k10 k this.1 with w | w | w
      · exact fin (touch z z' k kz k4 k6 w (hvi a1 a2 k1 k2) (hvo a3 a4 k5 hp1 hij))
      · exact fin (touch (2 * (r0 / 2) + 1) (2 * (r0 / 2)) k him him0 (r2.sy.trans r1) (r2.sy.trans w) (in_i hij).1 (in_i hij).2.1)
      · exact fin (touch (2 * (s0 / 2 - 1) + 2) (2 * (s0 / 2 - 1) + 3) k hjm2 hjm (s1.sy.trans s2) (s1.sy.trans w) (in_i hij).2.2.1 (in_i hij).2.2.2)
    · exact k9 ((r1.trans q.cr).trans s1.sy)
  · obtain ⟨v, hv⟩ := hh
    obtain ⟨lo, hi, l1, l2, l3, l4, l5, l6, l7, l8⟩ := lohi hg hv.1
    have hno : ¬ (cfg g hg).met v := fun q => by
      obtain ⟨l, hl⟩ := hv.2.2
      exact Cfg.met_iso q hl.1 hl
    have hodd : ¬ (hi - lo) % 2 = 0 := fun q => he v hv.1 (l6.mpr q)
    have hfar : lo % 2 = 0 → hi ≠ lo + 1 := fun ev q => hno (by
      unfold Cfg.met
      exact far_met (par_def _) l8 ev q)
    obtain ⟨i, j, hij, hj, hI⟩ := st_b l1 l2 hodd hfar
    have hsp : (cfg g hg).W (2 * i) = 2 * j + 3 ∨ (cfg g hg).W (2 * i + 1) = 2 * j + 2 := by
      rcases hI with ⟨e1, e2⟩ | ⟨e1, e2⟩
      · left; rw [e1, e2]; exact l3
      · right; rw [e1, e2]; exact l3
    have hT : ∀ k, k < (cfg g hg).N → (Turned.T (cfg g hg) (2 * i + 1) (2 * j + 2) k ↔ (cfg g hg).X v k) := fun k hk => by
      by_cases e : k = v
      · subst e
        refine ⟨fun q => absurd ?_ q, fun q => absurd rfl q.1⟩
        have := in_both hij hI
        rcases l8 with ⟨e1, e2⟩ | ⟨e1, e2⟩
        · rw [e1, e2]; exact this
        · rw [e1, e2]; exact this.symm
      · have n1 := ne4 (Cfg.four hv.1 hk (fun q => e q.symm)) l8
        have : v ≠ k := fun q => e q.symm
        unfold Turned.T Cfg.X
        rw [l7, l7, in_b hI n1.1 n1.2.1, in_b hI n1.2.2.1 n1.2.2.2]
        exact ⟨fun q => ⟨this, q⟩, fun q => q.2⟩
    refine ⟨i, j, hij, hj, step_b1 hg hij hj hn (fun c0 q => ha ⟨c0, q⟩) hv (fun k => (turned hg hij hj).hard_b he) (fun k hk => ⟨fun hu q => ?_, fun hu e hce q => ?_⟩) (cycles_cut hg hij hj hsp)⟩
    · obtain ⟨l, hl⟩ := hv.2.2
      exact hu l (q.sy.trans (.one hl)) ((hT l hl.2.1).mpr hl.2.2)
    · have hel := hce.lt hk
      exact hu ((Rc.one ⟨hv.1, hel, (hT e hel).mp q⟩ : (cfg g hg).Cr v e).trans hce.sy)
/-- nothing easy, nothing hard: all's in order -/
theorem told_zero (hn : g.length ≤ 10) (he : ∀ k, k < (cfg g hg).N → ¬ (cfg g hg).easy k) (hh : ¬ ∃ v, (cfg g hg).Hard v) : Rc65.told g = 0 := by
  have hmet : ∀ k, k < (cfg g hg).N → (cfg g hg).met k := fun k hk => Cfg.iso_met hk (fun l hl => hh ⟨k, hk, fun e hce => he e (hce.lt hk), l, hl⟩) (he k hk)
  have hW : ∀ p, p < (cfg g hg).m → (cfg g hg).W p = par p := fun p hp => by
    have hb := Cfg.bk_lt hp
    have hm := hmet _ hb
    unfold Cfg.met at hm
    rcases Cfg.place_of hp with e | e
    · have : (cfg g hg).W ((cfg g hg).a ((cfg g hg).bk p)) = par ((cfg g hg).a ((cfg g hg).bk p)) := by rw [Cfg.W_a hb]; exact hm
      rw [← e] at this
      exact this
    · have : (cfg g hg).W ((cfg g hg).b ((cfg g hg).bk p)) = par ((cfg g hg).b ((cfg g hg).bk p)) := by rw [Cfg.W_b hb, hm, par_par]
      rw [← e] at this
      exact this
  have hcy : ∀ p q, (cfg g hg).Cy p q → q = p ∨ q = par p := fun p q h => h.inv (fun q => q = p ∨ q = par p) (.inl rfl) fun a b ha hb => by
    have hab : b = par a := by
      rcases hb with ⟨h1, h2 | h2⟩
      · exact h2
      · rw [h2, hW a h1]
    rcases ha with rfl | rfl
    · exact .inr hab
    · exact .inl (by rw [hab, par_par])
  obtain ⟨S, hS, e⟩ := cycles_tv hg
  have hm : (cfg g hg).m = 2 * g.length + 2 := rfl
  have hev : Tv (cfg g hg).m (cfg g hg).Cy ((List.range (g.length + 1)).map (2 * ·)) := by
    refine ⟨fun s hs => ?_, ?_, fun p hp => ?_⟩
    · obtain ⟨t, ht, rfl⟩ := List.mem_map.mp hs
      have := List.mem_range.mp ht
      lia
    · refine List.Pairwise.map _ (fun a b hab q => ?_) (List.pairwise_lt_range (n := g.length + 1))
      have d := par_def (2 * a)
      rcases hcy _ _ q with q | q <;> lia
    · have hd := par_def p
      by_cases h : p % 2 = 0
      · exact ⟨p, List.mem_map.mpr ⟨p / 2, List.mem_range.mpr (by lia), by lia⟩, .refl _⟩
      · exact ⟨par p, List.mem_map.mpr ⟨p / 2, List.mem_range.mpr (by lia), by lia⟩, .one ⟨hp, .inl rfl⟩⟩
  have hl := tvlen (cfg g hg).iPar (cfg g hg).iW hS hev
  rw [e] at hl
  simp at hl
  have e3 : Rc65.hurdles (Rc65.hards g) = [] := by
    refine List.eq_nil_iff_forall_not_mem.mpr fun z hz => ?_
    obtain ⟨k, hk, _⟩ := (mem_hards hg).mp (mem_hurdles.mp hz).1
    exact hh ⟨k, hk⟩
  have := told_eq hg hn
  rw [e3, hl] at this
  simp at this
  lia
include hg in
/-- **there is a turn that helps** -/
theorem help (hn : g.length ≤ 10) (h0 : 0 < Rc65.told g) : ∃ i j, i ≤ j ∧ j < g.length ∧ Rc65.told (Rc65.turn g i j) + 1 = Rc65.told g := by
  by_cases he : ∃ v, v < (cfg g hg).N ∧ (cfg g hg).easy v
  · exact help_a hg hn he
  · have he' : ∀ k, k < (cfg g hg).N → ¬ (cfg g hg).easy k := fun k hk q => he ⟨k, hk, q⟩
    by_cases hh : ∃ v, (cfg g hg).Hard v
    · exact help_b hg hn he' hh
    · have := told_zero hg hn he' hh
      lia
end
end GX

set_option maxHeartbeats 1000000
set_option linter.unusedVariables false
namespace GX
/-! ### the walk over a cycle -/
structure CI (m : Nat) (M : Nat → Nat) (s0 s : Nat → Prop) (e0 e : Nat) : Prop where
  lt : e < m
  rc : Rc (RW m par M) e0 e
  sub : ∀ z, s0 z → s z
  cls : ∀ z, s z → ¬ s0 z → Rc (RW m par M) e0 z
  mcl : ∀ z, s z → ¬ s0 z → s (M z) ∧ ¬ s0 (M z)
  pcl : ∀ z, s z → ¬ s0 z → (s (par z) ∧ ¬ s0 (par z)) ∨ z = e0 ∨ par z = e
  beg : ((∀ z, s z → s0 z) ∧ e = e0) ∨ (s (par e) ∧ ¬ s0 (par e))
  own : s e → ¬ s0 e → e = e0
section
variable {m : Nat} {M : Nat → Nat} (hP : Inv2 m par) (hM : Inv2 m M) {s0 : Nat → Prop} (hcl : ∀ a b, Rc (RW m par M) a b → (s0 a ↔ s0 b)) {e0 : Nat} (h0 : e0 < m) (hn : ¬ s0 e0)
include hP hM hcl h0 hn
theorem CI.start : CI m M s0 s0 e0 e0 :=
  ⟨h0, .refl _, fun _ h => h, fun z h h' => absurd h h', fun z h h' => absurd h h', fun z h h' => absurd h h', .inl ⟨fun _ h => h, rfl⟩, fun h h' => absurd h h'⟩
theorem CI.step {s : Nat → Prop} {e : Nat} (h : CI m M s0 s e0 e) (he : ¬ s e) : CI m M s0 (fun z => s z ∨ z = e ∨ z = M e) e0 (par (M e)) := by
  have hMl := hM.lt e h.lt
  have r1 : Rc (RW m par M) e0 (M e) := h.rc.trans (.one ⟨h.lt, .inr rfl⟩)
  have r2 : Rc (RW m par M) e0 (par (M e)) := r1.trans (.one ⟨hMl, .inl rfl⟩)
  have n1 : ¬ s0 e := fun q => hn ((hcl _ _ h.rc).mpr q)
  have n2 : ¬ s0 (M e) := fun q => hn ((hcl _ _ r1).mpr q)
  have hMM := hM.inv e h.lt
  refine ⟨hP.lt _ hMl, r2, fun z q => .inl (h.sub z q), fun z q q' => ?_, fun z q q' => ?_, fun z q q' => ?_, .inr ⟨?_, ?_⟩, fun q q' => ?_⟩
  · rcases q with q | rfl | rfl
    · exact h.cls z q q'
    · exact h.rc
    · exact r1
  · rcases q with q | rfl | rfl
    · have := h.mcl z q q'
      exact ⟨.inl this.1, this.2⟩
    · exact ⟨.inr (.inr rfl), n2⟩
    · exact ⟨.inr (.inl hMM), by rw [hMM]; exact n1⟩
  · rcases q with q | rfl | rfl
    · rcases h.pcl z q q' with k | k | k
      · exact .inl ⟨.inl k.1, k.2⟩
      · exact .inr (.inl k)
      · exact .inl ⟨.inr (.inl k), by rw [k]; exact n1⟩
    · rcases h.beg with ⟨_, k⟩ | k
      · exact .inr (.inl k)
      · exact .inl ⟨.inl k.1, k.2⟩
    · exact .inr (.inr rfl)
  · rw [par_par]; exact .inr (.inr rfl)
  · rw [par_par]; exact n2
  · rcases q with q | q | q
    · have hk := h.pcl _ q q'
      rw [par_par] at hk
      rcases hk with k | k | k
      · exact absurd (h.mcl _ k.1 k.2).1 (by rw [hMM]; exact he)
      · exact k
      · exact absurd k (hM.ne e h.lt)
    · rcases h.beg with ⟨_, k⟩ | k
      · rw [q]; exact k
      · have e1 : M e = par e := by rw [← q, par_par]; rw [q]
        rw [← e1] at k
        exact absurd (h.mcl _ k.1 k.2).1 (by rw [hMM]; exact he)
    · exact absurd q (par_ne _)
theorem CI.fin {s : Nat → Prop} {e : Nat} (h : CI m M s0 s e0 e) (he : s e) : ∀ z, s z ↔ s0 z ∨ Rc (RW m par M) e0 z := by
  have n1 : ¬ s0 e := fun q => hn ((hcl _ _ h.rc).mpr q)
  have e1 := h.own he n1
  subst e1
  have pe : s (par e) ∧ ¬ s0 (par e) := by
    rcases h.beg with ⟨k, _⟩ | k
    · exact absurd (k e he) n1
    · exact k
  intro z
  constructor
  · intro q
    by_cases q0 : s0 z
    · exact .inl q0
    · exact .inr (h.cls z q q0)
  · rintro (q | q)
    · exact h.sub z q
    · refine (q.inv (fun z => s z ∧ ¬ s0 z) ⟨he, n1⟩ fun a b ha hab => ?_).1
      rcases hab with ⟨_, rfl | rfl⟩
      · rcases h.pcl a ha.1 ha.2 with k | k | k
        · exact k
        · subst k; exact pe
        · rw [k]; exact ⟨he, n1⟩
      · exact h.mcl a ha.1 ha.2
end
/-! ### by ends in the place of places -/
def MM (g : List Int) (e : Nat) : Nat := EE g (par (AA g e))
section
variable {g : List Int} (hg : Rc65.right g = true)
include hg
theorem iMM : Inv2 (2 * g.length + 2) (MM g) := by
  refine ⟨fun e he => EE_lt hg (par_lt (AA_spec hg he).1), fun e he => ?_, fun e he q => ?_⟩
  · unfold MM
    rw [AA_EE hg (par_lt (AA_spec hg he).1), par_par, (AA_spec hg he).2]
  · have : AA g (MM g e) = par (AA g e) := by unfold MM; rw [AA_EE hg (par_lt (AA_spec hg he).1)]
    rw [q] at this
    exact par_ne _ this.symm
theorem cycles_ends {S : List Nat} (hS : Tv (2 * g.length + 2) (Rc (RW (2 * g.length + 2) par (MM g))) S) : S.length = Rc65.cycles g := by
  obtain ⟨S', hS', e⟩ := cycles_tv hg
  rw [← e]
  have toP : ∀ a b, RW (2 * g.length + 2) par (MM g) a b → RW (cfg g hg).m par (cfg g hg).W (AA g a) (AA g b) := fun a b h => by
    rcases h with ⟨h1, rfl | rfl⟩
    · refine ⟨(AA_spec hg h1).1, .inr ?_⟩
      show _ = AA g (par (EE g (AA g a)))
      rw [(AA_spec hg h1).2]
    · refine ⟨(AA_spec hg h1).1, .inl ?_⟩
      unfold MM
      rw [AA_EE hg (par_lt (AA_spec hg h1).1)]
  have toE : ∀ a b, RW (cfg g hg).m par (cfg g hg).W a b → RW (2 * g.length + 2) par (MM g) (EE g a) (EE g b) := fun a b h => by
    rcases h with ⟨h1, rfl | rfl⟩
    · refine ⟨EE_lt hg h1, .inr ?_⟩
      unfold MM
      rw [AA_EE hg h1]
    · refine ⟨EE_lt hg h1, .inl ?_⟩
      exact Cfg.E_W (c := cfg g hg) h1
  have h2 : Tv (cfg g hg).m (cfg g hg).Cy (S.map (AA g)) := by
    refine ⟨fun s hs => ?_, ?_, fun p hp => ?_⟩
    · obtain ⟨u, hu, rfl⟩ := List.mem_map.mp hs
      exact (AA_spec hg (hS.lt u hu)).1
    · refine List.Pairwise.map _ (fun a b hab => hab) ?_
      refine List.Pairwise.imp_of_mem (fun ha hb hab q => hab ?_) hS.pw
      have := Rc.map (EE g) toE q
      rw [(AA_spec hg (hS.lt _ ha)).2, (AA_spec hg (hS.lt _ hb)).2] at this
      exact this
    · obtain ⟨s, hs, hq⟩ := hS.cov (EE g p) (EE_lt hg hp)
      refine ⟨AA g s, List.mem_map.mpr ⟨s, hs, rfl⟩, ?_⟩
      have := Rc.map (AA g) toP hq
      rw [AA_EE hg hp] at this
      exact this
  have := tvlen (cfg g hg).iPar (cfg g hg).iW h2 hS'
  rw [List.length_map] at this
  exact this
end
/-- the reps so far -/
structure CO (m : Nat) (M : Nat → Nat) (s : Nat → Prop) (S : List Nat) (i : Nat) : Prop where
  lt : ∀ x ∈ S, x < m
  pw : S.Pairwise (fun a b => ¬ Rc (RW m par M) a b)
  cov : ∀ z, z < m → (s z ↔ ∃ x ∈ S, Rc (RW m par M) z x)
  all : ∀ z, z < i → s z
section
variable {m : Nat} {M : Nat → Nat} (hP : Inv2 m par) (hM : Inv2 m M)
theorem CO.tv {s : Nat → Prop} {S : List Nat} (h : CO m M s S m) : Tv m (Rc (RW m par M)) S := ⟨h.lt, h.pw, fun p hp => (h.cov p hp).mp (h.all p hp)⟩
include hP hM
theorem CO.closed {s : Nat → Prop} {S : List Nat} {i : Nat} (h : CO m M s S i) (hs : ∀ z, s z → z < m) (a b : Nat) (hab : Rc (RW m par M) a b) : s a ↔ s b := by
  have sy := fun a b => Rc.symm (RW.sy hP hM) (p := a) (q := b)
  have lt : ∀ a b, Rc (RW m par M) a b → a < m → b < m := fun a b h ha => h.inv (· < m) ha fun x y _ r => RW.lt' hP hM r
  constructor
  · intro q
    have ha := hs a q
    obtain ⟨x, hx, hr⟩ := (h.cov a ha).mp q
    exact (h.cov b (lt a b hab ha)).mpr ⟨x, hx, (sy _ _ hab).trans hr⟩
  · intro q
    have hb := hs b q
    obtain ⟨x, hx, hr⟩ := (h.cov b hb).mp q
    exact (h.cov a (lt b a (sy _ _ hab) hb)).mpr ⟨x, hx, hab.trans hr⟩
theorem CO.old {s : Nat → Prop} {S : List Nat} {i : Nat} (h : CO m M s S i) (hi : s i) : CO m M s S (i + 1) :=
  ⟨h.lt, h.pw, h.cov, fun z hz => by
    by_cases e : z = i
    · rw [e]; exact hi
    · exact h.all z (by lia)⟩
theorem CO.new {s s' : Nat → Prop} {S : List Nat} {i : Nat} (h : CO m M s S i) (hi : i < m) (hn : ¬ s i) (hs : ∀ z, s' z ↔ s z ∨ Rc (RW m par M) i z) : CO m M s' (i :: S) (i + 1) := by
  have sy := fun a b => Rc.symm (RW.sy hP hM) (p := a) (q := b)
  refine ⟨fun x hx => ?_, List.pairwise_cons.mpr ⟨fun x hx q => ?_, h.pw⟩, fun z hz => ?_, fun z hz => ?_⟩
  · rcases List.mem_cons.mp hx with rfl | hx
    · exact hi
    · exact h.lt x hx
  · exact hn ((h.cov i hi).mpr ⟨x, hx, q⟩)
  · rw [hs, h.cov z hz]
    constructor
    · rintro (⟨x, hx, hr⟩ | hr)
      · exact ⟨x, List.mem_cons_of_mem _ hx, hr⟩
      · exact ⟨i, List.mem_cons_self .., sy _ _ hr⟩
    · rintro ⟨x, hx, hr⟩
      rcases List.mem_cons.mp hx with rfl | hx
      · exact .inr (sy _ _ hr)
      · exact .inl ⟨x, hx, hr⟩
  · by_cases e : z = i
    · rw [e]; exact (hs i).mpr (.inr (.refl _))
    · exact (hs z).mpr (.inl (h.all z (by lia)))
end
end GX

set_option maxHeartbeats 1000000
set_option linter.unusedVariables false
namespace GX
/-! ### crowds, taken one after another -/
def Done1 (c : Cfg) (C : List Nat) : Prop := (∀ k ∈ C, ∀ l ∈ C, c.Cr k l) ∧ ∀ k ∈ C, ∀ l, c.Xr k l → l ∈ C
structure CrI (c : Cfg) (css : List (List Nat)) (ls : List Nat) : Prop where
  perm : (css.flatten ++ ls).Perm (List.range c.N)
  don : ∀ C ∈ css, Done1 c C
structure CrJ (c : Cfg) (css : List (List Nat)) (ks ls : List Nat) (r : Nat) : Prop where
  perm : (css.flatten ++ (ks ++ ls)).Perm (List.range c.N)
  don : ∀ C ∈ css, Done1 c C
  one : ∀ k ∈ ks, ∀ l ∈ ks, c.Cr k l
  le : r ≤ ks.length
  far : ∀ i, i < r → ∀ l ∈ ls, ¬ c.X (ks.getD i 0) l
section
variable {c : Cfg} {css : List (List Nat)} {ks ls : List Nat} {r : Nat}
theorem CrI.start : CrI c [] (List.range c.N) := ⟨.refl _, fun C hC => by cases hC⟩
theorem CrI.first {l : Nat} (h : CrI c css (l :: ls)) : CrJ c css [l] ls 0 :=
  ⟨h.perm, h.don, fun k hk m hm => by simp at hk hm; rw [hk, hm]; exact .refl _, Nat.zero_le _, fun i hi => by lia⟩
theorem CrJ.lt (h : CrJ c css ks ls r) : (∀ k ∈ ks, k < c.N) ∧ ∀ l ∈ ls, l < c.N :=
  ⟨fun k hk => List.mem_range.mp (h.perm.mem_iff.mp (by simp [hk])), fun l hl => List.mem_range.mp (h.perm.mem_iff.mp (by simp [hl]))⟩
theorem CrI.lt (h : CrI c css ls) : ∀ l ∈ ls, l < c.N := fun l hl => List.mem_range.mp (h.perm.mem_iff.mp (by simp [hl]))
theorem CrJ.next {e : Nat} {xb : Nat → Bool} (h : CrJ c css ks ls r) (hr : ks[r]? = some e) (hx : ∀ l ∈ ls, (xb l = true ↔ c.X e l)) : CrJ c css (ks ++ ls.filter xb) (ls.filter fun l => !xb l) (r + 1) := by
  have hlt := h.lt
  have hrl : r < ks.length := (List.getElem?_eq_some_iff.mp hr).1
  have hem : e ∈ ks := List.mem_of_getElem? hr
  have new : ∀ l ∈ ls.filter xb, c.Cr e l := fun l hl => by
    obtain ⟨h1, h2⟩ := List.mem_filter.mp hl
    exact .one ⟨hlt.1 e hem, hlt.2 l h1, (hx l h1).mp h2⟩
  have toE : ∀ k ∈ ks ++ ls.filter xb, c.Cr e k := fun k hk => by
    rcases List.mem_append.mp hk with hk | hk
    · exact h.one e hem k hk
    · exact new k hk
  refine ⟨?_, h.don, fun k hk l hl => (toE k hk).sy.trans (toE l hl), ?_, fun i hi l hl => ?_⟩
  · refine List.Perm.trans ?_ h.perm
    refine List.Perm.append_left _ ?_
    rw [List.append_assoc]
    exact List.Perm.append_left _ (List.filter_append_perm xb ls)
  · rw [List.length_append]; lia
  · obtain ⟨l1, l2⟩ := List.mem_filter.mp hl
    by_cases e1 : i = r
    · subst e1
      have eg : (ks ++ ls.filter xb).getD i 0 = e := by
        rw [List.getD_eq_getElem?_getD, List.getElem?_append_left hrl, hr]
        rfl
      rw [eg]
      intro q
      rw [(hx l l1).mpr q] at l2
      cases l2
    · have eg : (ks ++ ls.filter xb).getD i 0 = ks.getD i 0 := by
        rw [List.getD_eq_getElem?_getD, List.getElem?_append_left (by lia), List.getD_eq_getElem?_getD]
      rw [eg]
      exact h.far i (by lia) l l1
theorem CrJ.fin (h : CrJ c css ks ls ks.length) : CrI c (css ++ [ks]) ls := by
  have hnd : (css.flatten ++ (ks ++ ls)).Nodup := h.perm.nodup_iff.mpr List.nodup_range
  have hlt := h.lt
  refine ⟨?_, fun C hC => ?_⟩
  · have e : (css ++ [ks]).flatten ++ ls = css.flatten ++ (ks ++ ls) := by simp
    rw [e]
    exact h.perm
  · rcases List.mem_append.mp hC with hC | hC
    · exact h.don C hC
    · simp at hC
      subst hC
      refine ⟨h.one, fun k hk l hl => ?_⟩
      have hm : l ∈ css.flatten ++ (C ++ ls) := h.perm.mem_iff.mpr (List.mem_range.mpr hl.2.1)
      rcases List.mem_append.mp hm with hm | hm
      · obtain ⟨D, hD, hlD⟩ := List.mem_flatten.mp hm
        have hkD := (h.don D hD).2 l hlD k (Cfg.Xr_symm hl)
        have hk1 : k ∈ css.flatten := List.mem_flatten.mpr ⟨D, hD, hkD⟩
        have := (List.nodup_append.mp hnd).2.2 k hk1 k (List.mem_append_left _ hk)
        exact absurd rfl this
      · rcases List.mem_append.mp hm with hm | hm
        · exact hm
        · obtain ⟨i, hi⟩ := List.getElem?_of_mem hk
          have hil : i < C.length := (List.getElem?_eq_some_iff.mp hi).1
          have := h.far i hil l hm
          rw [List.getD_eq_getElem?_getD, hi] at this
          exact absurd hl.2.2 this
end
/-- all crowds -/
structure CrA (c : Cfg) (css : List (List Nat)) : Prop where
  perm : css.flatten.Perm (List.range c.N)
  don : ∀ C ∈ css, Done1 c C
theorem CrI.all {c : Cfg} {css : List (List Nat)} (h : CrI c css []) : CrA c css := ⟨by have := h.perm; rw [List.append_nil] at this; exact this, h.don⟩
theorem CrA.iff {c : Cfg} {css : List (List Nat)} (h : CrA c css) {C : List Nat} (hC : C ∈ css) {k l : Nat} (hk : k ∈ C) : l ∈ C ↔ c.Cr k l := by
  constructor
  · exact fun hl => (h.don C hC).1 k hk l hl
  · intro q
    exact q.inv (· ∈ C) hk fun a b ha hab => (h.don C hC).2 a ha b hab
end GX

set_option Elab.async false
set_option maxRecDepth 100000
set_option maxHeartbeats 2000000
namespace G
open PySem PySem.Spec PyProof.Rows L2 GM GR
open PySem.W (Codec)
def top (i : Nat) : Stmt := PySem.Challenge.pw_geneturns_s01_answers.main.body.getD i (.Pass ⟨0, 0, 0, 0⟩)
abbrev sSigned : Stmt := top 15
abbrev sIsRow : Stmt := top 16
abbrev sIsStretch : Stmt := top 17
abbrev sTurned : Stmt := top 18
abbrev sUndone : Stmt := top 19
abbrev sEndsOf : Stmt := top 20
abbrev sPlacesOf : Stmt := top 21
abbrev sPartner : Stmt := top 22
abbrev sCountBreaks : Stmt := top 23
abbrev sCountCycles : Stmt := top 24
abbrev sBondsOf : Stmt := top 25
abbrev sCross : Stmt := top 26
abbrev sCrowdsOf : Stmt := top 27
abbrev sIsHard : Stmt := top 28
abbrev sOwnersOf : Stmt := top 29
abbrev sHurdlesAmong : Stmt := top 30
abbrev sHoldsBack : Stmt := top 31
abbrev sIsFortress : Stmt := top 32
abbrev sPartsOf : Stmt := top 33
abbrev sDistanceOf : Stmt := top 34
abbrev sStretchesOf : Stmt := top 35
abbrev sFirstGood : Stmt := top 36
abbrev sPathOf : Stmt := top 37
/-- what the module's top has: constants, and no name of Python's own bound anew -/
structure Tx (mg : Str → Option Value) : Prop where
  most : ∃ t, mg "MOST_GENES" = some (.int 32 t)
  len : mg "len" = none
  sorted : mg "sorted" = none
  abs : mg "abs" = none
  list : mg "list" = none
  range : mg "range" = none
  reversed : mg "reversed" = none
  enumerate : mg "enumerate" = none
  min : mg "min" = none
  max : mg "max" = none
  any : mg "any" = none
  all : mg "all" = none
def sgn (z : Int) : Int := if 2147483648 ≤ z then z - 4294967296 else z
def spSigned : Sp := fun vs H Q _ => ∃ z : Int, vs = [.int z] ∧ Q (.int (sgn z)) H
def spIsStretch (K : PySem.W.Frag) : Sp := fun vs H Q _ => ∃ (a : Addr) (xs : List V) (i j : Int), vs = [.ref a, .int i, .int j] ∧ SqL K H a xs ∧ Q (.bl (decide (0 ≤ i ∧ i ≤ j ∧ j < (xs.length : Int)))) H
section
variable {P : Program} {w : World} {K : PySem.W.Frag} {mg : Str → Option Value} {base : Heap}
theorem scSigned : FnScope ["number"] ["number"] (defScope sSigned) := ⟨rfl, rfl, rfl, by decide +kernel, rfl, by decide +kernel, by decide +kernel⟩
theorem ok_signed {f : Addr} {fd : FuncData} (F : Fun K "signed" "signed" sSigned f fd) : FnOk P w K mg base CX0 1 f fd ["number"] spSigned := by
  refine F.ok scSigned (fun vs H Q E h => ?_) (fun cdv A outer s H vs Q E hr h => ?_)
  · obtain ⟨z, rfl, _⟩ := h
    rfl
  · obtain ⟨z, rfl, k⟩ := h
    refine ⟨_, pss_cons (ps_if (pt_cmpR op_ge (pv 0) (pe_op op_pow pe_int pe_int) (nomark _)) (pss_one (ps_ret (pe_op op_sub (pv 0) (pe_op op_pow pe_int pe_int)))) pss_nil) (pss_one (ps_ret (pv 0))), ?_⟩
    refine ⟨_, rfl, _, _, rfl, rfl, ⟨by decide, by decide, by decide⟩, _, _, rfl, rfl, _, rfl, ite2 (fun hc => ?_) (fun hc => ?_)⟩
    · have hc' : (2 : Int) ^ (31 : Int).toNat ≤ z := of_decide_eq_true hc
      refine ⟨_, rfl, _, _, rfl, rfl, ⟨by decide, by decide, by decide⟩, _, _, rfl, rfl, ?_⟩
      have e : sgn z = z - 2 ^ (32 : Int).toNat := by
        unfold sgn
        rw [if_pos (by exact hc')]
        rfl
      show Q (.int (z - 2 ^ (32 : Int).toNat)) H
      rw [← e]
      exact k
    · have hc' : ¬ (2 : Int) ^ (31 : Int).toNat ≤ z := fun q => hc (decide_eq_true q)
      refine ⟨_, rfl, ?_⟩
      have e : sgn z = z := by
        unfold sgn
        rw [if_neg (by exact hc')]
      rw [e] at k
      exact k
theorem scStretch : FnScope ["row", "i", "j"] ["row", "i", "j"] (defScope sIsStretch) := ⟨rfl, rfl, rfl, by decide +kernel, rfl, by decide +kernel, by decide +kernel⟩
theorem ok_isStretch {f : Addr} {fd : FuncData} (F : Fun K "is_stretch" "is_stretch" sIsStretch f fd) (T : Tx mg) : FnOk P w K mg base CX0 1 f fd ["row", "i", "j"] (spIsStretch K) := by
  refine F.ok scStretch (fun vs H Q E h => ?_) (fun cdv A outer s H vs Q E hr h => ?_)
  · obtain ⟨a, xs, i, j, rfl, _⟩ := h
    rfl
  · obtain ⟨a, xs, i, j, rfl, hs, k⟩ := h
    refine ⟨_, pss_one (ps_ret (pe_and (pe_cmpR op_ge (pv 1) pe_int (nomark _)) (pe_and (pe_cmpR op_ge (pv 2) (pv 1) (nomark _)) (pe_one (pe_cmpR op_lt (pv 2) (pe_callB call_len_seq (by rfl) T.len PySem.boot_len (pa_cons (pv 0) pa_nil)) (nomark _)))))), ?_⟩
    refine ⟨_, rfl, _, _, rfl, rfl, _, rfl, ite2 (fun h1 => ?_) (fun h1 => ?_)⟩
    · refine ⟨_, rfl, _, rfl, _, _, rfl, rfl, _, rfl, ite2 (fun h2 => ?_) (fun h2 => ?_)⟩
      · refine ⟨_, rfl, _, rfl, a, xs, rfl, .inl hs, _, _, rfl, rfl, ?_⟩
        have h1 : 0 ≤ i := of_decide_eq_true h1
        have h2 : i ≤ j := of_decide_eq_true h2
        have e : decide (0 ≤ i ∧ i ≤ j ∧ j < (xs.length : Int)) = decide (j < (xs.length : Int)) := by
          apply decide_eq_decide.mpr
          exact ⟨fun q => q.2.2, fun q => ⟨h1, h2, q⟩⟩
        rw [e] at k
        exact k
      · have h2 : ¬ i ≤ j := fun q => h2 (decide_eq_true q)
        rw [decide_eq_false (fun q => h2 q.2.1)] at k
        exact k
    · have h1 : ¬ 0 ≤ i := fun q => h1 (decide_eq_true q)
      rw [decide_eq_false (fun q => h1 q.1)] at k
      exact k
end
end G

set_option Elab.async false
set_option maxRecDepth 100000
set_option maxHeartbeats 2000000
namespace G
open PySem PySem.Spec PyProof.Rows L2 GM GR
def spIsRow (K : PySem.W.Frag) : Sp := fun vs H Q _ => ∃ (a : Addr) (ns : List Int), vs = [.ref a] ∧ SqL K H a (ns.map V.int) ∧ ns.length ≤ 32 ∧ ∀ H' : Hp, Same H H' → Q (.bl (decide (ns ≠ [] ∧ Rc65.right ns = true))) H'
section
variable {P : Program} {w : World} {K : PySem.W.Frag} {mg : Str → Option Value} {base : Heap}
theorem scIsRow : FnScope ["genes", "gene"] ["genes"] (defScope sIsRow) := ⟨rfl, rfl, rfl, by decide +kernel, rfl, by decide +kernel, by decide +kernel⟩
theorem ok_isRow {f : Addr} {fd : FuncData} (F : Fun K "is_row" "is_row" sIsRow f fd) (T : Tx mg) : FnOk P w K mg base CX0 1 f fd ["genes"] (spIsRow K) := by
  obtain ⟨tM, hM⟩ := T.most
  refine F.ok scIsRow (fun vs H Q E h => ?_) (fun cdv A outer s H vs Q E hr h => ?_)
  · obtain ⟨a, ns, rfl, _⟩ := h
    rfl
  · obtain ⟨a, ns, rfl, hs, hlen, k⟩ := h
    refine ⟨_, pss_cons (ps_if (pw_or (pt_cmpR op_lt (pe_callB call_len_seq (by rfl) T.len PySem.boot_len (pa_cons (pv 0) pa_nil)) pe_int (nomark _)) (pw_or1 (pt_cmpR op_gt (pe_callB call_len_seq (by rfl) T.len PySem.boot_len (pa_cons (pv 0) pa_nil)) (pe_glob (v := .int 32) (by rfl) hM ⟨_, rfl⟩) (nomark _)))).pt (pss_one (ps_ret pe_bl)) pss_nil)
      (pss_one (ps_ret (pe_cmpR (op_eqD hr.units)
        (pe_callB cr_sorted (by rfl) T.sorted b_sorted (pa_cons (pe_lc (own := [("gene", 1)]) rfl scIsRow.nd (pi_list (pv 0)) (blkOk_by (by show blkC ["genes", "gene"] (defScope sIsRow) _ _ = true; decide +kernel)) (fun _ _ _ _ _ => pg_name (i := 1) scIsRow.nd rfl (Or.inl rfl)) (fun _ _ _ _ _ => pts_nil)
          (fun _ _ _ _ _ => pe_callB call_abs (by rfl) T.abs b_abs (pa_cons (pv 1) pa_nil))) pa_nil))
        (pe_callTy (call_listR rfl) (by rfl) T.list b_list (pa_cons (pe_callTy call_range2R (by rfl) T.range b_range (pa_cons pe_int (pa_cons (pe_op op_add (pe_callB call_len_seq (by rfl) T.len PySem.boot_len (pa_cons (pv 0) pa_nil)) pe_int) pa_nil))) pa_nil)) (nomark _)))), ?_⟩
    refine ⟨_, rfl, a, _, rfl, .inl hs, _, _, rfl, rfl, _, rfl, ite2 (fun h1 => ?_) (fun h1 => ?_)⟩
    · -- no genes
      rw [List.length_map] at h1
      have h1 : ((ns.length : Nat) : Int) < 1 := of_decide_eq_true h1
      have e : ns = [] := List.eq_nil_of_length_eq_zero (by omega)
      refine iteT ?_
      have k' := k H (fun _ _ e => e)
      rw [decide_eq_false (fun q => q.1 e)] at k'
      exact k'
    · rw [List.length_map] at h1
      have h1 : ¬ ((ns.length : Nat) : Int) < 1 := fun q => h1 (decide_eq_true q)
      refine ⟨_, rfl, a, _, rfl, .inl hs, _, _, rfl, rfl, _, rfl, ite2 (fun h2 => ?_) (fun _ => ?_)⟩
      · rw [List.length_map] at h2
        have h2 : (32 : Int) < (ns.length : Nat) := of_decide_eq_true h2
        omega
      · -- sorted([..]) == list(range(..))
        refine ⟨_, rfl, a, rfl, ⟨_, hs⟩, fun D hD => lc_listFM (fun _ => true) (fun v => match v with | .int z => .int (if z < 0 then -z else z) | v => v) hs hD (by rw [List.length_map]; exact small1000 (by omega)) (fun i x H' Q' R' hx sm hq _ => ?_) ?_⟩
        · rw [List.getElem?_map] at hx
          obtain ⟨z, hz, rfl⟩ := Option.map_eq_some_iff.mp hx
          refine ⟨rfl, ?_⟩
          exact yes_if ⟨_, rfl, z, rfl, hq rfl⟩
        · have e : fm (fun _ => true) (fun v => match v with | .int z => .int (if z < 0 then -z else z) | v => v) (ns.map V.int) = (ns.map absI).map V.int := by
            unfold fm
            rw [List.filter_eq_self.mpr (fun _ _ => rfl), List.map_map, List.map_map]
            rfl
          rw [e]
          refine ⟨D, ns.map absI, rfl, SqL.of upd_same, by rw [List.length_map]; omega, fun ns' p hperm hsort hp => ?_⟩
          have s1 : Same H (upd H D (.lst ((ns.map absI).map V.int))) := same_upd hD
          have s2 := same_upd (o := .lst (ns'.map V.int)) hp
          have s12 := s1.trans s2
          refine ⟨_, rfl, a, _, rfl, .inl (s12.seq hs), _, _, rfl, rfl, _, _, rfl, fun r hr' => ⟨r, _, _, rfl, upd_same, ⟨by omega, by omega⟩, ⟨?_, ?_⟩, fun l hl => ?_⟩⟩
          · rw [List.length_map]
            omega
          · rw [List.length_map]
            omega
          · have s3 := same_upd (o := .rng 1 ((((ns.map V.int).length : Nat) : Int) + 1)) hr'
            have s4 := same_upd (o := .lst ((rngI 1 ((((ns.map V.int).length : Nat) : Int) + 1)).map V.int)) hl
            have s34 := s3.trans s4
            refine ⟨_, _, .lst (SqL.of (s34 _ _ upd_same)) (dp_ints ns'), .lst (SqL.of upd_same) (dp_ints _), ?_, ?_, ?_⟩
            · exact PySem.W.ke_shaped_ints _
            · exact PySem.W.ke_shaped_ints _
            · have e1 : rngI 1 ((((ns.map V.int).length : Nat) : Int) + 1) = ups ns.length := by
                unfold rngI ups
                rw [List.length_map]
                congr 2
                omega
              have kk := k _ (s12.trans s34)
              have e2 : PyData.eqv (PyData.list (ns'.map PyData.int)) (PyData.list ((rngI 1 ((((ns.map V.int).length : Nat) : Int) + 1)).map PyData.int)) = decide (ns ≠ [] ∧ Rc65.right ns = true) := by
                rw [e1, PyData.eqv, eqv_ints]
                refine decide_eq_decide.mpr ⟨fun q => ⟨?_, (right_sorted hperm hsort).mp q⟩, fun q => (right_sorted hperm hsort).mpr q.2⟩
                intro q2
                subst q2
                exact h1 (by simp)
              rw [e2]
              exact kk
end
end G

set_option Elab.async false
set_option maxRecDepth 100000
set_option maxHeartbeats 2000000
namespace G
open PySem PySem.Spec PyProof.Rows L2 GM GR
theorem cut_to (g : List Int) (i : Nat) (h : i ≤ g.length) : cutV (g.map V.int) none (some (i : Int)) = (g.take i).map V.int := by
  unfold cutV
  rw [HT.sIx_none, HT.sIx_nat, List.length_map, List.drop_zero, Nat.min_eq_left h, Nat.sub_zero, List.map_take]
theorem cut_from (g : List Int) (i : Nat) (h : i ≤ g.length) : cutV (g.map V.int) (some (i : Int)) none = (g.drop i).map V.int := by
  unfold cutV
  rw [HT.sIx_none, HT.sIx_nat, List.length_map, Nat.min_eq_left h, List.take_of_length_le (by simp), List.map_drop]
theorem cut_mid (g : List Int) (i j : Nat) (hi : i ≤ g.length) (h : j ≤ g.length) : cutV (g.map V.int) (some (i : Int)) (some (j : Int)) = ((g.drop i).take (j - i)).map V.int := by
  unfold cutV
  rw [HT.sIx_nat, HT.sIx_nat, List.length_map, Nat.min_eq_left h, Nat.min_eq_left hi, List.map_take, List.map_drop]
def spTurned (K : PySem.W.Frag) : Sp := fun vs H Q _ => ∃ (a : Addr) (g : List Int) (i j : Nat), vs = [.ref a, .int i, .int j] ∧ SqL K H a (g.map V.int) ∧ g.length ≤ 1000 ∧ i ≤ j ∧ j < g.length ∧
  ∀ (H' : Hp) (p : Addr), Same H H' → H p = none → H' p = some (.lst ((Rc65.turn g i j).map V.int)) → Q (.ref p) H'
section
variable {P : Program} {w : World} {K : PySem.W.Frag} {mg : Str → Option Value} {base : Heap}
theorem scTurned : FnScope ["row", "i", "j", "gene"] ["row", "i", "j"] (defScope sTurned) := ⟨rfl, rfl, rfl, by decide +kernel, rfl, by decide +kernel, by decide +kernel⟩
theorem ok_turned {f : Addr} {fd : FuncData} (F : Fun K "turned" "turned" sTurned f fd) (T : Tx mg) : FnOk P w K mg base CX0 1 f fd ["row", "i", "j"] (spTurned K) := by
  refine F.ok scTurned (fun vs H Q E h => ?_) (fun cdv A outer s H vs Q E hr h => ?_)
  · obtain ⟨a, g, i, j, rfl, _⟩ := h
    rfl
  · obtain ⟨a, g, i, j, rfl, hs, hlen, hij, hj, k⟩ := h
    refine ⟨_, pss_one (ps_ret (pe_op op_cat (pe_op op_cat (pe_slice sl_list (pv 0) po_none (po_some (pv 1)))
      (pe_lc (own := [("gene", 3)]) rfl scTurned.nd (pi_reversed (by rfl) T.reversed (pa_cons (pe_slice sl_list (pv 0) (po_some (pv 1)) (po_some (pe_op op_add (pv 2) pe_int))) pa_nil)) (blkOk_by (by show blkC ["row", "i", "j", "gene"] (defScope sTurned) _ _ = true; decide +kernel))
        (fun _ _ _ _ _ => pg_name (i := 3) scTurned.nd rfl (Or.inl rfl)) (fun _ _ _ _ _ => pts_nil) (fun _ _ _ _ _ => pe_un un_neg (pv 3)))) (pe_slice sl_list (pv 0) (po_some (pe_op op_add (pv 2) pe_int)) po_none))), ?_⟩
    refine ⟨_, rfl, _, rfl, _, rfl, a, _, rfl, hs, fun p1 n1 => ?_⟩
    rw [cut_to g i (by lia)]
    have s1 := same_upd (o := .lst ((g.take i).map V.int)) n1
    refine ⟨_, rfl, _, rfl, _, rfl, _, rfl, _, _, rfl, rfl, _, rfl, a, _, rfl, s1.seq hs, fun p2 n2 => ?_⟩
    have ej : ((j : Nat) : Int) + 1 = ((j + 1 : Nat) : Int) := by lia
    rw [ej, cut_mid g i (j + 1) (by lia) (by lia)]
    have s2 := same_upd (o := .lst (((g.drop i).take (j + 1 - i)).map V.int)) n2
    refine ⟨p2, _, rfl, SqL.of upd_same, fun D hD => lc_revFM (fun _ => true) (fun v => match v with | .int z => .int (-z) | v => v) (SqL.of upd_same) hD (by rw [List.length_map, List.length_take, List.length_drop]; exact small1000 (by lia)) (fun x H' Q' R' hx sm hq _ => ?_) ?_⟩
    · obtain ⟨z, hz, rfl⟩ := List.mem_map.mp hx
      refine ⟨rfl, ?_⟩
      exact yes_if ⟨_, rfl, z, rfl, hq rfl⟩
    · have e : fm (fun _ => true) (fun v => match v with | .int z => .int (-z) | v => v) (((g.drop i).take (j + 1 - i)).map V.int).reverse = (((g.drop i).take (j + 1 - i)).reverse.map fun x => -x).map V.int := by
        unfold fm
        rw [List.filter_eq_self.mpr (fun _ _ => rfl), ← List.map_reverse, List.map_map, List.map_map]
        rfl
      rw [e]
      have s3 := same_upd (o := .lst ((((g.drop i).take (j + 1 - i)).reverse.map fun x => -x).map V.int)) hD
      refine ⟨p1, D, _, _, rfl, rfl, s3 _ _ (s2 _ _ upd_same), upd_same, ?_, fun p3 n3 => ?_⟩
      · simp only [List.length_map, List.length_take, List.length_drop, List.length_reverse]
        exact Nat.le_of_lt (small1000 (by lia))
      · have s4 := same_upd (o := .lst ((g.take i).map V.int ++ (((g.drop i).take (j + 1 - i)).reverse.map fun x => -x).map V.int)) n3
        have s14 := ((s1.trans s2).trans s3).trans s4
        refine ⟨_, rfl, _, rfl, _, _, rfl, rfl, _, rfl, a, _, rfl, s14.seq hs, fun p4 n4 => ?_⟩
        have ej : ((j : Nat) : Int) + 1 = ((j + 1 : Nat) : Int) := by lia
        rw [ej, cut_from g (j + 1) (by lia)]
        have s5 := same_upd (o := .lst ((g.drop (j + 1)).map V.int)) n4
        refine ⟨p3, p4, _, _, rfl, rfl, s5 _ _ upd_same, upd_same, ?_, fun p5 n5 => ?_⟩
        · simp only [List.length_append, List.length_map, List.length_take, List.length_drop, List.length_reverse]
          exact Nat.le_of_lt (small1000 (by lia))
        · have s15 := s14.trans s5
          refine k _ p5 (s15.trans (same_upd n5)) (s15.free n5) ?_
          rw [upd_same]
          unfold Rc65.turn
          rw [List.map_append, List.map_append]
end
end G

set_option Elab.async false
set_option maxRecDepth 100000
set_option maxHeartbeats 2000000
namespace G
open PySem PySem.Spec PyProof.Rows L2 GM GR
def spUndone (K : PySem.W.Frag) : Sp := fun vs H Q _ => ∃ (a : Addr) (g : List Int), vs = [.ref a] ∧ SqL K H a (g.map V.int) ∧ g.length ≤ 1000 ∧ Rc65.right g = true ∧
  ∀ (H' : Hp) (p : Addr), Same H H' → H p = none → H' p = some (.lst ((Rc65.undone g).map V.int)) → Q (.ref p) H'
theorem rep_zero (n : Nat) : (List.replicate n [V.int 0]).flatten = (List.replicate n (0 : Int)).map V.int := by
  induction n with
  | zero => rfl
  | succ n ih => rw [List.replicate_succ, List.flatten_cons, ih, List.replicate_succ, List.map_cons]; rfl
theorem ixN_of {n : Nat} {z : Int} (h0 : 0 ≤ z) (h1 : z < n) : ixN n z = some z.toNat := by
  unfold ixN
  rw [if_pos h0, if_pos h1]
section
variable {P : Program} {w : World} {K : PySem.W.Frag} {mg : Str → Option Value} {base : Heap}
theorem scUndone : FnScope ["row", "result", "place", "gene"] ["row"] (defScope sUndone) := ⟨rfl, rfl, rfl, by decide +kernel, rfl, by decide +kernel, by decide +kernel⟩
theorem ok_undone {f : Addr} {fd : FuncData} (F : Fun K "undone" "undone" sUndone f fd) (T : Tx mg) : FnOk P w K mg base CX0 1 f fd ["row"] (spUndone K) := by
  refine F.ok scUndone (fun vs H Q E h => ?_) (fun cdv A outer s H vs Q E hr h => ?_)
  · obtain ⟨a, g, rfl, _⟩ := h
    rfl
  · obtain ⟨a, g, rfl, hs, hlen, hright, k⟩ := h
    refine ⟨_, pss_cons (ps_set (i := 1) scUndone.nd rfl (Or.inl rfl) (pe_op op_rep (pe_lst (pa_cons pe_int pa_nil)) (pe_callB call_len_seq (by rfl) T.len PySem.boot_len (pa_cons (pv 0) pa_nil))))
      (pss_cons (ps_for PassesOwn.never rfl (pi_enum (by rfl) T.enumerate (pa_cons (pv 0) pa_nil)) (pg_tup (n := 2) rfl (pgs_cons (pg_name (i := 2) scUndone.nd rfl (Or.inl rfl)) (pgs_cons (pg_name (i := 3) scUndone.nd rfl (Or.inl rfl)) pgs_nil)))
        (pss_one (ps_if (pt_cmpR op_gt (pv 3) pe_int (nomark _)) (pss_one (ps_asg (pe_op op_add (pv 2) pe_int) (pg_sub (pv 1) (pe_op op_sub (pv 3) pe_int) set_list)))
          (pss_one (ps_asg (pe_un un_neg (pe_op op_add (pv 2) pe_int)) (pg_sub (pv 1) (pe_op op_sub (pe_un un_neg (pv 3)) pe_int) set_list))))))
      (pss_one (ps_ret (pv 1)))), ?_⟩
    refine ⟨(by show 1 ≤ sizeLine; decide), fun l nl => ⟨_, rfl, a, _, rfl, .inl ((same_upd nl).seq hs), l, _, _, rfl, rfl, upd_same, ?_, ?_, ?_, fun p np => ?_⟩⟩
    · rw [List.length_map]; omega
    · rw [List.length_map]; omega
    · rw [List.length_map, Int.toNat_natCast, List.length_singleton]
      exact Nat.le_of_lt (small1000 (by omega))
    · rw [List.length_map, Int.toNat_natCast, rep_zero, ← undoAt_zero]
      have s1 : Same H (upd H l (.lst [.int 0])) := same_upd nl
      have hpn : H p = none := s1.free np
      have s2 : Same (upd H l (.lst [.int 0])) (upd (upd H l (.lst [.int 0])) p (.lst ((undoAt g 0).map V.int))) := same_upd np
      refine ⟨_, rfl, a, _, rfl, (s1.trans s2).seq hs, for_enum (K := K) (a := a) (xs := g.map V.int) (fun i σ H' => ∃ u v : Option V, σ = [some (.ref a), some (.ref p), u, v] ∧ Same H H' ∧ H' p = some (.lst ((undoAt g i).map V.int)))
        ⟨none, none, rfl, s1.trans s2, upd_same⟩ (fun i σ H' _ ⟨_, _, _, sm, _⟩ => sm.seq hs) ?_ ?_⟩
      · rintro i x σ H' Tp hx ⟨u, v, rfl, sm, hp⟩ hT
        rw [List.getElem?_map] at hx
        obtain ⟨z, hz, rfl⟩ := Option.map_eq_some_iff.mp hx
        have sT := same_upd (o := .tup [.int (i : Nat), .int z]) hT
        have hb := right_bound hright (List.mem_of_getElem? hz)
        have fin : ∀ y : Int, y = (if z < 0 then -((i : Int) + 1) else (i : Int) + 1) → ∀ j : Nat, j = z.natAbs - 1 → Same H (upd (upd H' Tp (.tup [.int (i : Nat), .int z])) p (.lst (((undoAt g i).map V.int).set j (.int y)))) ∧ (upd (upd H' Tp (.tup [.int (i : Nat), .int z])) p (.lst (((undoAt g i).map V.int).set j (.int y)))) p = some (.lst ((undoAt g (i + 1)).map V.int)) := fun y hy j hj => by
          subst hy hj
          refine ⟨fun b o e => ?_, ?_⟩
          · rw [upd_ne (ne_of_none e hpn)]
            exact sT _ _ (sm _ _ e)
          · rw [upd_same, ← undoAt_step hright hz, List.map_set]
        refine ⟨Tp, _, rfl, SqT.of upd_same, rfl, _, _, rfl, _, _, rfl, rfl, _, rfl, _, _, rfl, rfl, _, rfl, ite2 (fun h1 => ?_) (fun h1 => ?_)⟩
        · have h1 : 0 < z := of_decide_eq_true h1
          refine ⟨_, rfl, _, _, rfl, rfl, _, rfl, _, rfl, _, _, rfl, rfl, p, _, _, (z - 1).toNat, rfl, rfl, sT _ _ hp, ixN_of (by omega) (by rw [List.length_map, undoAt_len]; omega), ?_⟩
          obtain ⟨f1, f2⟩ := fin ((i : Int) + 1) (by rw [if_neg (by omega)]) (z - 1).toNat (by omega)
          exact ⟨_, _, rfl, f1, f2⟩
        · have h1 : ¬ 0 < z := fun q => h1 (decide_eq_true q)
          refine ⟨_, rfl, _, _, rfl, rfl, _, rfl, _, rfl, _, rfl, _, rfl, _, _, rfl, rfl, p, _, _, (-z - 1).toNat, rfl, rfl, sT _ _ hp, ixN_of (by omega) (by rw [List.length_map, undoAt_len]; omega), ?_⟩
          obtain ⟨f1, f2⟩ := fin (-((i : Int) + 1)) (by rw [if_pos (by omega)]) (-z - 1).toNat (by omega)
          exact ⟨_, _, rfl, f1, f2⟩
      · rintro σ H' ⟨u, v, rfl, sm, hp⟩
        rw [List.length_map, undoAt_all hright] at hp
        exact ⟨_, rfl, k H' p sm hpn hp⟩
end
end G

set_option Elab.async false
set_option maxRecDepth 100000
set_option maxHeartbeats 2000000
namespace G
open PySem PySem.Spec PyProof.Rows L2 GM GR
abbrev sInit : Stmt := inClass (top 38) 0
abbrev sAnswer : Stmt := inClass (top 38) 1
abbrev sAnswerOfRow : Stmt := inClass (top 38) 2
abbrev sBegin : Stmt := inClass (top 38) 3
abbrev sTakeRow : Stmt := inClass (top 38) 4
abbrev sTurn : Stmt := inClass (top 38) 5
abbrev sUndo : Stmt := inClass (top 38) 6
abbrev sGood : Stmt := inClass (top 38) 7
abbrev sPath : Stmt := inClass (top 38) 8
abbrev sCallLength : Stmt := top 39
abbrev sAnswers : Stmt := top 40
/-- a def of the text that keeps its promise -/
def Cal (P : Program) (w : World) (K : PySem.W.Frag) (mg : Str → Option Value) (base : Heap) (k : Nat) (x : Str) (ps : List Str) (sp : Sp) : Prop :=
  ∃ f fd, FnOk P w K mg base CX0 k f fd ps sp ∧ mg x = some (.ref f) ∧ PySem.W.keepIn K (.ref f) = true ∧ Binds K fd ps []
/-- a method of the class at C that keeps its promise -/
def MCal (P : Program) (w : World) (K : PySem.W.Frag) (mg : Str → Option Value) (base : Heap) (C : Addr) (k : Nat) (x : Str) (ps : List Str) (sp : Sp) : Prop :=
  ∃ f fd, FnOk P w K mg base CX0 k f fd ps sp ∧ Meth K C x f ∧ Binds K fd ps []
/-- the class Line, and more constants of the top -/
structure Tc (K : PySem.W.Frag) (mg : Str → Option Value) (C : Addr) : Prop where
  cl : Cls K C
  nR : NoAttr K C "row"
  done : ∃ t, mg "DONE" = some (.int 0 t)
  refused : ∃ t, mg "REFUSED" = some (.int (-1) t)
def lf (v : V) : List (Str × V) := putF "row" v []
theorem lf_row (v : V) : (lf v).lookup ("row" : Str) = some v := by
  unfold lf
  rw [lookup_putF, if_pos rfl]
theorem lf_no (v : V) {m : Str} (h : ¬ m = "row") : (lf v).lookup m = none := by
  unfold lf
  rw [lookup_putF, if_neg h]
  all_goals rfl
theorem lf_put (v u : V) : putF "row" u (lf v) = lf u := by
  show (if ("row" : Str) = "row" then [(("row" : Str), u)] else _) = ([("row", u)] : List (Str × V))
  rw [if_pos rfl]
def RowV (H : Hp) (v : V) (g : List Int) : Prop := (g = [] ∧ v = .non) ∨ (g ≠ [] ∧ ∃ r, v = .ref r ∧ H r = some (.lst (g.map V.int)))
/-- a Line with the row g (at v) stands at p -/
def LineAt (C : Addr) (H : Hp) (p : Addr) (v : V) (g : List Int) : Prop := (∃ dx, H p = some (.ins C dx (lf v))) ∧ RowV H v g
/-- a new list, or none -/
def Fresh (H : Hp) (v : V) : Prop := v = .non ∨ ∃ r, v = .ref r ∧ H r = none
/-- what a call of a Line reaches: its row is g' (at a v' of which N holds), the answer a new list -/
def Done (C : Addr) (H : Hp) (p : Addr) (N : V → Prop) (g' : List Int) (ans : List Int) (Q : VK) : Prop :=
  ∀ (H' : Hp) (q : Addr) (v' : V), N v' → LineAt C H' p v' g' → (∀ b o, H b = some o → b ≠ p → H' b = some o) → H q = none → H' q = some (.lst (ans.map V.int)) → Q (.ref q) H'
def spInit (C : Addr) : Sp := fun vs H Q _ => ∃ (p dx : Addr), vs = [.ref p] ∧ H p = some (.ins C dx []) ∧ ∀ H' : Hp, LineAt C H' p .non [] → (∀ b o, H b = some o → b ≠ p → H' b = some o) → Q .non H'
def spBegin (C : Addr) : Sp := fun vs H Q _ => ∃ (p : Addr) (v : V) (g : List Int), vs = [.ref p] ∧ LineAt C H p v g ∧ Done C H p (· = .non) [] [0] Q
def spTakeRow (C : Addr) : Sp := fun vs H Q _ => ∃ (p a : Addr) (v : V) (g ns : List Int), vs = [.ref p, .ref a] ∧ LineAt C H p v g ∧ H a = some (.lst (ns.map V.int)) ∧ ns.length ≤ 32 ∧
  (if ns ≠ [] ∧ Rc65.right ns = true then Done C H p (· = .ref a) ns [0] Q else Done C H p (· = v) g [-1] Q)
def spTurn (C : Addr) : Sp := fun vs H Q _ => ∃ (p : Addr) (v : V) (g : List Int) (i j : Int), vs = [.ref p, .int i, .int j] ∧ LineAt C H p v g ∧ g ≠ [] ∧ g.length ≤ 1000 ∧
  (if 0 ≤ i ∧ i ≤ j ∧ j < (g.length : Int) then Done C H p (Fresh H) (Rc65.turn g i.toNat j.toNat) [0] Q else Done C H p (· = v) g [-1] Q)
def spUndo (C : Addr) : Sp := fun vs H Q _ => ∃ (p : Addr) (v : V) (g : List Int), vs = [.ref p] ∧ LineAt C H p v g ∧ g ≠ [] ∧ g.length ≤ 1000 ∧ Rc65.right g = true ∧ Done C H p (Fresh H) (Rc65.undone g) [0] Q
theorem RowV.same {H H' : Hp} {v : V} {g : List Int} (h : RowV H v g) (s : ∀ r, v = .ref r → ∀ o, H r = some o → H' r = some o) : RowV H' v g := by
  rcases h with h | ⟨h1, r, rfl, h2⟩
  · exact .inl h
  · exact .inr ⟨h1, r, rfl, s r rfl _ h2⟩
theorem LineAt.same {C : Addr} {H H' : Hp} {p : Addr} {v : V} {g : List Int} (h : LineAt C H p v g) (s : Same H H') : LineAt C H' p v g := by
  obtain ⟨⟨dx, h1⟩, h2⟩ := h
  exact ⟨⟨dx, s _ _ h1⟩, h2.same fun r _ o e => s _ _ e⟩
theorem LineAt.ne {C : Addr} {H : Hp} {p a : Addr} {v : V} {g : List Int} {xs : List V} (h : LineAt C H p v g) (e : H a = some (.lst xs)) : a ≠ p := by
  obtain ⟨⟨dx, h1⟩, h2⟩ := h
  exact ne_of e h1 (by intro z; cases z)
/-- the row is written: a list that stands there already -/
theorem LineAt.put {C : Addr} {H : Hp} {p a dx : Addr} {v : V} {ns : List Int} (h : H p = some (.ins C dx (lf v))) (e : H a = some (.lst (ns.map V.int))) (hn : ns ≠ []) :
    LineAt C (upd H p (.ins C dx (putF "row" (.ref a) (lf v)))) p (.ref a) ns := by
  refine ⟨⟨dx, ?_⟩, .inr ⟨hn, a, rfl, ?_⟩⟩
  · rw [upd_same, lf_put]
  · rw [upd_ne (ne_of e h (by intro z; cases z))]
    exact e
section
variable {P : Program} {w : World} {K : PySem.W.Frag} {mg : Str → Option Value} {base : Heap}
theorem scInit : FnScope ["self"] ["self"] (defScope sInit) := ⟨rfl, rfl, rfl, by decide +kernel, rfl, by decide +kernel, by decide +kernel⟩
theorem ok_init {f C : Addr} {fd : FuncData} (F : Fun K "__init__" "Line.__init__" sInit f fd) (T : Tc K mg C) : FnOk P w K mg base CX0 1 f fd ["self"] (spInit C) := by
  refine F.ok scInit (fun vs H Q E h => ?_) (fun cdv A outer s H vs Q E hr h => ?_)
  · obtain ⟨p, dx, rfl, _⟩ := h
    rfl
  · obtain ⟨p, dx, rfl, hp, k⟩ := h
    refine ⟨_, pss_one (ps_fld (pv 0) pe_non rfl), ?_⟩
    refine ⟨_, rfl, p, C, dx, [], rfl, hp, T.cl, T.nR, (by show 0 < 1000; decide), ?_⟩
    exact k _ ⟨⟨dx, upd_same⟩, .inl ⟨rfl, rfl⟩⟩ fun b o e hb => by rw [upd_ne hb]; exact e
theorem scBegin : FnScope ["self"] ["self"] (defScope sBegin) := ⟨rfl, rfl, rfl, by decide +kernel, rfl, by decide +kernel, by decide +kernel⟩
theorem ok_begin {f C : Addr} {fd : FuncData} (F : Fun K "begin" "Line.begin" sBegin f fd) (T : Tc K mg C) : FnOk P w K mg base CX0 1 f fd ["self"] (spBegin C) := by
  obtain ⟨t0, h0⟩ := T.done
  refine F.ok scBegin (fun vs H Q E h => ?_) (fun cdv A outer s H vs Q E hr h => ?_)
  · obtain ⟨p, v, g, rfl, _⟩ := h
    rfl
  · obtain ⟨p, v, g, rfl, ⟨⟨dx, hp⟩, hv⟩, k⟩ := h
    refine ⟨_, pss_cons (ps_fld (pv 0) pe_non rfl) (pss_one (ps_ret (pe_lst (pa_cons (pe_glob (v := .int 0) (by rfl) h0 ⟨_, rfl⟩) pa_nil)))), ?_⟩
    refine ⟨_, rfl, p, C, dx, _, rfl, hp, T.cl, T.nR, (by show 1 < 1000; decide), (by show 1 ≤ sizeLine; decide), fun q hq => ?_⟩
    have nq : q ≠ p := fun e => by rw [e, upd_same] at hq; cases hq
    refine k _ q _ rfl ⟨⟨dx, ?_⟩, .inl ⟨rfl, rfl⟩⟩ (fun b o e hb => ?_) ?_ upd_same
    · rw [upd_ne (Ne.symm nq), upd_same, lf_put]
    · have e2 : upd H p (.ins C dx (putF "row" .non (lf v))) b = some o := by rw [upd_ne hb]; exact e
      rw [upd_ne (ne_of_none e2 hq)]
      exact e2
    · rw [upd_ne nq] at hq
      exact hq
/-- a new answer behind a row that stays -/
theorem Done.stay {C : Addr} {H H1 : Hp} {p q : Addr} {v : V} {g ans : List Int} {Q : VK} (k : Done C H p (· = v) g ans Q) (h : LineAt C H p v g) (s : Same H H1) (hq : H1 q = none) : Q (.ref q) (upd H1 q (.lst (ans.map V.int))) := by
  have s2 := s.trans (same_upd (o := .lst (ans.map V.int)) hq)
  exact k _ q _ rfl (h.same s2) (fun b o e _ => s2 _ _ e) (s.free hq) upd_same
/-- .. behind a row that is written -/
theorem Done.put {C : Addr} {H H1 : Hp} {p q a dx : Addr} {v : V} {N : V → Prop} {ns ans : List Int} {Q : VK} (k : Done C H p N ns ans Q) (hN : N (.ref a)) (hn : ns ≠ []) (s : Same H H1) (hp : H p = some (.ins C dx (lf v))) (ha : H1 a = some (.lst (ns.map V.int)))
    (hq : upd H1 p (.ins C dx (putF "row" (.ref a) (lf v))) q = none) : Q (.ref q) (upd (upd H1 p (.ins C dx (putF "row" (.ref a) (lf v)))) q (.lst (ans.map V.int))) := by
  have nq : q ≠ p := fun e => by rw [e, upd_same] at hq; cases hq
  have hq1 : H1 q = none := by rw [upd_ne nq] at hq; exact hq
  refine k _ q _ hN ((LineAt.put (s _ _ hp) ha hn).same (same_upd hq)) (fun b o e hb => ?_) (s.free hq1) upd_same
  have e2 : upd H1 p (.ins C dx (putF "row" (.ref a) (lf v))) b = some o := by rw [upd_ne hb]; exact s _ _ e
  rw [upd_ne (ne_of_none e2 hq)]
  exact e2
theorem scTakeRow : FnScope ["self", "genes"] ["self", "genes"] (defScope sTakeRow) := ⟨rfl, rfl, rfl, by decide +kernel, rfl, by decide +kernel, by decide +kernel⟩
theorem ok_takeRow {f C : Addr} {fd : FuncData} (F : Fun K "take_row" "Line.take_row" sTakeRow f fd) (T : Tc K mg C) (G1 : Cal P w K mg base 1 "is_row" ["genes"] (spIsRow K)) : FnOk P w K mg base CX0 2 f fd ["self", "genes"] (spTakeRow C) := by
  obtain ⟨t0, h0⟩ := T.done
  obtain ⟨t1, h1⟩ := T.refused
  obtain ⟨fr, frd, GR, mR, kR, bR⟩ := G1
  refine F.ok scTakeRow (fun vs H Q E h => ?_) (fun cdv A outer s H vs Q E hr h => ?_)
  · obtain ⟨p, a, v, g, ns, rfl, _⟩ := h
    rfl
  · obtain ⟨p, a, v, g, ns, rfl, hL, ha, hlen, k⟩ := h
    refine ⟨_, pss_cons (ps_if (pt_not (pt_val (pe_call GR hr rfl mR kR bR .nil pass0 (pa_cons (pv 1) pa_nil)))) (pss_one (ps_ret (pe_lst (pa_cons (pe_glob (v := .int (-1)) (by rfl) h1 ⟨_, rfl⟩) pa_nil)))) pss_nil)
      (pss_cons (ps_fld (pv 0) (pv 1) rfl) (pss_one (ps_ret (pe_lst (pa_cons (pe_glob (v := .int 0) (by rfl) h0 ⟨_, rfl⟩) pa_nil))))), ?_⟩
    refine ⟨_, rfl, a, ns, rfl, SqL.of ha, hlen, fun H1 s1 => ⟨_, rfl, ?_⟩⟩
    by_cases hc : ns ≠ [] ∧ Rc65.right ns = true
    · rw [if_pos hc] at k
      rw [decide_eq_true hc]
      refine iteF ?_
      obtain ⟨⟨dx, hp⟩, hv⟩ := hL
      refine ⟨_, rfl, _, rfl, p, C, dx, _, rfl, s1 _ _ hp, T.cl, T.nR, (by show 1 < 1000; decide), (by show 1 ≤ sizeLine; decide), fun q hq => ?_⟩
      exact k.put rfl hc.1 s1 hp (s1 _ _ ha) hq
    · rw [if_neg hc] at k
      rw [decide_eq_false hc]
      refine iteT ?_
      refine ⟨(by show 1 ≤ sizeLine; decide), fun q hq => ?_⟩
      exact k.stay hL s1 hq
theorem scTurn : FnScope ["self", "i", "j"] ["self", "i", "j"] (defScope sTurn) := ⟨rfl, rfl, rfl, by decide +kernel, rfl, by decide +kernel, by decide +kernel⟩
theorem ok_turn {f C : Addr} {fd : FuncData} (F : Fun K "turn" "Line.turn" sTurn f fd) (T : Tc K mg C) (G1 : Cal P w K mg base 1 "is_stretch" ["row", "i", "j"] (spIsStretch K)) (G2 : Cal P w K mg base 1 "turned" ["row", "i", "j"] (spTurned K)) :
    FnOk P w K mg base CX0 2 f fd ["self", "i", "j"] (spTurn C) := by
  obtain ⟨t0, h0⟩ := T.done
  obtain ⟨t1, h1⟩ := T.refused
  obtain ⟨f1, fd1, g1, m1, k1, b1⟩ := G1
  obtain ⟨f2, fd2, g2, m2, k2, b2⟩ := G2
  refine F.ok scTurn (fun vs H Q E h => ?_) (fun cdv A outer s H vs Q E hr h => ?_)
  · obtain ⟨p, v, g, i, j, rfl, _⟩ := h
    rfl
  · obtain ⟨p, v, g, i, j, rfl, hL, hg, hlen, k⟩ := h
    refine ⟨_, pss_cons (ps_if (pt_not (pt_val (pe_call g1 hr rfl m1 k1 b1 .nil pass0 (pa_cons (pe_fld (pv 0) rfl) (pa_cons (pv 1) (pa_cons (pv 2) pa_nil)))))) (pss_one (ps_ret (pe_lst (pa_cons (pe_glob (v := .int (-1)) (by rfl) h1 ⟨_, rfl⟩) pa_nil)))) pss_nil)
      (pss_cons (ps_fld (pv 0) (pe_call g2 hr rfl m2 k2 b2 .nil pass0 (pa_cons (pe_fld (pv 0) rfl) (pa_cons (pv 1) (pa_cons (pv 2) pa_nil)))) rfl) (pss_one (ps_ret (pe_lst (pa_cons (pe_glob (v := .int 0) (by rfl) h0 ⟨_, rfl⟩) pa_nil))))), ?_⟩
    obtain ⟨⟨dx, hp⟩, hv⟩ := id hL
    obtain ⟨r, rfl, hrr⟩ : ∃ r, v = .ref r ∧ H r = some (.lst (g.map V.int)) := by
      rcases hv with ⟨e, _⟩ | ⟨_, hv⟩
      · exact absurd e hg
      · exact hv
    refine ⟨_, rfl, p, C, dx, _, _, rfl, hp, T.cl, T.nR, lf_row _, _, rfl, _, rfl, r, _, i, j, rfl, SqL.of hrr, _, rfl, ?_⟩
    rw [List.length_map]
    by_cases hc : 0 ≤ i ∧ i ≤ j ∧ j < (g.length : Int)
    · rw [if_pos hc] at k
      rw [decide_eq_true hc]
      refine iteF ?_
      have ei : i = (i.toNat : Int) := by lia
      have ej : j = (j.toNat : Int) := by lia
      have tl := turn_len (g := g) (i := i.toNat) (j := j.toNat) (by lia) (by lia)
      refine ⟨_, rfl, p, C, dx, _, _, rfl, hp, T.cl, T.nR, lf_row _, _, rfl, _, rfl, r, g, i.toNat, j.toNat, ?_, SqL.of hrr, hlen, by lia, by lia, fun H1 p2 s1 n2 hp2 => ?_⟩
      · rw [← ei, ← ej]
        rfl
      · refine ⟨_, rfl, p, C, dx, _, rfl, s1 _ _ hp, T.cl, T.nR, (by show 1 < 1000; decide), (by show 1 ≤ sizeLine; decide), fun q hq => ?_⟩
        refine k.put (.inr ⟨_, rfl, n2⟩) (fun e => hg (List.eq_nil_of_length_eq_zero ?_)) s1 hp hp2 hq
        rw [← tl, e]
        rfl
    · rw [if_neg hc] at k
      rw [decide_eq_false hc]
      refine iteT ?_
      refine ⟨(by show 1 ≤ sizeLine; decide), fun q hq => ?_⟩
      exact k.stay hL (fun _ _ e => e) hq
theorem scUndo : FnScope ["self"] ["self"] (defScope sUndo) := ⟨rfl, rfl, rfl, by decide +kernel, rfl, by decide +kernel, by decide +kernel⟩
theorem ok_undo {f C : Addr} {fd : FuncData} (F : Fun K "undo" "Line.undo" sUndo f fd) (T : Tc K mg C) (G1 : Cal P w K mg base 1 "undone" ["row"] (spUndone K)) : FnOk P w K mg base CX0 2 f fd ["self"] (spUndo C) := by
  obtain ⟨t0, h0⟩ := T.done
  obtain ⟨f1, fd1, g1, m1, k1, b1⟩ := G1
  refine F.ok scUndo (fun vs H Q E h => ?_) (fun cdv A outer s H vs Q E hr h => ?_)
  · obtain ⟨p, v, g, rfl, _⟩ := h
    rfl
  · obtain ⟨p, v, g, rfl, hL, hg, hlen, hright, k⟩ := h
    refine ⟨_, pss_cons (ps_fld (pv 0) (pe_call g1 hr rfl m1 k1 b1 .nil pass0 (pa_cons (pe_fld (pv 0) rfl) pa_nil)) rfl) (pss_one (ps_ret (pe_lst (pa_cons (pe_glob (v := .int 0) (by rfl) h0 ⟨_, rfl⟩) pa_nil)))), ?_⟩
    obtain ⟨⟨dx, hp⟩, hv⟩ := id hL
    obtain ⟨r, rfl, hrr⟩ : ∃ r, v = .ref r ∧ H r = some (.lst (g.map V.int)) := by
      rcases hv with ⟨e, _⟩ | ⟨_, hv⟩
      · exact absurd e hg
      · exact hv
    refine ⟨_, rfl, p, C, dx, _, _, rfl, hp, T.cl, T.nR, lf_row _, r, g, rfl, SqL.of hrr, hlen, hright, fun H1 p2 s1 n2 hp2 => ?_⟩
    refine ⟨_, rfl, p, C, dx, _, rfl, s1 _ _ hp, T.cl, T.nR, (by show 1 < 1000; decide), (by show 1 ≤ sizeLine; decide), fun q hq => ?_⟩
    refine k.put (.inr ⟨_, rfl, n2⟩) (fun e => hg (List.eq_nil_of_length_eq_zero ?_)) s1 hp hp2 hq
    rw [← undone_len, e]
    rfl
end
end G

set_option Elab.async false
set_option maxRecDepth 100000
set_option maxHeartbeats 2000000
namespace G
open PySem PySem.Spec PyProof.Rows L2 GM GR
structure Tk (mg : Str → Option Value) : Prop where
  row : ∃ t, mg "ROW" = some (.int 1 t)
  turn : ∃ t, mg "TURN" = some (.int 3 t)
  good : ∃ t, mg "GOOD" = some (.int 7 t)
def spCallLength (K : PySem.W.Frag) : Sp := fun vs H Q _ => ∃ (a : Addr) (l : List Int) (st : Nat), vs = [.ref a, .int st] ∧ SqL K H a (l.map V.int) ∧ st < l.length ∧ (l.getD st 0 = 1 → st + 1 < l.length) ∧ Q (.int (lenAt l st)) H
/-- answer's: the call as a list, its answer a new list -/
def spAnswer (C : Addr) : Sp := fun vs H Q _ => ∃ (p a : Addr) (v : V) (g : List Int) (c : List (List Int)), vs = [.ref p, .ref a] ∧ LineAt C H p v g ∧ OkG g ∧ Form c ∧ H a = some (.lst ((PyFlat.put1 c).map V.int)) ∧
  Done C H p (fun v' => v' = v ∨ Fresh H v') (nextG g c) (ansG g c) Q
def spAnswers (K : PySem.W.Frag) : Sp := fun vs H Q _ => ∃ (a : Addr) (l : List Int), vs = [.ref a] ∧ SqL K H a (l.map V.int) ∧ l.length ≤ 30000 ∧ PyRc65.answers_asked l = true ∧ ∀ (H' : Hp) (p : Addr), H' p = some (.lst ((PyRc65.answers l).map V.int)) → Q (.ref p) H'
theorem at_get {l : List Int} {st : Nat} (h : st < l.length) : atI (l.map V.int) (st : Int) = some (.int (l.getD st 0)) := by
  refine at_of rfl ?_
  rw [List.getElem?_map, List.getElem?_eq_getElem h, List.getD_eq_getElem?_getD, List.getElem?_eq_getElem h]
  rfl
theorem int_eq {i j : Int} : (decide (V.int i = V.int j) = true) ↔ i = j := by
  rw [decide_eq_true_iff]
  exact ⟨fun e => by injection e, fun e => by rw [e]⟩
section
variable {P : Program} {w : World} {K : PySem.W.Frag} {mg : Str → Option Value} {base : Heap}
theorem scCallLength : FnScope ["calls", "start"] ["calls", "start"] (defScope sCallLength) := ⟨rfl, rfl, rfl, by decide +kernel, rfl, by decide +kernel, by decide +kernel⟩
theorem ok_callLength {f : Addr} {fd : FuncData} (F : Fun K "call_length" "call_length" sCallLength f fd) (T : Tk mg) : FnOk P w K mg base CX0 1 f fd ["calls", "start"] (spCallLength K) := by
  obtain ⟨t1, h1⟩ := T.row
  obtain ⟨t3, h3⟩ := T.turn
  obtain ⟨t7, h7⟩ := T.good
  refine F.ok scCallLength (fun vs H Q E h => ?_) (fun cdv A outer s H vs Q E hr h => ?_)
  · obtain ⟨a, l, st, rfl, _⟩ := h
    rfl
  · obtain ⟨a, l, st, rfl, hs, hlt, hlt1, k⟩ := h
    refine ⟨_, pss_cons (ps_if (pt_cmpR op_eq (pe_ix ix_list (pv 0) (pv 1) (fun _ _ => rfl)) (pe_glob (v := .int 1) (by rfl) h1 ⟨_, rfl⟩) (nomark _))
        (pss_one (ps_ret (pe_op op_add pe_int (pe_ix ix_list (pv 0) (pe_op op_add (pv 1) pe_int) (fun _ _ => rfl))))) pss_nil)
      (pss_cons (ps_if (pw_or (pt_cmpR op_eq (pe_ix ix_list (pv 0) (pv 1) (fun _ _ => rfl)) (pe_glob (v := .int 3) (by rfl) h3 ⟨_, rfl⟩) (nomark _)) (pw_or1 (pt_cmpR op_eq (pe_ix ix_list (pv 0) (pv 1) (fun _ _ => rfl)) (pe_glob (v := .int 7) (by rfl) h7 ⟨_, rfl⟩) (nomark _)))).pt
        (pss_one (ps_ret pe_int)) pss_nil)
      (pss_one (ps_ret pe_int))), ?_⟩
    refine ⟨_, rfl, _, rfl, a, _, _, _, rfl, rfl, hs, at_get hlt, rfl, _, rfl, ite2 (fun q1 => ?_) (fun q1 => ?_)⟩
    · have e1 := int_eq.mp q1
      refine ⟨_, rfl, _, rfl, _, _, rfl, rfl, a, _, _, _, rfl, rfl, hs, at_get (hlt1 e1), _, _, rfl, rfl, ?_⟩
      have e : lenAt l st = 2 + l.getD (st + 1) 0 := by
        unfold lenAt
        rw [if_pos e1]
      rw [e] at k
      exact k
    · have e1 : ¬ l.getD st 0 = 1 := fun q => q1 (int_eq.mpr q)
      refine ⟨_, rfl, _, rfl, a, _, _, _, rfl, rfl, hs, at_get hlt, rfl, _, rfl, ite2 (fun q3 => ?_) (fun q3 => ?_)⟩
      · have e3 := int_eq.mp q3
        refine iteT ?_
        have e : lenAt l st = 3 := by
          unfold lenAt
          rw [if_neg e1, if_pos (.inl e3)]
        rw [e] at k
        exact k
      · have e3 : ¬ l.getD st 0 = 3 := fun q => q3 (int_eq.mpr q)
        refine ⟨_, rfl, _, rfl, a, _, _, _, rfl, rfl, hs, at_get hlt, rfl, _, rfl, ite2 (fun q7 => ?_) (fun q7 => ?_)⟩
        · have e7 := int_eq.mp q7
          have e : lenAt l st = 3 := by
            unfold lenAt
            rw [if_neg e1, if_pos (.inr e7)]
          rw [e] at k
          exact k
        · have e7 : ¬ l.getD st 0 = 7 := fun q => q7 (int_eq.mpr q)
          have e : lenAt l st = 1 := by
            unfold lenAt
            rw [if_neg e1, if_neg (fun q => q.elim e3 e7)]
          rw [e] at k
          exact k
end
end G

set_option Elab.async false
set_option maxRecDepth 100000
set_option maxHeartbeats 2000000
namespace G
open PySem PySem.Spec PyProof.Rows L2 GM GR
/-- the loop: what is told so far, what is left -/
structure Lp (C a p t : Addr) (l : List Int) (H0 : Hp) (m : Nat) (σ : L2.St) (H : Hp) (st : Nat) (cs : List (List (List Int))) (v : V) (g out : List Int) (e an : Option V) : Prop where
  sig : σ = [some (.ref a), some (.ref p), some (.ref t), some (.int st), e, an]
  same : Same H0 H
  line : LineAt C H p v g
  sep : v ≠ .ref t
  tld : H t = some (.lst (out.map V.int))
  left : l.drop st = PyFlat.put cs
  form : ∀ c ∈ cs, Form c
  okg : OkG g
  eq : out ++ PyFlat.told (PyFlat.played S1 ⟨g⟩ (cs.map PyRc65.whole)) = PyRc65.answers l
  num : out.length + 101 * cs.length ≤ 6060
  ms : m = cs.length
theorem put_nil_of {cs : List (List (List Int))} (hf : ∀ c ∈ cs, Form c) (h : PyFlat.put cs = []) : cs = [] := by
  cases cs with
  | nil => rfl
  | cons c cs =>
    rw [put_cons] at h
    exact absurd (List.append_eq_nil_iff.mp h).1 (put1_ne (hf c (List.mem_cons_self ..)))
section
variable {P : Program} {w : World} {K : PySem.W.Frag} {mg : Str → Option Value} {base : Heap}
theorem scAnswers : FnScope ["calls", "line", "told", "start", "end", "answer"] ["calls"] (defScope sAnswers) := ⟨rfl, rfl, rfl, by decide +kernel, rfl, by decide +kernel, by decide +kernel⟩
theorem ok_answers {f C fI : Addr} {fd fdI : FuncData} {k : Nat} (hk : 2 ≤ k) (F : Fun K "answers" "answers" sAnswers f fd) (T : Tx mg) (Tc : Tc K mg C) (hC : mg "Line" = some (.ref C)) (M : Mk K C fI) (GI : FnOk P w K mg base CX0 1 fI fdI ["self"] (spInit C)) (bI : Binds K fdI ["self"] [])
    (G1 : Cal P w K mg base 1 "call_length" ["calls", "start"] (spCallLength K)) (G2 : MCal P w K mg base C k "answer" ["self", "call"] (spAnswer C)) : FnOk P w K mg base CX0 (k + 1) f fd ["calls"] (spAnswers K) := by
  obtain ⟨f1, fd1, g1, m1, k1, b1⟩ := G1
  obtain ⟨f2, fd2, g2, m2, b2⟩ := G2
  refine F.ok scAnswers (fun vs H Q E h => ?_) (fun cdv A outer s H vs Q E hr h => ?_)
  · obtain ⟨a, l, rfl, _⟩ := h
    rfl
  · obtain ⟨a, l, rfl, hs, hlen, hask, kq⟩ := h
    have hr1 : Room 1 _ := hr.mono (by lia)
    have hr2 : Room 2 _ := hr.mono hk
    refine ⟨_, pss_cons (ps_set (i := 1) scAnswers.nd rfl (Or.inl rfl) (pe_make0 M GI hr2 rfl hC bI .nil pass0))
      (pss_cons (ps_set (i := 2) scAnswers.nd rfl (Or.inl rfl) (pe_lst pa_nil))
      (pss_cons (ps_set (i := 3) scAnswers.nd rfl (Or.inl rfl) pe_int)
      (pss_cons (ps_while PassesOwn.never (pt_cmpR op_lt (pv 3) (pe_callB call_len_seq (by rfl) T.len PySem.boot_len (pa_cons (pv 0) pa_nil)) (nomark _))
        (pss_cons (ps_set (i := 4) scAnswers.nd rfl (Or.inl rfl) (pe_op op_add (pv 3) (pe_call g1 hr1 rfl m1 k1 b1 .nil pass0 (pa_cons (pv 0) (pa_cons (pv 3) pa_nil)))))
        (pss_cons (ps_set (i := 5) scAnswers.nd rfl (Or.inl rfl) (pe_meth (pv 1) Tc.cl m2 g2 hr b2 .nil pass0 (pa_cons (pe_slice sl_list (pv 0) (po_some (pv 3)) (po_some (pv 4))) pa_nil)))
        (pss_cons (ps_expr (pe_bm PySem.F.plainAttrs_list PySem.F.slot_list_append PySem.F.type_list_append mt_append (pv 2) (pa_cons (pe_callB call_len_seq (by rfl) T.len PySem.boot_len (pa_cons (pv 5) pa_nil)) pa_nil)))
        (pss_cons (ps_expr (pe_bm PySem.F.plainAttrs_list PySem.F.slot_list_extend PySem.F.type_list_extend mt_extend (pv 2) (pa_cons (pv 5) pa_nil)))
        (pss_one (ps_set (i := 3) scAnswers.nd rfl (Or.inl rfl) (pv 4))))))))
      (pss_one (ps_ret (pv 2)))))), ?_⟩
    -- line = Line()
    intro p d n0 m0 e0
    refine ⟨p, d, rfl, upd_same, fun H1 hL k1' => ⟨rfl, ?_⟩⟩
    have s1 : Same H H1 := Same.made n0 m0 k1'
    -- told = []; start = 0
    refine ⟨Nat.zero_le _, fun t ht => ?_⟩
    have s2 := same_upd (o := .lst []) ht
    obtain ⟨cs0, e0, hf0, hn0, ea0⟩ := asked_split hask
    refine ⟨fun m σ H' => ∃ st cs v g out e an, Lp C a p t l H m σ H' st cs v g out e an, ⟨cs0.length, 0, cs0, .non, [], [], none, none, ?_⟩, ?_⟩
    · exact ⟨rfl, s1.trans s2, hL.same s2, (fun z => by cases z), upd_same, by rw [List.drop_zero]; exact e0, hf0, .inl rfl, by rw [List.nil_append]; exact ea0.symm, by simp; lia, rfl⟩
    · rintro m σ H' ⟨st, cs, v, g, out, e, an, lp⟩
      obtain ⟨rfl, sm, hL', hsep, htl, hleft, hform, hok, heq, hnum, rfl⟩ := lp
      refine ⟨_, rfl, _, rfl, a, _, rfl, .inl (sm.seq hs), _, _, rfl, rfl, _, rfl, ite2 (fun hlt => ?_) (fun hlt => ?_)⟩
      · rw [List.length_map] at hlt
        have hlt : (st : Int) < (l.length : Int) := of_decide_eq_true hlt
        have hlt : st < l.length := by lia
        cases cs with
        | nil =>
          have : l.drop st = [] := hleft
          rw [List.drop_eq_nil_iff] at this
          lia
        | cons c cs =>
          have hfc : Form c := hform c (List.mem_cons_self ..)
          rw [put_cons] at hleft
          have hln := lenAt_form hfc hleft
          have hll : st + (PyFlat.put1 c).length ≤ l.length := by
            have := congrArg List.length hleft
            rw [List.length_drop, List.length_append] at this
            lia
          refine ⟨fun σ' H'' => ∃ st' v' g' out' e' an', Lp C a p t l H cs.length σ' H'' st' cs v' g' out' e' an', ?_, ?_⟩
          · rintro σ' H'' ⟨st', v', g', out', e', an', lp⟩
            exact ⟨cs.length, by simp, st', cs, v', g', out', e', an', lp⟩
          · refine ⟨_, rfl, _, rfl, _, rfl, a, l, st, rfl, sm.seq hs, hlt, fun q1 => ?_, _, _, rfl, rfl, ?_⟩
            · -- a row has its length there
              rw [show l.getD st 0 = (l.drop st).getD 0 0 from getD_drop l st 0, hleft] at q1
              cases hfc with
              | row r _ _ _ =>
                have : (PyFlat.put1 [[1], r]).length = 2 + r.length := by simp [PyFlat.put1, PyFlat.putRows, PyFlat.putRow]; lia
                lia
              | begin => exact absurd q1 (by show ¬ (0 : Int) = 1; decide)
              | genes => exact absurd q1 (by show ¬ (2 : Int) = 1; decide)
              | turn i j => exact absurd q1 (by show ¬ (3 : Int) = 1; decide)
              | undo => exact absurd q1 (by show ¬ (4 : Int) = 1; decide)
              | distance => exact absurd q1 (by show ¬ (5 : Int) = 1; decide)
              | parts => exact absurd q1 (by show ¬ (6 : Int) = 1; decide)
              | good i j => exact absurd q1 (by show ¬ (7 : Int) = 1; decide)
              | path => exact absurd q1 (by show ¬ (8 : Int) = 1; decide)
            · rw [hln]
              -- answer = line.answer(calls[start:end])
              obtain ⟨⟨dx, hp⟩, hv⟩ := id hL'
              refine ⟨_, rfl, p, dx, _, rfl, hp, lf_no _ (by decide +kernel), _, rfl, _, rfl, _, rfl, _, rfl, _, rfl, a, _, rfl, sm.seq hs, fun b hb => ?_⟩
              have ecut : cutV (l.map V.int) (some (st : Int)) (some ((st : Int) + ((PyFlat.put1 c).length : Int))) = (PyFlat.put1 c).map V.int := by
                have e1 : (st : Int) + ((PyFlat.put1 c).length : Int) = ((st + (PyFlat.put1 c).length : Nat) : Int) := by lia
                rw [e1, cut_mid l st _ (by lia) hll, hleft, Nat.add_sub_cancel_left, List.take_left]
              rw [ecut]
              have s3 := same_upd (o := .lst ((PyFlat.put1 c).map V.int)) hb
              refine ⟨p, b, v, g, c, rfl, hL'.same s3, hok, hfc, upd_same, fun H2 q v2 hv2 hL2 k2 hq hq2 => ?_⟩
              have hle := ansG_le hfc hok
              have hgo := okG_next hfc hok
              have ntp : t ≠ p := hL'.ne htl
              have sm2 : Same H H2 := fun b' o' e' => k2 _ _ (s3 _ _ (sm _ _ e')) (fun z => by rw [z, n0] at e'; cases e')
              have htl2 : H2 t = some (.lst (out.map V.int)) := k2 _ _ (s3 _ _ htl) ntp
              have ntq : t ≠ q := ne_of_none (s3 _ _ htl) hq
              have hsep2 : v2 ≠ .ref t := by
                rcases hv2 with z | z | ⟨r, z, hr⟩
                · rw [z]; exact hsep
                · rw [z]; intro z2; cases z2
                · rw [z]; intro z2; injection z2 with z2; rw [z2, s3 _ _ htl] at hr; cases hr
              rw [List.length_cons] at hnum
              -- told.append(len(answer))
              refine ⟨_, rfl, .inl ⟨rfl, _, SqL.of htl2⟩, _, rfl, q, _, rfl, .inl (SqL.of hq2), t, _, _, rfl, rfl, htl2, ?_, ?_⟩
              · rw [List.length_map, sizeLine_eq]
                lia
              · have hq3 : (upd H2 t (.lst (out.map V.int ++ [.int (((ansG g c).map V.int).length : Nat)]))) q = some (.lst ((ansG g c).map V.int)) := by
                  rw [upd_ne (Ne.symm ntq)]
                  exact hq2
                refine ⟨_, rfl, .inl ⟨rfl, _, SqL.of upd_same⟩, _, rfl, t, q, _, _, rfl, rfl, upd_same, hq3, ?_, ?_⟩
                · simp only [List.length_append, List.length_map, List.length_singleton]
                  rw [sizeLine_eq]
                  lia
                · refine ⟨_, rfl, st + (PyFlat.put1 c).length, v2, nextG g c, out ++ (((ansG g c).length : Int) :: ansG g c), some (.int ((st : Int) + ((PyFlat.put1 c).length : Int))), some (.ref q), ?_⟩
                  refine ⟨?_, fun b' o' e' => ?_, ?_, hsep2, ?_, ?_, fun c' hc' => hform c' (List.mem_cons_of_mem _ hc'), hgo, ?_, ?_, rfl⟩
                  · have e1 : (st : Int) + ((PyFlat.put1 c).length : Int) = ((st + (PyFlat.put1 c).length : Nat) : Int) := by lia
                    rw [← e1]
                    rfl
                  · have nbt : b' ≠ t := ne_of_none (s1 _ _ e') ht
                    rw [upd_upd, upd_ne nbt]
                    exact sm2 _ _ e'
                  · obtain ⟨⟨dx2, hp2⟩, hv2⟩ := hL2
                    rw [upd_upd]
                    refine ⟨⟨dx2, by rw [upd_ne (Ne.symm ntp)]; exact hp2⟩, hv2.same fun r er o eo => ?_⟩
                    rw [upd_ne (fun z => hsep2 (by rw [er, z]))]
                    exact eo
                  · rw [upd_upd, upd_same]
                    simp [List.append_assoc]
                  · rw [← List.drop_drop, hleft, List.drop_left]
                  · rw [List.append_assoc, ← heq, played_cons]
                  · simp only [List.length_append, List.length_cons]
                    lia
      · rw [List.length_map] at hlt
        have hlt : ¬ (st : Int) < (l.length : Int) := fun z => hlt (decide_eq_true z)
        have hz : l.drop st = [] := List.drop_eq_nil_iff.mpr (by lia)
        have hc0 := put_nil_of hform (hleft.symm.trans hz)
        subst hc0
        have : out = PyRc65.answers l := by
          rw [← heq]
          simp [PyFlat.played, PyFlat.told]
        rw [this] at htl
        exact ⟨_, rfl, kq _ t htl⟩
end
end G

set_option Elab.async false
set_option maxRecDepth 100000
set_option maxHeartbeats 2000000
namespace G
open PySem PySem.Spec PyProof.Rows L2 GM GR
structure Tn (mg : Str → Option Value) : Prop where
  begin : ∃ t, mg "BEGIN" = some (.int 0 t)
  row : ∃ t, mg "ROW" = some (.int 1 t)
  norow : ∃ t, mg "NO_ROW" = some (.int (-4) t)
/-- answer_of_row's: there is a row -/
def spAnswerOfRow (C : Addr) : Sp := fun vs H Q _ => ∃ (p a : Addr) (v : V) (g : List Int) (c : List (List Int)), vs = [.ref p, .ref a] ∧ LineAt C H p v g ∧ OkG g ∧ g ≠ [] ∧ Form c ∧ c ≠ [[0]] ∧ (∀ r, c ≠ [[1], r]) ∧ H a = some (.lst ((PyFlat.put1 c).map V.int)) ∧
  Done C H p (fun v' => v' = v ∨ Fresh H v') (nextG g c) (ansG g c) Q
theorem sgn_sg (z : Int) : sgn z = sg z := rfl
/-- a call's number -/
theorem head_form {c : List (List Int)} (hf : Form c) : ∃ n : Int, (PyFlat.put1 c).getD 0 0 = n ∧ 0 < (PyFlat.put1 c).length ∧ (n = 0 ↔ c = [[0]]) ∧ (n = 1 ↔ ∃ r, c = [[1], r]) := by
  cases hf with
  | begin => exact ⟨0, rfl, by decide, by simp, by simp⟩
  | row r _ _ _ => exact ⟨1, rfl, by simp [PyFlat.put1], by simp, by simp⟩
  | genes => exact ⟨2, rfl, by decide, by simp, by simp⟩
  | turn i j => exact ⟨3, rfl, by simp [PyFlat.put1], by simp, by simp⟩
  | undo => exact ⟨4, rfl, by decide, by simp, by simp⟩
  | distance => exact ⟨5, rfl, by decide, by simp, by simp⟩
  | parts => exact ⟨6, rfl, by decide, by simp, by simp⟩
  | good i j => exact ⟨7, rfl, by simp [PyFlat.put1], by simp, by simp⟩
  | path => exact ⟨8, rfl, by decide, by simp, by simp⟩
section
variable {P : Program} {w : World} {K : PySem.W.Frag} {mg : Str → Option Value} {base : Heap}
theorem Done.imp {C : Addr} {H : Hp} {p : Addr} {N N' : V → Prop} {g ans : List Int} {Q : VK} (k : Done C H p N g ans Q) (h : ∀ v, N' v → N v) : Done C H p N' g ans Q := fun H' q v' hv => k H' q v' (h v' hv)
/-- from a heap that grew -/
theorem Done.grow {C : Addr} {H H1 : Hp} {p : Addr} {N N' : V → Prop} {g ans : List Int} {Q : VK} (k : Done C H p N g ans Q) (s : Same H H1) (h : ∀ v, N' v → N v) : Done C H1 p N' g ans Q := fun H' q v' hv hL kp hq hq' =>
  k H' q v' (h v' hv) hL (fun b o e hb => kp b o (s _ _ e) hb) (s.free hq) hq'
theorem Fresh.of {H H1 : Hp} {v : V} (s : Same H H1) (h : Fresh H1 v) : Fresh H v := by
  rcases h with h | ⟨r, h1, h2⟩
  · exact .inl h
  · exact .inr ⟨r, h1, s.free h2⟩
theorem scAnswer : FnScope ["self", "call", "number"] ["self", "call"] (defScope sAnswer) := ⟨rfl, rfl, rfl, by decide +kernel, rfl, by decide +kernel, by decide +kernel⟩
theorem ok_answer {f C : Addr} {fd : FuncData} {k : Nat} (hk : 2 ≤ k) (F : Fun K "answer" "Line.answer" sAnswer f fd) (T : Tn mg) (Tc : Tc K mg C) (G1 : MCal P w K mg base C 1 "begin" ["self"] (spBegin C)) (G2 : MCal P w K mg base C 2 "take_row" ["self", "genes"] (spTakeRow C))
    (G3 : Cal P w K mg base 1 "signed" ["number"] spSigned) (G4 : MCal P w K mg base C k "answer_of_row" ["self", "call"] (spAnswerOfRow C)) : FnOk P w K mg base CX0 (k + 1) f fd ["self", "call"] (spAnswer C) := by
  obtain ⟨t0, h0⟩ := T.begin
  obtain ⟨t1, h1⟩ := T.row
  obtain ⟨t4, h4⟩ := T.norow
  obtain ⟨f1, fd1, g1, m1, b1⟩ := G1
  obtain ⟨f2, fd2, g2, m2, b2⟩ := G2
  obtain ⟨f3, fd3, g3, m3, k3, b3⟩ := G3
  obtain ⟨f4, fd4, g4, m4, b4⟩ := G4
  refine F.ok scAnswer (fun vs H Q E h => ?_) (fun cdv A outer s H vs Q E hr h => ?_)
  · obtain ⟨p, a, v, g, c, rfl, _⟩ := h
    rfl
  · obtain ⟨p, a, v, g, c, rfl, hL, hok, hf, ha, kq⟩ := h
    have hr1 : Room 1 _ := hr.mono (by omega)
    have hr2 : Room 2 _ := hr.mono hk
    obtain ⟨n, hn, hpos, n0, n1⟩ := head_form hf
    refine ⟨_, pss_cons (ps_if (pt_cmpR op_eq (pe_ix ix_list (pv 1) pe_int (fun _ _ => rfl)) (pe_glob (v := .int 0) (by rfl) h0 ⟨_, rfl⟩) (nomark _)) (pss_one (ps_ret (pe_meth0 (pv 0) Tc.cl m1 g1 hr1 b1 .nil pass0))) pss_nil)
      (pss_cons (ps_if (pt_cmpR op_eq (pe_ix ix_list (pv 1) pe_int (fun _ _ => rfl)) (pe_glob (v := .int 1) (by rfl) h1 ⟨_, rfl⟩) (nomark _))
        (pss_one (ps_ret (pe_meth (pv 0) Tc.cl m2 g2 hr2 b2 .nil pass0 (pa_cons (pe_lc (own := [("number", 2)]) rfl scAnswer.nd (pi_list (pe_slice sl_list (pv 1) (po_some pe_int) po_none)) (blkOk_by (by show blkC ["self", "call", "number"] (defScope sAnswer) _ _ = true; decide +kernel))
          (fun _ _ _ _ _ => pg_name (i := 2) scAnswer.nd rfl (Or.inl rfl)) (fun _ _ _ _ _ => pts_nil) (fun _ _ _ _ _ => pe_call g3 hr1 rfl m3 k3 b3 .nil pass0 (pa_cons (pv 2) pa_nil))) pa_nil)))) pss_nil)
      (pss_cons (ps_if (pt_cmpR op_isN (pe_fld (pv 0) rfl) pe_non (nomark _)) (pss_one (ps_ret (pe_lst (pa_cons (pe_glob (v := .int (-4)) (by rfl) h4 ⟨_, rfl⟩) pa_nil)))) pss_nil)
      (pss_one (ps_ret (pe_meth (pv 0) Tc.cl m4 g4 hr b4 .nil pass0 (pa_cons (pv 1) pa_nil)))))), ?_⟩
    have hat : atI ((PyFlat.put1 c).map V.int) 0 = some (.int n) := by
      have := at_get (l := PyFlat.put1 c) (st := 0) hpos
      rw [hn] at this
      exact this
    obtain ⟨⟨dx, hp⟩, hv⟩ := id hL
    refine ⟨_, rfl, a, _, _, _, rfl, rfl, SqL.of ha, hat, rfl, _, rfl, ite2 (fun q0 => ?_) (fun q0 => ?_)⟩
    · have e0 := n0.mp (int_eq.mp q0)
      subst e0
      refine ⟨_, rfl, p, dx, _, rfl, hp, lf_no _ (by decide +kernel), p, v, g, rfl, hL, ?_⟩
      rw [(step_begin g).1, (step_begin g).2] at kq
      exact kq.imp fun v' e => .inr (.inl e)
    · have c0 : c ≠ [[0]] := fun e => q0 (int_eq.mpr (n0.mpr e))
      refine ⟨_, rfl, a, _, _, _, rfl, rfl, SqL.of ha, hat, rfl, _, rfl, ite2 (fun q1 => ?_) (fun q1 => ?_)⟩
      · obtain ⟨r, e1⟩ := n1.mp (int_eq.mp q1)
        subst e1
        cases hf with
        | row r a1 a2 a3 =>
          refine ⟨_, rfl, p, dx, _, rfl, hp, lf_no _ (by decide +kernel), _, rfl, _, rfl, a, _, rfl, SqL.of ha, fun b hb => ?_⟩
          have ecut : cutV ((PyFlat.put1 [[1], r]).map V.int) (some 2) none = r.map V.int := by
            have e := cut_from (PyFlat.put1 [[1], r]) 2 (by simp [PyFlat.put1, PyFlat.putRows, PyFlat.putRow])
            have e2 : (PyFlat.put1 [[1], r]).drop 2 = r := by simp [PyFlat.put1, PyFlat.putRows, PyFlat.putRow]
            rw [e2] at e
            exact e
          rw [ecut]
          have s1 := same_upd (o := .lst (r.map V.int)) hb
          refine ⟨b, rfl, ⟨_, SqL.of upd_same⟩, fun D hD => lc_listFM (fun _ => true) (fun v => match v with | .int z => .int (sg z) | v => v) (SqL.of upd_same) hD (by rw [List.length_map]; exact small1000 (by omega)) (fun i x H' Q' R' hx sm hq _ => ?_) ?_⟩
          · rw [List.getElem?_map] at hx
            obtain ⟨z, hz, rfl⟩ := Option.map_eq_some_iff.mp hx
            refine ⟨rfl, ?_⟩
            exact yes_if ⟨_, rfl, z, rfl, hq rfl⟩
          · have e : fm (fun _ => true) (fun v => match v with | .int z => .int (sg z) | v => v) (r.map V.int) = (r.map sg).map V.int := by
              unfold fm
              rw [List.filter_eq_self.mpr (fun _ _ => rfl), List.map_map, List.map_map]
              rfl
            rw [e]
            have s2 := s1.trans (same_upd (o := .lst ((r.map sg).map V.int)) hD)
            refine ⟨p, D, v, g, r.map sg, rfl, hL.same s2, upd_same, by rw [List.length_map]; exact a1, ?_⟩
            have st := step_row g a1 a2
            by_cases hc : r.map sg ≠ [] ∧ Rc65.right (r.map sg) = true
            · rw [if_pos hc] at st ⊢
              rw [show nextG g [[1], r] = r.map sg from congrArg Prod.fst st, show ansG g [[1], r] = [0] from congrArg Prod.snd st] at kq
              exact kq.grow s2 fun v' e => .inr (.inr ⟨D, e, s1.free hD⟩)
            · rw [if_neg hc] at st ⊢
              rw [show nextG g [[1], r] = g from congrArg Prod.fst st, show ansG g [[1], r] = [-1] from congrArg Prod.snd st] at kq
              exact kq.grow s2 fun v' e => .inl e
      · have c1 : ∀ r, c ≠ [[1], r] := fun r e => q1 (int_eq.mpr (n1.mpr ⟨r, e⟩))
        refine ⟨_, rfl, p, C, dx, _, _, rfl, hp, Tc.cl, Tc.nR, lf_row _, rfl, _, rfl, ite2 (fun q2 => ?_) (fun q2 => ?_)⟩
        · have ev : v = .non := of_decide_eq_true q2
          have eg : g = [] := by
            rcases hv with ⟨e, _⟩ | ⟨_, r, e, _⟩
            · exact e
            · rw [e] at ev; cases ev
          subst eg
          refine ⟨(by show 1 ≤ sizeLine; decide), fun q hq => ?_⟩
          rw [(step_none hf c0 c1).1, (step_none hf c0 c1).2] at kq
          exact (kq.imp fun v' e => .inl e).stay hL (fun _ _ e => e) hq
        · have eg : g ≠ [] := by
            rcases hv with ⟨_, e⟩ | ⟨e, _⟩
            · exact absurd (decide_eq_true e) q2
            · exact e
          refine ⟨_, rfl, p, dx, _, rfl, hp, lf_no _ (by decide +kernel), _, rfl, p, a, v, g, c, rfl, hL, hok, eg, hf, c0, c1, ha, kq⟩
end
end G

set_option Elab.async false
set_option maxRecDepth 100000
set_option maxHeartbeats 2000000
namespace G
open PySem PySem.Spec PyProof.Rows L2 GM GR
abbrev nI (l : List Nat) : List Int := Rc65.ints l
theorem ints_len (l : List Nat) : (nI l).length = l.length := List.length_map _
theorem ints_app (l m : List Nat) : nI (l ++ m) = nI l ++ nI m := List.map_append
theorem bx : ∀ {n : Nat}, n < 64 → Builtin.bitXor (n : Int) 1 = ((Rc65.beside n : Nat) : Int) := by
  have h : ∀ n : Fin 64, Builtin.bitXor (n.val : Int) 1 = ((Rc65.beside n.val : Nat) : Int) := by decide +kernel
  exact fun {n} hn => h ⟨n, hn⟩
def spPartner : Sp := fun vs H Q _ => ∃ n : Nat, vs = [.int n] ∧ n < 64 ∧ Q (.int (Rc65.beside n : Nat)) H
/-- a new list of nI -/
def NewL (H : Hp) (ns : List Int) (Q : VK) : Prop := ∀ (H' : Hp) (p : Addr), Same H H' → H p = none → H' p = some (.lst (ns.map V.int)) → Q (.ref p) H'
def spEndsOf (K : PySem.W.Frag) : Sp := fun vs H Q _ => ∃ (a : Addr) (g : List Int), vs = [.ref a] ∧ SqL K H a (g.map V.int) ∧ g.length ≤ 10 ∧ Rc65.right g = true ∧ NewL H (nI (Rc65.ends g)) Q
def spPlacesOf (K : PySem.W.Frag) : Sp := fun vs H Q _ => ∃ (a : Addr) (g : List Int), vs = [.ref a] ∧ SqL K H a ((nI (Rc65.ends g)).map V.int) ∧ g.length ≤ 10 ∧ Rc65.right g = true ∧ NewL H (nI ((List.range (2 * g.length + 2)).map (GX.AA g))) Q
section
variable {P : Program} {w : World} {K : PySem.W.Frag} {mg : Str → Option Value} {base : Heap}
theorem scPartner : FnScope ["number"] ["number"] (defScope sPartner) := ⟨rfl, rfl, rfl, by decide +kernel, rfl, by decide +kernel, by decide +kernel⟩
theorem ok_partner {f : Addr} {fd : FuncData} (F : Fun K "partner" "partner" sPartner f fd) : FnOk P w K mg base CX0 1 f fd ["number"] spPartner := by
  refine F.ok scPartner (fun vs H Q E h => ?_) (fun cdv A outer s H vs Q E hr h => ?_)
  · obtain ⟨n, rfl, _⟩ := h
    rfl
  · obtain ⟨n, rfl, hn, k⟩ := h
    refine ⟨_, pss_one (ps_ret (pe_op op_xor (pv 0) pe_int)), ?_⟩
    refine ⟨_, rfl, _, _, rfl, rfl, ?_⟩
    show Q (.int (Builtin.bitXor (n : Int) 1)) H
    rw [bx hn]
    exact k
theorem scEndsOf : FnScope ["row", "ends", "gene"] ["row"] (defScope sEndsOf) := ⟨rfl, rfl, rfl, by decide +kernel, rfl, by decide +kernel, by decide +kernel⟩
theorem ends_snoc {g : List Int} {i : Nat} {z : Int} (hz : g[i]? = some z) : (g.take (i + 1)).flatMap GX.endsF = (g.take i).flatMap GX.endsF ++ GX.endsF z := by
  rw [take_snoc hz, List.flatMap_append, List.flatMap_cons, List.flatMap_nil, List.append_nil]
theorem ok_endsOf {f : Addr} {fd : FuncData} (F : Fun K "ends_of" "ends_of" sEndsOf f fd) (T : Tx mg) : FnOk P w K mg base CX0 1 f fd ["row"] (spEndsOf K) := by
  refine F.ok scEndsOf (fun vs H Q E h => ?_) (fun cdv A outer s H vs Q E hr h => ?_)
  · obtain ⟨a, g, rfl, _⟩ := h
    rfl
  · obtain ⟨a, g, rfl, hs, hlen, hright, k⟩ := h
    refine ⟨_, pss_cons (ps_set (i := 1) scEndsOf.nd rfl (Or.inl rfl) (pe_lst (pa_cons pe_int pa_nil)))
      (pss_cons (ps_for PassesOwn.never rfl (pi_list (pv 0)) (pg_name (i := 2) scEndsOf.nd rfl (Or.inl rfl))
        (pss_one (ps_if (pt_cmpR op_gt (pv 2) pe_int (nomark _))
          (pss_one (ps_expr (pe_bm PySem.F.plainAttrs_list PySem.F.slot_list_extend PySem.F.type_list_extend mt_extend (pv 1) (pa_cons (pe_lst (pa_cons (pe_op op_sub (pe_op op_mul pe_int (pv 2)) pe_int) (pa_cons (pe_op op_mul pe_int (pv 2)) pa_nil))) pa_nil))))
          (pss_one (ps_expr (pe_bm PySem.F.plainAttrs_list PySem.F.slot_list_extend PySem.F.type_list_extend mt_extend (pv 1) (pa_cons (pe_lst (pa_cons (pe_op op_mul (pe_un un_neg pe_int) (pv 2)) (pa_cons (pe_op op_sub (pe_op op_mul (pe_un un_neg pe_int) (pv 2)) pe_int) pa_nil))) pa_nil)))))))
      (pss_cons (ps_expr (pe_bm PySem.F.plainAttrs_list PySem.F.slot_list_append PySem.F.type_list_append mt_append (pv 1) (pa_cons (pe_op op_add (pe_op op_mul pe_int (pe_callB call_len_seq (by rfl) T.len PySem.boot_len (pa_cons (pv 0) pa_nil))) pe_int) pa_nil)))
      (pss_one (ps_ret (pv 1))))), ?_⟩
    refine ⟨(by show 1 ≤ sizeLine; decide), fun p np => ?_⟩
    have s1 := same_upd (o := .lst [.int 0]) np
    refine ⟨_, rfl, a, rfl, ⟨_, s1.seq hs⟩, for_list (K := K) (a := a) (xs := g.map V.int) (fun i σ H' => ∃ u : Option V, σ = [some (.ref a), some (.ref p), u] ∧ Same H H' ∧ H' p = some (.lst ((nI (0 :: (g.take i).flatMap GX.endsF)).map V.int)))
      ⟨none, rfl, s1, upd_same⟩ (fun i σ H' _ ⟨_, _, sm, _⟩ => sm.seq hs) ?_ ?_⟩
    · rintro i x σ H' hx ⟨u, rfl, sm, hp⟩
      rw [List.getElem?_map] at hx
      obtain ⟨z, hz, rfl⟩ := Option.map_eq_some_iff.mp hx
      have hb := right_bound hright (List.mem_of_getElem? hz)
      have hi : i < g.length := (List.getElem?_eq_some_iff.mp hz).1
      have hsz : ((nI (0 :: (g.take i).flatMap GX.endsF)).map V.int).length ≤ 30 := by
        rw [List.length_map, ints_len, List.length_cons, GX.flat_len, List.length_take]
        lia
      have fin : ∀ (q : Addr) (x y : Int), H' q = none → [x, y] = nI (GX.endsF z) → ∀ (T : L2.St → Hp → Prop), (∀ σ2 H2, (∃ u : Option V, σ2 = [some (.ref a), some (.ref p), u] ∧ Same H H2 ∧ H2 p = some (.lst ((nI (0 :: (g.take (i + 1)).flatMap GX.endsF)).map V.int))) → T σ2 H2) →
          (upd H' q (.lst [.int x, .int y])) p = some (.lst ((nI (0 :: (g.take i).flatMap GX.endsF)).map V.int)) ∧ T [some (.ref a), some (.ref p), some (.int z)] (upd (upd H' q (.lst [.int x, .int y])) p (.lst ((nI (0 :: (g.take i).flatMap GX.endsF)).map V.int ++ [.int x, .int y]))) := fun q x y nq exy T hT => by
        have sq := same_upd (o := .lst [.int x, .int y]) nq
        refine ⟨sq _ _ hp, hT _ _ ⟨_, rfl, fun b o e => ?_, ?_⟩⟩
        · rw [upd_ne (ne_of_none e np)]
          exact sq _ _ (sm _ _ e)
        · rw [upd_same, ends_snoc hz, ← List.cons_append, ints_app, List.map_append, ← exy]
          rfl
      refine ⟨_, rfl, _, _, rfl, rfl, _, rfl, ite2 (fun h1 => ?_) (fun h1 => ?_)⟩
      · have h1 : 0 < z := of_decide_eq_true h1
        have e : [2 * z - 1, 2 * z] = nI (GX.endsF z) := by
          unfold GX.endsF nI Rc65.ints
          rw [if_pos h1]
          simp
          lia
        refine ⟨_, rfl, .inl ⟨rfl, _, SqL.of hp⟩, _, rfl, _, _, rfl, rfl, .inl ⟨by decide, by decide⟩, _, _, rfl, rfl, _, rfl, _, _, rfl, rfl, .inl ⟨by decide, by decide⟩, (by show 2 ≤ sizeLine; decide), fun q nq => ?_⟩
        obtain ⟨f1, f2⟩ := fin q _ _ nq e _ (fun σ2 H2 h => h)
        exact ⟨p, q, _, _, rfl, rfl, f1, upd_same, Nat.le_of_lt (small1000 (by simp only [List.length_cons, List.length_nil]; lia)), f2⟩
      · have h1 : ¬ 0 < z := fun q => h1 (decide_eq_true q)
        have e : [-2 * z, -2 * z - 1] = nI (GX.endsF z) := by
          unfold GX.endsF nI Rc65.ints
          rw [if_neg h1]
          simp
          lia
        refine ⟨_, rfl, .inl ⟨rfl, _, SqL.of hp⟩, _, rfl, _, rfl, _, _, rfl, rfl, .inl ⟨by decide, by decide⟩, _, rfl, _, rfl, _, _, rfl, rfl, .inl ⟨by decide, by decide⟩, _, _, rfl, rfl, (by show 2 ≤ sizeLine; decide), fun q nq => ?_⟩
        obtain ⟨f1, f2⟩ := fin q _ _ nq e _ (fun σ2 H2 h => h)
        exact ⟨p, q, _, _, rfl, rfl, f1, upd_same, Nat.le_of_lt (small1000 (by simp only [List.length_cons, List.length_nil]; lia)), f2⟩
    · rintro σ H' ⟨u, rfl, sm, hp⟩
      rw [List.length_map, List.take_length] at hp
      refine ⟨_, rfl, .inl ⟨rfl, _, SqL.of hp⟩, _, rfl, a, _, rfl, .inl (sm.seq hs), _, _, rfl, rfl, .inl ⟨by decide, by decide⟩, _, _, rfl, rfl, p, _, _, rfl, rfl, hp, small1000 ?_, ?_⟩
      · rw [List.length_map, ints_len, List.length_cons, GX.flat_len]
        lia
      · refine ⟨_, rfl, k _ p (fun b o e => ?_) np ?_⟩
        · rw [upd_ne (ne_of_none e np)]
          exact sm _ _ e
        · rw [upd_same, GX.ends_eq, ← List.cons_append, ints_app, List.map_append]
          congr 3
          simp [nI, Rc65.ints]
end
end G

set_option Elab.async false
set_option maxRecDepth 100000
set_option maxHeartbeats 2000000
namespace G
open PySem PySem.Spec PyProof.Rows L2 GM GR
def plAt (g : List Int) (i : Nat) : List Nat := (List.range (2 * g.length + 2)).map fun v => if GX.AA g v < i then GX.AA g v else 0
theorem plAt_len (g : List Int) (i : Nat) : (plAt g i).length = 2 * g.length + 2 := by simp [plAt]
theorem plAt_zero (g : List Int) : nI (plAt g 0) = List.replicate (2 * g.length + 2) (0 : Int) := by
  unfold plAt nI Rc65.ints
  rw [List.eq_replicate_iff]
  refine ⟨by simp, fun b hb => ?_⟩
  rw [List.map_map] at hb
  obtain ⟨k, _, rfl⟩ := List.mem_map.mp hb
  simp
theorem plAt_all {g : List Int} (h : Rc65.right g = true) : plAt g (2 * g.length + 2) = (List.range (2 * g.length + 2)).map (GX.AA g) := by
  unfold plAt
  refine List.map_congr_left fun v hv => ?_
  rw [if_pos (GX.AA_spec h (List.mem_range.mp hv)).1]
theorem plAt_step {g : List Int} (h : Rc65.right g = true) {i : Nat} (hi : i < 2 * g.length + 2) : (plAt g i).set (GX.EE g i) i = plAt g (i + 1) := by
  have hE := GX.EE_lt h hi
  have hA := GX.AA_EE h hi
  refine List.ext_getElem? fun k => ?_
  by_cases hk : k < 2 * g.length + 2
  · by_cases e : GX.EE g i = k
    · subst e
      rw [List.getElem?_set_self (by rw [plAt_len]; exact hk)]
      unfold plAt
      rw [List.getElem?_map, List.getElem?_range hk]
      show some i = some (if GX.AA g (GX.EE g i) < i + 1 then GX.AA g (GX.EE g i) else 0)
      rw [hA, if_pos (by lia)]
    · rw [List.getElem?_set_ne e]
      unfold plAt
      rw [List.getElem?_map, List.getElem?_map, List.getElem?_range hk]
      show some (if GX.AA g k < i then GX.AA g k else 0) = some (if GX.AA g k < i + 1 then GX.AA g k else 0)
      have hne : GX.AA g k ≠ i := fun q => e (by rw [← q]; exact (GX.AA_spec h hk).2)
      by_cases hlt : GX.AA g k < i
      · rw [if_pos hlt, if_pos (by lia)]
      · rw [if_neg hlt, if_neg (by lia)]
  · rw [List.getElem?_eq_none (by rw [List.length_set, plAt_len]; lia), List.getElem?_eq_none (by rw [plAt_len]; lia)]
theorem ends_get {g : List Int} {i : Nat} (hi : i < 2 * g.length + 2) : (Rc65.ends g)[i]? = some (GX.EE g i) := by
  unfold GX.EE
  rw [List.getD_eq_getElem?_getD, List.getElem?_eq_getElem (by rw [ends_len]; exact hi)]
  rfl
theorem nI_get {l : List Nat} {i : Nat} {v : Nat} (h : l[i]? = some v) : ((nI l).map V.int)[i]? = some (.int (v : Nat)) := by
  unfold nI Rc65.ints
  rw [List.getElem?_map, List.getElem?_map, h]
  rfl
section
variable {P : Program} {w : World} {K : PySem.W.Frag} {mg : Str → Option Value} {base : Heap}
theorem scPlacesOf : FnScope ["ends", "places", "place", "end"] ["ends"] (defScope sPlacesOf) := ⟨rfl, rfl, rfl, by decide +kernel, rfl, by decide +kernel, by decide +kernel⟩
theorem ok_placesOf {f : Addr} {fd : FuncData} (F : Fun K "places_of" "places_of" sPlacesOf f fd) (T : Tx mg) : FnOk P w K mg base CX0 1 f fd ["ends"] (spPlacesOf K) := by
  refine F.ok scPlacesOf (fun vs H Q E h => ?_) (fun cdv A outer s H vs Q E hr h => ?_)
  · obtain ⟨a, g, rfl, _⟩ := h
    rfl
  · obtain ⟨a, g, rfl, hs, hlen, hright, k⟩ := h
    refine ⟨_, pss_cons (ps_set (i := 1) scPlacesOf.nd rfl (Or.inl rfl) (pe_op op_rep (pe_lst (pa_cons pe_int pa_nil)) (pe_callB call_len_seq (by rfl) T.len PySem.boot_len (pa_cons (pv 0) pa_nil))))
      (pss_cons (ps_for PassesOwn.never rfl (pi_enum (by rfl) T.enumerate (pa_cons (pv 0) pa_nil)) (pg_tup (n := 2) rfl (pgs_cons (pg_name (i := 2) scPlacesOf.nd rfl (Or.inl rfl)) (pgs_cons (pg_name (i := 3) scPlacesOf.nd rfl (Or.inl rfl)) pgs_nil)))
        (pss_one (ps_asg (pv 2) (pg_sub (pv 1) (pv 3) set_list))))
      (pss_one (ps_ret (pv 1)))), ?_⟩
    have hul : ((nI (Rc65.ends g)).map V.int).length = 2 * g.length + 2 := by rw [List.length_map, ints_len, ends_len]
    refine ⟨(by show 1 ≤ sizeLine; decide), fun l nl => ⟨_, rfl, a, _, rfl, .inl ((same_upd nl).seq hs), l, _, _, rfl, rfl, upd_same, ?_, ?_, ?_, fun p np => ?_⟩⟩
    · rw [hul]; lia
    · rw [hul]; lia
    · rw [hul, Int.toNat_natCast, List.length_singleton]
      exact Nat.le_of_lt (small1000 (by lia))
    · rw [hul, Int.toNat_natCast, rep_zero, ← plAt_zero]
      have s1 : Same H (upd H l (.lst [.int 0])) := same_upd nl
      have hpn : H p = none := s1.free np
      have s2 : Same (upd H l (.lst [.int 0])) (upd (upd H l (.lst [.int 0])) p (.lst ((nI (plAt g 0)).map V.int))) := same_upd np
      refine ⟨_, rfl, a, _, rfl, (s1.trans s2).seq hs, for_enum (K := K) (a := a) (xs := (nI (Rc65.ends g)).map V.int) (fun i σ H' => ∃ u v : Option V, σ = [some (.ref a), some (.ref p), u, v] ∧ Same H H' ∧ H' p = some (.lst ((nI (plAt g i)).map V.int)))
        ⟨none, none, rfl, s1.trans s2, upd_same⟩ (fun i σ H' _ ⟨_, _, _, sm, _⟩ => sm.seq hs) ?_ ?_⟩
      · rintro i x σ H' Tp hx ⟨u, v, rfl, sm, hp⟩ hT
        have hi : i < 2 * g.length + 2 := by rw [← hul]; exact (List.getElem?_eq_some_iff.mp hx).1
        rw [nI_get (ends_get hi)] at hx
        obtain rfl := Option.some.inj hx
        have sT := same_upd (o := .tup [.int (i : Nat), .int (GX.EE g i : Nat)]) hT
        have hE := GX.EE_lt hright hi
        refine ⟨Tp, _, rfl, SqT.of upd_same, rfl, _, _, rfl, _, _, rfl, rfl, _, rfl, _, rfl, _, rfl, p, _, _, GX.EE g i, rfl, rfl, sT _ _ hp, ?_, ?_⟩
        · have := ixN_of (n := ((nI (plAt g i)).map V.int).length) (z := ((GX.EE g i : Nat) : Int)) (by lia) (by rw [List.length_map, ints_len, plAt_len]; lia)
          rw [Int.toNat_natCast] at this
          exact this
        · refine ⟨_, _, rfl, fun b o e => ?_, ?_⟩
          · rw [upd_ne (ne_of_none e hpn)]
            exact sT _ _ (sm _ _ e)
          · rw [upd_same, ← plAt_step hright hi]
            unfold nI Rc65.ints
            rw [List.map_set, List.map_set]
      · rintro σ H' ⟨u, v, rfl, sm, hp⟩
        rw [hul, plAt_all hright] at hp
        exact ⟨_, rfl, k H' p sm hpn hp⟩
end
end G

set_option Elab.async false
set_option maxRecDepth 100000
set_option maxHeartbeats 2000000
namespace G
open PySem PySem.Spec PyProof.Rows L2 GM GR
/-! ### breaks -/
def brk (g : List Int) (k : Nat) : Bool := GX.EE g (2 * k + 1) != Rc65.beside (GX.EE g (2 * k))
theorem even_filter (f : Nat → Bool) : ∀ N : Nat, ((List.range (2 * N)).filter fun p => p % 2 == 0 && f p).length = ((List.range N).filter fun k => f (2 * k)).length
  | 0 => rfl
  | N + 1 => by
    have ih := even_filter f N
    rw [show 2 * (N + 1) = 2 * N + 1 + 1 by lia, List.range_succ, List.range_succ, List.range_succ, List.filter_append, List.filter_append, List.filter_append, List.length_append, List.length_append, List.length_append, ih]
    have e1 : ((2 * N + 1) % 2 == 0) = false := by
      have : (2 * N + 1) % 2 = 1 := by lia
      rw [this]; rfl
    have e2 : ((2 * N) % 2 == 0) = true := by
      have : (2 * N) % 2 = 0 := by lia
      rw [this]; rfl
    rw [List.filter_cons, List.filter_cons, List.filter_cons, e1, e2]
    cases f (2 * N) <;> simp
theorem breaks_eq {g : List Int} (h : Rc65.right g = true) : Rc65.breaks g = ((List.range (g.length + 1)).filter (brk g)).length := by
  unfold Rc65.breaks
  show ((List.range (Rc65.ends g).length).filter fun p => p % 2 == 0 && Rc65.wanted (Rc65.ends g) p != Rc65.beside p).length = _
  rw [ends_len, show 2 * g.length + 2 = 2 * (g.length + 1) by lia, even_filter]
  congr 1
  refine List.filter_congr fun k hk => ?_
  have hk := List.mem_range.mp hk
  have h1 : 2 * k < 2 * g.length + 2 := by lia
  have h2 : 2 * k + 1 < 2 * g.length + 2 := by lia
  have hp : Rc65.beside (2 * k) = 2 * k + 1 := by have := GX.par_def (2 * k); unfold GX.par at this; lia
  unfold brk
  rw [Bool.eq_iff_iff, bne_iff_ne, bne_iff_ne, hp, GX.wanted_eq h]
  have hE := GX.EE_lt h h1
  have hw := GX.Cfg.E_W (c := GX.cfg g h) (p := 2 * k) h1
  constructor
  · intro q e
    refine q ?_
    refine GX.Cfg.E_inj (c := GX.cfg g h) (GX.Cfg.W_lt h1) h2 ?_
    rw [hw]
    exact e.symm
  · intro q e
    rw [e] at hw
    exact q hw
def spCountBreaks (K : PySem.W.Frag) : Sp := fun vs H Q _ => ∃ (a : Addr) (g : List Int), vs = [.ref a] ∧ SqL K H a ((nI (Rc65.ends g)).map V.int) ∧ g.length ≤ 10 ∧ Rc65.right g = true ∧ ∀ H' : Hp, Same H H' → Q (.int (Rc65.breaks g : Nat)) H'
theorem rg2 : ∀ n : Nat, n ≤ 10 → RgC 0 ((2 * n + 2 : Nat) : Int) 2 (n + 1) := by
  have : ∀ n : Fin 11, RgC 0 ((2 * n.val + 2 : Nat) : Int) 2 (n.val + 1) := by unfold RgC; decide +kernel
  intro n hn
  exact this ⟨n, by lia⟩
theorem ends_at {g : List Int} {i : Nat} (hi : i < 2 * g.length + 2) : atI ((nI (Rc65.ends g)).map V.int) (i : Int) = some (.int (GX.EE g i : Nat)) := atI_nat (nI_get (ends_get hi))
section
variable {P : Program} {w : World} {K : PySem.W.Frag} {mg : Str → Option Value} {base : Heap}
theorem scCountBreaks : FnScope ["ends", "i"] ["ends"] (defScope sCountBreaks) := ⟨rfl, rfl, rfl, by decide +kernel, rfl, by decide +kernel, by decide +kernel⟩
theorem ok_countBreaks {f : Addr} {fd : FuncData} (F : Fun K "count_breaks" "count_breaks" sCountBreaks f fd) (T : Tx mg) (G1 : Cal P w K mg base 1 "partner" ["number"] spPartner) : FnOk P w K mg base CX0 2 f fd ["ends"] (spCountBreaks K) := by
  obtain ⟨f1, fd1, g1, m1, k1, b1⟩ := G1
  refine F.ok scCountBreaks (fun vs H Q E h => ?_) (fun cdv A outer s H vs Q E hr h => ?_)
  · obtain ⟨a, g, rfl, _⟩ := h
    rfl
  · obtain ⟨a, g, rfl, hs, hlen, hright, k⟩ := h
    refine ⟨_, pss_one (ps_ret (pe_callB call_len_seq (by rfl) T.len PySem.boot_len (pa_cons (pe_lc (own := [("i", 1)]) rfl scCountBreaks.nd
      (pi_range3 (by rfl) T.range (pa_cons pe_int (pa_cons (pe_callB call_len_seq (by rfl) T.len PySem.boot_len (pa_cons (pv 0) pa_nil)) (pa_cons pe_int pa_nil))))
      (blkOk_by (by show blkC ["ends", "i"] (defScope sCountBreaks) _ _ = true; decide +kernel)) (fun _ _ _ _ _ => pg_name (i := 1) scCountBreaks.nd rfl (Or.inl rfl))
      (fun _ _ _ _ _ => pts_one (pt_cmpR op_ne (pe_ix (ix_listK (K := K) rfl) (pv 0) (pe_op op_add (pv 1) pe_int) (fun _ _ => rfl)) (pe_call g1 hr rfl m1 k1 b1 .nil pass0 (pa_cons (pe_ix (ix_listK (K := K) rfl) (pv 0) (pv 1) (fun _ _ => rfl)) pa_nil)) (nomark _)))
      (fun _ _ _ _ _ => pv 1)) pa_nil))), ?_⟩
    have hul : ((nI (Rc65.ends g)).map V.int).length = 2 * g.length + 2 := by rw [List.length_map, ints_len, ends_len]
    refine ⟨_, rfl, a, _, rfl, .inl hs, 0, _, 2, g.length + 1, rfl, ?_, fun D hD => lc_rangeC (fun i H' => H' = upd H D (.lst (((List.range i).filter (brk g)).map fun (k : Nat) => V.int ((2 * k : Nat) : Int)))) rfl (fun i H' hi e => ?_) (fun H' e => ?_)⟩
    · rw [hul]
      exact rg2 _ hlen
    · subst e
      have sD := same_upd (o := .lst (((List.range i).filter (brk g)).map fun (k : Nat) => V.int ((2 * k : Nat) : Int))) hD
      have hq := sD.seq hs
      have ei : (0 : Int) + (i : Nat) * 2 = ((2 * i : Nat) : Int) := by lia
      have ei1 : ((2 * i : Nat) : Int) + 1 = ((2 * i + 1 : Nat) : Int) := by lia
      have hE := GX.EE_lt hright (p := 2 * i) (by lia)
      rw [ei]
      refine ⟨rfl, ?_⟩
      refine ⟨_, rfl, _, rfl, _, _, rfl, rfl, a, _, _, _, rfl, rfl, hq, (by rw [ei1]; exact ends_at (by lia)), ?_⟩
      refine ⟨_, rfl, _, rfl, a, _, _, _, rfl, rfl, hq, ends_at (by lia), GX.EE g (2 * i), rfl, by lia, rfl, _, rfl, ?_⟩
      have hb : (!decide (V.int (GX.EE g (2 * i + 1) : Nat) = V.int (Rc65.beside (GX.EE g (2 * i)) : Nat))) = brk g i := by
        unfold brk
        rw [dec_int, Bool.eq_iff_iff]
        simp
        lia
      refine ite2 (fun h1 => ?_) (fun h1 => ?_)
      · have h1 : brk g i = true := hb.symm.trans h1
        refine ⟨_, rfl, _, upd_same, small1000 ?_, ?_⟩
        · rw [List.length_map]
          have := List.length_filter_le (brk g) (List.range i)
          rw [List.length_range] at this
          lia
        · rw [upd_upd, List.range_succ, List.filter_append, List.map_append, List.filter_cons, if_pos h1]
          rfl
      · have h1 : ¬ brk g i = true := fun q => h1 (hb.trans q)
        rw [List.range_succ, List.filter_append, List.filter_cons, if_neg h1]
        simp
    · subst e
      refine ⟨D, _, rfl, .inl (SqL.of upd_same), ?_⟩
      rw [List.length_map, ← breaks_eq hright]
      exact k _ (same_upd hD)
end
end G

set_option Elab.async false
set_option maxRecDepth 100000
set_option maxHeartbeats 2000000
namespace G
open PySem PySem.Spec PyProof.Rows L2 GM GR
def spCountCycles (K : PySem.W.Frag) : Sp := fun vs H Q _ => ∃ (a b : Addr) (g : List Int), vs = [.ref a, .ref b] ∧ SqL K H a ((nI (Rc65.ends g)).map V.int) ∧ SqL K H b ((nI ((List.range (2 * g.length + 2)).map (GX.AA g))).map V.int) ∧ g.length ≤ 10 ∧ Rc65.right g = true ∧
  ∀ H' : Hp, Same H H' → Q (.int (Rc65.cycles g : Nat)) H'
theorem rep_false (n : Nat) : (List.replicate n [V.bl false]).flatten = (List.replicate n false).map V.bl := by
  induction n with
  | zero => rfl
  | succ n ih => rw [List.replicate_succ, List.flatten_cons, ih, List.replicate_succ, List.map_cons]; rfl
def sn (sb : List Bool) (z : Nat) : Prop := sb.getD z false = true
theorem sn_lt {sb : List Bool} {z : Nat} (h : sn sb z) : z < sb.length := by
  unfold sn at h
  rw [List.getD_eq_getElem?_getD] at h
  by_cases q : z < sb.length
  · exact q
  · rw [List.getElem?_eq_none (by lia)] at h
    cases h
theorem sn_set {sb : List Bool} {e z : Nat} (he : e < sb.length) : sn (sb.set e true) z ↔ sn sb z ∨ z = e := by
  unfold sn
  rw [List.getD_eq_getElem?_getD, List.getD_eq_getElem?_getD]
  by_cases q : e = z
  · subst q
    rw [List.getElem?_set_self he]
    simp
  · rw [List.getElem?_set_ne q]
    have : ¬ z = e := fun z => q z.symm
    simp [this]
def left (sb : List Bool) : Nat := ((List.range sb.length).filter fun z => !(sb.getD z false)).length
theorem left_lt {sb sb' : List Bool} {e : Nat} (hl : sb'.length = sb.length) (hs : ∀ z, sn sb z → sn sb' z) (he : e < sb.length) (h1 : ¬ sn sb e) (h2 : sn sb' e) : left sb' < left sb := by
  unfold left
  rw [hl]
  refine GX.filter_lt (fun z _ hz => ?_) ⟨e, List.mem_range.mpr he, ?_, ?_⟩
  · have : ¬ sn sb' z := by unfold sn; simpa using hz
    have : ¬ sn sb z := fun q => this (hs z q)
    unfold sn at this
    simpa using this
  · unfold sn at h1
    simpa using h1
  · unfold sn at h2
    rw [h2]
    rfl
theorem sn_at {sb : List Bool} {z : Nat} (h : z < sb.length) : atI (sb.map V.bl) (z : Int) = some (.bl (sb.getD z false)) := by
  refine atI_nat ?_
  rw [List.getElem?_map, List.getD_eq_getElem?_getD, List.getElem?_eq_getElem h]
  rfl
theorem places_at {g : List Int} {i : Nat} (hi : i < 2 * g.length + 2) : atI ((nI ((List.range (2 * g.length + 2)).map (GX.AA g))).map V.int) (i : Int) = some (.int (GX.AA g i : Nat)) := by
  refine atI_nat (nI_get ?_)
  rw [List.getElem?_map, List.getElem?_range hi]
  rfl
theorem ixN_nat {n i : Nat} (h : i < n) : ixN n (i : Int) = some i := by
  have := ixN_of (n := n) (z := (i : Int)) (by lia) (by lia)
  rw [Int.toNat_natCast] at this
  exact this
/-- the walk over one cycle -/
theorem cyc_while {K : PySem.W.Frag} {D : Ends} {a b p : Addr} {g : List Int} {H H' : Hp} {sb : List Bool} {S S' : List Nat} {i : Nat} {w0 : Option V} (hi : i < 2 * g.length + 2) (hlen : g.length ≤ 10) (hright : Rc65.right g = true) (hs : SqL K H a ((nI (Rc65.ends g)).map V.int)) (hsb : SqL K H b ((nI ((List.range (2 * g.length + 2)).map (GX.AA g))).map V.int))
    (hpn : H p = none) (sm : Same H H') (hp : H' p = some (.lst (sb.map V.bl))) (hsl : sb.length = 2 * g.length + 2) (co : GX.CO (2 * g.length + 2) (GX.MM g) (sn sb) S i) (hS' : (sn sb i ∧ S' = S) ∨ (¬ sn sb i ∧ S' = i :: S))
    (hD : ∀ σ H2, (∃ (u v w' : Option V) (sb : List Bool), σ = [some (.ref a), some (.ref b), some (.ref p), some (.int (S'.length : Nat)), u, v, w'] ∧ Same H H2 ∧ H2 p = some (.lst (sb.map V.bl)) ∧ sb.length = 2 * g.length + 2 ∧ GX.CO (2 * g.length + 2) (GX.MM g) (sn sb) S' (i + 1)) → D.nx σ H2) :
    tWhile (tNot (tB (tOp (rIxL K) (tVar 2) (tVar 5)))) (tSeq (tAsg (tOp (rIxL K) (tVar 0) (tCall spPartner [] E0 (tCons (tOp (rIxL K) (tVar 1) (tVar 5)) tNil))) (gName 6)) (tSeq (tAsg (tC (V.bl true)) (gSub (tVar 2) (tVar 5) rSetL)) (tSeq (tAsg (tC (V.bl true)) (gSub (tVar 2) (tVar 6) rSetL)) (tAsg (tCall spPartner [] E0 (tCons (tVar 6) tNil)) (gName 5)))))
      D [some (.ref a), some (.ref b), some (.ref p), some (.int (S'.length : Nat)), some (.int (i : Nat)), some (.int (i : Nat)), w0] H' := by
  have hP : GX.Inv2 (2 * g.length + 2) GX.par := (GX.cfg g hright).iPar
  have hM := GX.iMM hright
  have hcl := co.closed hP hM (fun z hz => by rw [← hsl]; exact sn_lt hz)
  refine ⟨fun mm σ H2 => ∃ (e : Nat) (w' : Option V) (sb' : List Bool), σ = [some (.ref a), some (.ref b), some (.ref p), some (.int (S'.length : Nat)), some (.int (i : Nat)), some (.int (e : Nat)), w'] ∧ Same H H2 ∧ H2 p = some (.lst (sb'.map V.bl)) ∧ sb'.length = 2 * g.length + 2 ∧ mm = left sb' ∧ e < 2 * g.length + 2 ∧
    ((sn sb i ∧ S' = S ∧ sb' = sb ∧ e = i) ∨ (¬ sn sb i ∧ S' = i :: S ∧ GX.CI (2 * g.length + 2) (GX.MM g) (sn sb) (sn sb') i e)), ⟨left sb, i, w0, sb, rfl, sm, hp, hsl, rfl, hi, ?_⟩, ?_⟩
  · rcases hS' with ⟨h1, h2⟩ | ⟨h1, h2⟩
    · exact .inl ⟨h1, h2, rfl, rfl⟩
    · exact .inr ⟨h1, h2, GX.CI.start hP hM hcl hi h1⟩
  · rintro mm σ H2 ⟨e, w', sb', rfl, sm2, hp2, hl2, rfl, he, hst⟩
    refine ⟨_, rfl, _, rfl, p, _, _, _, rfl, rfl, SqL.of hp2, sn_at (by lia), _, rfl, ite2 (fun h1 => ?_) (fun h1 => ?_)⟩
    · have h1 : ¬ sn sb' e := by unfold sn; simpa using h1
      rcases hst with ⟨q1, q2, q3, q4⟩ | ⟨q1, q2, ci⟩
      · subst q3 q4
        exact absurd q1 h1
      · have ci2 := ci.step hP hM hcl hi q1 h1
        have hA := (GX.AA_spec hright he).1
        have hMl := hM.lt e he
        have hpA := GX.par_lt hA
        refine ⟨fun σ3 H3 => ∃ (e : Nat) (w' : Option V) (sb2 : List Bool), σ3 = [some (.ref a), some (.ref b), some (.ref p), some (.int (S'.length : Nat)), some (.int (i : Nat)), some (.int (e : Nat)), w'] ∧ Same H H3 ∧ H3 p = some (.lst (sb2.map V.bl)) ∧ sb2.length = 2 * g.length + 2 ∧ left sb2 < left sb' ∧ e < 2 * g.length + 2 ∧ (¬ sn sb i ∧ S' = i :: S ∧ GX.CI (2 * g.length + 2) (GX.MM g) (sn sb) (sn sb2) i e), ?_, ?_⟩
        · rintro σ3 H3 ⟨e3, w3, sb3, r1, r2, r3, r4, r5, r6, r7⟩
          exact ⟨left sb3, r5, e3, w3, sb3, r1, r2, r3, r4, rfl, r6, .inr r7⟩
        · refine ⟨_, rfl, _, rfl, _, rfl, b, _, _, _, rfl, rfl, sm2.seq hsb, places_at he, GX.AA g e, rfl, by lia, a, _, _, _, rfl, rfl, sm2.seq hs, ends_at hpA, ?_⟩
          refine ⟨_, rfl, _, rfl, p, _, _, e, rfl, rfl, hp2, ixN_nat (by rw [List.length_map]; lia), ?_⟩
          refine ⟨_, rfl, _, rfl, p, _, _, GX.MM g e, rfl, rfl, upd_same, ixN_nat (by rw [List.length_set, List.length_map, hl2]; exact hMl), ?_⟩
          refine ⟨_, rfl, GX.MM g e, rfl, by lia, GX.par (GX.MM g e), _, (sb'.set e true).set (GX.MM g e) true, rfl, fun b' o' e' => ?_, ?_, by simp [hl2], ?_, hP.lt _ hMl, q1, q2, ?_⟩
          · rw [upd_upd, upd_ne (ne_of_none e' hpn)]
            exact sm2 _ _ e'
          · rw [upd_upd, upd_same, List.map_set, List.map_set]
          · refine left_lt (e := e) (by simp) (fun z hz => ?_) (by lia) h1 ?_
            · rw [sn_set (by simp; lia), sn_set (by lia)]
              exact .inl (.inl hz)
            · rw [sn_set (by simp; lia), sn_set (by lia)]
              exact .inl (.inr rfl)
          · have e2 : sn ((sb'.set e true).set (GX.MM g e) true) = fun z => sn sb' z ∨ z = e ∨ z = GX.MM g e := by
              funext z
              rw [sn_set (by simp; lia), sn_set (by lia), or_assoc]
            rw [e2]
            exact ci2
    · have h1 : sn sb' e := by unfold sn; simpa using h1
      refine hD _ _ ⟨_, _, _, sb', rfl, sm2, hp2, hl2, ?_⟩
      rcases hst with ⟨q1, q2, q3, q4⟩ | ⟨q1, q2, ci⟩
      · subst q2 q3 q4
        exact co.old hP hM q1
      · subst q2
        exact co.new hP hM hi q1 (ci.fin hP hM hcl hi q1 h1)
section
variable {P : Program} {w : World} {K : PySem.W.Frag} {mg : Str → Option Value} {base : Heap}
theorem scCountCycles : FnScope ["ends", "places", "seen", "cycles", "first", "end", "met"] ["ends", "places"] (defScope sCountCycles) := ⟨rfl, rfl, rfl, by decide +kernel, rfl, by decide +kernel, by decide +kernel⟩
theorem ok_countCycles {f : Addr} {fd : FuncData} (F : Fun K "count_cycles" "count_cycles" sCountCycles f fd) (T : Tx mg) (G1 : Cal P w K mg base 1 "partner" ["number"] spPartner) : FnOk P w K mg base CX0 2 f fd ["ends", "places"] (spCountCycles K) := by
  obtain ⟨f1, fd1, g1, m1, k1, b1⟩ := G1
  refine F.ok scCountCycles (fun vs H Q E h => ?_) (fun cdv A outer s H vs Q E hr h => ?_)
  · obtain ⟨a, b, g, rfl, _⟩ := h
    rfl
  · obtain ⟨a, b, g, rfl, hs, hsb, hlen, hright, k⟩ := h
    refine ⟨_, pss_cons (ps_set (i := 2) scCountCycles.nd rfl (Or.inl rfl) (pe_op op_rep (pe_lst (pa_cons pe_bl pa_nil)) (pe_callB call_len_seq (by rfl) T.len PySem.boot_len (pa_cons (pv 0) pa_nil))))
      (pss_cons (ps_set (i := 3) scCountCycles.nd rfl (Or.inl rfl) pe_int)
      (pss_cons (ps_for PassesOwn.never rfl (pi_range1 (by rfl) T.range (pa_cons (pe_callB call_len_seq (by rfl) T.len PySem.boot_len (pa_cons (pv 0) pa_nil)) pa_nil)) (pg_name (i := 4) scCountCycles.nd rfl (Or.inl rfl))
        (pss_cons (ps_if (pt_not (pt_val (pe_ix ix_list (pv 2) (pv 4) (fun _ _ => rfl)))) (pss_one (ps_aug (i := 3) scCountCycles.nd rfl (Or.inl rfl) pe_int ip_add)) pss_nil)
        (pss_cons (ps_set (i := 5) scCountCycles.nd rfl (Or.inl rfl) (pv 4))
        (pss_one (ps_while PassesOwn.never (pt_not (pt_val (pe_ix ix_list (pv 2) (pv 5) (fun _ _ => rfl))))
          (pss_cons (ps_set (i := 6) scCountCycles.nd rfl (Or.inl rfl) (pe_ix ix_list (pv 0) (pe_call g1 hr rfl m1 k1 b1 .nil pass0 (pa_cons (pe_ix ix_list (pv 1) (pv 5) (fun _ _ => rfl)) pa_nil)) (fun _ _ => rfl)))
          (pss_cons (ps_asg pe_bl (pg_sub (pv 2) (pv 5) set_list))
          (pss_cons (ps_asg pe_bl (pg_sub (pv 2) (pv 6) set_list))
          (pss_one (ps_set (i := 5) scCountCycles.nd rfl (Or.inl rfl) (pe_call g1 hr rfl m1 k1 b1 .nil pass0 (pa_cons (pv 6) pa_nil))))))))))))
      (pss_one (ps_ret (pv 3))))), ?_⟩
    have hul : ((nI (Rc65.ends g)).map V.int).length = 2 * g.length + 2 := by rw [List.length_map, ints_len, ends_len]
    have hP : GX.Inv2 (2 * g.length + 2) GX.par := (GX.cfg g hright).iPar
    have hM := GX.iMM hright
    refine ⟨(by show 1 ≤ sizeLine; decide), fun l nl => ⟨_, rfl, a, _, rfl, .inl ((same_upd nl).seq hs), l, _, _, rfl, rfl, upd_same, ?_, ?_, ?_, fun p np => ?_⟩⟩
    · rw [hul]; lia
    · rw [hul]; lia
    · rw [hul, Int.toNat_natCast, List.length_singleton]
      exact Nat.le_of_lt (small1000 (by lia))
    · rw [hul, Int.toNat_natCast, rep_false]
      have s1 : Same H (upd H l (.lst [.bl false])) := same_upd nl
      have hpn : H p = none := s1.free np
      have s2 : Same (upd H l (.lst [.bl false])) (upd (upd H l (.lst [.bl false])) p (.lst ((List.replicate (2 * g.length + 2) false).map V.bl))) := same_upd np
      refine ⟨_, rfl, a, _, rfl, .inl ((s1.trans s2).seq hs), _, rfl, ?_, ?_, ?_⟩
      · rw [hul]; lia
      · rw [hul]; lia
      · rw [hul, Int.toNat_natCast]
        refine for_range (lo := 0) (n := 2 * g.length + 2) (fun i σ H' => ∃ (u v w' : Option V) (sb : List Bool) (S : List Nat), σ = [some (.ref a), some (.ref b), some (.ref p), some (.int (S.length : Nat)), u, v, w'] ∧ Same H H' ∧ H' p = some (.lst (sb.map V.bl)) ∧ sb.length = 2 * g.length + 2 ∧ GX.CO (2 * g.length + 2) (GX.MM g) (sn sb) S i) ?_ ?_ ?_
        · refine ⟨none, none, none, List.replicate (2 * g.length + 2) false, [], rfl, s1.trans s2, upd_same, by simp, ⟨(fun x hx => by cases hx), .nil, (fun z hz => ⟨fun q => ?_, fun ⟨x, hx, _⟩ => by cases hx⟩), (fun z hz => by lia)⟩⟩
          unfold sn at q
          rw [List.getD_eq_getElem?_getD, List.getElem?_replicate] at q
          split at q <;> cases q
        · rintro i σ H' hi ⟨u, v, w', sb, S, rfl, sm, hp, hsl, co⟩
          rw [Int.zero_add]
          have hcl := co.closed hP hM (fun z hz => by rw [← hsl]; exact sn_lt hz)
          refine ⟨_, rfl, _, rfl, p, _, _, _, rfl, rfl, SqL.of hp, sn_at (by lia), _, rfl, ite2 (fun h1 => ?_) (fun h1 => ?_)⟩
          · have h1 : ¬ sn sb i := by unfold sn; simpa using h1
            refine ⟨_, rfl, _, _, rfl, rfl, _, rfl, ?_⟩
            exact cyc_while (S' := i :: S) hi hlen hright hs hsb hpn sm hp hsl co (.inr ⟨h1, rfl⟩) fun σ2 H2 ⟨u, v, w', sb2, r1, r2, r3, r4, r5⟩ => ⟨u, v, w', sb2, i :: S, r1, r2, r3, r4, r5⟩
          · have h1 : sn sb i := by unfold sn; simpa using h1
            refine ⟨_, rfl, ?_⟩
            exact cyc_while (S' := S) hi hlen hright hs hsb hpn sm hp hsl co (.inl ⟨h1, rfl⟩) fun σ2 H2 ⟨u, v, w', sb2, r1, r2, r3, r4, r5⟩ => ⟨u, v, w', sb2, S, r1, r2, r3, r4, r5⟩
        · rintro σ H' ⟨u, v, w', sb, S, rfl, sm, hp, hsl, co⟩
          refine ⟨_, rfl, ?_⟩
          rw [GX.cycles_ends hright co.tv]
          exact k _ sm
end
end G

set_option Elab.async false
set_option maxRecDepth 100000
set_option maxHeartbeats 2000000
namespace G
open PySem PySem.Spec PyProof.Rows L2 GM GR
/-- a bond as a tuple -/
def bT (g : List Int) (k : Nat) : List V := [.int ((Rc65.bond (Rc65.ends g) k).1 : Nat), .int ((Rc65.bond (Rc65.ends g) k).2 : Nat)]
def Tups (H : Hp) (g : List Int) (tb : Nat → Addr) : Prop := ∀ k, k < g.length + 1 → H (tb k) = some (.tup (bT g k))
theorem Tups.same {H H' : Hp} {g : List Int} {tb : Nat → Addr} (h : Tups H g tb) (s : Same H H') : Tups H' g tb := fun k hk => s _ _ (h k hk)
def rT (tb : Nat → Addr) (k : Nat) : V := .ref (tb k)
def spBondsOf (K : PySem.W.Frag) : Sp := fun vs H Q _ => ∃ (b : Addr) (g : List Int), vs = [.ref b] ∧ SqL K H b ((nI ((List.range (2 * g.length + 2)).map (GX.AA g))).map V.int) ∧ g.length ≤ 10 ∧ Rc65.right g = true ∧
  ∀ (H' : Hp) (p : Addr) (tb : Nat → Addr), Same H H' → H p = none → H' p = some (.lst ((List.range (g.length + 1)).map (rT tb))) → Tups H' g tb → Q (.ref p) H'
def spCross (K : PySem.W.Frag) : Sp := fun vs H Q _ => ∃ (t u : Addr) (x y z w : Nat), vs = [.ref t, .ref u] ∧ SqT K H t [.int x, .int y] ∧ SqT K H u [.int z, .int w] ∧ Q (.bl (Rc65.cross (x, y) (z, w))) H
theorem at0 (x y : V) : atI [x, y] 0 = some x := rfl
theorem at1 (x y : V) : atI [x, y] 1 = some y := rfl
theorem two_cut {g : List Int} {i : Nat} (hi : i < g.length + 1) : cutV ((nI ((List.range (2 * g.length + 2)).map (GX.AA g))).map V.int) (some ((2 * i : Nat) : Int)) (some (((2 * i : Nat) : Int) + 2)) = ([((GX.AA g (2 * i) : Nat) : Int), ((GX.AA g (2 * i + 1) : Nat) : Int)]).map V.int := by
  have hl : (nI ((List.range (2 * g.length + 2)).map (GX.AA g))).length = 2 * g.length + 2 := by rw [ints_len, List.length_map, List.length_range]
  have e : ((2 * i : Nat) : Int) + 2 = ((2 * i + 2 : Nat) : Int) := by lia
  rw [e, cut_mid _ (2 * i) (2 * i + 2) (by rw [hl]; lia) (by rw [hl]; lia)]
  congr 1
  refine List.ext_getElem? fun j => ?_
  have get : ∀ j, j < 2 * g.length + 2 → (nI ((List.range (2 * g.length + 2)).map (GX.AA g)))[j]? = some ((GX.AA g j : Nat) : Int) := fun j hj => by
    unfold nI Rc65.ints
    rw [List.getElem?_map, List.getElem?_map, List.getElem?_range hj]
    rfl
  have e2 : 2 * i + 2 - 2 * i = 2 := by lia
  rw [e2]
  match j with
  | 0 => rw [List.getElem?_take_of_lt (by lia), List.getElem?_drop, get _ (by lia)]; rfl
  | 1 => rw [List.getElem?_take_of_lt (by lia), List.getElem?_drop, get _ (by lia)]; rfl
  | j + 2 => rw [List.getElem?_take_eq_none (by lia)]; rfl
theorem min_two {p q : Nat} {m : Int} (h1 : m ∈ [(p : Int), (q : Int)]) (h2 : ∀ y ∈ [(p : Int), (q : Int)], m ≤ y) : m = ((min p q : Nat) : Int) := by
  simp at h1 h2
  lia
theorem max_two {p q : Nat} {m : Int} (h1 : m ∈ [(p : Int), (q : Int)]) (h2 : ∀ y ∈ [(p : Int), (q : Int)], y ≤ m) : m = ((max p q : Nat) : Int) := by
  simp at h1 h2
  lia
section
variable {P : Program} {w : World} {K : PySem.W.Frag} {mg : Str → Option Value} {base : Heap}
theorem scBondsOf : FnScope ["places", "k"] ["places"] (defScope sBondsOf) := ⟨rfl, rfl, rfl, by decide +kernel, rfl, by decide +kernel, by decide +kernel⟩
theorem ok_bondsOf {f : Addr} {fd : FuncData} (F : Fun K "bonds_of" "bonds_of" sBondsOf f fd) (T : Tx mg) : FnOk P w K mg base CX0 1 f fd ["places"] (spBondsOf K) := by
  refine F.ok scBondsOf (fun vs H Q E h => ?_) (fun cdv A outer s H vs Q E hr h => ?_)
  · obtain ⟨b, g, rfl, _⟩ := h
    rfl
  · obtain ⟨b, g, rfl, hs, hlen, hright, k⟩ := h
    refine ⟨_, pss_one (ps_ret (pe_lc (own := [("k", 1)]) rfl scBondsOf.nd
      (pi_range3 (by rfl) T.range (pa_cons pe_int (pa_cons (pe_callB call_len_seq (by rfl) T.len PySem.boot_len (pa_cons (pv 0) pa_nil)) (pa_cons pe_int pa_nil))))
      (blkOk_by (by show blkC ["places", "k"] (defScope sBondsOf) _ _ = true; decide +kernel)) (fun _ _ _ _ _ => pg_name (i := 1) scBondsOf.nd rfl (Or.inl rfl)) (fun _ _ _ _ _ => pts_nil)
      (fun _ _ _ _ _ => pe_tup (pa_cons (pe_callB (minK (K := K) rfl rfl) (by rfl) T.min b_min (pa_cons (pe_slice (sl_listK (K := K) rfl) (pv 0) (po_some (pv 1)) (po_some (pe_op op_add (pv 1) pe_int))) pa_nil))
        (pa_cons (pe_callB (maxK (K := K) rfl rfl) (by rfl) T.max b_max (pa_cons (pe_slice (sl_listK (K := K) rfl) (pv 0) (po_some (pv 1)) (po_some (pe_op op_add (pv 1) pe_int))) pa_nil)) pa_nil))))), ?_⟩
    have hul : ((nI ((List.range (2 * g.length + 2)).map (GX.AA g))).map V.int).length = 2 * g.length + 2 := by rw [List.length_map, ints_len, List.length_map, List.length_range]
    refine ⟨_, rfl, b, _, rfl, .inl hs, 0, _, 2, g.length + 1, rfl, ?_, fun D hD => lc_rangeC (fun i H' => ∃ ts : List Addr, ts.length = i ∧ Same H H' ∧ H' D = some (.lst (ts.map V.ref)) ∧ ∀ j t, ts[j]? = some t → H' t = some (.tup (bT g j))) ?_ (fun i H' hi hv => ?_) (fun H' hv => ?_)⟩
    · rw [hul]
      exact rg2 _ hlen
    · exact ⟨[], rfl, same_upd hD, upd_same, fun j t h => by simp at h⟩
    · obtain ⟨ts, hts, sm, hDl, htt⟩ := hv
      have ei : (0 : Int) + (i : Nat) * 2 = ((2 * i : Nat) : Int) := by lia
      rw [ei]
      refine ⟨rfl, ?_⟩
      refine yes_if ?_
      refine ⟨_, rfl, _, rfl, _, rfl, _, rfl, _, _, rfl, rfl, _, rfl, b, _, rfl, sm.seq hs, fun p1 n1 => ?_⟩
      rw [two_cut hi]
      have s1 := same_upd (o := .lst (([((GX.AA g (2 * i) : Nat) : Int), ((GX.AA g (2 * i + 1) : Nat) : Int)]).map V.int)) n1
      refine ⟨p1, _, rfl, SqL.of upd_same, Nat.zero_lt_succ _, fun m h1 h2 => ?_⟩
      have em := min_two h1 h2
      subst em
      refine ⟨_, rfl, _, rfl, _, rfl, _, rfl, _, _, rfl, rfl, _, rfl, b, _, rfl, (sm.trans s1).seq hs, fun p2 n2 => ?_⟩
      rw [two_cut hi]
      have s2 := same_upd (o := .lst (([((GX.AA g (2 * i) : Nat) : Int), ((GX.AA g (2 * i + 1) : Nat) : Int)]).map V.int)) n2
      refine ⟨p2, _, rfl, SqL.of upd_same, Nat.zero_lt_succ _, fun m h3 h4 => ?_⟩
      have em := max_two h3 h4
      subst em
      refine ⟨(by show 2 ≤ sizeLine; decide), fun t nt => ?_⟩
      have s3 := same_upd (o := .tup (bT g i)) nt
      have s13 := (s1.trans s2).trans s3
      refine ⟨_, s13 _ _ hDl, small1000 (by rw [List.length_map]; lia), ts ++ [t], by simp [hts], fun b' o' e' => ?_, ?_, fun j u hj => ?_⟩
      · rw [upd_ne (ne_of_none e' hD)]
        exact s13 _ _ (sm _ _ e')
      · rw [upd_same, List.map_append]
        rfl
      · have hne : ∀ u o, (upd (upd (upd H' p1 (.lst (([((GX.AA g (2 * i) : Nat) : Int), ((GX.AA g (2 * i + 1) : Nat) : Int)]).map V.int))) p2 (.lst (([((GX.AA g (2 * i) : Nat) : Int), ((GX.AA g (2 * i + 1) : Nat) : Int)]).map V.int))) t (.tup (bT g i))) u = some (.tup o) → u ≠ D := fun u o hu e => by
          rw [e, s13 _ _ hDl] at hu
          cases hu
        by_cases hjl : j < ts.length
        · rw [List.getElem?_append_left hjl] at hj
          have := s13 _ _ (htt j u hj)
          show upd _ D _ u = _
          rw [upd_ne (hne u _ this)]
          exact this
        · rw [List.getElem?_append_right (by lia)] at hj
          have : j - ts.length = 0 ∧ t = u := by
            by_cases e0 : j - ts.length = 0
            · rw [e0] at hj
              exact ⟨e0, Option.some.inj hj⟩
            · rw [List.getElem?_eq_none (by simp; lia)] at hj
              cases hj
          obtain ⟨ej, rfl⟩ := this
          have ej : j = i := by lia
          subst ej
          show upd _ D _ t = _
          rw [upd_ne (hne t _ upd_same)]
          exact upd_same
    · obtain ⟨ts, hts, sm, hDl, htt⟩ := hv
      have get : ∀ j, j < g.length + 1 → ts[j]? = some (ts.getD j 0) := fun j hj => by
        rw [List.getD_eq_getElem?_getD, List.getElem?_eq_getElem (by lia)]
        rfl
      refine k H' D (fun j => ts.getD j 0) sm hD ?_ (fun j hj => htt j _ (get j hj))
      rw [hDl]
      congr 2
      refine List.ext_getElem? fun j => ?_
      rw [List.getElem?_map, List.getElem?_map]
      by_cases hj : j < g.length + 1
      · rw [get j hj, List.getElem?_range hj]
        rfl
      · rw [List.getElem?_eq_none (by lia), List.getElem?_eq_none (by rw [List.length_range]; lia)]
        rfl
theorem scCross : FnScope ["bond", "other"] ["bond", "other"] (defScope sCross) := ⟨rfl, rfl, rfl, by decide +kernel, rfl, by decide +kernel, by decide +kernel⟩
theorem ok_cross {f : Addr} {fd : FuncData} (F : Fun K "cross" "cross" sCross f fd) : FnOk P w K mg base CX0 1 f fd ["bond", "other"] (spCross K) := by
  refine F.ok scCross (fun vs H Q E h => ?_) (fun cdv A outer s H vs Q E hr h => ?_)
  · obtain ⟨t, u, x, y, z, w, rfl, _⟩ := h
    rfl
  · obtain ⟨t, u, x, y, z, w, rfl, ht, hu, k⟩ := h
    refine ⟨_, pss_one (ps_ret (pe_or (pe_chain3 op_lt op_lt op_lt (pe_ix ix_tup (pv 0) pe_int (fun _ _ => rfl)) (pe_ix ix_tup (pv 1) pe_int (fun _ _ => rfl)) (pe_ix ix_tup (pv 0) pe_int (fun _ _ => rfl)) (pe_ix ix_tup (pv 1) pe_int (fun _ _ => rfl)))
      (pe_one (pe_chain3 op_lt op_lt op_lt (pe_ix ix_tup (pv 1) pe_int (fun _ _ => rfl)) (pe_ix ix_tup (pv 0) pe_int (fun _ _ => rfl)) (pe_ix ix_tup (pv 1) pe_int (fun _ _ => rfl)) (pe_ix ix_tup (pv 0) pe_int (fun _ _ => rfl)))))), ?_⟩
    have cast : ∀ m n : Nat, decide ((m : Int) < (n : Int)) = decide (m < n) := fun m n => decide_eq_decide.mpr (by lia)
    have second : ∀ c1 : Bool, c1 = false → Rc65.cross (x, y) (z, w) = (c1 || (decide (z < x) && (decide (x < w) && decide (w < y)))) → tChain3 (rI0 fun i j => V.bl (decide (i < j))) (rI0 fun i j => V.bl (decide (i < j))) (rI0 fun i j => V.bl (decide (i < j))) (tOp (rIxT K) (tVar 1) (tC (.int 0))) (tOp (rIxT K) (tVar 0) (tC (.int 0))) (tOp (rIxT K) (tVar 1) (tC (.int 1))) (tOp (rIxT K) (tVar 0) (tC (.int 1))) [some (.ref t), some (.ref u)] H Q := fun c1 hc hcr => by
      subst hc
      rw [hcr, Bool.false_or] at k
      refine ⟨_, rfl, u, _, _, _, rfl, rfl, hu, at0 _ _, _, rfl, t, _, _, _, rfl, rfl, ht, at0 _ _, _, _, rfl, rfl, _, rfl, ite2 (fun h1 => ?_) (fun h1 => ?_)⟩
      · rw [cast] at h1
        rw [h1, Bool.true_and] at k
        refine ⟨_, rfl, u, _, _, _, rfl, rfl, hu, at1 _ _, _, _, rfl, rfl, _, rfl, ite2 (fun h2 => ?_) (fun h2 => ?_)⟩
        · rw [cast] at h2
          rw [h2, Bool.true_and] at k
          refine ⟨_, rfl, t, _, _, _, rfl, rfl, ht, at1 _ _, _, _, rfl, rfl, ?_⟩
          show Q (V.bl (decide ((w : Int) < (y : Int)))) H
          rw [cast]
          exact k
        · rw [cast] at h2
          rw [Bool.eq_false_iff.mpr h2, Bool.false_and] at k
          exact k
      · rw [cast] at h1
        rw [Bool.eq_false_iff.mpr h1, Bool.false_and] at k
        exact k
    have hcr : Rc65.cross (x, y) (z, w) = ((decide (x < z) && (decide (z < y) && decide (y < w))) || (decide (z < x) && (decide (x < w) && decide (w < y)))) := rfl
    refine ⟨_, rfl, t, _, _, _, rfl, rfl, ht, at0 _ _, _, rfl, u, _, _, _, rfl, rfl, hu, at0 _ _, _, _, rfl, rfl, _, rfl, ite2 (fun h1 => ?_) (fun h1 => ?_)⟩
    · rw [cast] at h1
      refine ⟨_, rfl, t, _, _, _, rfl, rfl, ht, at1 _ _, _, _, rfl, rfl, _, rfl, ite2 (fun h2 => ?_) (fun h2 => ?_)⟩
      · rw [cast] at h2
        refine ⟨_, rfl, u, _, _, _, rfl, rfl, hu, at1 _ _, _, _, rfl, rfl, _, rfl, ite2 (fun h3 => ?_) (fun h3 => ?_)⟩
        · rw [cast] at h3
          rw [hcr, h1, h2, h3] at k
          exact k
        · rw [cast] at h3
          exact second _ (by rw [h1, h2, Bool.eq_false_iff.mpr h3]; rfl) hcr
      · rw [cast] at h2
        exact ⟨_, rfl, iteF (second _ (by rw [h1, Bool.eq_false_iff.mpr h2]; rfl) hcr)⟩
    · rw [cast] at h1
      exact ⟨_, rfl, iteF (second _ (by rw [Bool.eq_false_iff.mpr h1]; rfl) hcr)⟩
end
end G

set_option Elab.async false
set_option maxRecDepth 100000
set_option maxHeartbeats 2000000
namespace G
open PySem PySem.Spec PyProof.Rows L2 GM GR
def decB (H : Hp) : V → Nat × Nat
  | .ref t => match H t with
    | some (.tup [.int x, .int y]) => (x.toNat, y.toNat)
    | _ => (0, 0)
  | _ => (0, 0)
theorem decB_eq {H : Hp} {g : List Int} {tb : Nat → Addr} (h : Tups H g tb) {k : Nat} (hk : k < g.length + 1) : decB H (rT tb k) = Rc65.bond (Rc65.ends g) k := by
  unfold decB rT
  simp only [h k hk, bT, Int.toNat_natCast]
structure CL (H : Hp) (tb : Nat → Addr) (pc : Addr) (ps : List Addr) (css : List (List Nat)) : Prop where
  len : ps.length = css.length
  get : ∀ (j : Nat) (p : Addr) (C : List Nat), ps[j]? = some p → css[j]? = some C → p ≠ pc ∧ H p = some (.lst (C.map (rT tb)))
theorem CL.mono {H H' : Hp} {tb : Nat → Addr} {pc : Addr} {ps : List Addr} {css : List (List Nat)} (h : CL H tb pc ps css) (hs : ∀ p ∈ ps, ∀ o, H p = some o → H' p = some o) : CL H' tb pc ps css :=
  ⟨h.len, fun j p C hp hC => ⟨(h.get j p C hp hC).1, hs p (List.mem_of_getElem? hp) _ (h.get j p C hp hC).2⟩⟩
theorem CL.has {H : Hp} {tb : Nat → Addr} {pc : Addr} {ps : List Addr} {css : List (List Nat)} (h : CL H tb pc ps css) {p : Addr} (hp : p ∈ ps) : p ≠ pc ∧ ∃ xs, H p = some (.lst xs) := by
  obtain ⟨j, hj⟩ := List.getElem?_of_mem hp
  have hl : j < css.length := by rw [← h.len]; exact (List.getElem?_eq_some_iff.mp hj).1
  obtain ⟨h1, h2⟩ := h.get j p _ hj (List.getElem?_eq_getElem hl)
  exact ⟨h1, _, h2⟩
theorem CL.snoc {H : Hp} {tb : Nat → Addr} {pc q : Addr} {ps : List Addr} {css : List (List Nat)} {C : List Nat} (h : CL H tb pc ps css) (hq : q ≠ pc) (hC : H q = some (.lst (C.map (rT tb)))) : CL H tb pc (ps ++ [q]) (css ++ [C]) := by
  refine ⟨by simp [h.len], fun j p D hp hD => ?_⟩
  by_cases hj : j < ps.length
  · rw [List.getElem?_append_left hj] at hp
    rw [List.getElem?_append_left (by rw [← h.len]; exact hj)] at hD
    exact h.get j p D hp hD
  · rw [List.getElem?_append_right (by lia)] at hp
    rw [List.getElem?_append_right (by rw [← h.len]; lia), ← h.len] at hD
    by_cases e0 : j - ps.length = 0
    · rw [e0] at hp hD
      obtain rfl := Option.some.inj hp
      obtain rfl := Option.some.inj hD
      exact ⟨hq, hC⟩
    · rw [List.getElem?_eq_none (by simp; lia)] at hp
      cases hp
def spCrowdsOf : Sp := fun vs H Q _ => ∃ (a : Addr) (g : List Int) (tb : Nat → Addr) (hg : Rc65.right g = true), vs = [.ref a] ∧ H a = some (.lst ((List.range (g.length + 1)).map (rT tb))) ∧ Tups H g tb ∧ g.length ≤ 10 ∧
  ∀ (H' : Hp) (p : Addr) (ps : List Addr) (css : List (List Nat)), Same H H' → H p = none → H' p = some (.lst (ps.map V.ref)) → CL H' tb p ps css → ps.length ≤ g.length + 1 → GX.CrA (GX.cfg g hg) css → Q (.ref p) H'
theorem cut_1 (l : List V) : cutV l (some 1) none = l.drop 1 := by
  unfold cutV
  rw [HT.sIx_none]
  cases l with
  | nil => simp
  | cons a l =>
    have := HT.sIx_nat (a :: l).length 0 1
    rw [show ((1 : Nat) : Int) = (1 : Int) from rfl] at this
    rw [this, Nat.min_eq_left (by simp), List.take_of_length_le (by simp)]
theorem fm_R {H : Hp} {g : List Int} {tb : Nat → Addr} (h : Tups H g tb) (q : Nat × Nat → Bool) {ls : List Nat} (hl : ∀ l ∈ ls, l < g.length + 1) : fm (fun v => q (decB H v)) id (ls.map (rT tb)) = (ls.filter fun l => q (Rc65.bond (Rc65.ends g) l)).map (rT tb) := by
  unfold fm
  rw [List.map_id, List.filter_map]
  congr 1
  refine List.filter_congr fun l hm => ?_
  show q (decB H (rT tb l)) = _
  rw [decB_eq h (hl l hm)]
section
variable {P : Program} {w : World} {K : PySem.W.Frag} {mg : Str → Option Value} {base : Heap}
theorem scCrowdsOf : FnScope ["bonds", "crowds", "left", "crowd", "reached", "bond", "other"] ["bonds"] (defScope sCrowdsOf) := ⟨rfl, rfl, rfl, by decide +kernel, rfl, by decide +kernel, by decide +kernel⟩
theorem ok_crowdsOf {f : Addr} {fd : FuncData} (F : Fun K "crowds_of" "crowds_of" sCrowdsOf f fd) (T : Tx mg) (G1 : Cal P w K mg base 1 "cross" ["bond", "other"] (spCross K)) : FnOk P w K mg base CX0 2 f fd ["bonds"] spCrowdsOf := by
  obtain ⟨f1, fd1, g1, m1, k1, b1⟩ := G1
  refine F.ok scCrowdsOf (fun vs H Q E h => ?_) (fun cdv A outer s H vs Q E hr h => ?_)
  · obtain ⟨a, g, tb, hg, rfl, _⟩ := h
    rfl
  · obtain ⟨a, g, tb, hg, rfl, ha, htb, hlen, k⟩ := h
    refine ⟨_, pss_cons (ps_set (i := 1) scCrowdsOf.nd rfl (Or.inl rfl) (pe_lst pa_nil))
      (pss_cons (ps_set (i := 2) scCrowdsOf.nd rfl (Or.inl rfl) (pv 0))
      (pss_cons (ps_while PassesOwn.never (pt_cmpR op_gt (pe_callB call_len_seq (by rfl) T.len PySem.boot_len (pa_cons (pv 2) pa_nil)) pe_int (nomark _))
        (pss_cons (ps_set (i := 3) scCrowdsOf.nd rfl (Or.inl rfl) (pe_lst (pa_cons (pe_ix ix_list (pv 2) pe_int (fun _ _ => rfl)) pa_nil)))
        (pss_cons (ps_set (i := 2) scCrowdsOf.nd rfl (Or.inl rfl) (pe_slice sl_list (pv 2) (po_some pe_int) po_none))
        (pss_cons (ps_set (i := 4) scCrowdsOf.nd rfl (Or.inl rfl) pe_int)
        (pss_cons (ps_while PassesOwn.never (pt_cmpR op_lt (pv 4) (pe_callB call_len_seq (by rfl) T.len PySem.boot_len (pa_cons (pv 3) pa_nil)) (nomark _))
          (pss_cons (ps_set (i := 5) scCrowdsOf.nd rfl (Or.inr rfl) (pe_ix ix_list (pv 3) (pv 4) (fun _ _ => rfl)))
          (pss_cons (ps_expr (pe_bm PySem.F.plainAttrs_list PySem.F.slot_list_extend PySem.F.type_list_extend mt_extend (pv 3) (pa_cons (pe_lc (own := [("other", 6)]) rfl scCrowdsOf.nd (pi_list (pv 2))
            (blkOk_by (by show blkC ["bonds", "crowds", "left", "crowd", "reached", "bond", "other"] (defScope sCrowdsOf) _ _ = true; decide +kernel)) (fun _ _ _ _ _ => pg_name (i := 6) scCrowdsOf.nd rfl (Or.inl rfl))
            (fun _ _ _ _ _ => pts_one (pt_val (pe_call g1 hr rfl m1 k1 b1 .nil pass0 (pa_cons (pv 5) (pa_cons (pv 6) pa_nil))))) (fun _ _ _ _ _ => pv 6)) pa_nil)))
          (pss_cons (ps_setLc (i := 2) (own := [("other", 6)]) rfl scCrowdsOf.nd rfl rfl (sw_true rfl rfl (by decide +kernel) (by decide +kernel)) (pi_list (pv 2))
            (blkOk_by (by show blkC ["bonds", "crowds", "left", "crowd", "reached", "bond", "other"] (defScope sCrowdsOf) _ _ = true; decide +kernel)) (fun _ _ _ _ _ => pg_name (i := 6) scCrowdsOf.nd rfl (Or.inl rfl))
            (fun _ _ _ _ _ => pts_one (pt_not (pt_val (pe_call g1 hr rfl m1 k1 b1 .nil pass0 (pa_cons (pv 5) (pa_cons (pv 6) pa_nil)))))) (fun _ _ _ _ _ => pv 6))
          (pss_one (ps_aug (i := 4) scCrowdsOf.nd rfl (Or.inl rfl) pe_int ip_add))))))
        (pss_one (ps_expr (pe_bm PySem.F.plainAttrs_list PySem.F.slot_list_append PySem.F.type_list_append mt_append (pv 1) (pa_cons (pv 3) pa_nil)))))))))
      (pss_one (ps_ret (pv 1))))), ?_⟩
    have hN : (GX.cfg g hg).N = g.length + 1 := rfl
    refine ⟨Nat.zero_le _, fun pc npc => ⟨_, rfl, ?_⟩⟩
    have s0 := same_upd (o := .lst []) npc
    have hapc : a ≠ pc := ne_of_none ha npc
    refine ⟨fun mm σ H2 => ∃ (pl : Addr) (ls : List Nat) (ps : List Addr) (css : List (List Nat)) (u3 u4 u5 u6 : Option V), σ = [some (.ref a), some (.ref pc), some (.ref pl), u3, u4, u5, u6] ∧ Same H H2 ∧ H2 pc = some (.lst (ps.map V.ref)) ∧ H2 pl = some (.lst (ls.map (rT tb))) ∧ pl ≠ pc ∧ CL H2 tb pc ps css ∧ GX.CrI (GX.cfg g hg) css ls ∧ ps.length + ls.length ≤ g.length + 1 ∧ mm = ls.length,
      ⟨_, a, List.range (g.length + 1), [], [], none, none, none, none, rfl, s0, upd_same, s0 _ _ ha, hapc, ⟨rfl, fun j p C hp => by simp at hp⟩, GX.CrI.start, (by simp), rfl⟩, ?_⟩
    rintro mm σ H2 ⟨pl, ls, ps, css, u3, u4, u5, u6, rfl, sm, hpc, hpl, hne, cl, ci, hcnt, rfl⟩
    refine ⟨_, rfl, pl, _, rfl, .inl (SqL.of hpl), _, _, rfl, rfl, _, rfl, ite2 (fun h1 => ?_) (fun h1 => ?_)⟩
    · have h1 : (0 : Int) < ((ls.map (rT tb)).length : Nat) := of_decide_eq_true h1
      rw [List.length_map] at h1
      obtain ⟨l0, ls0, rfl⟩ : ∃ l0 ls0, ls = l0 :: ls0 := by
        cases ls with
        | nil => simp at h1
        | cons l0 ls0 => exact ⟨l0, ls0, rfl⟩
      have htot : css.flatten.length + (ls0.length + 1) = g.length + 1 := by
        have := ci.perm.length_eq
        rw [List.length_append, List.length_cons, List.length_range, hN] at this
        exact this
      refine ⟨fun σ3 H3 => ∃ (pl : Addr) (ls : List Nat) (ps : List Addr) (css : List (List Nat)) (u3 u4 u5 u6 : Option V), σ3 = [some (.ref a), some (.ref pc), some (.ref pl), u3, u4, u5, u6] ∧ Same H H3 ∧ H3 pc = some (.lst (ps.map V.ref)) ∧ H3 pl = some (.lst (ls.map (rT tb))) ∧ pl ≠ pc ∧ CL H3 tb pc ps css ∧ GX.CrI (GX.cfg g hg) css ls ∧ ps.length + ls.length ≤ g.length + 1 ∧ ls.length < (l0 :: ls0).length, ?_, ?_⟩
      · rintro σ3 H3 ⟨pl', ls', ps', css', v3, v4, v5, v6, r1, r2, r3, r4, r5, r6, r7, r8, r9⟩
        exact ⟨ls'.length, r9, pl', ls', ps', css', v3, v4, v5, v6, r1, r2, r3, r4, r5, r6, r7, r8, rfl⟩
      · refine ⟨_, rfl, pl, _, _, _, rfl, rfl, SqL.of hpl, (show atI ((l0 :: ls0).map (rT tb)) ((0 : Nat) : Int) = some (rT tb l0) from atI_nat rfl), (by show 1 ≤ sizeLine; decide), fun pcr npcr => ?_⟩
        have s3 := same_upd (o := .lst [rT tb l0]) npcr
        have hpcr0 : H pcr = none := sm.free npcr
        have d1 : pc ≠ pcr := ne_of_none hpc npcr
        refine ⟨_, rfl, _, rfl, pl, _, rfl, SqL.of (s3 _ _ hpl), fun pl2 npl2 => ?_⟩
        rw [cut_1]
        have s4 := same_upd (o := .lst (((l0 :: ls0).map (rT tb)).drop 1)) npl2
        have s34 := s3.trans s4
        have d2 : pcr ≠ pl2 := ne_of_none upd_same npl2
        have d3 : pc ≠ pl2 := ne_of_none (s3 _ _ hpc) npl2
        refine ⟨fun mm σ H5 => ∃ (pl : Addr) (ks ls : List Nat) (r : Nat) (v5 v6 : Option V), σ = [some (.ref a), some (.ref pc), some (.ref pl), some (.ref pcr), some (.int (r : Nat)), v5, v6] ∧ Same H H5 ∧ H5 pc = some (.lst (ps.map V.ref)) ∧ H5 pcr = some (.lst (ks.map (rT tb))) ∧ H5 pl = some (.lst (ls.map (rT tb))) ∧ pl ≠ pc ∧ pl ≠ pcr ∧ CL H5 tb pc ps css ∧ GX.CrJ (GX.cfg g hg) css ks ls r ∧ 1 ≤ ks.length ∧ mm = g.length + 2 - r,
          ⟨_, pl2, [l0], ls0, 0, u5, u6, rfl, sm.trans s34, s34 _ _ hpc, s4 _ _ upd_same, upd_same, Ne.symm d3, Ne.symm d2, cl.mono fun p _ o e => s34 _ _ e, ci.first, Nat.le_refl _, rfl⟩, ?_⟩
        have npsr : ∀ p ∈ ps, p ≠ pcr := fun p hp => by
          obtain ⟨_, xs, hx⟩ := cl.has hp
          exact ne_of_none hx npcr
        rintro mm σ H5 ⟨pl3, ks, ls, r, v5, v6, rfl, sm5, hpc5, hcr5, hpl5, e1, e2, cl5, cj, hks, rfl⟩
        have hlt := cj.lt
        have hlens : css.flatten.length + (ks.length + ls.length) = g.length + 1 := by
          have := cj.perm.length_eq
          rw [List.length_append, List.length_append, List.length_range, hN] at this
          exact this
        have ht5 := htb.same sm5
        refine ⟨_, rfl, _, rfl, pcr, _, rfl, .inl (SqL.of hcr5), _, _, rfl, rfl, _, rfl, ite2 (fun h2 => ?_) (fun h2 => ?_)⟩
        · have h2 : ((r : Nat) : Int) < ((ks.map (rT tb)).length : Nat) := of_decide_eq_true h2
          rw [List.length_map] at h2
          have hrl : r < ks.length := by lia
          obtain ⟨e, he⟩ : ∃ e, ks[r]? = some e := ⟨_, List.getElem?_eq_getElem hrl⟩
          have heN : e < g.length + 1 := hlt.1 e (List.mem_of_getElem? he)
          have step := cj.next (xb := fun l => Rc65.cross (Rc65.bond (Rc65.ends g) e) (Rc65.bond (Rc65.ends g) l)) he fun l hl => GX.cross_iff hg heN (hlt.2 l hl)
          refine ⟨fun σ6 H6 => ∃ (pl : Addr) (ks ls : List Nat) (v5 v6 : Option V), σ6 = [some (.ref a), some (.ref pc), some (.ref pl), some (.ref pcr), some (.int ((r + 1 : Nat) : Int)), v5, v6] ∧ Same H H6 ∧ H6 pc = some (.lst (ps.map V.ref)) ∧ H6 pcr = some (.lst (ks.map (rT tb))) ∧ H6 pl = some (.lst (ls.map (rT tb))) ∧ pl ≠ pc ∧ pl ≠ pcr ∧ CL H6 tb pc ps css ∧ GX.CrJ (GX.cfg g hg) css ks ls (r + 1) ∧ 1 ≤ ks.length, ?_, ?_⟩
          · rintro σ6 H6 ⟨pl6, ks6, ls6, w5, w6, r1, r2, r3, r4, r5, r6, r7, r8, r9, r10⟩
            exact ⟨g.length + 2 - (r + 1), by lia, pl6, ks6, ls6, r + 1, w5, w6, r1, r2, r3, r4, r5, r6, r7, r8, r9, r10, rfl⟩
          · have hat : atI (ks.map (rT tb)) ((r : Nat) : Int) = some (rT tb e) := atI_nat (by rw [List.getElem?_map, he]; rfl)
            refine ⟨_, rfl, _, rfl, pcr, _, _, _, rfl, rfl, SqL.of hcr5, hat, ?_⟩
            refine ⟨_, rfl, .inl ⟨rfl, _, SqL.of hcr5⟩, _, rfl, pl3, rfl, ⟨_, SqL.of hpl5⟩, fun D1 nD1 => lc_listFM (fun v => Rc65.cross (Rc65.bond (Rc65.ends g) e) (decB H v)) id (SqL.of hpl5) nD1 (small1000 (by rw [List.length_map]; lia)) (fun i x H6 Q' R' hx sm6 hq hr' => ?_) ?_⟩
            · rw [List.getElem?_map] at hx
              obtain ⟨l, hl, rfl⟩ := Option.map_eq_some_iff.mp hx
              have hlN : l < g.length + 1 := hlt.2 l (List.mem_of_getElem? hl)
              rw [decB_eq htb hlN] at hq hr'
              refine ⟨rfl, ?_⟩
              refine ⟨_, rfl, _, rfl, tb e, tb l, _, _, _, _, rfl, SqT.of ((ht5.same sm6) e heN), SqT.of ((ht5.same sm6) l hlN), _, rfl, ite2 (fun q => ⟨_, rfl, hq q⟩) (fun q => hr' (Bool.eq_false_iff.mpr q))⟩
            · rw [fm_R htb _ (fun l hl => hlt.2 l hl)]
              have sD1 := same_upd (o := .lst ((ls.filter fun l => Rc65.cross (Rc65.bond (Rc65.ends g) e) (Rc65.bond (Rc65.ends g) l)).map (rT tb))) nD1
              have f1 := List.length_filter_le (fun l => Rc65.cross (Rc65.bond (Rc65.ends g) e) (Rc65.bond (Rc65.ends g) l)) ls
              refine ⟨pcr, D1, _, _, rfl, rfl, sD1 _ _ hcr5, upd_same, Nat.le_of_lt (small1000 (by rw [List.length_map, List.length_map]; lia)), ?_⟩
              rw [← List.map_append]
              -- behind the extend
              have keep : ∀ b o, b ≠ pcr → H5 b = some o → upd (upd H5 D1 (.lst ((ls.filter fun l => Rc65.cross (Rc65.bond (Rc65.ends g) e) (Rc65.bond (Rc65.ends g) l)).map (rT tb)))) pcr (.lst ((ks ++ ls.filter fun l => Rc65.cross (Rc65.bond (Rc65.ends g) e) (Rc65.bond (Rc65.ends g) l)).map (rT tb))) b = some o := fun b o hb h => by
                rw [upd_ne hb]
                exact sD1 _ _ h
              have sm7 : Same H (upd (upd H5 D1 (.lst ((ls.filter fun l => Rc65.cross (Rc65.bond (Rc65.ends g) e) (Rc65.bond (Rc65.ends g) l)).map (rT tb)))) pcr (.lst ((ks ++ ls.filter fun l => Rc65.cross (Rc65.bond (Rc65.ends g) e) (Rc65.bond (Rc65.ends g) l)).map (rT tb)))) := fun b o h => keep b o (ne_of_none h hpcr0) (sm5 _ _ h)
              have hpl7 := keep pl3 _ e2 hpl5
              refine ⟨_, rfl, pl3, rfl, ⟨_, SqL.of hpl7⟩, fun D2 nD2 => lc_listFM (fun v => !Rc65.cross (Rc65.bond (Rc65.ends g) e) (decB H v)) id (SqL.of hpl7) nD2 (small1000 (by rw [List.length_map]; lia)) (fun i x H6 Q' R' hx sm6 hq hr' => ?_) ?_⟩
              · rw [List.getElem?_map] at hx
                obtain ⟨l, hl, rfl⟩ := Option.map_eq_some_iff.mp hx
                have hlN : l < g.length + 1 := hlt.2 l (List.mem_of_getElem? hl)
                rw [decB_eq htb hlN] at hq hr'
                refine ⟨rfl, ?_⟩
                refine ⟨_, rfl, _, rfl, tb e, tb l, _, _, _, _, rfl, SqT.of (((htb.same sm7).same sm6) e heN), SqT.of (((htb.same sm7).same sm6) l hlN), _, rfl, ite2 (fun q => ⟨_, rfl, hq q⟩) (fun q => hr' (Bool.eq_false_iff.mpr q))⟩
              · rw [fm_R htb (fun z => !Rc65.cross (Rc65.bond (Rc65.ends g) e) z) (fun l hl => hlt.2 l hl)]
                have sD2 := same_upd (o := .lst ((ls.filter fun l => !Rc65.cross (Rc65.bond (Rc65.ends g) e) (Rc65.bond (Rc65.ends g) l)).map (rT tb))) nD2
                refine ⟨_, rfl, _, _, rfl, rfl, D2, _, _, _, _, rfl, sm7.trans sD2, sD2 _ _ (keep pc _ d1 hpc5), sD2 _ _ upd_same, upd_same, Ne.symm (ne_of_none (keep pc _ d1 hpc5) nD2), Ne.symm (ne_of_none upd_same nD2), cl5.mono fun p hp o h => sD2 _ _ (keep p o (npsr p hp) h), step, ?_⟩
                rw [List.length_append]
                lia
        · have h2 : ¬ ((r : Nat) : Int) < ((ks.map (rT tb)).length : Nat) := fun q => h2 (decide_eq_true q)
          rw [List.length_map] at h2
          have hrk : r = ks.length := by
            have := cj.le
            lia
          subst hrk
          rw [List.length_cons] at hcnt
          refine ⟨_, rfl, .inl ⟨rfl, _, SqL.of hpc5⟩, _, rfl, pc, _, _, rfl, rfl, hpc5, small1000 (by rw [List.length_map]; lia), ?_⟩
          have keep : ∀ b o, b ≠ pc → H5 b = some o → upd H5 pc (.lst (ps.map V.ref ++ [V.ref pcr])) b = some o := fun b o hb h => by
            rw [upd_ne hb]
            exact h
          refine ⟨pl3, ls, ps ++ [pcr], css ++ [ks], _, _, _, _, rfl, fun b o h => keep b o (ne_of_none h npc) (sm5 _ _ h), ?_, keep pl3 _ e1 hpl5, e1, ?_, cj.fin, ?_, ?_⟩
          · rw [upd_same, List.map_append]
            rfl
          · exact (cl5.mono fun p hp o h => keep p o (cl5.has hp).1 h).snoc (Ne.symm d1) (keep pcr _ (Ne.symm d1) hcr5)
          · rw [List.length_append, List.length_singleton]
            lia
          · rw [List.length_cons]
            lia
    · have h1 : ¬ (0 : Int) < ((ls.map (rT tb)).length : Nat) := fun q => h1 (decide_eq_true q)
      have e : ls = [] := by
        rw [List.length_map] at h1
        exact List.eq_nil_of_length_eq_zero (by lia)
      subst e
      exact ⟨_, rfl, k H2 pc ps css sm npc hpc cl (by simpa using hcnt) ci.all⟩
end
end G

set_option Elab.async false
set_option maxRecDepth 100000
set_option maxHeartbeats 2000000
namespace G
open PySem PySem.Spec PyProof.Rows L2 GM GR
theorem bond_lt {g : List Int} (hg : Rc65.right g = true) {k : Nat} (hk : k < g.length + 1) : (Rc65.bond (Rc65.ends g) k).1 < 2 * g.length + 2 ∧ (Rc65.bond (Rc65.ends g) k).2 < 2 * g.length + 2 := by
  have h1 := GX.Cfg.a_lt (c := GX.cfg g hg) (k := k) hk
  have h2 := GX.Cfg.b_lt (c := GX.cfg g hg) (k := k) hk
  have e : (GX.cfg g hg).m = 2 * g.length + 2 := rfl
  rw [GX.bond_eq hg]
  refine ⟨?_, ?_⟩
  · show min _ _ < _
    lia
  · show max _ _ < _
    lia
def hardB (b : Nat × Nat) : Bool := !Rc65.easy b && !Rc65.met b
def hardC (g : List Int) (C : List Nat) : Bool := C.all fun k => hardB (Rc65.bond (Rc65.ends g) k)
def spIsHard (K : PySem.W.Frag) : Sp := fun vs H Q _ => ∃ (q : Addr) (g : List Int) (tb : Nat → Addr) (C : List Nat), vs = [.ref q] ∧ SqL K H q (C.map (rT tb)) ∧ Tups H g tb ∧ g.length ≤ 10 ∧ Rc65.right g = true ∧ (∀ k ∈ C, k < g.length + 1) ∧ Q (.bl (hardC g C)) H
theorem hardB_iff (x y : Nat) : hardB (x, y) = true ↔ ¬ ((y : Int) = ((Rc65.beside x : Nat) : Int)) ∧ ¬ (((y : Int) - (x : Int)) % 2 = 0) := by
  unfold hardB Rc65.easy Rc65.met
  simp only [Bool.and_eq_true, Bool.not_eq_true', beq_eq_false_iff_ne]
  lia
section
variable {P : Program} {w : World} {K : PySem.W.Frag} {mg : Str → Option Value} {base : Heap}
theorem scIsHard : FnScope ["crowd", "low", "high"] ["crowd"] (defScope sIsHard) := ⟨rfl, rfl, rfl, by decide +kernel, rfl, by decide +kernel, by decide +kernel⟩
theorem ok_isHard {f : Addr} {fd : FuncData} (F : Fun K "is_hard" "is_hard" sIsHard f fd) (G1 : Cal P w K mg base 1 "partner" ["number"] spPartner) : FnOk P w K mg base CX0 2 f fd ["crowd"] (spIsHard K) := by
  obtain ⟨f1, fd1, g1, m1, k1, b1⟩ := G1
  refine F.ok scIsHard (fun vs H Q E h => ?_) (fun cdv A outer s H vs Q E hr h => ?_)
  · obtain ⟨q, g, tb, C, rfl, _⟩ := h
    rfl
  · obtain ⟨q, g, tb, C, rfl, hs, htb, hlen, hg, hC, k⟩ := h
    refine ⟨_, pss_cons (ps_for PassesOwn.never rfl (pi_list (pv 0)) (pg_tup (n := 2) rfl (pgs_cons (pg_name (i := 1) scIsHard.nd rfl (Or.inl rfl)) (pgs_cons (pg_name (i := 2) scIsHard.nd rfl (Or.inl rfl)) pgs_nil)))
        (pss_one (ps_if (pw_or (pt_cmpR op_eq (pv 2) (pe_call g1 hr (by rfl) m1 k1 b1 .nil pass0 (pa_cons (pv 1) pa_nil)) (nomark _)) (pw_or1 (pt_cmpR op_eq (pe_op op_mod (pe_op op_sub (pv 2) (pv 1)) pe_int) pe_int (nomark _)))).pt (pss_one (ps_ret pe_bl)) pss_nil)))
      (pss_one (ps_ret pe_bl)), ?_⟩
    refine ⟨_, rfl, q, rfl, ⟨_, hs⟩, for_list (K := K) (a := q) (xs := C.map (rT tb)) (fun i σ H' => ∃ u v : Option V, σ = [some (.ref q), u, v] ∧ H' = H ∧ hardC g (C.take i) = true) ⟨none, none, rfl, rfl, rfl⟩ (fun i σ H' _ ⟨_, _, _, e, _⟩ => by rw [e]; exact hs) ?_ ?_⟩
    · rintro i x σ H' hx ⟨u, v, rfl, rfl, hh⟩
      rw [List.getElem?_map] at hx
      obtain ⟨c, hc, rfl⟩ := Option.map_eq_some_iff.mp hx
      have hcN := hC c (List.mem_of_getElem? hc)
      have hb := bond_lt hg hcN
      have no : hardB (Rc65.bond (Rc65.ends g) c) = false → Q (.bl false) H' := fun e => by
        have : hardC g C = false := by
          unfold hardC
          rw [List.all_eq_false]
          exact ⟨c, List.mem_of_getElem? hc, by rw [e]; exact Bool.false_ne_true⟩
        rw [this] at k
        exact k
      have hB := hardB_iff (Rc65.bond (Rc65.ends g) c).1 (Rc65.bond (Rc65.ends g) c).2
      refine ⟨tb c, _, rfl, SqT.of (htb c hcN), rfl, _, _, rfl, _, _, rfl, rfl, _, rfl, _, rfl, (Rc65.bond (Rc65.ends g) c).1, rfl, by lia, rfl, _, rfl, ite2 (fun h1 => ?_) (fun h1 => ?_)⟩
      · refine iteT (no ?_)
        have h1 := int_eq.mp h1
        refine Bool.eq_false_iff.mpr fun z => ?_
        exact (hB.mp z).1 h1
      · have h1 : ¬ _ := fun z => h1 (int_eq.mpr z)
        refine ⟨_, rfl, _, rfl, _, _, rfl, rfl, _, _, rfl, rfl, (by show (0 : Int) < 2; decide), rfl, _, rfl, ite2 (fun h2 => ?_) (fun h2 => ?_)⟩
        · refine no ?_
          have h2 := int_eq.mp h2
          refine Bool.eq_false_iff.mpr fun z => ?_
          exact (hB.mp z).2 h2
        · have h2 : ¬ _ := fun z => h2 (int_eq.mpr z)
          refine ⟨_, _, rfl, rfl, ?_⟩
          unfold hardC at hh ⊢
          rw [take_snoc hc, List.all_append, hh, List.all_cons, List.all_nil, Bool.and_true, Bool.true_and]
          exact hB.mpr ⟨h1, h2⟩
    · rintro σ H' ⟨u, v, rfl, rfl, hh⟩
      rw [List.length_map, List.take_length] at hh
      rw [hh] at k
      exact k
end
end G

set_option Elab.async false
set_option maxRecDepth 100000
set_option maxHeartbeats 2000000
namespace G
open PySem PySem.Spec PyProof.Rows L2 GM GR
/-- crowds as lists -/
structure CC (H : Hp) (tb : Nat → Addr) (ps : List Addr) (css : List (List Nat)) : Prop where
  len : ps.length = css.length
  get : ∀ (j : Nat) (p : Addr) (C : List Nat), ps[j]? = some p → css[j]? = some C → H p = some (.lst (C.map (rT tb)))
theorem CC.same {H H' : Hp} {tb : Nat → Addr} {ps : List Addr} {css : List (List Nat)} (h : CC H tb ps css) (s : Same H H') : CC H' tb ps css := ⟨h.len, fun j p C a b => s _ _ (h.get j p C a b)⟩
def own1 (g : List Int) (num : Nat) (C : List Nat) : List (Nat × Nat) := C.flatMap fun k => [((Rc65.bond (Rc65.ends g) k).1, num), ((Rc65.bond (Rc65.ends g) k).2, num)]
def ownAll (g : List Int) (css : List (List Nat)) : List (Nat × Nat) := css.zipIdx.flatMap fun x => own1 g x.2 x.1
theorem own1_len (g : List Int) (num : Nat) : ∀ C : List Nat, (own1 g num C).length = 2 * C.length
  | [] => rfl
  | k :: C => by
    unfold own1
    rw [List.flatMap_cons, List.length_append, List.length_cons]
    have := own1_len g num C
    unfold own1 at this
    rw [this]
    simp
    lia
theorem own1_snoc {g : List Int} {num i k : Nat} {C : List Nat} (h : C[i]? = some k) : own1 g num (C.take (i + 1)) = own1 g num (C.take i) ++ [((Rc65.bond (Rc65.ends g) k).1, num), ((Rc65.bond (Rc65.ends g) k).2, num)] := by
  unfold own1
  rw [take_snoc h, List.flatMap_append, List.flatMap_cons, List.flatMap_nil, List.append_nil]
def ownTo (g : List Int) (css : List (List Nat)) (i : Nat) : List (Nat × Nat) := (css.zipIdx.take i).flatMap fun x => own1 g x.2 x.1
theorem ownTo_snoc {g : List Int} {i : Nat} {css : List (List Nat)} {C : List Nat} (h : css[i]? = some C) : ownTo g css (i + 1) = ownTo g css i ++ own1 g i C := by
  unfold ownTo
  have e : css.zipIdx[i]? = some (C, i) := by rw [List.getElem?_zipIdx, h]; simp
  rw [take_snoc e, List.flatMap_append, List.flatMap_cons, List.flatMap_nil, List.append_nil]
theorem ownTo_all (g : List Int) (css : List (List Nat)) : ownTo g css css.length = ownAll g css := by
  unfold ownTo ownAll
  rw [List.take_of_length_le (by simp)]
theorem flat_take_len : ∀ (css : List (List Nat)) (i : Nat), (css.take i).flatten.length ≤ css.flatten.length
  | [], i => by simp
  | C :: css, 0 => by simp
  | C :: css, i + 1 => by
    rw [List.take_succ_cons, List.flatten_cons, List.flatten_cons, List.length_append, List.length_append]
    have := flat_take_len css i
    lia
theorem ownTo_len (g : List Int) (css : List (List Nat)) : ∀ i, i ≤ css.length → (ownTo g css i).length = 2 * (css.take i).flatten.length
  | 0, _ => by simp [ownTo]
  | i + 1, h => by
    have hi : css[i]? = some (css[i]'(by lia)) := List.getElem?_eq_getElem (by lia)
    rw [ownTo_snoc hi, List.length_append, ownTo_len g css i (by lia), own1_len, take_snoc hi, List.flatten_append, List.length_append]
    simp
    lia
/-- pairs as tuples -/
def keyA (H : Hp) (t : Addr) : Int × Int := match H t with
  | some (.tup [.int x, .int y]) => (x, y)
  | _ => (0, 0)
structure PT2 (H : Hp) (ts : List Addr) (ws : List (Nat × Nat)) : Prop where
  len : ts.length = ws.length
  get : ∀ (j : Nat) (t : Addr) (x : Nat × Nat), ts[j]? = some t → ws[j]? = some x → H t = some (.tup [.int (x.1 : Nat), .int (x.2 : Nat)])
theorem PT2.same {H H' : Hp} {ts : List Addr} {ws : List (Nat × Nat)} (h : PT2 H ts ws) (s : ∀ (t : Addr) (xs : List V), H t = some (.tup xs) → H' t = some (.tup xs)) : PT2 H' ts ws := ⟨h.len, fun j t x a b => s _ _ (h.get j t x a b)⟩
theorem PT2.two {H : Hp} {ts : List Addr} {ws : List (Nat × Nat)} (h : PT2 H ts ws) {t u : Addr} {x y : Nat × Nat} (ht : H t = some (.tup [.int (x.1 : Nat), .int (x.2 : Nat)])) (hu : H u = some (.tup [.int (y.1 : Nat), .int (y.2 : Nat)])) : PT2 H (ts ++ [t, u]) (ws ++ [x, y]) := by
  refine ⟨by simp [h.len], fun j a b ha hb => ?_⟩
  by_cases hj : j < ts.length
  · rw [List.getElem?_append_left hj] at ha
    rw [List.getElem?_append_left (by rw [← h.len]; exact hj)] at hb
    exact h.get j a b ha hb
  · rw [List.getElem?_append_right (by lia)] at ha
    rw [List.getElem?_append_right (by rw [← h.len]; lia), ← h.len] at hb
    match hjj : j - ts.length with
    | 0 =>
      rw [hjj] at ha hb
      obtain rfl := Option.some.inj ha
      obtain rfl := Option.some.inj hb
      exact ht
    | 1 =>
      rw [hjj] at ha hb
      obtain rfl := Option.some.inj ha
      obtain rfl := Option.some.inj hb
      exact hu
    | n + 2 =>
      rw [hjj] at ha
      simp at ha
theorem PT2.mem {H : Hp} {ts : List Addr} {ws : List (Nat × Nat)} (h : PT2 H ts ws) {t : Addr} (ht : t ∈ ts) : ∃ x : Nat × Nat, H t = some (.tup [.int (x.1 : Nat), .int (x.2 : Nat)]) := by
  obtain ⟨j, hj⟩ := List.getElem?_of_mem ht
  have hl : j < ws.length := by rw [← h.len]; exact (List.getElem?_eq_some_iff.mp hj).1
  exact ⟨_, h.get j t _ hj (List.getElem?_eq_getElem hl)⟩
theorem PT2.map {H : Hp} {ts : List Addr} {ws : List (Nat × Nat)} (h : PT2 H ts ws) : ts.map (fun t => ((keyA H t).1.toNat, (keyA H t).2.toNat)) = ws := by
  refine List.ext_getElem? fun j => ?_
  rw [List.getElem?_map]
  by_cases hj : j < ts.length
  · have h1 := List.getElem?_eq_getElem hj
    have h2 := List.getElem?_eq_getElem (l := ws) (i := j) (by rw [← h.len]; exact hj)
    have := h.get j _ _ h1 h2
    rw [h1, h2, Option.map_some]
    unfold keyA
    rw [this]
    simp
  · rw [List.getElem?_eq_none (by lia), List.getElem?_eq_none (by rw [← h.len]; lia)]
    rfl
def spOwnersOf (K : PySem.W.Frag) : Sp := fun vs H Q _ => ∃ (a : Addr) (g : List Int) (tb : Nat → Addr) (ps : List Addr) (css : List (List Nat)), vs = [.ref a] ∧ SqL K H a (ps.map V.ref) ∧ CC H tb ps css ∧ Tups H g tb ∧ (∀ C ∈ css, ∀ k ∈ C, k < g.length + 1) ∧ css.flatten.length ≤ 11 ∧
  ∀ (H' : Hp) (p : Addr) (ws : List (Nat × Nat)), ws.Perm (ownAll g css) → ws.Pairwise (fun x y => x.1 ≤ y.1) → Same H H' → H p = none → H' p = some (.lst ((nI (ws.map (·.2))).map V.int)) → Q (.ref p) H'
section
variable {P : Program} {w : World} {K : PySem.W.Frag} {mg : Str → Option Value} {base : Heap}
theorem scOwnersOf : FnScope ["crowds", "owned", "number", "crowd", "low", "high", "place"] ["crowds"] (defScope sOwnersOf) := ⟨rfl, rfl, rfl, by decide +kernel, rfl, by decide +kernel, by decide +kernel⟩
theorem ok_ownersOf {f : Addr} {fd : FuncData} (F : Fun K "owners_of" "owners_of" sOwnersOf f fd) (T : Tx mg) : FnOk P w K mg base CX0 1 f fd ["crowds"] (spOwnersOf K) := by
  refine F.ok scOwnersOf (fun vs H Q E h => ?_) (fun cdv A outer s H vs Q E hr h => ?_)
  · obtain ⟨a, g, tb, ps, css, rfl, _⟩ := h
    rfl
  · obtain ⟨a, g, tb, ps, css, rfl, hs, hcc, htb, hC, hfl, k⟩ := h
    refine ⟨_, pss_cons (ps_set (i := 1) scOwnersOf.nd rfl (Or.inl rfl) (pe_lst pa_nil))
      (pss_cons (ps_for PassesOwn.never rfl (pi_enum (by rfl) T.enumerate (pa_cons (pv 0) pa_nil)) (pg_tup (n := 2) rfl (pgs_cons (pg_name (i := 2) scOwnersOf.nd rfl (Or.inl rfl)) (pgs_cons (pg_name (i := 3) scOwnersOf.nd rfl (Or.inl rfl)) pgs_nil)))
        (pss_one (ps_for PassesOwn.never rfl (pi_list (pv 3)) (pg_tup (n := 2) rfl (pgs_cons (pg_name (i := 4) scOwnersOf.nd rfl (Or.inl rfl)) (pgs_cons (pg_name (i := 5) scOwnersOf.nd rfl (Or.inl rfl)) pgs_nil)))
          (pss_one (ps_expr (pe_bm PySem.F.plainAttrs_list PySem.F.slot_list_extend PySem.F.type_list_extend mt_extend (pv 1) (pa_cons (pe_lst (pa_cons (pe_tup (pa_cons (pv 4) (pa_cons (pv 2) pa_nil))) (pa_cons (pe_tup (pa_cons (pv 5) (pa_cons (pv 2) pa_nil))) pa_nil))) pa_nil)))))))
      (pss_one (ps_ret (pe_lc (own := [("place", 6), ("number", 2)]) rfl scOwnersOf.nd (pi_list (pe_callB cr_sortedT (by rfl) T.sorted b_sorted (pa_cons (pv 1) pa_nil)))
        (blkOk_by (by show blkC ["crowds", "owned", "number", "crowd", "low", "high", "place"] (defScope sOwnersOf) _ _ = true; decide +kernel))
        (fun _ _ _ _ _ => pg_tupK (K := K) (n := 2) rfl rfl (pgs_cons (pg_name (i := 6) scOwnersOf.nd rfl (Or.inl rfl)) (pgs_cons (pg_name (i := 2) scOwnersOf.nd rfl (Or.inl rfl)) pgs_nil)))
        (fun _ _ _ _ _ => pts_nil) (fun _ _ _ _ _ => pv 2))))), ?_⟩
    refine ⟨Nat.zero_le _, fun po npo => ?_⟩
    have s0 := same_upd (o := .lst []) npo
    refine ⟨_, rfl, a, _, rfl, s0.seq hs, for_enum (K := K) (a := a) (xs := ps.map V.ref) (fun i σ H' => ∃ (u2 u3 u4 u5 u6 : Option V) (ts : List Addr), σ = [some (.ref a), some (.ref po), u2, u3, u4, u5, u6] ∧ Same H H' ∧ H' po = some (.lst (ts.map V.ref)) ∧ PT2 H' ts (ownTo g css i))
      ⟨none, none, none, none, none, [], rfl, s0, upd_same, ⟨rfl, fun j t x h => by simp at h⟩⟩ (fun i σ H' _ ⟨_, _, _, _, _, _, _, sm, _⟩ => sm.seq hs) ?_ ?_⟩
    · rintro i x σ H1 Tp hx ⟨u2, u3, u4, u5, u6, ts0, rfl, sm1, hpo1, pt1⟩ hT
      rw [List.getElem?_map] at hx
      obtain ⟨q, hq, rfl⟩ := Option.map_eq_some_iff.mp hx
      have hil : i < css.length := by rw [← hcc.len]; exact (List.getElem?_eq_some_iff.mp hq).1
      obtain ⟨C, hCi⟩ : ∃ C, css[i]? = some C := ⟨_, List.getElem?_eq_getElem hil⟩
      have hqC := hcc.get i q C hq hCi
      have hCm := List.mem_of_getElem? hCi
      have sT := same_upd (o := .tup [.int (i : Nat), .ref q]) hT
      have smT := sm1.trans sT
      refine ⟨Tp, _, rfl, SqT.of upd_same, rfl, _, _, rfl, _, _, rfl, rfl, _, rfl, q, rfl, ⟨_, SqL.of (smT _ _ hqC)⟩, for_list (K := K) (a := q) (xs := C.map (rT tb)) (fun j σ H' => ∃ (u4 u5 u6 : Option V) (ts : List Addr), σ = [some (.ref a), some (.ref po), some (.int (i : Nat)), some (.ref q), u4, u5, u6] ∧ Same H H' ∧ H' po = some (.lst (ts.map V.ref)) ∧ PT2 H' ts (ownTo g css i ++ own1 g i (C.take j)))
        ⟨_, _, _, ts0, rfl, smT, sT _ _ hpo1, ?_⟩ (fun j σ H' _ ⟨_, _, _, _, _, sm, _⟩ => SqL.of (sm _ _ hqC)) ?_ ?_⟩
      · have e : ownTo g css i ++ own1 g i (C.take 0) = ownTo g css i := by simp [own1]
        rw [e]
        exact pt1.same fun t xs h => sT _ _ h
      · rintro j y σ H2 hy ⟨v4, v5, v6, ts, rfl, sm2, hpo2, pt2⟩
        rw [List.getElem?_map] at hy
        obtain ⟨c, hc, rfl⟩ := Option.map_eq_some_iff.mp hy
        have hcN := hC C hCm c (List.mem_of_getElem? hc)
        have hjl : j < C.length := (List.getElem?_eq_some_iff.mp hc).1
        refine ⟨tb c, _, rfl, SqT.of (sm2 _ _ (htb c hcN)), rfl, _, _, rfl, _, _, rfl, rfl, ?_⟩
        refine ⟨_, rfl, .inl ⟨rfl, _, SqL.of hpo2⟩, _, rfl, _, rfl, (by show 2 ≤ sizeLine; decide), fun t1 n1 => ⟨_, rfl, _, rfl, (by show 2 ≤ sizeLine; decide), fun t2 n2 => ⟨(by show 2 ≤ sizeLine; decide), fun l nl => ?_⟩⟩⟩
        have s1 := same_upd (o := .tup [.int ((Rc65.bond (Rc65.ends g) c).1 : Nat), .int (i : Nat)]) n1
        have s2 := same_upd (o := .tup [.int ((Rc65.bond (Rc65.ends g) c).2 : Nat), .int (i : Nat)]) n2
        have s3 := same_upd (o := .lst [.ref t1, .ref t2]) nl
        have s123 := (s1.trans s2).trans s3
        have hlen : ts.length ≤ 22 := by
          rw [pt2.len, List.length_append, ownTo_len g css i (by lia), own1_len]
          have e1 : ((css.take i).flatten.length + C.length) ≤ css.flatten.length := by
            have := flat_take_len css (i + 1)
            rw [take_snoc hCi, List.flatten_append, List.length_append] at this
            simpa using this
          have := List.length_take_le j C
          lia
        refine ⟨po, l, _, _, rfl, rfl, s123 _ _ hpo2, upd_same, Nat.le_of_lt (small1000 (by rw [List.length_map, List.length_cons, List.length_cons, List.length_nil]; lia)), ?_⟩
        have keep : ∀ (b : Addr) (xs : List V), upd (upd (upd H2 t1 (.tup [.int ((Rc65.bond (Rc65.ends g) c).1 : Nat), .int (i : Nat)])) t2 (.tup [.int ((Rc65.bond (Rc65.ends g) c).2 : Nat), .int (i : Nat)])) l (.lst [.ref t1, .ref t2]) b = some (.tup xs) → upd (upd (upd (upd H2 t1 (.tup [.int ((Rc65.bond (Rc65.ends g) c).1 : Nat), .int (i : Nat)])) t2 (.tup [.int ((Rc65.bond (Rc65.ends g) c).2 : Nat), .int (i : Nat)])) l (.lst [.ref t1, .ref t2])) po (.lst (ts.map V.ref ++ [.ref t1, .ref t2])) b = some (.tup xs) := fun b xs h => by
          rw [upd_ne (fun e => by rw [e, s123 _ _ hpo2] at h; cases h)]
          exact h
        refine ⟨_, _, _, ts ++ [t1, t2], rfl, fun b o h => ?_, ?_, ?_⟩
        · rw [upd_ne (ne_of_none h npo)]
          exact s123 _ _ (sm2 _ _ h)
        · rw [upd_same, List.map_append]
          rfl
        · rw [own1_snoc hc, ← List.append_assoc]
          refine (pt2.same fun t xs h => keep t xs (s123 _ _ h)).two (x := ((Rc65.bond (Rc65.ends g) c).1, i)) (y := ((Rc65.bond (Rc65.ends g) c).2, i)) (keep _ _ (s3 _ _ (s2 _ _ upd_same))) (keep _ _ (s3 _ _ upd_same))
      · rintro σ H2 ⟨v4, v5, v6, ts, rfl, sm2, hpo2, pt2⟩
        rw [List.length_map, List.take_length, ← ownTo_snoc hCi] at pt2
        exact ⟨_, _, _, _, _, ts, rfl, sm2, hpo2, pt2⟩
    · rintro σ H1 ⟨u2, u3, u4, u5, u6, ts, rfl, sm1, hpo1, pt1⟩
      rw [List.length_map, hcc.len, ownTo_all] at pt1
      have htl : ts.length ≤ 22 := by
        rw [pt1.len, ← ownTo_all, ownTo_len g css _ (Nat.le_refl _), List.take_length]
        lia
      have hkey : ∀ t ∈ ts, H1 t = some (.tup [.int (keyA H1 t).1, .int (keyA H1 t).2]) := fun t ht => by
        obtain ⟨x, hx⟩ := pt1.mem ht
        unfold keyA
        rw [hx]
      refine ⟨_, rfl, po, ts, keyA H1, rfl, SqL.of hpo1, hkey, fun ts' pn hperm hsort npn => ?_⟩
      have sn := same_upd (o := .lst (ts'.map V.ref)) npn
      refine ⟨pn, rfl, ⟨_, SqL.of upd_same⟩, fun D nD => lc_listFM (fun _ => true) (fun v => match v with | .ref t => .int (keyA H1 t).2 | v => v) (SqL.of upd_same) nD (small1000 (by rw [List.length_map, hperm.length_eq]; lia)) (fun i x H6 Q' R' hx sm6 hq _ => ?_) ?_⟩
      · rw [List.getElem?_map] at hx
        obtain ⟨t, ht, rfl⟩ := Option.map_eq_some_iff.mp hx
        have htm := hperm.mem_iff.mp (List.mem_of_getElem? ht)
        refine ⟨t, _, rfl, SqT.of (sm6 _ _ (sn _ _ (hkey t htm))), rfl, _, _, rfl, _, _, rfl, rfl, ?_⟩
        refine ⟨rfl, yes_if ⟨_, rfl, hq rfl⟩⟩
      · have e : fm (fun _ => true) (fun v => match v with | .ref t => .int (keyA H1 t).2 | v => v) (ts'.map V.ref) = (nI ((ts'.map (fun t => ((keyA H1 t).1.toNat, (keyA H1 t).2.toNat))).map (·.2))).map V.int := by
          unfold fm nI Rc65.ints
          rw [List.filter_eq_self.mpr (fun _ _ => rfl), List.map_map, List.map_map, List.map_map, List.map_map]
          refine List.map_congr_left fun t ht => ?_
          obtain ⟨x, hx⟩ := pt1.mem (hperm.mem_iff.mp ht)
          show V.int (keyA H1 t).2 = V.int (((keyA H1 t).2.toNat : Nat) : Int)
          unfold keyA
          rw [hx]
          simp
        rw [e]
        refine k _ D (ts'.map (fun t => ((keyA H1 t).1.toNat, (keyA H1 t).2.toNat))) ?_ ?_ ((sm1.trans sn).trans (same_upd nD)) (sm1.free (sn.free nD)) upd_same
        · rw [← pt1.map]
          exact hperm.map _
        · rw [List.pairwise_map]
          refine hsort.imp fun h => ?_
          show (keyA H1 _).1.toNat ≤ (keyA H1 _).1.toNat
          lia
end
end G

set_option Elab.async false
set_option maxRecDepth 100000
set_option maxHeartbeats 2000000
namespace G
open PySem PySem.Spec PyProof.Rows L2 GM GR
def beg (l : List Nat) (m j : Nat) : Bool := l.getD j 0 == m && l.getD ((j + l.length - 1) % l.length) 0 != m
def cnt (l : List Nat) (i m : Nat) : Nat := ((List.range i).filter (beg l m)).length
theorem cnt_succ (l : List Nat) (i m : Nat) : cnt l (i + 1) m = cnt l i m + if beg l m i = true then 1 else 0 := by
  unfold cnt
  rw [List.range_succ, List.filter_append, List.length_append, List.filter_cons]
  split <;> simp
theorem cnt_none {l : List Nat} {i m : Nat} (h : m ∉ l.take i) (hi : i ≤ l.length) : cnt l i m = 0 := by
  unfold cnt
  rw [List.length_eq_zero_iff, List.filter_eq_nil_iff]
  intro j hj q
  unfold beg at q
  rw [Bool.and_eq_true] at q
  have hj := List.mem_range.mp hj
  refine h ?_
  have e : l.getD j 0 = m := eq_of_beq q.1
  rw [List.getD_eq_getElem?_getD, List.getElem?_eq_getElem (by lia)] at e
  refine List.mem_of_getElem? (i := j) ?_
  rw [List.getElem?_take_of_lt hj, List.getElem?_eq_getElem (by lia)]
  exact congrArg some e
def kvAt (l : List Nat) (i : Nat) : List (Key × V) := (l.take i).eraseDups.map fun (m : Nat) => ((Sum.inl (m : Int) : Key), V.int (cnt l i m : Nat))
theorem val_map (f : Nat → V) (n : Nat) : ∀ ms : List Nat, valV (ms.map fun (m : Nat) => ((Sum.inl (m : Int) : Key), f m)) (Sum.inl (n : Int) : Key) = if n ∈ ms then some (f n) else none
  | [] => rfl
  | m :: ms => by
    rw [List.map_cons]
    by_cases e : m = n
    · subst e
      rw [valV_pos (p := ((Sum.inl (m : Int) : Key), f m)) rfl, if_pos (List.mem_cons_self ..)]
    · rw [valV_neg (p := ((Sum.inl (m : Int) : Key), f m)) (fun z => e (by have := Sum.inl.inj z; lia)), val_map f n ms]
      have : n ∈ m :: ms ↔ n ∈ ms := by
        rw [List.mem_cons]
        exact ⟨fun z => z.resolve_left (fun q => e q.symm), .inr⟩
      by_cases q : n ∈ ms
      · rw [if_pos q, if_pos (this.mpr q)]
      · rw [if_neg q, if_neg (fun z => q (this.mp z))]
theorem kv_val {l : List Nat} {i n : Nat} (hi : i ≤ l.length) : (valV (kvAt l i) (Sum.inl (n : Int) : Key)).getD (.int 0) = .int (cnt l i n : Nat) := by
  unfold kvAt
  rw [val_map]
  by_cases h : n ∈ (l.take i).eraseDups
  · rw [if_pos h]
    rfl
  · rw [if_neg h, cnt_none (fun z => h (List.mem_eraseDups.mpr z)) hi]
    rfl
theorem dups_snoc (xs : List Nat) (n : Nat) : (xs ++ [n]).eraseDups = if n ∈ xs then xs.eraseDups else xs.eraseDups ++ [n] := by
  rw [List.eraseDups_append]
  by_cases h : n ∈ xs
  · rw [if_pos h]
    simp [List.removeAll, h]
  · rw [if_neg h]
    have e : [n].removeAll xs = [n] := by simp [List.removeAll, h]
    rw [e, List.eraseDups_cons]
    rfl
theorem kv_put {l : List Nat} {i n : Nat} (h : l[i]? = some n) : putK (kvAt l i) (Sum.inl (n : Int) : Key) (.int (cnt l (i + 1) n : Nat)) = kvAt l (i + 1) := by
  have hi : i < l.length := (List.getElem?_eq_some_iff.mp h).1
  have other : ∀ m, m ≠ n → cnt l (i + 1) m = cnt l i m := fun m hm => by
    rw [cnt_succ]
    have : beg l m i = false := by
      unfold beg
      have : l.getD i 0 = n := by rw [List.getD_eq_getElem?_getD, h]; rfl
      rw [this]
      have : (n == m) = false := beq_eq_false_iff_ne.mpr (Ne.symm hm)
      rw [this]
      rfl
    rw [this]
    rfl
  by_cases hm : n ∈ l.take i
  · unfold putK
    have hany : ((kvAt l i).any fun kv => decide (kv.1 = (Sum.inl (n : Int) : Key))) = true := by
      rw [valV_any]
      unfold kvAt
      rw [val_map, if_pos (List.mem_eraseDups.mpr hm)]
      rfl
    rw [if_pos hany]
    unfold kvAt
    rw [take_snoc h, dups_snoc, if_pos hm, List.map_map]
    refine List.map_congr_left fun m _ => ?_
    show (if ((Sum.inl (m : Int) : Key)) = (Sum.inl (n : Int) : Key) then _ else _) = _
    by_cases e : m = n
    · subst e
      rw [if_pos rfl]
    · rw [if_neg (fun z => e (by have := Sum.inl.inj z; lia)), other m e]
  · rw [putK_new]
    · unfold kvAt
      rw [take_snoc h, dups_snoc, if_neg hm, List.map_append]
      congr 1
      refine List.map_congr_left fun m hmm => ?_
      have e : m ≠ n := fun z => hm (by rw [← z]; exact List.mem_eraseDups.mp hmm)
      rw [other m e]
    · unfold kvAt
      rw [val_map, if_neg (fun z => hm (List.mem_eraseDups.mp z))]
theorem hurd_cnt (l : List Nat) : Rc65.hurdles l = l.eraseDups.filter fun c => decide (cnt l l.length c ≤ 1) := rfl
def spHurdles (K : PySem.W.Frag) : Sp := fun vs H Q _ => ∃ (a : Addr) (l : List Nat), vs = [.ref a] ∧ SqL K H a ((nI l).map V.int) ∧ l.length ≤ 100 ∧ NewL H (nI (Rc65.hurdles l)) Q
theorem prev_at {l : List Nat} {i : Nat} (h : i < l.length) : atI ((nI l).map V.int) ((i : Int) - 1) = some (.int (l.getD ((i + l.length - 1) % l.length) 0 : Nat)) := by
  have get : ∀ j, j < l.length → ((nI l).map V.int)[j]? = some (.int (l.getD j 0 : Nat)) := fun j hj => by
    refine nI_get ?_
    rw [List.getD_eq_getElem?_getD, List.getElem?_eq_getElem hj]
    rfl
  by_cases h0 : 0 < i
  · rw [GX.prev_of h h0, show (i : Int) - 1 = ((i - 1 : Nat) : Int) by lia]
    exact atI_nat (get _ (by lia))
  · have h0 : i = 0 := by lia
    subst h0
    rw [GX.prev_0 (by lia)]
    have e : ixN ((nI l).map V.int).length ((0 : Nat) - 1 : Int) = some (l.length - 1) := by
      unfold ixN
      rw [List.length_map, ints_len, if_neg (by decide), if_pos (by lia)]
      congr 1
      lia
    unfold atI
    rw [e]
    exact get _ (by lia)
section
variable {P : Program} {w : World} {K : PySem.W.Frag} {mg : Str → Option Value} {base : Heap}
theorem scHurdles : FnScope ["owners", "stretches", "at", "number", "begins"] ["owners"] (defScope sHurdlesAmong) := ⟨rfl, rfl, rfl, by decide +kernel, rfl, by decide +kernel, by decide +kernel⟩
theorem ok_hurdles {f : Addr} {fd : FuncData} (F : Fun K "hurdles_among" "hurdles_among" sHurdlesAmong f fd) (T : Tx mg) : FnOk P w K mg base CX0 1 f fd ["owners"] (spHurdles K) := by
  refine F.ok scHurdles (fun vs H Q E h => ?_) (fun cdv A outer s H vs Q E hr h => ?_)
  · obtain ⟨a, l, rfl, _⟩ := h
    rfl
  · obtain ⟨a, l, rfl, hs, hlen, k⟩ := h
    have hu := hu_of hr
    refine ⟨_, pss_cons (ps_set (i := 1) scHurdles.nd rfl (Or.inr rfl) pe_dnewK)
      (pss_cons (ps_for PassesOwn.never rfl (pi_enum (by rfl) T.enumerate (pa_cons (pv 0) pa_nil)) (pg_tup (n := 2) rfl (pgs_cons (pg_name (i := 2) scHurdles.nd rfl (Or.inl rfl)) (pgs_cons (pg_name (i := 3) scHurdles.nd rfl (Or.inl rfl)) pgs_nil)))
        (pss_cons (ps_set (i := 4) scHurdles.nd rfl (Or.inl rfl) (pe_ifExp (pt_cmpR op_ne (pe_ix ix_list (pv 0) (pe_op op_sub (pv 2) pe_int) (fun _ _ => rfl)) (pv 3) (nomark _)) pe_int pe_int))
        (pss_one (ps_dput hu (pv 1) (pv 3) (pe_op op_add (pe_dget2 hu (pv 1) (pv 3) pe_int ⟨by rfl, by rfl, by rfl, by rfl⟩) (pv 4)) rfl))))
      (pss_one (ps_ret (pe_lock (pe_lc (own := [("number", 3)]) rfl scHurdles.nd (pi_keys (pv 1))
        (blkOk_by (by show blkC ["owners", "stretches", "at", "number", "begins"] (defScope sHurdlesAmong) _ _ = true; decide +kernel)) (fun _ _ _ _ _ => pg_name (i := 3) scHurdles.nd rfl (Or.inl rfl))
        (fun _ _ _ _ _ => pts_one (pt_cmpR op_le (pe_dget hu (pv 1) (pv 3) (fun _ _ => rfl)) pe_int (nomark _))) (fun _ _ _ _ _ => pv 3)))))), ?_⟩
    intro d nd
    have s0 := same_upd (o := .dK []) nd
    refine ⟨_, rfl, a, _, rfl, s0.seq hs, for_enum (K := K) (a := a) (xs := (nI l).map V.int) (fun i σ H' => ∃ (u2 u3 u4 : Option V), σ = [some (.ref a), some (.ref d), u2, u3, u4] ∧ Same H H' ∧ H' d = some (.dK (kvAt l i)))
      ⟨none, none, none, rfl, s0, upd_same⟩ (fun i σ H' _ ⟨_, _, _, _, sm, _⟩ => sm.seq hs) ?_ ?_⟩
    · rintro i x σ H1 Tp hx ⟨u2, u3, u4, rfl, sm1, hd1⟩ hT
      have hi : i < l.length := by
        have := (List.getElem?_eq_some_iff.mp hx).1
        rw [List.length_map, ints_len] at this
        exact this
      obtain ⟨n, hn⟩ : ∃ n, l[i]? = some n := ⟨_, List.getElem?_eq_getElem hi⟩
      rw [nI_get hn] at hx
      obtain rfl := Option.some.inj hx
      have sT := same_upd (o := .tup [.int (i : Nat), .int (n : Nat)]) hT
      have smT := sm1.trans sT
      have hdT := sT _ _ hd1
      refine ⟨Tp, _, rfl, SqT.of upd_same, rfl, _, _, rfl, _, _, rfl, rfl, ?_⟩
      have hcs : ∀ b : Int, ((cnt l (i + 1) n : Nat) : Int) = (cnt l i n : Nat) + b → ∀ T : L2.St → Hp → Prop, (∀ σ2 H2, (∃ (u2 u3 u4 : Option V), σ2 = [some (.ref a), some (.ref d), u2, u3, u4] ∧ Same H H2 ∧ H2 d = some (.dK (kvAt l (i + 1)))) → T σ2 H2) →
          T [some (.ref a), some (.ref d), some (.int (i : Nat)), some (.int (n : Nat)), some (.int b)] (upd (upd H1 Tp (.tup [.int (i : Nat), .int (n : Nat)])) d (.dK (putK (kvAt l i) (Sum.inl (n : Int) : Key) (.int ((cnt l i n : Nat) + b))))) := fun b hb T hT => by
        refine hT _ _ ⟨_, _, _, rfl, fun b' o' e' => ?_, ?_⟩
        · rw [upd_ne (ne_of_none e' nd)]
          exact smT _ _ e'
        · rw [upd_same, ← hb, kv_put hn]
      have hbeg : beg l n i = (l.getD ((i + l.length - 1) % l.length) 0 != n) := by
        unfold beg
        have : l.getD i 0 = n := by rw [List.getD_eq_getElem?_getD, hn]; rfl
        rw [this]
        simp
      have hkl : (kvAt l i).length < sizeLine := by
        unfold kvAt
        rw [List.length_map]
        have h1 := eraseDups_le _ (l.take i) (Nat.le_refl _)
        have h2 := List.length_take_le i l
        exact small1000 (by lia)
      refine ⟨_, rfl, _, rfl, _, _, rfl, rfl, a, _, _, _, rfl, rfl, smT.seq hs, prev_at hi, _, rfl, rfl, _, rfl, ite2 (fun h1 => ?_) (fun h1 => ?_)⟩
      · have h1 : beg l n i = true := by
          rw [hbeg]
          rw [dec_int] at h1
          simp at h1 ⊢
          lia
        refine ⟨_, rfl, d, rfl, .inl ⟨_, .inl hdT⟩, _, rfl, _, DGet.k (k := (Sum.inl (n : Int) : Key)) hdT, _, rfl, _, _, kv_val (by lia), rfl, _, rfl, _, rfl, d, _, rfl, DPut.k (k := (Sum.inl (n : Int) : Key)) hdT hkl, ?_⟩
        exact hcs 1 (by rw [cnt_succ, if_pos h1]; lia) _ (fun σ2 H2 h => h)
      · have h1 : ¬ beg l n i = true := by
          rw [hbeg]
          rw [dec_int] at h1
          simp at h1 ⊢
          lia
        refine ⟨_, rfl, d, rfl, .inl ⟨_, .inl hdT⟩, _, rfl, _, DGet.k (k := (Sum.inl (n : Int) : Key)) hdT, _, rfl, _, _, kv_val (by lia), rfl, _, rfl, _, rfl, d, _, rfl, DPut.k (k := (Sum.inl (n : Int) : Key)) hdT hkl, ?_⟩
        exact hcs 0 (by rw [cnt_succ, if_neg h1]; lia) _ (fun σ2 H2 h => h)
    · rintro σ H1 ⟨u2, u3, u4, rfl, sm1, hd1⟩
      rw [List.length_map, ints_len] at hd1
      have hkl : (kvAt l l.length).length = l.eraseDups.length := by unfold kvAt; rw [List.length_map, List.take_length]
      have hdl : l.eraseDups.length ≤ 100 := Nat.le_trans (eraseDups_le _ l (Nat.le_refl _)) hlen
      refine ⟨d, _, hd1, trivial, fun od => ⟨_, rfl, d, od, rfl, .inl ⟨_, upd_same, fun D nD => lc_keys (d := d) (o := od) (kvs := kvAt l l.length) (fun i H' => H' = upd (upd H1 d (.frz od (.dK (kvAt l l.length)))) D (.lst ((nI ((l.eraseDups.take i).filter fun c => decide (cnt l l.length c ≤ 1))).map V.int))) rfl (fun i H' _ e => ?_) (fun i k' v' H' hk e => ?_) (fun H' e => ?_)⟩⟩⟩
      · subst e
        rw [upd_ne (ne_of_none upd_same nD)]
        exact upd_same
      · subst e
        have hdD : (upd (upd H1 d (.frz od (.dK (kvAt l l.length)))) D (.lst ((nI ((l.eraseDups.take i).filter fun c => decide (cnt l l.length c ≤ 1))).map V.int))) d = some (.frz od (.dK (kvAt l l.length))) := by
          rw [upd_ne (ne_of_none upd_same nD)]
          exact upd_same
        have hk2 : ∃ m, l.eraseDups[i]? = some m ∧ k' = Sum.inl (m : Int) ∧ v' = .int (cnt l l.length m : Nat) := by
          unfold kvAt at hk
          rw [List.take_length, List.getElem?_map] at hk
          obtain ⟨m, hm, e⟩ := Option.map_eq_some_iff.mp hk
          exact ⟨m, hm, (congrArg Prod.fst e).symm, (congrArg Prod.snd e).symm⟩
        obtain ⟨m, hm, rfl, rfl⟩ := hk2
        have hval : some (V.int (cnt l l.length m : Nat)) = valV (kvAt l l.length) (Sum.inl (m : Int) : Key) := by
          unfold kvAt
          rw [List.take_length, val_map, if_pos (List.mem_of_getElem? hm)]
        have hsz : ((nI ((l.eraseDups.take i).filter fun c => decide (cnt l l.length c ≤ 1))).map V.int).length < sizeLine := by
          rw [List.length_map, ints_len]
          have h1 := List.length_filter_le (fun c => decide (cnt l l.length c ≤ 1)) (l.eraseDups.take i)
          have h2 : (l.eraseDups.take i).length ≤ l.eraseDups.length := by rw [List.length_take]; lia
          exact small1000 (by lia)
        refine ⟨rfl, ?_⟩
        refine ⟨_, rfl, _, rfl, d, _, rfl, .inl ⟨_, _, .inr ⟨od, hdD⟩, rfl, hval⟩, _, _, rfl, rfl, _, rfl, ite2 (fun h1 => ?_) (fun h1 => ?_)⟩
        · have h1 : ((cnt l l.length m : Nat) : Int) ≤ 1 := of_decide_eq_true h1
          refine ⟨_, rfl, _, upd_same, hsz, ?_⟩
          rw [upd_upd, take_snoc hm, List.filter_append, List.filter_cons, if_pos (decide_eq_true (by lia)), ints_app, List.map_append]
          rfl
        · have h1 : ¬ ((cnt l l.length m : Nat) : Int) ≤ 1 := fun q => h1 (decide_eq_true q)
          show _ = _
          rw [take_snoc hm, List.filter_append, List.filter_cons, if_neg (fun q => h1 (by have := of_decide_eq_true q; lia)), List.filter_nil, List.append_nil]
      · subst e
        rw [hkl, List.take_length, ← hurd_cnt]
        refine ⟨?_, k _ D (fun b' o' e' => ?_) ?_ ?_⟩
        · rw [upd_ne (ne_of_none upd_same nD)]
          exact upd_same
        · have hb : b' ≠ d := ne_of_none e' nd
          rw [upd_ne hb]
          have e2 : upd H1 d (.frz od (.dK (kvAt l l.length))) b' = some o' := by rw [upd_ne hb]; exact sm1 _ _ e'
          rw [upd_ne (ne_of_none e2 nD)]
          exact e2
        · cases hh : H D with
          | none => rfl
          | some o' =>
            have hb : D ≠ d := ne_of_none hh nd
            rw [upd_ne hb, sm1 _ _ hh] at nD
            cases nD
        · have hb : D ≠ d := Ne.symm (ne_of_none upd_same nD)
          rw [upd_ne hb]
          exact upd_same
end
end G

set_option Elab.async false
set_option maxRecDepth 100000
set_option maxHeartbeats 2000000
namespace G
open PySem PySem.Spec PyProof.Rows L2 GM GR
/-- a comprehension over a list, each turn of which may make things -/
theorem lc_listGM {K : PySem.W.Frag} {a : Addr} {xs : List V} {g : TG} {te : TE} {vs : List Nat} {σ : L2.St} {H1 : Hp} {D : Addr} {Qd : Hp → Prop} (f : V → V) (hq : SqL K H1 a xs) (hD : H1 D = none) (hz : xs.length < sizeLine)
    (hs : ∀ (i : Nat) (x : V) (H : Hp) (Q : VK), xs[i]? = some x → Same H1 H → (∀ H', Same H H' → Q (f x) H') → g x (wipe σ vs) H fun σ2 H2 => wipe σ2 vs = wipe σ vs ∧ te σ2 H2 Q) (hd : ∀ H', Same H1 H' → H' D = some (.lst (xs.map f)) → Qd H') :
    ∃ W : Nat → Nat → Hp → Prop, (∃ m, W 0 m (upd H1 D (.lst []))) ∧ ∀ i m H, W i m H →
      ((Itl K a).stop i H ∧ Qd H) ∨ ((Itl K a).go i H ∧ ∃ Nx : Hp → Prop, (∀ H', Nx H' → ∃ m', m' < m ∧ W (i + 1) m' H') ∧ ∀ x H', (Itl K a).yld i H x H' → g x (wipe σ vs) H' fun σ2 H2 => wipe σ2 vs = wipe σ vs ∧ tYes σ2 H2 fun b H3 =>
        if b = true then te σ2 H3 fun y H4 => ∃ acc, H4 D = some (.lst acc) ∧ acc.length < sizeLine ∧ Nx (upd H4 D (.lst (acc ++ [y]))) else Nx H3) := by
  refine lc_list (K := K) (a := a) (xs := xs) (tt := tYes) (fun i H => Same H1 H ∧ H D = some (.lst ((xs.take i).map f))) ⟨same_upd hD, upd_same⟩ (fun i H _ e => e.1.seq hq) (fun i x H hx e => ?_) (fun H e => ?_)
  · refine hs i x H _ hx e.1 fun H' s' => ?_
    refine ⟨_, s' _ _ e.2, ?_, fun b o h => ?_, ?_⟩
    · rw [List.length_map]
      exact Nat.lt_of_le_of_lt (by rw [List.length_take]; lia) hz
    · rw [upd_ne (ne_of_none h hD)]
      exact s' _ _ (e.1 _ _ h)
    · rw [upd_same, take_snoc hx, List.map_append]
      rfl
  · rw [List.take_length] at e
    exact hd H e.1 e.2
theorem tgm {g : TG} {x : V} {σ : L2.St} {H : Hp} {P Q : L2.St → Hp → Prop} : P = Q → g x σ H P → g x σ H Q := fun e h => e ▸ h
theorem fm_ne (l : List Nat) (h : Nat) : fm (fun v => !decide (v = V.int (h : Nat))) id ((nI l).map V.int) = (nI (l.filter fun x => x != h)).map V.int := by
  unfold fm nI Rc65.ints
  rw [List.map_id, List.map_map, List.map_map, List.filter_map]
  congr 1
  refine List.filter_congr fun x _ => ?_
  show (!decide (V.int (x : Nat) = V.int (h : Nat))) = _
  rw [dec_int, Bool.eq_iff_iff]
  simp
  lia
theorem inV_int (n : Nat) (hs : List Nat) : inV (.int (n : Nat)) ((nI hs).map V.int) = hs.contains n := by
  unfold inV nI Rc65.ints
  rw [List.map_map, List.any_map, Bool.eq_iff_iff, List.any_eq_true, List.contains_iff_mem]
  constructor
  · rintro ⟨y, hy, e⟩
    have e : ((y : Nat) : Int) = (n : Nat) := eq_of_beq (show (((y : Nat) : Int) == ((n : Nat) : Int)) = true from e)
    have : y = n := by lia
    rw [← this]
    exact hy
  · intro h
    exact ⟨n, h, beq_self_eq_true _⟩
theorem flat_ints (hs : List Nat) : ((nI hs).map V.int).all flatV = true := by
  rw [List.all_eq_true]
  intro x hx
  obtain ⟨y, _, rfl⟩ := List.mem_map.mp hx
  rfl
def spHoldsBack (K : PySem.W.Frag) : Sp := fun vs H Q _ => ∃ (h : Nat) (b a : Addr) (l : List Nat), vs = [.int (h : Nat), .ref b, .ref a] ∧ SqL K H b ((nI (Rc65.hurdles l)).map V.int) ∧ SqL K H a ((nI l).map V.int) ∧ l.length ≤ 100 ∧ ∀ H' : Hp, Same H H' → Q (.bl (Rc65.keeps l h)) H'
def spIsFortress (K : PySem.W.Frag) : Sp := fun vs H Q _ => ∃ (b a : Addr) (l : List Nat), vs = [.ref b, .ref a] ∧ SqL K H b ((nI (Rc65.hurdles l)).map V.int) ∧ SqL K H a ((nI l).map V.int) ∧ l.length ≤ 100 ∧ ∀ H' : Hp, Same H H' → Q (.bl (Rc65.fortress l)) H'
section
variable {P : Program} {w : World} {K : PySem.W.Frag} {mg : Str → Option Value} {base : Heap}
theorem scHoldsBack : FnScope ["hurdle", "hurdles", "owners", "others", "number"] ["hurdle", "hurdles", "owners"] (defScope sHoldsBack) := ⟨rfl, rfl, rfl, by decide +kernel, rfl, by decide +kernel, by decide +kernel⟩
theorem ok_holdsBack {f : Addr} {fd : FuncData} (F : Fun K "holds_back" "holds_back" sHoldsBack f fd) (T : Tx mg) (G1 : Cal P w K mg base 1 "hurdles_among" ["owners"] (spHurdles K)) : FnOk P w K mg base CX0 2 f fd ["hurdle", "hurdles", "owners"] (spHoldsBack K) := by
  obtain ⟨f1, fd1, g1, m1, k1, b1⟩ := G1
  refine F.ok scHoldsBack (fun vs H Q E h => ?_) (fun cdv A outer s H vs Q E hr h => ?_)
  · obtain ⟨h, b, a, l, rfl, _⟩ := h
    rfl
  · obtain ⟨h, b, a, l, rfl, hb, hs, hlen, k⟩ := h
    refine ⟨_, pss_cons (ps_set (i := 3) scHoldsBack.nd rfl (Or.inl rfl) (pe_call g1 hr rfl m1 k1 b1 .nil pass0 (pa_cons (pe_lc (own := [("number", 4)]) rfl scHoldsBack.nd (pi_list (pv 2))
        (blkOk_by (by show blkC ["hurdle", "hurdles", "owners", "others", "number"] (defScope sHoldsBack) _ _ = true; decide +kernel)) (fun _ _ _ _ _ => pg_name (i := 4) scHoldsBack.nd rfl (Or.inl rfl))
        (fun _ _ _ _ _ => pts_one (pt_cmpR op_ne (pv 4) (pv 0) (nomark _))) (fun _ _ _ _ _ => pv 4)) pa_nil)))
      (pss_one (ps_ret (pe_callB (cr_any rfl) (by rfl) T.any b_any (pa_cons (pe_lc (own := [("number", 4)]) rfl scHoldsBack.nd (pi_list (pv 3))
        (blkOk_by (by show blkC ["hurdle", "hurdles", "owners", "others", "number"] (defScope sHoldsBack) _ _ = true; decide +kernel)) (fun _ _ _ _ _ => pg_name (i := 4) scHoldsBack.nd rfl (Or.inl rfl))
        (fun _ _ _ _ _ => pts_nil) (fun _ _ _ _ _ => pe_cmpR (notInK (K := K) rfl) (pv 4) (pv 1) (by rfl))) pa_nil)))), ?_⟩
    refine ⟨_, rfl, a, rfl, ⟨_, hs⟩, fun D nD => lc_listFM (fun v => !decide (v = V.int (h : Nat))) id hs nD (small1000 (by rw [List.length_map, ints_len]; lia)) (fun i x H' Q' R' hx sm hq hr' => ?_) ?_⟩
    · rw [List.getElem?_map] at hx
      obtain ⟨z, hz, rfl⟩ := Option.map_eq_some_iff.mp hx
      refine ⟨rfl, ?_⟩
      refine ⟨_, rfl, _, rfl, rfl, _, rfl, ite2 (fun q => ⟨_, rfl, hq q⟩) (fun q => hr' (Bool.eq_false_iff.mpr q))⟩
    · rw [fm_ne]
      have sD := same_upd (o := .lst ((nI (l.filter fun x => x != h)).map V.int)) nD
      have hfl := List.length_filter_le (fun x => x != h) l
      refine ⟨D, _, rfl, SqL.of upd_same, by lia, fun H2 p s2 np hp => ?_⟩
      have sm2 := sD.trans s2
      have hhl := hurdles_le (l.filter fun x => x != h)
      refine ⟨_, rfl, p, rfl, ⟨_, SqL.of hp⟩, fun D2 nD2 => lc_listFM (fun _ => true) (fun v => .bl (!inV v ((nI (Rc65.hurdles l)).map V.int))) (SqL.of hp) nD2 (small1000 (by rw [List.length_map, ints_len]; lia)) (fun i x H' Q' R' hx sm hq hr' => ?_) ?_⟩
      · rw [List.getElem?_map] at hx
        obtain ⟨z, hz, rfl⟩ := Option.map_eq_some_iff.mp hx
        refine ⟨rfl, ?_⟩
        exact yes_if ⟨_, rfl, _, rfl, b, _, rfl, .inl ((sm2.trans sm).seq hb), rfl, flat_ints _, hq rfl⟩
      · have e : fm (fun _ => true) (fun v => .bl (!inV v ((nI (Rc65.hurdles l)).map V.int))) ((nI (Rc65.hurdles (l.filter fun x => x != h))).map V.int) = ((Rc65.hurdles (l.filter fun x => x != h)).map fun d => !(Rc65.hurdles l).contains d).map V.bl := by
          unfold fm
          rw [List.filter_eq_self.mpr (fun _ _ => rfl)]
          show List.map _ ((((Rc65.hurdles (l.filter fun x => x != h)).map fun (n : Nat) => (n : Int))).map V.int) = _
          rw [List.map_map, List.map_map, List.map_map]
          refine List.map_congr_left fun d _ => ?_
          show V.bl (!inV (V.int (d : Nat)) _) = V.bl (!(Rc65.hurdles l).contains d)
          rw [inV_int]
        rw [e]
        refine ⟨D2, _, rfl, SqL.of upd_same, ?_⟩
        have e2 : ((Rc65.hurdles (l.filter fun x => x != h)).map fun d => !(Rc65.hurdles l).contains d).any id = Rc65.keeps l h := by
          rw [List.any_map]
          rfl
        rw [e2]
        exact k _ (sm2.trans (same_upd nD2))
theorem scIsFortress : FnScope ["hurdles", "owners", "hurdle"] ["hurdles", "owners"] (defScope sIsFortress) := ⟨rfl, rfl, rfl, by decide +kernel, rfl, by decide +kernel, by decide +kernel⟩
theorem ok_isFortress {f : Addr} {fd : FuncData} (F : Fun K "is_fortress" "is_fortress" sIsFortress f fd) (T : Tx mg) (G1 : Cal P w K mg base 2 "holds_back" ["hurdle", "hurdles", "owners"] (spHoldsBack K)) : FnOk P w K mg base CX0 3 f fd ["hurdles", "owners"] (spIsFortress K) := by
  obtain ⟨f1, fd1, g1, m1, k1, b1⟩ := G1
  refine F.ok scIsFortress (fun vs H Q E h => ?_) (fun cdv A outer s H vs Q E hr h => ?_)
  · obtain ⟨b, a, l, rfl, _⟩ := h
    rfl
  · obtain ⟨b, a, l, rfl, hb, hs, hlen, k⟩ := h
    refine ⟨_, pss_one (ps_ret (pe_and (pe_cmpR op_eq (pe_op op_mod (pe_callB call_len_seq (by rfl) T.len PySem.boot_len (pa_cons (pv 0) pa_nil)) pe_int) pe_int (nomark _))
      (pe_one (pe_callB (cr_all rfl) (by rfl) T.all b_all (pa_cons (pe_lc (own := [("hurdle", 2)]) rfl scIsFortress.nd (pi_list (pv 0))
        (blkOk_by (by show blkC ["hurdles", "owners", "hurdle"] (defScope sIsFortress) _ _ = true; decide +kernel)) (fun _ _ _ _ _ => pg_name (i := 2) scIsFortress.nd rfl (Or.inl rfl))
        (fun _ _ _ _ _ => pts_nil) (fun _ _ _ _ _ => pe_call g1 hr rfl m1 k1 b1 .nil pass0 (pa_cons (pv 2) (pa_cons (pv 0) (pa_cons (pv 1) pa_nil))))) pa_nil))))), ?_⟩
    have hhl := hurdles_le l
    have hl : ((nI (Rc65.hurdles l)).map V.int).length = (Rc65.hurdles l).length := by rw [List.length_map, ints_len]
    refine ⟨_, rfl, b, _, rfl, .inl hb, _, _, rfl, rfl, (by show (0 : Int) < 2; decide), rfl, _, rfl, ite2 (fun h1 => ?_) (fun h1 => ?_)⟩
    · rw [hl] at h1
      have h1 := int_eq.mp h1
      have e1 : ((Rc65.hurdles l).length % 2 == 1) = true := by
        rw [beq_iff_eq]
        lia
      refine ⟨_, rfl, b, rfl, ⟨_, hb⟩, fun D nD => lc_listGM (fun v => match v with | .int z => .bl (Rc65.keeps l z.toNat) | v => v) hb nD (small1000 (by rw [hl]; lia)) (fun i x H' Q' hx sm hq => ?_) (fun H' sm hDl => ?_)⟩
      · rw [List.getElem?_map] at hx
        obtain ⟨z, hz, rfl⟩ := Option.map_eq_some_iff.mp hx
        have hz2 : ∃ n : Nat, z = (n : Nat) := by
          unfold nI Rc65.ints at hz
          rw [List.getElem?_map] at hz
          obtain ⟨n, _, e⟩ := Option.map_eq_some_iff.mp hz
          exact ⟨n, e.symm⟩
        obtain ⟨n, rfl⟩ := hz2
        refine ⟨rfl, ?_⟩
        refine ⟨_, rfl, _, rfl, _, rfl, n, b, a, l, rfl, sm.seq hb, sm.seq hs, hlen, fun H2 s2 => ?_⟩
        have := hq H2 s2
        rw [show (match V.int ((n : Nat) : Int) with | .int z => V.bl (Rc65.keeps l z.toNat) | v => v) = V.bl (Rc65.keeps l n) by simp] at this
        exact this
      · have e : ((nI (Rc65.hurdles l)).map V.int).map (fun v => match v with | .int z => .bl (Rc65.keeps l z.toNat) | v => v) = ((Rc65.hurdles l).map (Rc65.keeps l)).map V.bl := by
          show List.map _ ((((Rc65.hurdles l).map fun (n : Nat) => (n : Int))).map V.int) = _
          rw [List.map_map, List.map_map, List.map_map]
          refine List.map_congr_left fun d _ => ?_
          show V.bl (Rc65.keeps l (((d : Nat) : Int).toNat)) = _
          rw [Int.toNat_natCast]
          rfl
        rw [e] at hDl
        refine ⟨D, _, rfl, SqL.of hDl, ?_⟩
        have e2 : ((Rc65.hurdles l).map (Rc65.keeps l)).all id = Rc65.fortress l := by
          unfold Rc65.fortress
          rw [e1, Bool.true_and, List.all_map]
          rfl
        rw [e2]
        exact k _ sm
    · rw [hl] at h1
      have h1 : ¬ _ := fun q => h1 (int_eq.mpr q)
      have e1 : ((Rc65.hurdles l).length % 2 == 1) = false := by
        rw [beq_eq_false_iff_ne]
        lia
      have e2 : Rc65.fortress l = false := by
        unfold Rc65.fortress
        rw [e1, Bool.false_and]
      have k' := k H (fun _ _ e => e)
      rw [e2] at k'
      exact k'
end
end G

set_option maxHeartbeats 1000000
set_option linter.unusedVariables false
namespace GX
theorem len4 {α : Type} : ∀ {l : List α}, l.length = 4 → ∃ a b c d, l = [a, b, c, d]
  | [a, b, c, d], _ => ⟨a, b, c, d, rfl⟩
theorem sub_flat (p : List Nat → Bool) : ∀ css : List (List Nat), (css.filter p).flatten.Sublist css.flatten
  | [] => .slnil
  | C :: css => by
    rw [List.filter_cons, List.flatten_cons]
    split
    · rw [List.flatten_cons]
      exact (sub_flat p css).append_left C
    · exact (sub_flat p css).trans (List.sublist_append_right ..)
/-! ### other labels -/
section
variable {l : List Nat} {f : Nat → Nat} (hf : ∀ a ∈ l, ∀ b ∈ l, f a = f b → a = b)
include hf
theorem alt_map {d : Nat} : Alt (l.map f) d ↔ ∃ c ∈ l, f c = d ∧ Alt l c := by
  constructor
  · rintro ⟨x, y, hx, hy, hs | hs⟩
    · obtain ⟨l', h1, h2⟩ := List.sublist_map_iff.mp hs
      obtain ⟨c1, c2, c3, c4, rfl⟩ := len4 (l := l') (by have := congrArg List.length h2; simpa using this.symm)
      · simp only [List.map_cons, List.map_nil, List.cons.injEq, and_true] at h2
        obtain ⟨e1, e2, e3, e4⟩ := h2
        have m := fun z (hz : z ∈ [c1, c2, c3, c4]) => h1.subset hz
        have e13 : c1 = c3 := hf c1 (m _ (by simp)) c3 (m _ (by simp)) (by rw [← e1, ← e3])
        subst e13
        exact ⟨c1, m _ (by simp), e1.symm, c2, c4, fun q => hx (by rw [e2, q, e1]), fun q => hy (by rw [e4, q, e1]), .inl h1⟩
    · obtain ⟨l', h1, h2⟩ := List.sublist_map_iff.mp hs
      obtain ⟨c1, c2, c3, c4, rfl⟩ := len4 (l := l') (by have := congrArg List.length h2; simpa using this.symm)
      · simp only [List.map_cons, List.map_nil, List.cons.injEq, and_true] at h2
        obtain ⟨e1, e2, e3, e4⟩ := h2
        have m := fun z (hz : z ∈ [c1, c2, c3, c4]) => h1.subset hz
        have e24 : c2 = c4 := hf c2 (m _ (by simp)) c4 (m _ (by simp)) (by rw [← e2, ← e4])
        subst e24
        exact ⟨c2, m _ (by simp), e2.symm, c1, c3, fun q => hx (by rw [e1, q, e2]), fun q => hy (by rw [e3, q, e2]), .inr h1⟩
  · rintro ⟨c, hc, rfl, x, y, hx, hy, hs⟩
    have mx : x ∈ l := by rcases hs with hs | hs <;> exact hs.subset (by simp)
    have my : y ∈ l := by rcases hs with hs | hs <;> exact hs.subset (by simp)
    refine ⟨f x, f y, fun q => hx (hf x mx c hc q), fun q => hy (hf y my c hc q), ?_⟩
    rcases hs with hs | hs
    · exact .inl (hs.map f)
    · exact .inr (hs.map f)
theorem hurdles_map : (Rc65.hurdles (l.map f)).length = (Rc65.hurdles l).length := by
  have hp : (Rc65.hurdles (l.map f)).Perm ((Rc65.hurdles l).map f) := by
    refine (List.perm_ext_iff_of_nodup (hurdles_nodup _) ?_).mpr fun d => ?_
    · refine List.Pairwise.map _ (fun a b h => h) ?_
      refine List.Pairwise.imp_of_mem (fun ha hb hab q => hab ?_) (hurdles_nodup l)
      exact hf _ (mem_hurdles.mp ha).1 _ (mem_hurdles.mp hb).1 q
    · rw [mem_hurdles, alt_map hf, List.mem_map, List.mem_map]
      constructor
      · rintro ⟨⟨c, hc, rfl⟩, h⟩
        exact ⟨c, mem_hurdles.mpr ⟨hc, fun q => h ⟨c, hc, rfl, q⟩⟩, rfl⟩
      · rintro ⟨c, hc, rfl⟩
        obtain ⟨h1, h2⟩ := mem_hurdles.mp hc
        refine ⟨⟨c, h1, rfl⟩, ?_⟩
        rintro ⟨c', hc', e, h3⟩
        have := hf c' hc' c h1 e
        subst this
        exact h2 h3
  rw [hp.length_eq, List.length_map]
end
theorem fort_map {g : List Int} (hg : Rc65.right g = true) (hn : g.length ≤ 10) {f : Nat → Nat} (hf : ∀ a ∈ Rc65.hards g, ∀ b ∈ Rc65.hards g, f a = f b → a = b) : Rc65.fortress ((Rc65.hards g).map f) = Rc65.fortress (Rc65.hards g) := by
  rw [fort_false hg hn]
  by_cases h : ∃ d, Alt ((Rc65.hards g).map f) d
  · obtain ⟨d, hd⟩ := h
    obtain ⟨c, hc, _, ha⟩ := (alt_map hf).mp hd
    obtain ⟨p, q, r, s, t, e⟩ := three_of hg hn ha
    have := hurdles_two hg t (by rw [e]; exact ha)
    unfold Rc65.fortress
    rw [hurdles_map hf, this]
    rfl
  · exact fort_no fun c z => h ⟨c, z⟩
/-! ### whose places these are -/
section
variable {g : List Int} (hg : Rc65.right g = true) {css : List (List Nat)} (hA : CrA (cfg g hg) css)
def num (HC : List (List Nat)) (k : Nat) : Nat := HC.findIdx fun C => C.contains k
include hA
theorem A_nodup : css.flatten.Nodup := hA.perm.nodup_iff.mpr List.nodup_range
theorem A_lt {C : List Nat} (hC : C ∈ css) {k : Nat} (hk : k ∈ C) : k < (cfg g hg).N := List.mem_range.mp (hA.perm.mem_iff.mp (List.mem_flatten.mpr ⟨C, hC, hk⟩))
theorem hardC_iff {C : List Nat} (hC : C ∈ css) {k : Nat} (hk : k ∈ C) : G.hardC g C = true ↔ (cfg g hg).Hard k := by
  have hkN := A_lt hg hA hC hk
  rw [← Cfg.hard_iff hkN]
  unfold G.hardC
  rw [List.all_eq_true]
  have key : ∀ e, e < (cfg g hg).N → (G.hardB (Rc65.bond (Rc65.ends g) e) = true ↔ ¬ (cfg g hg).easy e ∧ ¬ (cfg g hg).met e) := fun e he => by
    unfold G.hardB
    rw [← easy_iff hg, ← met_iff hg he]
    simp
  constructor
  · intro h e he
    have hm := (hA.iff hC hk).mpr he
    exact (key e (he.lt hkN)).mp (h e hm)
  · intro h e he
    exact (key e (A_lt hg hA hC he)).mpr (h e ((hA.iff hC hk).mp he))
theorem in_hard {k : Nat} (h : (cfg g hg).Hard k) : ∃ C ∈ css.filter (G.hardC g), k ∈ C := by
  obtain ⟨C, hC, hk⟩ := List.mem_flatten.mp (hA.perm.mem_iff.mpr (List.mem_range.mpr h.1))
  exact ⟨C, List.mem_filter.mpr ⟨hC, (hardC_iff hg hA hC hk).mpr h⟩, hk⟩
theorem of_hard {C : List Nat} (hC : C ∈ css.filter (G.hardC g)) {k : Nat} (hk : k ∈ C) : (cfg g hg).Hard k := by
  obtain ⟨h1, h2⟩ := List.mem_filter.mp hC
  exact (hardC_iff hg hA h1 hk).mp h2
theorem num_spec {k : Nat} (h : (cfg g hg).Hard k) : ∃ C, (css.filter (G.hardC g))[num (css.filter (G.hardC g)) k]? = some C ∧ k ∈ C := by
  obtain ⟨C, hC, hk⟩ := in_hard hg hA h
  have hlt : num (css.filter (G.hardC g)) k < (css.filter (G.hardC g)).length := List.findIdx_lt_length_of_exists ⟨C, hC, by simp [hk]⟩
  refine ⟨_, List.getElem?_eq_getElem hlt, ?_⟩
  have h3 : ((css.filter (G.hardC g))[num (css.filter (G.hardC g)) k]'hlt).contains k = true := List.findIdx_getElem (w := hlt)
  exact List.contains_iff_mem.mp h3
theorem flat_sub : (css.filter (G.hardC g)).flatten.Sublist css.flatten := sub_flat _ _
/-- a bond is in one crowd of the list -/
theorem num_at {i k : Nat} {C : List Nat} (hi : (css.filter (G.hardC g))[i]? = some C) (hk : k ∈ C) : num (css.filter (G.hardC g)) k = i := by
  have hC := List.mem_of_getElem? hi
  have hh := of_hard hg hA hC hk
  obtain ⟨D, hD, hkD⟩ := num_spec hg hA hh
  have hnd : (css.filter (G.hardC g)).flatten.Nodup := (A_nodup hg hA).sublist (flat_sub hg hA)
  rw [List.nodup_iff_pairwise_ne, List.pairwise_flatten] at hnd
  have hpw := List.pairwise_iff_getElem.mp hnd.2
  obtain ⟨l1, e1⟩ := List.getElem?_eq_some_iff.mp hi
  obtain ⟨l2, e2⟩ := List.getElem?_eq_some_iff.mp hD
  rcases Nat.lt_trichotomy (num (css.filter (G.hardC g)) k) i with q | q | q
  · exact absurd rfl (hpw _ _ l2 l1 q k (by rw [e2]; exact hkD) k (by rw [e1]; exact hk))
  · exact q
  · exact absurd rfl (hpw _ _ l1 l2 q k (by rw [e1]; exact hk) k (by rw [e2]; exact hkD))
theorem num_cr {k l : Nat} (hk : (cfg g hg).Hard k) (hl : (cfg g hg).Hard l) : num (css.filter (G.hardC g)) k = num (css.filter (G.hardC g)) l ↔ (cfg g hg).Cr k l := by
  obtain ⟨C, hC, hkC⟩ := num_spec hg hA hk
  have hCm := (List.mem_filter.mp (List.mem_of_getElem? hC)).1
  constructor
  · intro e
    obtain ⟨D, hD, hlD⟩ := num_spec hg hA hl
    rw [← e, hC] at hD
    obtain rfl := Option.some.inj hD
    exact (hA.iff hCm hkC).mp hlD
  · intro h
    have hlC := (hA.iff hCm hkC).mpr h
    exact (num_at hg hA hC hlC).symm
open Classical in
theorem own_perm : (G.ownAll g (css.filter (G.hardC g))).Perm (((List.range (cfg g hg).m).filter fun p => decide ((cfg g hg).Hard ((cfg g hg).bk p))).map fun p => (p, num (css.filter (G.hardC g)) ((cfg g hg).bk p))) := by
  have places : ∀ k, k < (cfg g hg).N → ∀ p, (p = (Rc65.bond (Rc65.ends g) k).1 ∨ p = (Rc65.bond (Rc65.ends g) k).2) ↔ (p < (cfg g hg).m ∧ (cfg g hg).bk p = k) := fun k hk p => by
    rw [bond_eq hg]
    show (p = min ((cfg g hg).a k) ((cfg g hg).b k) ∨ p = max ((cfg g hg).a k) ((cfg g hg).b k)) ↔ _
    have h1 := Cfg.a_lt hk
    have h2 := Cfg.b_lt hk
    constructor
    · intro h
      have : p = (cfg g hg).a k ∨ p = (cfg g hg).b k := by lia
      rcases this with rfl | rfl
      · exact ⟨h1, Cfg.bk_a hk⟩
      · exact ⟨h2, Cfg.bk_b hk⟩
    · rintro ⟨h3, rfl⟩
      have := Cfg.place_of h3
      lia
  refine (List.perm_ext_iff_of_nodup ?_ ?_).mpr fun x => ?_
  · -- no place twice
    have h1 : ((css.filter (G.hardC g)).flatten.flatMap fun k => [(Rc65.bond (Rc65.ends g) k).1, (Rc65.bond (Rc65.ends g) k).2]).Nodup := by
      have hnd : (css.filter (G.hardC g)).flatten.Nodup := (A_nodup hg hA).sublist (flat_sub hg hA)
      have hlt : ∀ k ∈ (css.filter (G.hardC g)).flatten, k < (cfg g hg).N := fun k hk => List.mem_range.mp (hA.perm.mem_iff.mp ((flat_sub hg hA).subset hk))
      rw [List.nodup_iff_pairwise_ne, List.pairwise_flatMap]
      refine ⟨fun k hk => ?_, ?_⟩
      · have hab := Cfg.ab_ne (hlt k hk)
        rw [bond_eq hg]
        simp
        lia
      · refine List.Pairwise.imp_of_mem (fun {a b} ha hb hab x hx y hy e => ?_) (List.nodup_iff_pairwise_ne.mp hnd)
        subst e
        have q1 := (places a (hlt a ha) x).mp (by simpa using hx)
        have q2 := (places b (hlt b hb) x).mp (by simpa using hy)
        exact hab (q1.2.symm.trans q2.2)
    have e : ∀ (HC : List (List Nat)) (i : Nat), ((HC.zipIdx i).flatMap fun x => G.own1 g x.2 x.1).map (·.1) = HC.flatten.flatMap fun k => [(Rc65.bond (Rc65.ends g) k).1, (Rc65.bond (Rc65.ends g) k).2] := fun HC => by
      induction HC with
      | nil => intro i; rfl
      | cons C HC ih =>
        intro i
        rw [List.zipIdx_cons, List.flatMap_cons, List.map_append, ih, List.flatten_cons, List.flatMap_append]
        congr 1
        unfold G.own1
        rw [List.map_flatMap]
        rfl
    have h2 : ((G.ownAll g (css.filter (G.hardC g))).map (·.1)).Nodup := by
      unfold G.ownAll
      rw [e]
      exact h1
    exact List.Pairwise.imp (fun h q => h (by rw [q])) (List.pairwise_map.mp h2)
  · refine List.Pairwise.map (R := (· ≠ ·)) _ (fun a b h q => h (congrArg Prod.fst q)) ?_
    exact List.Pairwise.filter _ List.nodup_range
  · obtain ⟨p, i⟩ := x
    rw [List.mem_map]
    unfold G.ownAll
    rw [List.mem_flatMap]
    constructor
    · rintro ⟨⟨C, j⟩, hCj, hx⟩
      have hget := List.mem_zipIdx_iff_getElem?.mp hCj
      unfold G.own1 at hx
      obtain ⟨k, hk, hx⟩ := List.mem_flatMap.mp hx
      have hCm := List.mem_of_getElem? hget
      have hh := of_hard hg hA hCm hk
      simp only [List.mem_cons, List.not_mem_nil, or_false, Prod.mk.injEq] at hx
      have hp : p = (Rc65.bond (Rc65.ends g) k).1 ∨ p = (Rc65.bond (Rc65.ends g) k).2 := by
        rcases hx with hx | hx
        · exact .inl hx.1
        · exact .inr hx.1
      have hi : i = j := by
        rcases hx with hx | hx
        · exact hx.2
        · exact hx.2
      obtain ⟨q1, q2⟩ := (places k hh.1 p).mp hp
      refine ⟨p, List.mem_filter.mpr ⟨List.mem_range.mpr q1, decide_eq_true (by rw [q2]; exact hh)⟩, ?_⟩
      rw [q2, num_at hg hA hget hk, hi]
    · rintro ⟨p', hp', e⟩
      obtain ⟨h1, h2⟩ := List.mem_filter.mp hp'
      have hpm := List.mem_range.mp h1
      have hh := of_decide_eq_true h2
      obtain ⟨C, hC, hk⟩ := num_spec hg hA hh
      obtain rfl : p' = p := congrArg Prod.fst e
      obtain rfl : num (css.filter (G.hardC g)) ((cfg g hg).bk p') = i := congrArg Prod.snd e
      refine ⟨(C, num (css.filter (G.hardC g)) ((cfg g hg).bk p')), List.mem_zipIdx_iff_getElem?.mpr hC, ?_⟩
      unfold G.own1
      refine List.mem_flatMap.mpr ⟨(cfg g hg).bk p', hk, ?_⟩
      have := (places _ hh.1 p').mpr ⟨hpm, rfl⟩
      rcases this with q | q
      · exact List.mem_cons.mpr (.inl (Prod.ext q rfl))
      · exact List.mem_cons.mpr (.inr (List.mem_singleton.mpr (Prod.ext q rfl)))
/-- **the owners are the hard places' labels, told otherwise** -/
theorem owners_eq {ws : List (Nat × Nat)} (hp : ws.Perm (G.ownAll g (css.filter (G.hardC g)))) (hs : ws.Pairwise (fun x y => x.1 ≤ y.1)) : ws.map (·.2) = (Rc65.hards g).map (num (css.filter (G.hardC g))) := by
  classical
  have hp2 := hp.trans (own_perm hg hA)
  have hs0 : (((List.range (cfg g hg).m).filter fun p => decide ((cfg g hg).Hard ((cfg g hg).bk p))).map fun p => (p, num (css.filter (G.hardC g)) ((cfg g hg).bk p))).Pairwise (fun x y => x.1 ≤ y.1) := by
    refine List.Pairwise.map _ (fun a b h => ?_) (List.Pairwise.filter _ (List.pairwise_lt_range (n := (cfg g hg).m)))
    exact Nat.le_of_lt h
  have hmem : ∀ x ∈ (((List.range (cfg g hg).m).filter fun p => decide ((cfg g hg).Hard ((cfg g hg).bk p))).map fun p => (p, num (css.filter (G.hardC g)) ((cfg g hg).bk p))), x.2 = num (css.filter (G.hardC g)) ((cfg g hg).bk x.1) := fun x hx => by
    obtain ⟨p, _, rfl⟩ := List.mem_map.mp hx
    rfl
  have e := List.Perm.eq_of_pairwise (le := fun x y : Nat × Nat => x.1 ≤ y.1) (fun a b ha hb h1 h2 => by
    have e1 : a.1 = b.1 := Nat.le_antisymm h1 h2
    refine Prod.ext e1 ?_
    rw [hmem a (hp2.mem_iff.mp ha), hmem b hb, e1]) hs hs0 hp2
  rw [e, hards_eq hg]
  unfold PL
  rw [List.map_map, List.map_map]
  refine List.map_congr_left fun p hp => ?_
  obtain ⟨h1, h2⟩ := List.mem_filter.mp hp
  have hh := of_decide_eq_true h2
  show num (css.filter (G.hardC g)) ((cfg g hg).bk p) = num (css.filter (G.hardC g)) (LL g ((cfg g hg).bk p))
  have hc := ((crowd_labels hg).2 _ hh.1).1
  exact (num_cr hg hA hh (hh.of hc)).mpr hc
theorem num_inj : ∀ a ∈ Rc65.hards g, ∀ b ∈ Rc65.hards g, num (css.filter (G.hardC g)) a = num (css.filter (G.hardC g)) b → a = b := fun a ha b hb e => by
  obtain ⟨k, hk, rfl⟩ := (mem_hards hg).mp ha
  obtain ⟨l, hl, rfl⟩ := (mem_hards hg).mp hb
  have hck := ((crowd_labels hg).2 _ hk.1).1
  have hcl := ((crowd_labels hg).2 _ hl.1).1
  have := (num_cr hg hA (hk.of hck) (hl.of hcl)).mp e
  exact (LL_iff hg hk.1 hl.1).mpr ((hck.trans this).trans hcl.sy)
end
end GX

set_option Elab.async false
set_option maxRecDepth 100000
set_option maxHeartbeats 2000000
namespace G
open PySem PySem.Spec PyProof.Rows L2 GM GR
def decL (H : Hp) : V → List (Nat × Nat)
  | .ref q => match H q with
    | some (.lst xs) => xs.map (decB H)
    | _ => []
  | _ => []
theorem CC.cons {H : Hp} {tb : Nat → Addr} {q : Addr} {C : List Nat} {ps : List Addr} {css : List (List Nat)} : CC H tb (q :: ps) (C :: css) ↔ H q = some (.lst (C.map (rT tb))) ∧ CC H tb ps css := by
  constructor
  · intro h
    exact ⟨h.get 0 q C rfl rfl, ⟨by have := h.len; simpa using this, fun j p D hp hD => h.get (j + 1) p D hp hD⟩⟩
  · rintro ⟨h1, h2⟩
    refine ⟨by simp [h2.len], fun j p D hp hD => ?_⟩
    cases j with
    | zero =>
      obtain rfl := Option.some.inj hp
      obtain rfl := Option.some.inj hD
      exact h1
    | succ j => exact h2.get j p D hp hD
theorem cc_filter {H : Hp} {g : List Int} {tb : Nat → Addr} (ht : Tups H g tb) : ∀ (ps : List Addr) (css : List (List Nat)), CC H tb ps css → (∀ C ∈ css, ∀ k ∈ C, k < g.length + 1) → CC H tb (ps.filter fun q => (decL H (.ref q)).all hardB) (css.filter (hardC g))
  | [], [], _, _ => ⟨rfl, fun j p C h => by simp at h⟩
  | [], _ :: _, h, _ => by have := h.len; simp at this
  | _ :: _, [], h, _ => by have := h.len; simp at this
  | q :: ps, C :: css, h, hl => by
    obtain ⟨h1, h2⟩ := CC.cons.mp h
    have ih := cc_filter ht ps css h2 fun D hD => hl D (List.mem_cons_of_mem _ hD)
    have e : (decL H (.ref q)).all hardB = hardC g C := by
      unfold decL hardC
      simp only [h1, List.map_map, List.all_map]
      rw [Bool.eq_iff_iff, List.all_eq_true, List.all_eq_true]
      refine forall_congr' fun k => forall_congr' fun hk => ?_
      show hardB (decB H (rT tb k)) = true ↔ _
      rw [decB_eq ht (hl C (List.mem_cons_self ..) k hk)]
    rw [List.filter_cons, List.filter_cons, e]
    cases hh : hardC g C with
    | true => exact CC.cons.mpr ⟨h1, ih⟩
    | false => exact ih
def partsL (g : List Int) : List Nat := [Rc65.cycles g, (Rc65.hurdles (Rc65.hards g)).length, (Rc65.fortress (Rc65.hards g)).toNat, Rc65.breaks g]
def spPartsOf (K : PySem.W.Frag) : Sp := fun vs H Q _ => ∃ (a : Addr) (g : List Int), vs = [.ref a] ∧ SqL K H a (g.map V.int) ∧ g.length ≤ 10 ∧ Rc65.right g = true ∧ NewL H (nI (partsL g)) Q
def spDistanceOf (K : PySem.W.Frag) : Sp := fun vs H Q _ => ∃ (a : Addr) (g : List Int), vs = [.ref a] ∧ SqL K H a (g.map V.int) ∧ g.length ≤ 10 ∧ Rc65.right g = true ∧ ∀ H' : Hp, Same H H' → Q (.int (Rc65.told g : Nat)) H'
section
variable {P : Program} {w : World} {K : PySem.W.Frag} {mg : Str → Option Value} {base : Heap}
theorem scPartsOf : FnScope ["row", "ends", "places", "owners", "hurdles", "fortress", "crowd"] ["row"] (defScope sPartsOf) := ⟨rfl, rfl, rfl, by decide +kernel, rfl, by decide +kernel, by decide +kernel⟩
theorem ok_partsOf {f : Addr} {fd : FuncData} (F : Fun K "parts_of" "parts_of" sPartsOf f fd) (T : Tx mg) (G1 : Cal P w K mg base 1 "ends_of" ["row"] (spEndsOf K)) (G2 : Cal P w K mg base 1 "places_of" ["ends"] (spPlacesOf K)) (G3 : Cal P w K mg base 1 "bonds_of" ["places"] (spBondsOf K))
    (G4 : Cal P w K mg base 2 "crowds_of" ["bonds"] spCrowdsOf) (G5 : Cal P w K mg base 2 "is_hard" ["crowd"] (spIsHard K)) (G6 : Cal P w K mg base 1 "owners_of" ["crowds"] (spOwnersOf K)) (G7 : Cal P w K mg base 1 "hurdles_among" ["owners"] (spHurdles K))
    (G8 : Cal P w K mg base 3 "is_fortress" ["hurdles", "owners"] (spIsFortress K)) (G9 : Cal P w K mg base 2 "count_cycles" ["ends", "places"] (spCountCycles K)) (G10 : Cal P w K mg base 2 "count_breaks" ["ends"] (spCountBreaks K)) :
    FnOk P w K mg base CX0 4 f fd ["row"] (spPartsOf K) := by
  obtain ⟨f1, fd1, g1, m1, k1, b1⟩ := G1
  obtain ⟨f2, fd2, g2, m2, k2, b2⟩ := G2
  obtain ⟨f3, fd3, g3, m3, k3, b3⟩ := G3
  obtain ⟨f4, fd4, g4, m4, k4, b4⟩ := G4
  obtain ⟨f5, fd5, g5, m5, k5, b5⟩ := G5
  obtain ⟨f6, fd6, g6, m6, k6, b6⟩ := G6
  obtain ⟨f7, fd7, g7, m7, k7, b7⟩ := G7
  obtain ⟨f8, fd8, g8, m8, k8, b8⟩ := G8
  obtain ⟨f9, fd9, g9, m9, k9, b9⟩ := G9
  obtain ⟨f10, fd10, g10, m10, k10, b10⟩ := G10
  refine F.ok scPartsOf (fun vs H Q E h => ?_) (fun cdv A outer s H vs Q E hr h => ?_)
  · obtain ⟨a, g, rfl, _⟩ := h
    rfl
  · obtain ⟨a, g, rfl, hs, hlen, hg, k⟩ := h
    have hr1 : Room 1 _ := hr.mono (by decide)
    have hr2 : Room 2 _ := hr.mono (by decide)
    refine ⟨_, pss_cons (ps_set (i := 1) scPartsOf.nd rfl (Or.inl rfl) (pe_call g1 hr1 rfl m1 k1 b1 .nil pass0 (pa_cons (pv 0) pa_nil)))
      (pss_cons (ps_set (i := 2) scPartsOf.nd rfl (Or.inl rfl) (pe_call g2 hr1 rfl m2 k2 b2 .nil pass0 (pa_cons (pv 1) pa_nil)))
      (pss_cons (ps_set (i := 3) scPartsOf.nd rfl (Or.inl rfl) (pe_call g6 hr1 rfl m6 k6 b6 .nil pass0 (pa_cons (pe_lc (own := [("crowd", 6)]) rfl scPartsOf.nd
        (pi_list (pe_call g4 hr2 rfl m4 k4 b4 .nil pass0 (pa_cons (pe_call g3 hr1 rfl m3 k3 b3 .nil pass0 (pa_cons (pv 2) pa_nil)) pa_nil)))
        (blkOk_by (by show blkC ["row", "ends", "places", "owners", "hurdles", "fortress", "crowd"] (defScope sPartsOf) _ _ = true; decide +kernel)) (fun _ _ _ _ _ => pg_name (i := 6) scPartsOf.nd rfl (Or.inl rfl))
        (fun _ _ _ _ _ => pts_one (pt_val (pe_call g5 hr2 rfl m5 k5 b5 .nil pass0 (pa_cons (pv 6) pa_nil)))) (fun _ _ _ _ _ => pv 6)) pa_nil)))
      (pss_cons (ps_set (i := 4) scPartsOf.nd rfl (Or.inl rfl) (pe_call g7 hr1 rfl m7 k7 b7 .nil pass0 (pa_cons (pv 3) pa_nil)))
      (pss_cons (ps_set (i := 5) scPartsOf.nd rfl (Or.inl rfl) (pe_ifExp (pt_val (pe_call g8 hr rfl m8 k8 b8 .nil pass0 (pa_cons (pv 4) (pa_cons (pv 3) pa_nil)))) pe_int pe_int))
      (pss_one (ps_ret (pe_lst (pa_cons (pe_call g9 hr2 rfl m9 k9 b9 .nil pass0 (pa_cons (pv 1) (pa_cons (pv 2) pa_nil)))
        (pa_cons (pe_callB call_len_seq (by rfl) T.len PySem.boot_len (pa_cons (pv 4) pa_nil)) (pa_cons (pv 5) (pa_cons (pe_call g10 hr2 rfl m10 k10 b10 .nil pass0 (pa_cons (pv 1) pa_nil)) pa_nil))))))))))), ?_⟩
    have hN : (GX.cfg g hg).N = g.length + 1 := rfl
    -- ends, places
    refine ⟨_, rfl, a, g, rfl, hs, hlen, hg, fun H1 p1 s1 n1 e1 => ?_⟩
    refine ⟨_, rfl, p1, g, rfl, SqL.of e1, hlen, hg, fun H2 p2 s2 n2 e2 => ?_⟩
    -- bonds, crowds
    refine ⟨_, rfl, p2, g, rfl, SqL.of e2, hlen, hg, fun H3 p3 tb s3 n3 e3 ht3 => ?_⟩
    refine ⟨p3, g, tb, hg, rfl, e3, ht3, hlen, fun H4 p4 ps css s4 n4 e4 cl hpl hA => ?_⟩
    have s12 := s1.trans s2
    have s123 := s12.trans s3
    have s1234 := s123.trans s4
    have ht4 := ht3.same s4
    have cc : CC H4 tb ps css := ⟨cl.len, fun j p C hp hC => (cl.get j p C hp hC).2⟩
    have hlt : ∀ C ∈ css, ∀ k ∈ C, k < g.length + 1 := fun C hC k hk => GX.A_lt hg hA hC hk
    have hfl : css.flatten.length = g.length + 1 := by rw [hA.perm.length_eq, List.length_range]; rfl
    refine ⟨p4, rfl, ⟨_, SqL.of e4⟩, fun D nD => lc_listFM (fun v => (decL H4 v).all hardB) id (SqL.of e4) nD (small1000 (by rw [List.length_map]; lia)) (fun i x H' Q' R' hx sm hq hr' => ?_) ?_⟩
    · rw [List.getElem?_map] at hx
      obtain ⟨q, hq', rfl⟩ := Option.map_eq_some_iff.mp hx
      have hil : i < css.length := by rw [← cc.len]; exact (List.getElem?_eq_some_iff.mp hq').1
      obtain ⟨C, hCi⟩ : ∃ C, css[i]? = some C := ⟨_, List.getElem?_eq_getElem hil⟩
      have hqC := cc.get i q C hq' hCi
      have hCm := List.mem_of_getElem? hCi
      have e : (decL H4 (.ref q)).all hardB = hardC g C := by
        unfold decL hardC
        simp only [hqC, List.map_map, List.all_map]
        rw [Bool.eq_iff_iff, List.all_eq_true, List.all_eq_true]
        refine forall_congr' fun k => forall_congr' fun hk => ?_
        show hardB (decB H4 (rT tb k)) = true ↔ _
        rw [decB_eq ht4 (hlt C hCm k hk)]
      rw [e] at hq hr'
      refine ⟨rfl, ?_⟩
      exact ⟨_, rfl, q, g, tb, C, rfl, SqL.of (sm _ _ hqC), ht4.same sm, hlen, hg, hlt C hCm, _, rfl, ite2 (fun z => ⟨_, rfl, hq z⟩) (fun z => hr' (Bool.eq_false_iff.mpr z))⟩
    · have e : fm (fun v => (decL H4 v).all hardB) id (ps.map V.ref) = (ps.filter fun q => (decL H4 (.ref q)).all hardB).map V.ref := by
        unfold fm
        rw [List.map_id, List.filter_map]
        rfl
      rw [e]
      have sD := same_upd (o := .lst ((ps.filter fun q => (decL H4 (.ref q)).all hardB).map V.ref)) nD
      have ccf := (cc_filter ht4 ps css cc hlt).same sD
      have hfl2 : (css.filter (hardC g)).flatten.length ≤ 11 := by
        have := (GX.sub_flat (hardC g) css).length_le
        lia
      refine ⟨D, g, tb, _, _, rfl, SqL.of upd_same, ccf, ht4.same sD, fun C hC => hlt C (List.mem_filter.mp hC).1, hfl2, fun H5 p5 ws hwp hws s5 n5 e5 => ?_⟩
      rw [GX.owners_eq hg hA hwp hws] at e5
      have s5' := (s1234.trans sD).trans s5
      have hol : ((Rc65.hards g).map (GX.num (css.filter (hardC g)))).length ≤ 100 := by
        rw [List.length_map]
        have := hards_le g
        lia
      -- hurdles
      refine ⟨_, rfl, p5, _, rfl, SqL.of e5, hol, fun H6 p6 s6 n6 e6 => ?_⟩
      have s6' := s5'.trans s6
      refine ⟨_, rfl, _, rfl, p6, p5, _, rfl, SqL.of e6, SqL.of (s6 _ _ e5), hol, fun H7 s7 => ⟨_, rfl, ?_⟩⟩
      rw [GX.fort_map hg hlen (GX.num_inj hg hA)]
      have s7' := s6'.trans s7
      have s2to7 := ((((s3.trans s4).trans sD).trans s5).trans s6).trans s7
      -- the answer
      have fin : ∀ z : Nat, z = (Rc65.fortress (Rc65.hards g)).toNat → (tRet (tLst (tCons (tCall (spCountCycles K) [] E0 (tCons (tVar 1) (tCons (tVar 2) tNil))) (tCons (tCB (fun xs H Q => ∃ p ys, xs = [.ref p] ∧ (SqL K H p ys ∨ SqT K H p ys) ∧ Q (.int ys.length) H) (tCons (tVar 4) tNil)) (tCons (tVar 5) (tCons (tCall (spCountBreaks K) [] E0 (tCons (tVar 1) tNil)) tNil))))))
          { nx := fun _ H' => Q V.non H', rt := Q } [some (.ref a), some (.ref p1), some (.ref p2), some (.ref p5), some (.ref p6), some (.int (z : Nat)), none] H7 := fun z hz => by
        refine ⟨_, rfl, _, rfl, p1, p2, g, rfl, SqL.of (s2to7 _ _ (s2 _ _ e1)), SqL.of (s2to7 _ _ e2), hlen, hg, fun H8 s8 => ?_⟩
        refine ⟨_, rfl, p6, _, rfl, .inl (SqL.of (s8 _ _ (s7 _ _ e6))), _, rfl, _, rfl, p1, g, rfl, SqL.of (s8 _ _ (s2to7 _ _ (s2 _ _ e1))), hlen, hg, fun H9 s9 => ?_⟩
        refine ⟨(by show 4 ≤ sizeLine; decide), fun p np => ?_⟩
        have s9' := (s7'.trans s8).trans s9
        refine k _ p (s9'.trans (same_upd np)) (s9'.free np) ?_
        rw [upd_same, List.length_map, ints_len, GX.hurdles_map (GX.num_inj hg hA), hz]
        rfl
      refine ite2 (fun h1 => ?_) (fun h1 => ?_)
      · exact fin 1 (by rw [h1]; rfl)
      · exact fin 0 (by rw [Bool.eq_false_iff.mpr h1]; rfl)
end
end G

set_option Elab.async false
set_option maxRecDepth 100000
set_option maxHeartbeats 2000000
namespace G
open PySem PySem.Spec PyProof.Rows L2 GM GR
/-- the stretches that begin at i -/
def row1 (n i : Nat) : List (Nat × Nat) := (List.range (n - i)).map fun j => (i, i + j)
theorem up_filter (i : Nat) : ∀ n, (List.range n).filter (fun j => decide (i ≤ j)) = (List.range (n - i)).map (i + ·)
  | 0 => by simp
  | n + 1 => by
    rw [List.range_succ, List.filter_append, up_filter i n, List.filter_cons]
    by_cases h : i ≤ n
    · rw [if_pos (decide_eq_true h), show n + 1 - i = (n - i) + 1 by lia, List.range_succ, List.map_append]
      simp
      lia
    · rw [if_neg (by simpa using h), show n + 1 - i = 0 by lia, show n - i = 0 by lia]
      rfl
theorem stretches_eq (n : Nat) : Rc65.stretches n = (List.range n).flatMap (row1 n) := by
  unfold Rc65.stretches
  congr 1
  funext i
  unfold row1
  rw [up_filter, List.map_map]
  rfl
theorem mem_stretches {n : Nat} {p : Nat × Nat} : p ∈ Rc65.stretches n ↔ p.1 ≤ p.2 ∧ p.2 < n := by
  rw [stretches_eq, List.mem_flatMap]
  constructor
  · rintro ⟨i, hi, hp⟩
    obtain ⟨j, hj, rfl⟩ := List.mem_map.mp hp
    have := List.mem_range.mp hj
    exact ⟨by show i ≤ i + j; lia, by show i + j < n; lia⟩
  · rintro ⟨h1, h2⟩
    exact ⟨p.1, List.mem_range.mpr (by lia), List.mem_map.mpr ⟨p.2 - p.1, List.mem_range.mpr (by lia), Prod.ext rfl (by show p.1 + (p.2 - p.1) = p.2; lia)⟩⟩
theorem row1_len (n i : Nat) : (row1 n i).length = n - i := by simp [row1]
theorem rows_len (n : Nat) : ∀ i, ((List.range i).flatMap (row1 n)).length ≤ n * i
  | 0 => by simp
  | i + 1 => by
    rw [List.range_succ, List.flatMap_append, List.length_append]
    have := rows_len n i
    simp only [List.flatMap_cons, List.flatMap_nil, List.append_nil, row1_len]
    rw [Nat.mul_succ]
    lia
def spStretchesOf (K : PySem.W.Frag) : Sp := fun vs H Q _ => ∃ (a : Addr) (xs : List V), vs = [.ref a] ∧ SqL K H a xs ∧ xs.length ≤ 10 ∧
  ∀ (H' : Hp) (p : Addr) (ts : List Addr), Same H H' → H p = none → H' p = some (.lst (ts.map V.ref)) → PT2 H' ts (Rc65.stretches xs.length) → Q (.ref p) H'
theorem PT2.app {H : Hp} {ts us : List Addr} {ws vs : List (Nat × Nat)} (h : PT2 H ts ws) (h' : PT2 H us vs) : PT2 H (ts ++ us) (ws ++ vs) := by
  refine ⟨by simp [h.len, h'.len], fun j a b ha hb => ?_⟩
  by_cases hj : j < ts.length
  · rw [List.getElem?_append_left hj] at ha
    rw [List.getElem?_append_left (by rw [← h.len]; exact hj)] at hb
    exact h.get j a b ha hb
  · rw [List.getElem?_append_right (by lia)] at ha
    rw [List.getElem?_append_right (by rw [← h.len]; lia), ← h.len] at hb
    exact h'.get _ a b ha hb
theorem row1_snoc (i k : Nat) : (List.range (k + 1)).map (fun j => (i, i + j)) = (List.range k).map (fun j => (i, i + j)) ++ [(i, i + k)] := by
  rw [List.range_succ, List.map_append]
  rfl
section
variable {P : Program} {w : World} {K : PySem.W.Frag} {mg : Str → Option Value} {base : Heap}
theorem scDistanceOf : FnScope ["row", "parts"] ["row"] (defScope sDistanceOf) := ⟨rfl, rfl, rfl, by decide +kernel, rfl, by decide +kernel, by decide +kernel⟩
theorem ok_distanceOf {f : Addr} {fd : FuncData} (F : Fun K "distance_of" "distance_of" sDistanceOf f fd) (T : Tx mg) (G1 : Cal P w K mg base 4 "parts_of" ["row"] (spPartsOf K)) : FnOk P w K mg base CX0 5 f fd ["row"] (spDistanceOf K) := by
  obtain ⟨f1, fd1, g1, m1, k1, b1⟩ := G1
  refine F.ok scDistanceOf (fun vs H Q E h => ?_) (fun cdv A outer s H vs Q E hr h => ?_)
  · obtain ⟨a, g, rfl, _⟩ := h
    rfl
  · obtain ⟨a, g, rfl, hs, hlen, hg, k⟩ := h
    refine ⟨_, pss_cons (ps_set (i := 1) scDistanceOf.nd rfl (Or.inl rfl) (pe_call g1 hr rfl m1 k1 b1 .nil pass0 (pa_cons (pv 0) pa_nil)))
      (pss_one (ps_ret (pe_op op_add (pe_op op_add (pe_op op_sub (pe_op op_add (pe_callB call_len_seq (by rfl) T.len PySem.boot_len (pa_cons (pv 0) pa_nil)) pe_int) (pe_ix ix_list (pv 1) pe_int (fun _ _ => rfl))) (pe_ix ix_list (pv 1) pe_int (fun _ _ => rfl))) (pe_ix ix_list (pv 1) pe_int (fun _ _ => rfl))))), ?_⟩
    refine ⟨_, rfl, a, g, rfl, hs, hlen, hg, fun H1 p1 s1 n1 e1 => ?_⟩
    have a0 : atI ((nI (partsL g)).map V.int) 0 = some (.int (Rc65.cycles g : Nat)) := rfl
    have a1 : atI ((nI (partsL g)).map V.int) 1 = some (.int ((Rc65.hurdles (Rc65.hards g)).length : Nat)) := rfl
    have a2 : atI ((nI (partsL g)).map V.int) 2 = some (.int ((Rc65.fortress (Rc65.hards g)).toNat : Nat)) := rfl
    refine ⟨_, rfl, a, _, rfl, .inl (s1.seq hs), _, _, rfl, rfl, _, rfl, p1, _, _, _, rfl, rfl, SqL.of e1, a0, _, _, rfl, rfl, _, rfl, p1, _, _, _, rfl, rfl, SqL.of e1, a1, _, _, rfl, rfl, _, rfl, p1, _, _, _, rfl, rfl, SqL.of e1, a2, _, _, rfl, rfl, ?_⟩
    have hc := GX.cycles_le hg
    have e : ((((g.map V.int).length : Nat) : Int) + 1 - (Rc65.cycles g : Nat) + ((Rc65.hurdles (Rc65.hards g)).length : Nat) + ((Rc65.fortress (Rc65.hards g)).toNat : Nat)) = (Rc65.told g : Nat) := by
      unfold Rc65.told
      rw [List.length_map]
      lia
    show Q (.int _) H1
    rw [e]
    exact k _ s1
theorem scStretchesOf : FnScope ["row", "stretches", "i", "j"] ["row"] (defScope sStretchesOf) := ⟨rfl, rfl, rfl, by decide +kernel, rfl, by decide +kernel, by decide +kernel⟩
theorem ok_stretchesOf {f : Addr} {fd : FuncData} (F : Fun K "stretches_of" "stretches_of" sStretchesOf f fd) (T : Tx mg) : FnOk P w K mg base CX0 1 f fd ["row"] (spStretchesOf K) := by
  refine F.ok scStretchesOf (fun vs H Q E h => ?_) (fun cdv A outer s H vs Q E hr h => ?_)
  · obtain ⟨a, xs, rfl, _⟩ := h
    rfl
  · obtain ⟨a, xs, rfl, hs, hlen, k⟩ := h
    refine ⟨_, pss_cons (ps_set (i := 1) scStretchesOf.nd rfl (Or.inl rfl) (pe_lst pa_nil))
      (pss_cons (ps_for PassesOwn.never rfl (pi_range1 (by rfl) T.range (pa_cons (pe_callB call_len_seq (by rfl) T.len PySem.boot_len (pa_cons (pv 0) pa_nil)) pa_nil)) (pg_name (i := 2) scStretchesOf.nd rfl (Or.inr rfl))
        (pss_one (ps_expr (pe_bm PySem.F.plainAttrs_list PySem.F.slot_list_extend PySem.F.type_list_extend mt_extend (pv 1) (pa_cons (pe_lc (own := [("j", 3)]) rfl scStretchesOf.nd
          (pi_range2 (by rfl) T.range (pa_cons (pv 2) (pa_cons (pe_callB call_len_seq (by rfl) T.len PySem.boot_len (pa_cons (pv 0) pa_nil)) pa_nil)))
          (blkOk_by (by show blkC ["row", "stretches", "i", "j"] (defScope sStretchesOf) _ _ = true; decide +kernel)) (fun _ _ _ _ _ => pg_name (i := 3) scStretchesOf.nd rfl (Or.inl rfl)) (fun _ _ _ _ _ => pts_nil)
          (fun _ _ _ _ _ => pe_tup (pa_cons (pv 2) (pa_cons (pv 3) pa_nil)))) pa_nil)))))
      (pss_one (ps_ret (pv 1)))), ?_⟩
    refine ⟨Nat.zero_le _, fun p np => ?_⟩
    have s0 := same_upd (o := .lst []) np
    refine ⟨_, rfl, a, _, rfl, .inl (s0.seq hs), _, rfl, by lia, by lia, ?_⟩
    rw [Int.toNat_natCast]
    refine for_range (lo := 0) (n := xs.length) (fun i σ H' => ∃ (u v : Option V) (ts : List Addr), σ = [some (.ref a), some (.ref p), u, v] ∧ Same H H' ∧ H' p = some (.lst (ts.map V.ref)) ∧ PT2 H' ts ((List.range i).flatMap (row1 xs.length))) ⟨none, none, [], rfl, s0, upd_same, ⟨rfl, fun j t x h => by simp at h⟩⟩ ?_ ?_
    · rintro i σ H1 hi ⟨u, v, ts, rfl, sm1, hp1, pt1⟩
      rw [Int.zero_add]
      refine ⟨_, rfl, .inl ⟨rfl, _, SqL.of hp1⟩, _, rfl, _, rfl, a, _, rfl, .inl (sm1.seq hs), _, _, rfl, ⟨by lia, by lia, by lia, by lia⟩, fun D nD => ?_⟩
      rw [show (((xs.length : Nat) : Int) - (i : Nat)).toNat = xs.length - i by lia]
      refine lc_range (lo := (i : Nat)) (n := xs.length - i) (fun j H' => ∃ us : List Addr, Same H1 H' ∧ H' D = some (.lst (us.map V.ref)) ∧ PT2 H' us ((List.range j).map fun j => (i, i + j))) ?_ (fun j H2 hj hv => ?_) (fun H2 hv => ?_)
      · exact ⟨[], same_upd nD, upd_same, ⟨rfl, fun j t x h => by simp at h⟩⟩
      · obtain ⟨us, sm2, hD2, pt2⟩ := hv
        refine ⟨rfl, yes_if ?_⟩
        refine ⟨_, rfl, _, rfl, (by show 2 ≤ sizeLine; decide), fun t nt => ?_⟩
        have st := same_upd (o := .tup [.int (i : Nat), .int ((i : Nat) + (j : Nat) : Int)]) nt
        have keep : ∀ (b : Addr) (ys : List V), upd H2 t (.tup [.int (i : Nat), .int ((i : Nat) + (j : Nat) : Int)]) b = some (.tup ys) → upd (upd H2 t (.tup [.int (i : Nat), .int ((i : Nat) + (j : Nat) : Int)])) D (.lst (us.map V.ref ++ [.ref t])) b = some (.tup ys) := fun b ys h => by
          rw [upd_ne (fun e => by rw [e, st _ _ hD2] at h; cases h)]
          exact h
        refine ⟨_, st _ _ hD2, small1000 ?_, us ++ [t], fun b o h => ?_, ?_, ?_⟩
        · rw [List.length_map, pt2.len, List.length_map, List.length_range]
          lia
        · rw [upd_ne (ne_of_none h nD)]
          exact st _ _ (sm2 _ _ h)
        · rw [upd_same, List.map_append]
          rfl
        · rw [row1_snoc]
          refine (pt2.same fun b ys h => keep b ys (st _ _ h)).app ⟨rfl, fun j' t' x' h1 h2 => ?_⟩
          cases j' with
          | zero =>
            obtain rfl := Option.some.inj h1
            obtain rfl := Option.some.inj h2
            exact keep t _ upd_same
          | succ j' => simp at h1
      · obtain ⟨us, sm2, hD2, pt2⟩ := hv
        have hpD : p ≠ D := ne_of_none hp1 nD
        have hul : us.length = xs.length - i := by rw [pt2.len, List.length_map, List.length_range]
        have htl : ts.length ≤ 100 := by
          rw [pt1.len]
          have h1 := rows_len xs.length i
          have h2 : xs.length * i ≤ 10 * 10 := Nat.mul_le_mul hlen (by lia)
          lia
        refine ⟨p, D, _, _, rfl, rfl, sm2 _ _ hp1, hD2, Nat.le_of_lt (small1000 (by rw [List.length_map, List.length_map]; lia)), ?_⟩
        have keep : ∀ (b : Addr) (ys : List V), H2 b = some (.tup ys) → upd H2 p (.lst (ts.map V.ref ++ us.map V.ref)) b = some (.tup ys) := fun b ys h => by
          rw [upd_ne (fun e => by rw [e, sm2 _ _ hp1] at h; cases h)]
          exact h
        refine ⟨_, _, ts ++ us, rfl, fun b o h => ?_, ?_, ?_⟩
        · rw [upd_ne (ne_of_none h np)]
          exact sm2 _ _ (sm1 _ _ h)
        · rw [upd_same, List.map_append]
        · rw [List.range_succ, List.flatMap_append]
          simp only [List.flatMap_cons, List.flatMap_nil, List.append_nil]
          exact (pt1.same fun b ys h => keep b ys (sm2 _ _ h)).app (pt2.same keep)
    · rintro σ H1 ⟨u, v, ts, rfl, sm1, hp1, pt1⟩
      rw [← stretches_eq] at pt1
      exact ⟨_, rfl, k H1 p ts sm1 np hp1 pt1⟩
end
end G

set_option Elab.async false
set_option maxRecDepth 100000
set_option maxHeartbeats 2000000
namespace G
open PySem PySem.Spec PyProof.Rows L2 GM GR
def spFirstGood (K : PySem.W.Frag) : Sp := fun vs H Q _ => ∃ (a : Addr) (g : List Int) (p : Nat × Nat), vs = [.ref a, .int (Rc65.told g : Nat)] ∧ SqL K H a (g.map V.int) ∧ g.length ≤ 10 ∧ Rc65.right g = true ∧ (Rc65.stretches g.length).find? (Rc65.helps g) = some p ∧
  ∀ (H' : Hp) (t : Addr), Same H H' → H' t = some (.tup [.int (p.1 : Nat), .int (p.2 : Nat)]) → Q (.ref t) H'
/-- the way as numbers -/
def flatW (w : List (Nat × Nat)) : List Nat := w.flatMap fun p => [p.1, p.2]
def spPathOf : Sp := fun vs H Q _ => ∃ (a : Addr) (g : List Int), vs = [.ref a] ∧ H a = some (.lst (g.map V.int)) ∧ g.length ≤ 10 ∧ Rc65.right g = true ∧ NewL H (nI (flatW (Rc65.wayOf (Rc65.told g) g))) Q
theorem find_some {g : List Int} (hg : Rc65.right g = true) (hn : g.length ≤ 10) (h0 : 0 < Rc65.told g) : ∃ p, (Rc65.stretches g.length).find? (Rc65.helps g) = some p ∧ p.1 ≤ p.2 ∧ p.2 < g.length ∧ Rc65.told (Rc65.turn g p.1 p.2) + 1 = Rc65.told g := by
  obtain ⟨i, j, h1, h2, h3⟩ := GX.help hg hn h0
  cases e : (Rc65.stretches g.length).find? (Rc65.helps g) with
  | none =>
    have := List.find?_eq_none.mp e (i, j) (mem_stretches.mpr ⟨h1, h2⟩)
    exact absurd (by unfold Rc65.helps; exact beq_iff_eq.mpr h3) this
  | some p =>
    have hm := mem_stretches.mp (List.mem_of_find?_eq_some e)
    have hp := List.find?_some e
    exact ⟨p, rfl, hm.1, hm.2, by unfold Rc65.helps at hp; exact eq_of_beq hp⟩
theorem way_succ {g : List Int} {k : Nat} {p : Nat × Nat} (h : (Rc65.stretches g.length).find? (Rc65.helps g) = some p) : Rc65.wayOf (k + 1) g = p :: Rc65.wayOf k (Rc65.turn g p.1 p.2) := by
  rw [Rc65.wayOf, h]
section
variable {P : Program} {w : World} {K : PySem.W.Frag} {mg : Str → Option Value} {base : Heap}
theorem scFirstGood : FnScope ["row", "distance", "stretches", "at"] ["row", "distance"] (defScope sFirstGood) := ⟨rfl, rfl, rfl, by decide +kernel, rfl, by decide +kernel, by decide +kernel⟩
theorem ok_firstGood {f : Addr} {fd : FuncData} (F : Fun K "first_good" "first_good" sFirstGood f fd) (T : Tx mg) (G1 : Cal P w K mg base 1 "stretches_of" ["row"] (spStretchesOf K)) (G2 : Cal P w K mg base 1 "turned" ["row", "i", "j"] (spTurned K)) (G3 : Cal P w K mg base 5 "distance_of" ["row"] (spDistanceOf K)) :
    FnOk P w K mg base CX0 6 f fd ["row", "distance"] (spFirstGood K) := by
  obtain ⟨f1, fd1, g1, m1, k1, b1⟩ := G1
  obtain ⟨f2, fd2, g2, m2, k2, b2⟩ := G2
  obtain ⟨f3, fd3, g3, m3, k3, b3⟩ := G3
  refine F.ok scFirstGood (fun vs H Q E h => ?_) (fun cdv A outer s H vs Q E hr h => ?_)
  · obtain ⟨a, g, p, rfl, _⟩ := h
    rfl
  · obtain ⟨a, g, p, rfl, hs, hlen, hg, hfind, k⟩ := h
    have hr1 : Room 1 _ := hr.mono (by decide)
    refine ⟨_, pss_cons (ps_set (i := 2) scFirstGood.nd rfl (Or.inl rfl) (pe_call g1 hr1 rfl m1 k1 b1 .nil pass0 (pa_cons (pv 0) pa_nil)))
      (pss_cons (ps_set (i := 3) scFirstGood.nd rfl (Or.inl rfl) pe_int)
      (pss_cons (ps_while PassesOwn.never (pt_cmpR op_ne (pe_call g3 hr rfl m3 k3 b3 .nil pass0 (pa_cons (pe_call g2 hr1 rfl m2 k2 b2 .nil pass0 (pa_cons (pv 0) (pa_cons (pe_ix ix_tup (pe_ix ix_list (pv 2) (pv 3) (fun _ _ => rfl)) pe_int (fun _ _ => rfl)) (pa_cons (pe_ix ix_tup (pe_ix ix_list (pv 2) (pv 3) (fun _ _ => rfl)) pe_int (fun _ _ => rfl)) pa_nil)))) pa_nil)) (pe_op op_sub (pv 1) pe_int) (nomark _))
        (pss_one (ps_aug (i := 3) scFirstGood.nd rfl (Or.inl rfl) pe_int ip_add)))
      (pss_one (ps_ret (pe_ix ix_list (pv 2) (pv 3) (fun _ _ => rfl)))))), ?_⟩
    have hxl : (g.map V.int).length = g.length := List.length_map _
    refine ⟨_, rfl, a, _, rfl, hs, by rw [hxl]; exact hlen, fun H1 p1 ts s1 n1 e1 pt1 => ?_⟩
    rw [hxl] at pt1
    obtain ⟨hp, idx, hidx, hat, hbef⟩ := List.find?_eq_some_iff_getElem.mp hfind
    have wget : (Rc65.stretches g.length)[idx]? = some p := by rw [List.getElem?_eq_getElem hidx, hat]
    refine ⟨fun mm σ H2 => ∃ c : Nat, σ = [some (.ref a), some (.int (Rc65.told g : Nat)), some (.ref p1), some (.int (c : Nat))] ∧ Same H1 H2 ∧ c ≤ idx ∧ mm = idx - c, ⟨_, 0, rfl, fun _ _ e => e, Nat.zero_le _, rfl⟩, ?_⟩
    rintro mm σ H2 ⟨c, rfl, sm2, hc, rfl⟩
    have hcl : c < (Rc65.stretches g.length).length := by lia
    obtain ⟨t, ht⟩ : ∃ t, ts[c]? = some t := ⟨_, List.getElem?_eq_getElem (by rw [pt1.len]; exact hcl)⟩
    obtain ⟨x, hx⟩ : ∃ x, (Rc65.stretches g.length)[c]? = some x := ⟨_, List.getElem?_eq_getElem hcl⟩
    have htup := sm2 _ _ (pt1.get c t x ht hx)
    have hxm := mem_stretches.mp (List.mem_of_getElem? hx)
    have hat' : atI (ts.map V.ref) ((c : Nat) : Int) = some (.ref t) := atI_nat (by rw [List.getElem?_map, ht]; rfl)
    have hlst := SqL.of (K := K) (sm2 _ _ e1)
    refine ⟨_, rfl, _, rfl, _, rfl, p1, _, _, _, rfl, rfl, hlst, hat', t, _, _, _, rfl, rfl, SqT.of htup, at0 _ _, _, rfl, _, rfl, p1, _, _, _, rfl, rfl, hlst, hat', t, _, _, _, rfl, rfl, SqT.of htup, at1 _ _, a, g, x.1, x.2, rfl, (s1.trans sm2).seq hs, by lia, hxm.1, hxm.2, fun H3 p3 s3 n3 e3 => ?_⟩
    have tl := turn_len (g := g) hxm.1 hxm.2
    refine ⟨p3, _, rfl, SqL.of e3, by rw [tl]; exact hlen, turn_right hg hxm.1 hxm.2, fun H4 s4 => ?_⟩
    have sm4 := (sm2.trans s3).trans s4
    have hdec : (!decide (V.int (Rc65.told (Rc65.turn g x.1 x.2) : Nat) = V.int ((Rc65.told g : Nat) - 1 : Int))) = !Rc65.helps g x := by
      have e : (((Rc65.told (Rc65.turn g x.1 x.2) : Nat) : Int) == ((Rc65.told g : Nat) : Int) - 1) = (Rc65.told (Rc65.turn g x.1 x.2) + 1 == Rc65.told g) := by
        generalize Rc65.told (Rc65.turn g x.1 x.2) = y
        generalize Rc65.told g = z
        rw [Bool.eq_iff_iff, beq_iff_eq, beq_iff_eq]
        lia
      unfold Rc65.helps
      rw [dec_int, e]
    refine ⟨_, rfl, _, _, rfl, rfl, rfl, _, rfl, ite2 (fun h1 => ?_) (fun h1 => ?_)⟩
    · have h1 : Rc65.helps g x = false := by
        have := hdec.symm.trans h1
        simpa using this
      have hne : c ≠ idx := fun e => by
        subst e
        rw [wget] at hx
        obtain rfl := Option.some.inj hx
        rw [hp] at h1
        cases h1
      refine ⟨fun σ5 H5 => σ5 = [some (.ref a), some (.int (Rc65.told g : Nat)), some (.ref p1), some (.int ((c + 1 : Nat) : Int))] ∧ Same H1 H5, ?_, ?_⟩
      · rintro σ5 H5 ⟨r1, r2⟩
        exact ⟨idx - (c + 1), by lia, c + 1, r1, r2, by lia, rfl⟩
      · exact ⟨_, rfl, _, _, rfl, rfl, rfl, sm4⟩
    · have h1 : Rc65.helps g x = true := by
        have h2 : ¬ (!Rc65.helps g x) = true := fun q => h1 (hdec.trans q)
        simpa using h2
      have hce : c = idx := by
        by_cases e : c = idx
        · exact e
        · have := hbef c (by lia)
          have ex : (Rc65.stretches g.length)[c] = x := by
            have := List.getElem?_eq_getElem hcl
            rw [hx] at this
            exact (Option.some.inj this).symm
          rw [ex, h1] at this
          cases this
      subst hce
      rw [wget] at hx
      obtain rfl := Option.some.inj hx
      refine ⟨_, rfl, _, rfl, p1, _, _, _, rfl, rfl, SqL.of (sm4 _ _ e1), hat', ?_⟩
      exact k _ t (s1.trans sm4) (s4 _ _ (s3 _ _ htup))
theorem scPathOf : FnScope ["row", "numbers", "distance", "stretch"] ["row"] (defScope sPathOf) := ⟨rfl, rfl, rfl, by decide +kernel, rfl, by decide +kernel, by decide +kernel⟩
theorem ok_pathOf {f : Addr} {fd : FuncData} (F : Fun K "path_of" "path_of" sPathOf f fd) (T : Tx mg) (G1 : Cal P w K mg base 6 "first_good" ["row", "distance"] (spFirstGood K)) (G2 : Cal P w K mg base 1 "turned" ["row", "i", "j"] (spTurned K)) (G3 : Cal P w K mg base 5 "distance_of" ["row"] (spDistanceOf K)) :
    FnOk P w K mg base CX0 7 f fd ["row"] spPathOf := by
  obtain ⟨f1, fd1, g1, m1, k1, b1⟩ := G1
  obtain ⟨f2, fd2, g2, m2, k2, b2⟩ := G2
  obtain ⟨f3, fd3, g3, m3, k3, b3⟩ := G3
  refine F.ok scPathOf (fun vs H Q E h => ?_) (fun cdv A outer s H vs Q E hr h => ?_)
  · obtain ⟨a, g, rfl, _⟩ := h
    rfl
  · obtain ⟨a, g, rfl, hs, hlen, hg, k⟩ := h
    have hr1 : Room 1 _ := hr.mono (by decide)
    have hr5 : Room 5 _ := hr.mono (by decide)
    refine ⟨_, pss_cons (ps_set (i := 1) scPathOf.nd rfl (Or.inl rfl) (pe_lst pa_nil))
      (pss_cons (ps_for PassesOwn.never rfl (pi_range3 (by rfl) T.range (pa_cons (pe_call g3 hr5 rfl m3 k3 b3 .nil pass0 (pa_cons (pv 0) pa_nil)) (pa_cons pe_int (pa_cons (pe_un un_neg pe_int) pa_nil)))) (pg_name (i := 2) scPathOf.nd rfl (Or.inl rfl))
        (pss_cons (ps_set (i := 3) scPathOf.nd rfl (Or.inl rfl) (pe_call g1 hr rfl m1 k1 b1 .nil pass0 (pa_cons (pv 0) (pa_cons (pv 2) pa_nil))))
        (pss_cons (ps_expr (pe_bm PySem.F.plainAttrs_list PySem.F.slot_list_extend PySem.F.type_list_extend mt_extendT (pv 1) (pa_cons (pv 3) pa_nil)))
        (pss_one (ps_set (i := 0) scPathOf.nd rfl (Or.inl rfl) (pe_call g2 hr1 rfl m2 k2 b2 .nil pass0 (pa_cons (pv 0) (pa_cons (pe_ix ix_tup (pv 3) pe_int (fun _ _ => rfl)) (pa_cons (pe_ix ix_tup (pv 3) pe_int (fun _ _ => rfl)) pa_nil)))))))))
      (pss_one (ps_ret (pv 1)))), ?_⟩
    have htl := told_le g
    refine ⟨Nat.zero_le _, fun p np => ?_⟩
    have s0 := same_upd (o := .lst []) np
    refine ⟨_, rfl, a, g, rfl, SqL.of (s0 _ _ hs), hlen, hg, fun H1 s1 => ?_⟩
    refine ⟨_, rfl, (Rc65.told g : Nat), 0, -1, Rc65.told g, rfl, ?_, ?_⟩
    · have := RgC.neg (i := ((Rc65.told g : Nat) : Int)) (j := 0) (by lia) (by lia) (by lia) (by lia)
      rw [show (((Rc65.told g : Nat) : Int) - 0).toNat = Rc65.told g by lia] at this
      exact this
    · refine for_rangeC (fun i σ H' => ∃ (r : Addr) (u v : Option V) (gi : List Int) (dn : List (Nat × Nat)), σ = [some (.ref r), some (.ref p), u, v] ∧ Same H H' ∧ H' p = some (.lst ((nI (flatW dn)).map V.int)) ∧ H' r = some (.lst (gi.map V.int)) ∧ r ≠ p ∧ Rc65.right gi = true ∧ gi.length = g.length ∧ Rc65.told gi + i = Rc65.told g ∧ dn.length = i ∧ dn ++ Rc65.wayOf (Rc65.told gi) gi = Rc65.wayOf (Rc65.told g) g) ?_ ?_ ?_
      · exact ⟨a, none, none, g, [], rfl, s0.trans s1, s1 _ _ upd_same, s1 _ _ (s0 _ _ hs), ne_of_none hs np, hg, rfl, rfl, rfl, rfl⟩
      · rintro i σ H2 hi ⟨r, u, v, gi, dn, rfl, sm2, hp2, hr2, hrp, hgi, hgl, hti, hdl, hway⟩
        have hpos : 0 < Rc65.told gi := by lia
        obtain ⟨q, hf, q1, q2, q3⟩ := find_some hgi (by rw [hgl]; exact hlen) hpos
        have ei : ((Rc65.told g : Nat) : Int) + (i : Nat) * (-1) = ((Rc65.told gi : Nat) : Int) := by lia
        rw [ei]
        refine ⟨_, rfl, _, rfl, r, gi, q, rfl, SqL.of hr2, by rw [hgl]; exact hlen, hgi, hf, fun H3 t s3 ht => ?_⟩
        have hfl : (flatW dn).length = 2 * i := by
          unfold flatW
          rw [flat2_len, hdl]
        refine ⟨_, rfl, .inl ⟨rfl, _, SqL.of (s3 _ _ hp2)⟩, _, rfl, p, t, _, _, rfl, rfl, s3 _ _ hp2, SqT.of ht, Nat.le_of_lt (small1000 (by rw [List.length_map, ints_len, hfl]; simp only [List.length_cons, List.length_nil]; lia)), ?_⟩
        have keep : ∀ b o, b ≠ p → H3 b = some o → upd H3 p (.lst ((nI (flatW dn)).map V.int ++ [.int (q.1 : Nat), .int (q.2 : Nat)])) b = some o := fun b o hb h => by
          rw [upd_ne hb]
          exact h
        have htp : t ≠ p := fun e => by
          rw [e, s3 _ _ hp2] at ht
          cases ht
        have hr3 := keep r _ hrp (s3 _ _ hr2)
        have ht3 := keep t _ htp ht
        refine ⟨_, rfl, _, rfl, t, _, _, _, rfl, rfl, SqT.of ht3, at0 _ _, _, rfl, t, _, _, _, rfl, rfl, SqT.of ht3, at1 _ _, r, gi, q.1, q.2, rfl, SqL.of hr3, by lia, q1, q2, fun H4 r4 s4 n4 e4 => ?_⟩
        have hp3 : upd H3 p (.lst ((nI (flatW dn)).map V.int ++ [.int (q.1 : Nat), .int (q.2 : Nat)])) p = some (.lst ((nI (flatW (dn ++ [q]))).map V.int)) := by
          rw [upd_same]
          unfold flatW
          rw [List.flatMap_append, ints_app, List.map_append]
          rfl
        refine ⟨r4, _, _, Rc65.turn gi q.1 q.2, dn ++ [q], rfl, fun b o h => s4 _ _ (keep b o (ne_of_none h np) (s3 _ _ (sm2 _ _ h))), s4 _ _ hp3, e4, Ne.symm (ne_of_none hp3 n4), turn_right hgi q1 q2, ?_, by lia, by simp [hdl], ?_⟩
        · rw [turn_len q1 q2, hgl]
        · rw [← hway, List.append_assoc, List.singleton_append, ← q3, way_succ hf]
      · rintro σ H2 ⟨r, u, v, gi, dn, rfl, sm2, hp2, hr2, hrp, hgi, hgl, hti, hdl, hway⟩
        have e0 : Rc65.told gi = 0 := by lia
        rw [e0, Rc65.wayOf, List.append_nil] at hway
        rw [hway] at hp2
        exact ⟨_, rfl, k _ p sm2 np hp2⟩
end
end G

set_option Elab.async false
set_option maxRecDepth 100000
set_option maxHeartbeats 2000000
namespace G
open PySem PySem.Spec PyProof.Rows L2 GM GR
def spGood (C : Addr) : Sp := fun vs H Q _ => ∃ (p : Addr) (v : V) (g : List Int) (i j : Int), vs = [.ref p, .int i, .int j] ∧ LineAt C H p v g ∧ g ≠ [] ∧ g.length ≤ 10 ∧ Rc65.right g = true ∧
  Done C H p (· = v) g (if 0 ≤ i ∧ i ≤ j ∧ j < (g.length : Int) then (if Rc65.told (Rc65.turn g i.toNat j.toNat) + 1 = Rc65.told g then [1] else [0]) else [-1]) Q
def spPath (C : Addr) : Sp := fun vs H Q _ => ∃ (p : Addr) (v : V) (g : List Int), vs = [.ref p] ∧ LineAt C H p v g ∧ g ≠ [] ∧ g.length ≤ 10 ∧ Rc65.right g = true ∧
  Done C H p (· = v) g (((2 * (Rc65.wayOf (Rc65.told g) g).length : Nat) : Int) :: nI (flatW (Rc65.wayOf (Rc65.told g) g))) Q
theorem row_of {C : Addr} {H : Hp} {p : Addr} {v : V} {g : List Int} (h : LineAt C H p v g) (hg : g ≠ []) : ∃ dx r, H p = some (.ins C dx (lf (.ref r))) ∧ v = .ref r ∧ H r = some (.lst (g.map V.int)) := by
  obtain ⟨⟨dx, hp⟩, hv⟩ := h
  rcases hv with ⟨e, _⟩ | ⟨_, r, rfl, hr⟩
  · exact absurd e hg
  · exact ⟨dx, r, hp, rfl, hr⟩
section
variable {P : Program} {w : World} {K : PySem.W.Frag} {mg : Str → Option Value} {base : Heap}
theorem scGood : FnScope ["self", "i", "j", "left"] ["self", "i", "j"] (defScope sGood) := ⟨rfl, rfl, rfl, by decide +kernel, rfl, by decide +kernel, by decide +kernel⟩
theorem ok_good {f C : Addr} {fd : FuncData} (F : Fun K "good" "Line.good" sGood f fd) (T : Tc K mg C) (G1 : Cal P w K mg base 1 "is_stretch" ["row", "i", "j"] (spIsStretch K)) (G2 : Cal P w K mg base 1 "turned" ["row", "i", "j"] (spTurned K)) (G3 : Cal P w K mg base 5 "distance_of" ["row"] (spDistanceOf K)) :
    FnOk P w K mg base CX0 6 f fd ["self", "i", "j"] (spGood C) := by
  obtain ⟨t1, h1⟩ := T.refused
  obtain ⟨f1, fd1, g1, m1, k1, b1⟩ := G1
  obtain ⟨f2, fd2, g2, m2, k2, b2⟩ := G2
  obtain ⟨f3, fd3, g3, m3, k3, b3⟩ := G3
  refine F.ok scGood (fun vs H Q E h => ?_) (fun cdv A outer s H vs Q E hr h => ?_)
  · obtain ⟨p, v, g, i, j, rfl, _⟩ := h
    rfl
  · obtain ⟨p, v, g, i, j, rfl, hL, hg, hlen, hright, k⟩ := h
    have hr1 : Room 1 _ := hr.mono (by decide)
    refine ⟨_, pss_cons (ps_if (pt_not (pt_val (pe_call g1 hr1 rfl m1 k1 b1 .nil pass0 (pa_cons (pe_fld (pv 0) rfl) (pa_cons (pv 1) (pa_cons (pv 2) pa_nil)))))) (pss_one (ps_ret (pe_lst (pa_cons (pe_glob (v := .int (-1)) (by rfl) h1 ⟨_, rfl⟩) pa_nil)))) pss_nil)
      (pss_cons (ps_set (i := 3) scGood.nd rfl (Or.inl rfl) (pe_call g3 hr rfl m3 k3 b3 .nil pass0 (pa_cons (pe_call g2 hr1 rfl m2 k2 b2 .nil pass0 (pa_cons (pe_fld (pv 0) rfl) (pa_cons (pv 1) (pa_cons (pv 2) pa_nil)))) pa_nil)))
      (pss_one (ps_ret (pe_lst (pa_cons (pe_ifExp (pt_cmpR op_eq (pv 3) (pe_op op_sub (pe_call g3 hr rfl m3 k3 b3 .nil pass0 (pa_cons (pe_fld (pv 0) rfl) pa_nil)) pe_int) (nomark _)) pe_int pe_int) pa_nil))))), ?_⟩
    obtain ⟨dx, r, hp, rfl, hrr⟩ := row_of hL hg
    refine ⟨_, rfl, p, C, dx, _, _, rfl, hp, T.cl, T.nR, lf_row _, _, rfl, _, rfl, r, _, i, j, rfl, SqL.of hrr, _, rfl, ?_⟩
    rw [List.length_map]
    by_cases hc : 0 ≤ i ∧ i ≤ j ∧ j < (g.length : Int)
    · rw [if_pos hc] at k
      rw [decide_eq_true hc]
      refine iteF ?_
      have ei : i = (i.toNat : Int) := by lia
      have ej : j = (j.toNat : Int) := by lia
      have q1 : i.toNat ≤ j.toNat := by lia
      have q2 : j.toNat < g.length := by lia
      have tl := turn_len (g := g) q1 q2
      refine ⟨_, rfl, p, C, dx, _, _, rfl, hp, T.cl, T.nR, lf_row _, _, rfl, _, rfl, r, g, i.toNat, j.toNat, ?_, SqL.of hrr, by lia, q1, q2, fun H1 p2 s1 n2 hp2 => ?_⟩
      · rw [← ei, ← ej]
        rfl
      · refine ⟨p2, _, rfl, SqL.of hp2, by rw [tl]; exact hlen, turn_right hright q1 q2, fun H2 s2 => ?_⟩
        have s12 := s1.trans s2
        refine ⟨_, rfl, _, rfl, p, C, dx, _, _, rfl, s12 _ _ hp, T.cl, T.nR, lf_row _, r, g, rfl, SqL.of (s12 _ _ hrr), hlen, hright, fun H3 s3 => ?_⟩
        have s13 := s12.trans s3
        refine ⟨_, _, rfl, rfl, rfl, _, rfl, ite2 (fun h2 => ?_) (fun h2 => ?_)⟩
        · have h2 := int_eq.mp h2
          rw [if_pos (by lia)] at k
          exact ⟨(by show 1 ≤ sizeLine; decide), fun q hq => k.stay hL s13 hq⟩
        · have h2 : ¬ _ := fun z => h2 (int_eq.mpr z)
          rw [if_neg (by lia)] at k
          exact ⟨(by show 1 ≤ sizeLine; decide), fun q hq => k.stay hL s13 hq⟩
    · rw [if_neg hc] at k
      rw [decide_eq_false hc]
      refine iteT ?_
      refine ⟨(by show 1 ≤ sizeLine; decide), fun q hq => ?_⟩
      exact k.stay hL (fun _ _ e => e) hq
theorem scPath : FnScope ["self", "numbers"] ["self"] (defScope sPath) := ⟨rfl, rfl, rfl, by decide +kernel, rfl, by decide +kernel, by decide +kernel⟩
theorem ok_path {f C : Addr} {fd : FuncData} (F : Fun K "path" "Line.path" sPath f fd) (T : Tc K mg C) (Tx : Tx mg) (G1 : Cal P w K mg base 7 "path_of" ["row"] spPathOf) : FnOk P w K mg base CX0 8 f fd ["self"] (spPath C) := by
  obtain ⟨f1, fd1, g1, m1, k1, b1⟩ := G1
  refine F.ok scPath (fun vs H Q E h => ?_) (fun cdv A outer s H vs Q E hr h => ?_)
  · obtain ⟨p, v, g, rfl, _⟩ := h
    rfl
  · obtain ⟨p, v, g, rfl, hL, hg, hlen, hright, k⟩ := h
    refine ⟨_, pss_cons (ps_set (i := 1) scPath.nd rfl (Or.inl rfl) (pe_call g1 hr rfl m1 k1 b1 .nil pass0 (pa_cons (pe_fld (pv 0) rfl) pa_nil)))
      (pss_one (ps_ret (pe_op op_cat (pe_lst (pa_cons (pe_callB call_len_seq (by rfl) Tx.len PySem.boot_len (pa_cons (pv 1) pa_nil)) pa_nil)) (pv 1)))), ?_⟩
    obtain ⟨dx, r, hp, rfl, hrr⟩ := row_of hL hg
    refine ⟨_, rfl, p, C, dx, _, _, rfl, hp, T.cl, T.nR, lf_row _, r, g, rfl, hrr, hlen, hright, fun H1 p1 s1 n1 e1 => ?_⟩
    have hfl : (nI (flatW (Rc65.wayOf (Rc65.told g) g))).length = 2 * (Rc65.wayOf (Rc65.told g) g).length := by
      rw [ints_len]
      unfold flatW
      rw [flat2_len]
    have hwl := wayOf_le (Rc65.told g) g
    have htl := told_le g
    refine ⟨_, rfl, p1, _, rfl, .inl (SqL.of e1), (by show 1 ≤ sizeLine; decide), fun l nl => ?_⟩
    have sl := same_upd (o := .lst [.int (((nI (flatW (Rc65.wayOf (Rc65.told g) g))).map V.int).length : Nat)]) nl
    refine ⟨_, rfl, l, p1, _, _, rfl, rfl, upd_same, sl _ _ e1, Nat.le_of_lt (small1000 ?_), fun q nq => ?_⟩
    · rw [List.length_cons, List.length_nil, List.length_map, hfl]
      lia
    · have e : [V.int (((nI (flatW (Rc65.wayOf (Rc65.told g) g))).map V.int).length : Nat)] ++ (nI (flatW (Rc65.wayOf (Rc65.told g) g))).map V.int = ((((2 * (Rc65.wayOf (Rc65.told g) g).length : Nat) : Int) :: nI (flatW (Rc65.wayOf (Rc65.told g) g)))).map V.int := by
        rw [List.length_map, hfl]
        rfl
      rw [e]
      exact k.stay hL (s1.trans sl) nq
end
end G

set_option Elab.async false
set_option maxRecDepth 100000
set_option maxHeartbeats 2000000
namespace G
open PySem PySem.Spec PyProof.Rows L2 GM GR
structure Tr (mg : Str → Option Value) : Prop where
  genes : ∃ t, mg "GENES" = some (.int 2 t)
  turn : ∃ t, mg "TURN" = some (.int 3 t)
  undo : ∃ t, mg "UNDO" = some (.int 4 t)
  distance : ∃ t, mg "DISTANCE" = some (.int 5 t)
  parts : ∃ t, mg "PARTS" = some (.int 6 t)
  good : ∃ t, mg "GOOD" = some (.int 7 t)
  path : ∃ t, mg "PATH" = some (.int 8 t)
theorem head_row {c : List (List Int)} (hf : Form c) (c0 : c ≠ [[0]]) (c1 : ∀ r, c ≠ [[1], r]) : ∃ n : Int, (PyFlat.put1 c).getD 0 0 = n ∧ 0 < (PyFlat.put1 c).length ∧ ((n = 2 ∧ c = [[2]]) ∨ (n = 3 ∧ ∃ i j, c = [[3, i, j]]) ∨ (n = 4 ∧ c = [[4]]) ∨ (n = 5 ∧ c = [[5]]) ∨ (n = 6 ∧ c = [[6]]) ∨ (n = 7 ∧ ∃ i j, c = [[7, i, j]]) ∨ (n = 8 ∧ c = [[8]])) := by
  cases hf with
  | begin => exact absurd rfl c0
  | row r _ _ _ => exact absurd rfl (c1 r)
  | genes => exact ⟨2, rfl, by decide, .inl ⟨rfl, rfl⟩⟩
  | turn i j => exact ⟨3, rfl, by simp [PyFlat.put1], .inr (.inl ⟨rfl, i, j, rfl⟩)⟩
  | undo => exact ⟨4, rfl, by decide, .inr (.inr (.inl ⟨rfl, rfl⟩))⟩
  | distance => exact ⟨5, rfl, by decide, .inr (.inr (.inr (.inl ⟨rfl, rfl⟩)))⟩
  | parts => exact ⟨6, rfl, by decide, .inr (.inr (.inr (.inr (.inl ⟨rfl, rfl⟩))))⟩
  | good i j => exact ⟨7, rfl, by simp [PyFlat.put1], .inr (.inr (.inr (.inr (.inr (.inl ⟨rfl, i, j, rfl⟩)))))⟩
  | path => exact ⟨8, rfl, by decide, .inr (.inr (.inr (.inr (.inr (.inr ⟨rfl, rfl⟩)))))⟩
section
variable {P : Program} {w : World} {K : PySem.W.Frag} {mg : Str → Option Value} {base : Heap}
theorem scAnswerOfRow : FnScope ["self", "call"] ["self", "call"] (defScope sAnswerOfRow) := ⟨rfl, rfl, rfl, by decide +kernel, rfl, by decide +kernel, by decide +kernel⟩
theorem ok_answerOfRow {f C : Addr} {fd : FuncData} (F : Fun K "answer_of_row" "Line.answer_of_row" sAnswerOfRow f fd) (R : Tr mg) (T : Tx mg) (Tc : Tc K mg C) (M1 : MCal P w K mg base C 2 "turn" ["self", "i", "j"] (spTurn C)) (M2 : MCal P w K mg base C 2 "undo" ["self"] (spUndo C))
    (M3 : MCal P w K mg base C 6 "good" ["self", "i", "j"] (spGood C)) (M4 : MCal P w K mg base C 8 "path" ["self"] (spPath C)) (G1 : Cal P w K mg base 5 "distance_of" ["row"] (spDistanceOf K)) (G2 : Cal P w K mg base 4 "parts_of" ["row"] (spPartsOf K)) :
    FnOk P w K mg base CX0 9 f fd ["self", "call"] (spAnswerOfRow C) := by
  obtain ⟨t2, c2⟩ := R.genes
  obtain ⟨t3, c3⟩ := R.turn
  obtain ⟨t4, c4⟩ := R.undo
  obtain ⟨t5, c5⟩ := R.distance
  obtain ⟨t6, c6⟩ := R.parts
  obtain ⟨t7, c7⟩ := R.good
  obtain ⟨t8, c8⟩ := R.path
  obtain ⟨t0, c0'⟩ := Tc.done
  obtain ⟨f1, fd1, g1, m1, b1⟩ := M1
  obtain ⟨f2, fd2, g2, m2, b2⟩ := M2
  obtain ⟨f3, fd3, g3, m3, b3⟩ := M3
  obtain ⟨f4, fd4, g4, m4, b4⟩ := M4
  obtain ⟨f5, fd5, g5, m5, k5, b5⟩ := G1
  obtain ⟨f6, fd6, g6, m6, k6, b6⟩ := G2
  refine F.ok scAnswerOfRow (fun vs H Q E h => ?_) (fun cdv A outer s H vs Q E hr h => ?_)
  · obtain ⟨p, a, v, g, c, rfl, _⟩ := h
    rfl
  · obtain ⟨p, a, v, g, c, rfl, hL, hok, hgn, hf, n0, n1, ha, kq⟩ := h
    have hr2 : Room 2 _ := hr.mono (by decide)
    have hr4 : Room 4 _ := hr.mono (by decide)
    have hr5 : Room 5 _ := hr.mono (by decide)
    have hr6 : Room 6 _ := hr.mono (by decide)
    obtain ⟨hright, hlen, _⟩ := hok.resolve_left hgn
    obtain ⟨n, hn, hpos, hcs⟩ := head_row hf n0 n1
    refine ⟨_, pss_cons (ps_if (pt_cmpR op_eq (pe_ix ix_list (pv 1) pe_int (fun _ _ => rfl)) (pe_glob (v := .int 2) (by rfl) c2 ⟨_, rfl⟩) (nomark _)) (pss_one (ps_ret (pe_op op_cat (pe_lst (pa_cons (pe_callB call_len_seq (by rfl) T.len PySem.boot_len (pa_cons (pe_fld (pv 0) rfl) pa_nil)) pa_nil)) (pe_fld (pv 0) rfl)))) pss_nil)
      (pss_cons (ps_if (pt_cmpR op_eq (pe_ix ix_list (pv 1) pe_int (fun _ _ => rfl)) (pe_glob (v := .int 3) (by rfl) c3 ⟨_, rfl⟩) (nomark _)) (pss_one (ps_ret (pe_meth (pv 0) Tc.cl m1 g1 hr2 b1 .nil pass0 (pa_cons (pe_ix ix_list (pv 1) pe_int (fun _ _ => rfl)) (pa_cons (pe_ix ix_list (pv 1) pe_int (fun _ _ => rfl)) pa_nil))))) pss_nil)
      (pss_cons (ps_if (pt_cmpR op_eq (pe_ix ix_list (pv 1) pe_int (fun _ _ => rfl)) (pe_glob (v := .int 4) (by rfl) c4 ⟨_, rfl⟩) (nomark _)) (pss_one (ps_ret (pe_meth0 (pv 0) Tc.cl m2 g2 hr2 b2 .nil pass0))) pss_nil)
      (pss_cons (ps_if (pt_cmpR op_eq (pe_ix ix_list (pv 1) pe_int (fun _ _ => rfl)) (pe_glob (v := .int 5) (by rfl) c5 ⟨_, rfl⟩) (nomark _)) (pss_one (ps_ret (pe_lst (pa_cons (pe_call g5 hr5 rfl m5 k5 b5 .nil pass0 (pa_cons (pe_fld (pv 0) rfl) pa_nil)) pa_nil)))) pss_nil)
      (pss_cons (ps_if (pt_cmpR op_eq (pe_ix ix_list (pv 1) pe_int (fun _ _ => rfl)) (pe_glob (v := .int 6) (by rfl) c6 ⟨_, rfl⟩) (nomark _)) (pss_one (ps_ret (pe_op op_cat (pe_lst (pa_cons (pe_glob (v := .int 0) (by rfl) c0' ⟨_, rfl⟩) pa_nil)) (pe_call g6 hr4 rfl m6 k6 b6 .nil pass0 (pa_cons (pe_fld (pv 0) rfl) pa_nil))))) pss_nil)
      (pss_cons (ps_if (pt_cmpR op_eq (pe_ix ix_list (pv 1) pe_int (fun _ _ => rfl)) (pe_glob (v := .int 7) (by rfl) c7 ⟨_, rfl⟩) (nomark _)) (pss_one (ps_ret (pe_meth (pv 0) Tc.cl m3 g3 hr6 b3 .nil pass0 (pa_cons (pe_ix ix_list (pv 1) pe_int (fun _ _ => rfl)) (pa_cons (pe_ix ix_list (pv 1) pe_int (fun _ _ => rfl)) pa_nil))))) pss_nil)
      (pss_cons (ps_if (pt_cmpR op_eq (pe_ix ix_list (pv 1) pe_int (fun _ _ => rfl)) (pe_glob (v := .int 8) (by rfl) c8 ⟨_, rfl⟩) (nomark _)) (pss_one (ps_ret (pe_meth0 (pv 0) Tc.cl m4 g4 hr b4 .nil pass0))) pss_nil)
      (pss_one ps_never))))))), ?_⟩
    have hat : atI ((PyFlat.put1 c).map V.int) 0 = some (.int n) := by
      have := at_get (l := PyFlat.put1 c) (st := 0) hpos
      rw [hn] at this
      exact this
    obtain ⟨dx, r, hp, rfl, hrr⟩ := row_of hL hgn
    have hsa := SqL.of (K := K) ha
    refine ⟨_, rfl, a, _, _, _, rfl, rfl, hsa, hat, rfl, _, rfl, ite2 (fun q => ?_) (fun q2 => ?_)⟩
    · -- genes
      have e := int_eq.mp q
      obtain rfl : c = [[2]] := by
        rcases hcs with h | h | h | h | h | h | h
        · exact h.2
        all_goals exact absurd (e.symm.trans h.1) (by decide)
      rw [(step_genes hgn).1, (step_genes hgn).2] at kq
      refine ⟨_, rfl, p, C, dx, _, _, rfl, hp, Tc.cl, Tc.nR, lf_row _, r, _, rfl, .inl (SqL.of hrr), (by show 1 ≤ sizeLine; decide), fun l nl => ?_⟩
      have sl := same_upd (o := .lst [.int ((g.map V.int).length : Nat)]) nl
      refine ⟨_, rfl, p, C, dx, _, _, rfl, sl _ _ hp, Tc.cl, Tc.nR, lf_row _, l, r, _, _, rfl, rfl, upd_same, sl _ _ hrr, Nat.le_of_lt (small1000 (by rw [List.length_cons, List.length_nil, List.length_map]; lia)), fun q' nq => ?_⟩
      have e2 : [V.int ((g.map V.int).length : Nat)] ++ g.map V.int = (((g.length : Int)) :: g).map V.int := by
        rw [List.length_map]
        rfl
      rw [e2]
      exact (kq.imp fun v' h => .inl h).stay hL sl nq
    have q2 : ¬ n = 2 := fun z => q2 (int_eq.mpr z)
    refine ⟨_, rfl, a, _, _, _, rfl, rfl, hsa, hat, rfl, _, rfl, ite2 (fun q => ?_) (fun q3 => ?_)⟩
    · -- turn
      have e := int_eq.mp q
      obtain ⟨i, j, rfl⟩ : ∃ i j, c = [[3, i, j]] := by
        rcases hcs with h | h | h | h | h | h | h
        · exact absurd (e.symm.trans h.1) (by decide)
        · exact h.2
        all_goals exact absurd (e.symm.trans h.1) (by decide)
      have st := step_turn hgn i j
      refine ⟨_, rfl, p, dx, _, rfl, hp, lf_no _ (by decide +kernel), _, rfl, a, _, _, _, rfl, rfl, hsa, rfl, _, rfl, a, _, _, _, rfl, rfl, hsa, rfl, p, _, g, i, j, rfl, hL, hgn, by lia, ?_⟩
      by_cases hc : 0 ≤ i ∧ i ≤ j ∧ j < (g.length : Int)
      · rw [if_pos hc] at st ⊢
        rw [show nextG g [[3, i, j]] = Rc65.turn g i.toNat j.toNat from congrArg Prod.fst st, show ansG g [[3, i, j]] = [0] from congrArg Prod.snd st] at kq
        exact kq.imp fun v' h => .inr h
      · rw [if_neg hc] at st ⊢
        rw [show nextG g [[3, i, j]] = g from congrArg Prod.fst st, show ansG g [[3, i, j]] = [-1] from congrArg Prod.snd st] at kq
        exact kq.imp fun v' h => .inl h
    have q3 : ¬ n = 3 := fun z => q3 (int_eq.mpr z)
    refine ⟨_, rfl, a, _, _, _, rfl, rfl, hsa, hat, rfl, _, rfl, ite2 (fun q => ?_) (fun q4 => ?_)⟩
    · -- undo
      have e := int_eq.mp q
      obtain rfl : c = [[4]] := by
        rcases hcs with h | h | h | h | h | h | h
        · exact absurd (e.symm.trans h.1) (by decide)
        · exact absurd (e.symm.trans h.1) (by decide)
        · exact h.2
        all_goals exact absurd (e.symm.trans h.1) (by decide)
      rw [(step_undo hgn).1, (step_undo hgn).2] at kq
      exact ⟨_, rfl, p, dx, _, rfl, hp, lf_no _ (by decide +kernel), p, _, g, rfl, hL, hgn, by lia, hright, kq.imp fun v' h => .inr h⟩
    have q4 : ¬ n = 4 := fun z => q4 (int_eq.mpr z)
    refine ⟨_, rfl, a, _, _, _, rfl, rfl, hsa, hat, rfl, _, rfl, ite2 (fun q => ?_) (fun q5 => ?_)⟩
    · -- distance
      have e := int_eq.mp q
      obtain rfl : c = [[5]] := by
        rcases hcs with h | h | h | h | h | h | h
        · exact absurd (e.symm.trans h.1) (by decide)
        · exact absurd (e.symm.trans h.1) (by decide)
        · exact absurd (e.symm.trans h.1) (by decide)
        · exact h.2
        all_goals exact absurd (e.symm.trans h.1) (by decide)
      rw [(step_distance hgn).1, (step_distance hgn).2] at kq
      refine ⟨_, rfl, p, C, dx, _, _, rfl, hp, Tc.cl, Tc.nR, lf_row _, r, g, rfl, SqL.of hrr, hlen, hright, fun H1 s1 => ⟨(by show 1 ≤ sizeLine; decide), fun q' nq => ?_⟩⟩
      exact (kq.imp fun v' h => .inl h).stay hL s1 nq
    have q5 : ¬ n = 5 := fun z => q5 (int_eq.mpr z)
    refine ⟨_, rfl, a, _, _, _, rfl, rfl, hsa, hat, rfl, _, rfl, ite2 (fun q => ?_) (fun q6 => ?_)⟩
    · -- parts
      have e := int_eq.mp q
      obtain rfl : c = [[6]] := by
        rcases hcs with h | h | h | h | h | h | h
        · exact absurd (e.symm.trans h.1) (by decide)
        · exact absurd (e.symm.trans h.1) (by decide)
        · exact absurd (e.symm.trans h.1) (by decide)
        · exact absurd (e.symm.trans h.1) (by decide)
        · exact h.2
        all_goals exact absurd (e.symm.trans h.1) (by decide)
      rw [(step_parts hgn).1, (step_parts hgn).2] at kq
      refine ⟨(by show 1 ≤ sizeLine; decide), fun l nl => ?_⟩
      have sl := same_upd (o := .lst [.int 0]) nl
      refine ⟨_, rfl, p, C, dx, _, _, rfl, sl _ _ hp, Tc.cl, Tc.nR, lf_row _, r, g, rfl, SqL.of (sl _ _ hrr), hlen, hright, fun H1 p1 s1 n1 e1 => ?_⟩
      refine ⟨l, p1, _, _, rfl, rfl, s1 _ _ upd_same, e1, (by show 5 ≤ sizeLine; decide), fun q' nq => ?_⟩
      exact (kq.imp fun v' h => .inl h).stay hL (sl.trans s1) nq
    have q6 : ¬ n = 6 := fun z => q6 (int_eq.mpr z)
    refine ⟨_, rfl, a, _, _, _, rfl, rfl, hsa, hat, rfl, _, rfl, ite2 (fun q => ?_) (fun q7 => ?_)⟩
    · -- good
      have e := int_eq.mp q
      obtain ⟨i, j, rfl⟩ : ∃ i j, c = [[7, i, j]] := by
        rcases hcs with h | h | h | h | h | h | h
        · exact absurd (e.symm.trans h.1) (by decide)
        · exact absurd (e.symm.trans h.1) (by decide)
        · exact absurd (e.symm.trans h.1) (by decide)
        · exact absurd (e.symm.trans h.1) (by decide)
        · exact absurd (e.symm.trans h.1) (by decide)
        · exact h.2
        · exact absurd (e.symm.trans h.1) (by decide)
      rw [(step_good hgn i j).1, (step_good hgn i j).2] at kq
      exact ⟨_, rfl, p, dx, _, rfl, hp, lf_no _ (by decide +kernel), _, rfl, a, _, _, _, rfl, rfl, hsa, rfl, _, rfl, a, _, _, _, rfl, rfl, hsa, rfl, p, _, g, i, j, rfl, hL, hgn, hlen, hright, kq.imp fun v' h => .inl h⟩
    have q7 : ¬ n = 7 := fun z => q7 (int_eq.mpr z)
    refine ⟨_, rfl, a, _, _, _, rfl, rfl, hsa, hat, rfl, _, rfl, ite2 (fun q => ?_) (fun q8 => ?_)⟩
    · -- path
      have e := int_eq.mp q
      obtain rfl : c = [[8]] := by
        rcases hcs with h | h | h | h | h | h | h
        · exact absurd (e.symm.trans h.1) (by decide)
        · exact absurd (e.symm.trans h.1) (by decide)
        · exact absurd (e.symm.trans h.1) (by decide)
        · exact absurd (e.symm.trans h.1) (by decide)
        · exact absurd (e.symm.trans h.1) (by decide)
        · exact absurd (e.symm.trans h.1) (by decide)
        · exact h.2
      rw [(step_path hgn).1, (step_path hgn).2] at kq
      exact ⟨_, rfl, p, dx, _, rfl, hp, lf_no _ (by decide +kernel), p, _, g, rfl, hL, hgn, hlen, hright, kq.imp fun v' h => .inl h⟩
    · have q8 : ¬ n = 8 := fun z => q8 (int_eq.mpr z)
      exfalso
      rcases hcs with h | h | h | h | h | h | h
      · exact q2 h.1
      · exact q3 h.1
      · exact q4 h.1
      · exact q5 h.1
      · exact q6 h.1
      · exact q7 h.1
      · exact q8 h.1
end
end G

set_option Elab.async false
set_option maxRecDepth 100000
set_option maxHeartbeats 2000000
namespace G
open PySem PySem.Spec PyProof.Rows L2 GM GR
open PySem.W (Codec)
/-- a def's record -/
abbrev Rec (K : PySem.W.Frag) (x qual : Str) (st : Stmt) (f : Addr) (od an : Option Addr) (sl : Array (Option Value)) (oc kV dc pm cd ct : Value) : Prop :=
  K.lookup f = some ⟨oc, od, .func (PySem.W.fnOf x qual (defArgs st) (defBody st) (defScope st) .none kV dc pm an cd ct), sl⟩
theorem cal_mk {P : Program} {w : World} {K : PySem.W.Frag} {h : Heap} {mg : Str → Option Value} {base : Heap} {f : Addr} {x qual : Str} {st : Stmt} {od an : Option Addr} {sl : Array (Option Value)} {oc kV dc pm cd ct : Value} {ps : List Str} {k : Nat} {sp : Sp}
    (X : K.In h) (G : h.Ns mainGlobals mg) (a : PySem.W.nsIn K mainGlobals x = some (some (.ref f))) (l : Rec K x qual st f od an sl oc kV dc pm cd ct) (c : PySem.W.codeIn K cd qual = true) (kp : PySem.W.keepIn K (.ref f) = true)
    (hb : ∀ (kV doc pm : Value) (an : Option Addr) (cdv ct : Value) (us : List Value), us.length = ps.length → bindArgs (PySem.W.fnOf x qual (defArgs st) (defBody st) (defScope st) .none kV doc pm an cdv ct) ⟨us, []⟩ = pure (ps.zip us))
    (ok : ∀ fd, Fun K x qual st f fd → FnOk P w K mg base CX0 k f fd ps sp) : Cal P w K mg base k x ps sp :=
  ⟨f, _, ok _ (fun_mk (st := st) l c kp), PySem.W.mg_of X G a, kp, (fun_mk (st := st) l c kp).binds hb⟩
theorem mcal_mk {P : Program} {w : World} {K : PySem.W.Frag} {mg : Str → Option Value} {base : Heap} {C f : Addr} {x qual : Str} {st : Stmt} {od an : Option Addr} {sl : Array (Option Value)} {oc kV dc pm cd ct : Value} {ps : List Str} {k : Nat} {sp : Sp}
    (a : PySem.W.findIn K (.ref C) x = some (some (.ref f))) (i : PySem.W.isFn K (.ref f) = true) (l : Rec K x qual st f od an sl oc kV dc pm cd ct) (c : PySem.W.codeIn K cd qual = true) (kp : PySem.W.keepIn K (.ref f) = true)
    (hb : ∀ (kV doc pm : Value) (an : Option Addr) (cdv ct : Value) (us : List Value), us.length = ps.length → bindArgs (PySem.W.fnOf x qual (defArgs st) (defBody st) (defScope st) .none kV doc pm an cdv ct) ⟨us, []⟩ = pure (ps.zip us))
    (ok : ∀ fd, Fun K x qual st f fd → FnOk P w K mg base CX0 k f fd ps sp) : MCal P w K mg base C k x ps sp :=
  ⟨f, _, ok _ (fun_mk (st := st) l c kp), ⟨a, i, kp⟩, (fun_mk (st := st) l c kp).binds hb⟩
theorem all_mk {P : Program} {w : World} {K : PySem.W.Frag} {h : Heap} {mg : Str → Option Value} {fa C f_signed f_is_row f_is_stretch f_turned f_undone f_ends_of f_places_of f_partner f_count_breaks f_count_cycles f_bonds_of f_cross f_crowds_of f_is_hard f_owners_of f_hurdles_among f_holds_back f_is_fortress f_parts_of f_distance_of f_stretches_of f_first_good f_path_of f_call_length f_answers f_m_init f_m_answer f_m_answer_of_row f_m_begin f_m_take_row f_m_turn f_m_undo f_m_good f_m_path : Addr} (X : K.In h) (G : h.Ns mainGlobals mg) (hfa : mg "answers" = some (.ref fa))
    {tc0 tc1 tc2 tc3 tc4 tc5 tc6 tc7 tc8 tc9 tc10 tc11 tc12 : Tok}
    {od_signed an_signed od_is_row an_is_row od_is_stretch an_is_stretch od_turned an_turned od_undone an_undone od_ends_of an_ends_of od_places_of an_places_of od_partner an_partner od_count_breaks an_count_breaks od_count_cycles an_count_cycles od_bonds_of an_bonds_of od_cross an_cross od_crowds_of an_crowds_of od_is_hard an_is_hard od_owners_of an_owners_of od_hurdles_among an_hurdles_among od_holds_back an_holds_back od_is_fortress an_is_fortress od_parts_of an_parts_of od_distance_of an_distance_of od_stretches_of an_stretches_of od_first_good an_first_good od_path_of an_path_of od_call_length an_call_length od_answers an_answers od_m_init an_m_init od_m_answer an_m_answer od_m_answer_of_row an_m_answer_of_row od_m_begin an_m_begin od_m_take_row an_m_take_row od_m_turn an_m_turn od_m_undo an_m_undo od_m_good an_m_good od_m_path an_m_path : Option Addr} {sl_signed sl_is_row sl_is_stretch sl_turned sl_undone sl_ends_of sl_places_of sl_partner sl_count_breaks sl_count_cycles sl_bonds_of sl_cross sl_crowds_of sl_is_hard sl_owners_of sl_hurdles_among sl_holds_back sl_is_fortress sl_parts_of sl_distance_of sl_stretches_of sl_first_good sl_path_of sl_call_length sl_answers sl_m_init sl_m_answer sl_m_answer_of_row sl_m_begin sl_m_take_row sl_m_turn sl_m_undo sl_m_good sl_m_path : Array (Option Value)} {oc_signed kV_signed dc_signed pm_signed cd_signed ct_signed oc_is_row kV_is_row dc_is_row pm_is_row cd_is_row ct_is_row oc_is_stretch kV_is_stretch dc_is_stretch pm_is_stretch cd_is_stretch ct_is_stretch oc_turned kV_turned dc_turned pm_turned cd_turned ct_turned oc_undone kV_undone dc_undone pm_undone cd_undone ct_undone oc_ends_of kV_ends_of dc_ends_of pm_ends_of cd_ends_of ct_ends_of oc_places_of kV_places_of dc_places_of pm_places_of cd_places_of ct_places_of oc_partner kV_partner dc_partner pm_partner cd_partner ct_partner oc_count_breaks kV_count_breaks dc_count_breaks pm_count_breaks cd_count_breaks ct_count_breaks oc_count_cycles kV_count_cycles dc_count_cycles pm_count_cycles cd_count_cycles ct_count_cycles oc_bonds_of kV_bonds_of dc_bonds_of pm_bonds_of cd_bonds_of ct_bonds_of oc_cross kV_cross dc_cross pm_cross cd_cross ct_cross oc_crowds_of kV_crowds_of dc_crowds_of pm_crowds_of cd_crowds_of ct_crowds_of oc_is_hard kV_is_hard dc_is_hard pm_is_hard cd_is_hard ct_is_hard oc_owners_of kV_owners_of dc_owners_of pm_owners_of cd_owners_of ct_owners_of oc_hurdles_among kV_hurdles_among dc_hurdles_among pm_hurdles_among cd_hurdles_among ct_hurdles_among oc_holds_back kV_holds_back dc_holds_back pm_holds_back cd_holds_back ct_holds_back oc_is_fortress kV_is_fortress dc_is_fortress pm_is_fortress cd_is_fortress ct_is_fortress oc_parts_of kV_parts_of dc_parts_of pm_parts_of cd_parts_of ct_parts_of oc_distance_of kV_distance_of dc_distance_of pm_distance_of cd_distance_of ct_distance_of oc_stretches_of kV_stretches_of dc_stretches_of pm_stretches_of cd_stretches_of ct_stretches_of oc_first_good kV_first_good dc_first_good pm_first_good cd_first_good ct_first_good oc_path_of kV_path_of dc_path_of pm_path_of cd_path_of ct_path_of oc_call_length kV_call_length dc_call_length pm_call_length cd_call_length ct_call_length oc_answers kV_answers dc_answers pm_answers cd_answers ct_answers oc_m_init kV_m_init dc_m_init pm_m_init cd_m_init ct_m_init oc_m_answer kV_m_answer dc_m_answer pm_m_answer cd_m_answer ct_m_answer oc_m_answer_of_row kV_m_answer_of_row dc_m_answer_of_row pm_m_answer_of_row cd_m_answer_of_row ct_m_answer_of_row oc_m_begin kV_m_begin dc_m_begin pm_m_begin cd_m_begin ct_m_begin oc_m_take_row kV_m_take_row dc_m_take_row pm_m_take_row cd_m_take_row ct_m_take_row oc_m_turn kV_m_turn dc_m_turn pm_m_turn cd_m_turn ct_m_turn oc_m_undo kV_m_undo dc_m_undo pm_m_undo cd_m_undo ct_m_undo oc_m_good kV_m_good dc_m_good pm_m_good cd_m_good ct_m_good oc_m_path kV_m_path dc_m_path pm_m_path cd_m_path ct_m_path : Value}
    (kc0 : PySem.W.nsIn K mainGlobals "BEGIN" = some (some (.int 0 tc0)))
    (kc1 : PySem.W.nsIn K mainGlobals "ROW" = some (some (.int 1 tc1)))
    (kc2 : PySem.W.nsIn K mainGlobals "GENES" = some (some (.int 2 tc2)))
    (kc3 : PySem.W.nsIn K mainGlobals "TURN" = some (some (.int 3 tc3)))
    (kc4 : PySem.W.nsIn K mainGlobals "UNDO" = some (some (.int 4 tc4)))
    (kc5 : PySem.W.nsIn K mainGlobals "DISTANCE" = some (some (.int 5 tc5)))
    (kc6 : PySem.W.nsIn K mainGlobals "PARTS" = some (some (.int 6 tc6)))
    (kc7 : PySem.W.nsIn K mainGlobals "GOOD" = some (some (.int 7 tc7)))
    (kc8 : PySem.W.nsIn K mainGlobals "PATH" = some (some (.int 8 tc8)))
    (kc9 : PySem.W.nsIn K mainGlobals "DONE" = some (some (.int 0 tc9)))
    (kc10 : PySem.W.nsIn K mainGlobals "REFUSED" = some (some (.int (-1) tc10)))
    (kc11 : PySem.W.nsIn K mainGlobals "NO_ROW" = some (some (.int (-4) tc11)))
    (kc12 : PySem.W.nsIn K mainGlobals "MOST_GENES" = some (some (.int 32 tc12)))
    (kb0 : PySem.W.nsIn K mainGlobals "len" = some none)
    (kb1 : PySem.W.nsIn K mainGlobals "sorted" = some none)
    (kb2 : PySem.W.nsIn K mainGlobals "abs" = some none)
    (kb3 : PySem.W.nsIn K mainGlobals "list" = some none)
    (kb4 : PySem.W.nsIn K mainGlobals "range" = some none)
    (kb5 : PySem.W.nsIn K mainGlobals "reversed" = some none)
    (kb6 : PySem.W.nsIn K mainGlobals "enumerate" = some none)
    (kb7 : PySem.W.nsIn K mainGlobals "min" = some none)
    (kb8 : PySem.W.nsIn K mainGlobals "max" = some none)
    (kb9 : PySem.W.nsIn K mainGlobals "any" = some none)
    (kb10 : PySem.W.nsIn K mainGlobals "all" = some none)
    (aC : PySem.W.nsIn K mainGlobals "Line" = some (some (.ref C)))
    (a_signed : PySem.W.nsIn K mainGlobals "signed" = some (some (.ref f_signed)))
    (l_signed : K.lookup f_signed = some ⟨oc_signed, od_signed, .func (PySem.W.fnOf "signed" "signed" (defArgs sSigned) (defBody sSigned) (defScope sSigned) .none kV_signed dc_signed pm_signed an_signed cd_signed ct_signed), sl_signed⟩)
    (c_signed : PySem.W.codeIn K cd_signed "signed" = true)
    (k_signed : PySem.W.keepIn K (.ref f_signed) = true)
    (a_is_row : PySem.W.nsIn K mainGlobals "is_row" = some (some (.ref f_is_row)))
    (l_is_row : K.lookup f_is_row = some ⟨oc_is_row, od_is_row, .func (PySem.W.fnOf "is_row" "is_row" (defArgs sIsRow) (defBody sIsRow) (defScope sIsRow) .none kV_is_row dc_is_row pm_is_row an_is_row cd_is_row ct_is_row), sl_is_row⟩)
    (c_is_row : PySem.W.codeIn K cd_is_row "is_row" = true)
    (k_is_row : PySem.W.keepIn K (.ref f_is_row) = true)
    (a_is_stretch : PySem.W.nsIn K mainGlobals "is_stretch" = some (some (.ref f_is_stretch)))
    (l_is_stretch : K.lookup f_is_stretch = some ⟨oc_is_stretch, od_is_stretch, .func (PySem.W.fnOf "is_stretch" "is_stretch" (defArgs sIsStretch) (defBody sIsStretch) (defScope sIsStretch) .none kV_is_stretch dc_is_stretch pm_is_stretch an_is_stretch cd_is_stretch ct_is_stretch), sl_is_stretch⟩)
    (c_is_stretch : PySem.W.codeIn K cd_is_stretch "is_stretch" = true)
    (k_is_stretch : PySem.W.keepIn K (.ref f_is_stretch) = true)
    (a_turned : PySem.W.nsIn K mainGlobals "turned" = some (some (.ref f_turned)))
    (l_turned : K.lookup f_turned = some ⟨oc_turned, od_turned, .func (PySem.W.fnOf "turned" "turned" (defArgs sTurned) (defBody sTurned) (defScope sTurned) .none kV_turned dc_turned pm_turned an_turned cd_turned ct_turned), sl_turned⟩)
    (c_turned : PySem.W.codeIn K cd_turned "turned" = true)
    (k_turned : PySem.W.keepIn K (.ref f_turned) = true)
    (a_undone : PySem.W.nsIn K mainGlobals "undone" = some (some (.ref f_undone)))
    (l_undone : K.lookup f_undone = some ⟨oc_undone, od_undone, .func (PySem.W.fnOf "undone" "undone" (defArgs sUndone) (defBody sUndone) (defScope sUndone) .none kV_undone dc_undone pm_undone an_undone cd_undone ct_undone), sl_undone⟩)
    (c_undone : PySem.W.codeIn K cd_undone "undone" = true)
    (k_undone : PySem.W.keepIn K (.ref f_undone) = true)
    (a_ends_of : PySem.W.nsIn K mainGlobals "ends_of" = some (some (.ref f_ends_of)))
    (l_ends_of : K.lookup f_ends_of = some ⟨oc_ends_of, od_ends_of, .func (PySem.W.fnOf "ends_of" "ends_of" (defArgs sEndsOf) (defBody sEndsOf) (defScope sEndsOf) .none kV_ends_of dc_ends_of pm_ends_of an_ends_of cd_ends_of ct_ends_of), sl_ends_of⟩)
    (c_ends_of : PySem.W.codeIn K cd_ends_of "ends_of" = true)
    (k_ends_of : PySem.W.keepIn K (.ref f_ends_of) = true)
    (a_places_of : PySem.W.nsIn K mainGlobals "places_of" = some (some (.ref f_places_of)))
    (l_places_of : K.lookup f_places_of = some ⟨oc_places_of, od_places_of, .func (PySem.W.fnOf "places_of" "places_of" (defArgs sPlacesOf) (defBody sPlacesOf) (defScope sPlacesOf) .none kV_places_of dc_places_of pm_places_of an_places_of cd_places_of ct_places_of), sl_places_of⟩)
    (c_places_of : PySem.W.codeIn K cd_places_of "places_of" = true)
    (k_places_of : PySem.W.keepIn K (.ref f_places_of) = true)
    (a_partner : PySem.W.nsIn K mainGlobals "partner" = some (some (.ref f_partner)))
    (l_partner : K.lookup f_partner = some ⟨oc_partner, od_partner, .func (PySem.W.fnOf "partner" "partner" (defArgs sPartner) (defBody sPartner) (defScope sPartner) .none kV_partner dc_partner pm_partner an_partner cd_partner ct_partner), sl_partner⟩)
    (c_partner : PySem.W.codeIn K cd_partner "partner" = true)
    (k_partner : PySem.W.keepIn K (.ref f_partner) = true)
    (a_count_breaks : PySem.W.nsIn K mainGlobals "count_breaks" = some (some (.ref f_count_breaks)))
    (l_count_breaks : K.lookup f_count_breaks = some ⟨oc_count_breaks, od_count_breaks, .func (PySem.W.fnOf "count_breaks" "count_breaks" (defArgs sCountBreaks) (defBody sCountBreaks) (defScope sCountBreaks) .none kV_count_breaks dc_count_breaks pm_count_breaks an_count_breaks cd_count_breaks ct_count_breaks), sl_count_breaks⟩)
    (c_count_breaks : PySem.W.codeIn K cd_count_breaks "count_breaks" = true)
    (k_count_breaks : PySem.W.keepIn K (.ref f_count_breaks) = true)
    (a_count_cycles : PySem.W.nsIn K mainGlobals "count_cycles" = some (some (.ref f_count_cycles)))
    (l_count_cycles : K.lookup f_count_cycles = some ⟨oc_count_cycles, od_count_cycles, .func (PySem.W.fnOf "count_cycles" "count_cycles" (defArgs sCountCycles) (defBody sCountCycles) (defScope sCountCycles) .none kV_count_cycles dc_count_cycles pm_count_cycles an_count_cycles cd_count_cycles ct_count_cycles), sl_count_cycles⟩)
    (c_count_cycles : PySem.W.codeIn K cd_count_cycles "count_cycles" = true)
    (k_count_cycles : PySem.W.keepIn K (.ref f_count_cycles) = true)
    (a_bonds_of : PySem.W.nsIn K mainGlobals "bonds_of" = some (some (.ref f_bonds_of)))
    (l_bonds_of : K.lookup f_bonds_of = some ⟨oc_bonds_of, od_bonds_of, .func (PySem.W.fnOf "bonds_of" "bonds_of" (defArgs sBondsOf) (defBody sBondsOf) (defScope sBondsOf) .none kV_bonds_of dc_bonds_of pm_bonds_of an_bonds_of cd_bonds_of ct_bonds_of), sl_bonds_of⟩)
    (c_bonds_of : PySem.W.codeIn K cd_bonds_of "bonds_of" = true)
    (k_bonds_of : PySem.W.keepIn K (.ref f_bonds_of) = true)
    (a_cross : PySem.W.nsIn K mainGlobals "cross" = some (some (.ref f_cross)))
    (l_cross : K.lookup f_cross = some ⟨oc_cross, od_cross, .func (PySem.W.fnOf "cross" "cross" (defArgs sCross) (defBody sCross) (defScope sCross) .none kV_cross dc_cross pm_cross an_cross cd_cross ct_cross), sl_cross⟩)
    (c_cross : PySem.W.codeIn K cd_cross "cross" = true)
    (k_cross : PySem.W.keepIn K (.ref f_cross) = true)
    (a_crowds_of : PySem.W.nsIn K mainGlobals "crowds_of" = some (some (.ref f_crowds_of)))
    (l_crowds_of : K.lookup f_crowds_of = some ⟨oc_crowds_of, od_crowds_of, .func (PySem.W.fnOf "crowds_of" "crowds_of" (defArgs sCrowdsOf) (defBody sCrowdsOf) (defScope sCrowdsOf) .none kV_crowds_of dc_crowds_of pm_crowds_of an_crowds_of cd_crowds_of ct_crowds_of), sl_crowds_of⟩)
    (c_crowds_of : PySem.W.codeIn K cd_crowds_of "crowds_of" = true)
    (k_crowds_of : PySem.W.keepIn K (.ref f_crowds_of) = true)
    (a_is_hard : PySem.W.nsIn K mainGlobals "is_hard" = some (some (.ref f_is_hard)))
    (l_is_hard : K.lookup f_is_hard = some ⟨oc_is_hard, od_is_hard, .func (PySem.W.fnOf "is_hard" "is_hard" (defArgs sIsHard) (defBody sIsHard) (defScope sIsHard) .none kV_is_hard dc_is_hard pm_is_hard an_is_hard cd_is_hard ct_is_hard), sl_is_hard⟩)
    (c_is_hard : PySem.W.codeIn K cd_is_hard "is_hard" = true)
    (k_is_hard : PySem.W.keepIn K (.ref f_is_hard) = true)
    (a_owners_of : PySem.W.nsIn K mainGlobals "owners_of" = some (some (.ref f_owners_of)))
    (l_owners_of : K.lookup f_owners_of = some ⟨oc_owners_of, od_owners_of, .func (PySem.W.fnOf "owners_of" "owners_of" (defArgs sOwnersOf) (defBody sOwnersOf) (defScope sOwnersOf) .none kV_owners_of dc_owners_of pm_owners_of an_owners_of cd_owners_of ct_owners_of), sl_owners_of⟩)
    (c_owners_of : PySem.W.codeIn K cd_owners_of "owners_of" = true)
    (k_owners_of : PySem.W.keepIn K (.ref f_owners_of) = true)
    (a_hurdles_among : PySem.W.nsIn K mainGlobals "hurdles_among" = some (some (.ref f_hurdles_among)))
    (l_hurdles_among : K.lookup f_hurdles_among = some ⟨oc_hurdles_among, od_hurdles_among, .func (PySem.W.fnOf "hurdles_among" "hurdles_among" (defArgs sHurdlesAmong) (defBody sHurdlesAmong) (defScope sHurdlesAmong) .none kV_hurdles_among dc_hurdles_among pm_hurdles_among an_hurdles_among cd_hurdles_among ct_hurdles_among), sl_hurdles_among⟩)
    (c_hurdles_among : PySem.W.codeIn K cd_hurdles_among "hurdles_among" = true)
    (k_hurdles_among : PySem.W.keepIn K (.ref f_hurdles_among) = true)
    (a_holds_back : PySem.W.nsIn K mainGlobals "holds_back" = some (some (.ref f_holds_back)))
    (l_holds_back : K.lookup f_holds_back = some ⟨oc_holds_back, od_holds_back, .func (PySem.W.fnOf "holds_back" "holds_back" (defArgs sHoldsBack) (defBody sHoldsBack) (defScope sHoldsBack) .none kV_holds_back dc_holds_back pm_holds_back an_holds_back cd_holds_back ct_holds_back), sl_holds_back⟩)
    (c_holds_back : PySem.W.codeIn K cd_holds_back "holds_back" = true)
    (k_holds_back : PySem.W.keepIn K (.ref f_holds_back) = true)
    (a_is_fortress : PySem.W.nsIn K mainGlobals "is_fortress" = some (some (.ref f_is_fortress)))
    (l_is_fortress : K.lookup f_is_fortress = some ⟨oc_is_fortress, od_is_fortress, .func (PySem.W.fnOf "is_fortress" "is_fortress" (defArgs sIsFortress) (defBody sIsFortress) (defScope sIsFortress) .none kV_is_fortress dc_is_fortress pm_is_fortress an_is_fortress cd_is_fortress ct_is_fortress), sl_is_fortress⟩)
    (c_is_fortress : PySem.W.codeIn K cd_is_fortress "is_fortress" = true)
    (k_is_fortress : PySem.W.keepIn K (.ref f_is_fortress) = true)
    (a_parts_of : PySem.W.nsIn K mainGlobals "parts_of" = some (some (.ref f_parts_of)))
    (l_parts_of : K.lookup f_parts_of = some ⟨oc_parts_of, od_parts_of, .func (PySem.W.fnOf "parts_of" "parts_of" (defArgs sPartsOf) (defBody sPartsOf) (defScope sPartsOf) .none kV_parts_of dc_parts_of pm_parts_of an_parts_of cd_parts_of ct_parts_of), sl_parts_of⟩)
    (c_parts_of : PySem.W.codeIn K cd_parts_of "parts_of" = true)
    (k_parts_of : PySem.W.keepIn K (.ref f_parts_of) = true)
    (a_distance_of : PySem.W.nsIn K mainGlobals "distance_of" = some (some (.ref f_distance_of)))
    (l_distance_of : K.lookup f_distance_of = some ⟨oc_distance_of, od_distance_of, .func (PySem.W.fnOf "distance_of" "distance_of" (defArgs sDistanceOf) (defBody sDistanceOf) (defScope sDistanceOf) .none kV_distance_of dc_distance_of pm_distance_of an_distance_of cd_distance_of ct_distance_of), sl_distance_of⟩)
    (c_distance_of : PySem.W.codeIn K cd_distance_of "distance_of" = true)
    (k_distance_of : PySem.W.keepIn K (.ref f_distance_of) = true)
    (a_stretches_of : PySem.W.nsIn K mainGlobals "stretches_of" = some (some (.ref f_stretches_of)))
    (l_stretches_of : K.lookup f_stretches_of = some ⟨oc_stretches_of, od_stretches_of, .func (PySem.W.fnOf "stretches_of" "stretches_of" (defArgs sStretchesOf) (defBody sStretchesOf) (defScope sStretchesOf) .none kV_stretches_of dc_stretches_of pm_stretches_of an_stretches_of cd_stretches_of ct_stretches_of), sl_stretches_of⟩)
    (c_stretches_of : PySem.W.codeIn K cd_stretches_of "stretches_of" = true)
    (k_stretches_of : PySem.W.keepIn K (.ref f_stretches_of) = true)
    (a_first_good : PySem.W.nsIn K mainGlobals "first_good" = some (some (.ref f_first_good)))
    (l_first_good : K.lookup f_first_good = some ⟨oc_first_good, od_first_good, .func (PySem.W.fnOf "first_good" "first_good" (defArgs sFirstGood) (defBody sFirstGood) (defScope sFirstGood) .none kV_first_good dc_first_good pm_first_good an_first_good cd_first_good ct_first_good), sl_first_good⟩)
    (c_first_good : PySem.W.codeIn K cd_first_good "first_good" = true)
    (k_first_good : PySem.W.keepIn K (.ref f_first_good) = true)
    (a_path_of : PySem.W.nsIn K mainGlobals "path_of" = some (some (.ref f_path_of)))
    (l_path_of : K.lookup f_path_of = some ⟨oc_path_of, od_path_of, .func (PySem.W.fnOf "path_of" "path_of" (defArgs sPathOf) (defBody sPathOf) (defScope sPathOf) .none kV_path_of dc_path_of pm_path_of an_path_of cd_path_of ct_path_of), sl_path_of⟩)
    (c_path_of : PySem.W.codeIn K cd_path_of "path_of" = true)
    (k_path_of : PySem.W.keepIn K (.ref f_path_of) = true)
    (a_call_length : PySem.W.nsIn K mainGlobals "call_length" = some (some (.ref f_call_length)))
    (l_call_length : K.lookup f_call_length = some ⟨oc_call_length, od_call_length, .func (PySem.W.fnOf "call_length" "call_length" (defArgs sCallLength) (defBody sCallLength) (defScope sCallLength) .none kV_call_length dc_call_length pm_call_length an_call_length cd_call_length ct_call_length), sl_call_length⟩)
    (c_call_length : PySem.W.codeIn K cd_call_length "call_length" = true)
    (k_call_length : PySem.W.keepIn K (.ref f_call_length) = true)
    (a_answers : PySem.W.nsIn K mainGlobals "answers" = some (some (.ref f_answers)))
    (l_answers : K.lookup f_answers = some ⟨oc_answers, od_answers, .func (PySem.W.fnOf "answers" "answers" (defArgs sAnswers) (defBody sAnswers) (defScope sAnswers) .none kV_answers dc_answers pm_answers an_answers cd_answers ct_answers), sl_answers⟩)
    (c_answers : PySem.W.codeIn K cd_answers "answers" = true)
    (k_answers : PySem.W.keepIn K (.ref f_answers) = true)
    (a_m_init : PySem.W.findIn K (.ref C) "__init__" = some (some (.ref f_m_init)))
    (i_m_init : PySem.W.isFn K (.ref f_m_init) = true)
    (l_m_init : K.lookup f_m_init = some ⟨oc_m_init, od_m_init, .func (PySem.W.fnOf "__init__" "Line.__init__" (defArgs sInit) (defBody sInit) (defScope sInit) .none kV_m_init dc_m_init pm_m_init an_m_init cd_m_init ct_m_init), sl_m_init⟩)
    (c_m_init : PySem.W.codeIn K cd_m_init "Line.__init__" = true)
    (k_m_init : PySem.W.keepIn K (.ref f_m_init) = true)
    (a_m_answer : PySem.W.findIn K (.ref C) "answer" = some (some (.ref f_m_answer)))
    (i_m_answer : PySem.W.isFn K (.ref f_m_answer) = true)
    (l_m_answer : K.lookup f_m_answer = some ⟨oc_m_answer, od_m_answer, .func (PySem.W.fnOf "answer" "Line.answer" (defArgs sAnswer) (defBody sAnswer) (defScope sAnswer) .none kV_m_answer dc_m_answer pm_m_answer an_m_answer cd_m_answer ct_m_answer), sl_m_answer⟩)
    (c_m_answer : PySem.W.codeIn K cd_m_answer "Line.answer" = true)
    (k_m_answer : PySem.W.keepIn K (.ref f_m_answer) = true)
    (a_m_answer_of_row : PySem.W.findIn K (.ref C) "answer_of_row" = some (some (.ref f_m_answer_of_row)))
    (i_m_answer_of_row : PySem.W.isFn K (.ref f_m_answer_of_row) = true)
    (l_m_answer_of_row : K.lookup f_m_answer_of_row = some ⟨oc_m_answer_of_row, od_m_answer_of_row, .func (PySem.W.fnOf "answer_of_row" "Line.answer_of_row" (defArgs sAnswerOfRow) (defBody sAnswerOfRow) (defScope sAnswerOfRow) .none kV_m_answer_of_row dc_m_answer_of_row pm_m_answer_of_row an_m_answer_of_row cd_m_answer_of_row ct_m_answer_of_row), sl_m_answer_of_row⟩)
    (c_m_answer_of_row : PySem.W.codeIn K cd_m_answer_of_row "Line.answer_of_row" = true)
    (k_m_answer_of_row : PySem.W.keepIn K (.ref f_m_answer_of_row) = true)
    (a_m_begin : PySem.W.findIn K (.ref C) "begin" = some (some (.ref f_m_begin)))
    (i_m_begin : PySem.W.isFn K (.ref f_m_begin) = true)
    (l_m_begin : K.lookup f_m_begin = some ⟨oc_m_begin, od_m_begin, .func (PySem.W.fnOf "begin" "Line.begin" (defArgs sBegin) (defBody sBegin) (defScope sBegin) .none kV_m_begin dc_m_begin pm_m_begin an_m_begin cd_m_begin ct_m_begin), sl_m_begin⟩)
    (c_m_begin : PySem.W.codeIn K cd_m_begin "Line.begin" = true)
    (k_m_begin : PySem.W.keepIn K (.ref f_m_begin) = true)
    (a_m_take_row : PySem.W.findIn K (.ref C) "take_row" = some (some (.ref f_m_take_row)))
    (i_m_take_row : PySem.W.isFn K (.ref f_m_take_row) = true)
    (l_m_take_row : K.lookup f_m_take_row = some ⟨oc_m_take_row, od_m_take_row, .func (PySem.W.fnOf "take_row" "Line.take_row" (defArgs sTakeRow) (defBody sTakeRow) (defScope sTakeRow) .none kV_m_take_row dc_m_take_row pm_m_take_row an_m_take_row cd_m_take_row ct_m_take_row), sl_m_take_row⟩)
    (c_m_take_row : PySem.W.codeIn K cd_m_take_row "Line.take_row" = true)
    (k_m_take_row : PySem.W.keepIn K (.ref f_m_take_row) = true)
    (a_m_turn : PySem.W.findIn K (.ref C) "turn" = some (some (.ref f_m_turn)))
    (i_m_turn : PySem.W.isFn K (.ref f_m_turn) = true)
    (l_m_turn : K.lookup f_m_turn = some ⟨oc_m_turn, od_m_turn, .func (PySem.W.fnOf "turn" "Line.turn" (defArgs sTurn) (defBody sTurn) (defScope sTurn) .none kV_m_turn dc_m_turn pm_m_turn an_m_turn cd_m_turn ct_m_turn), sl_m_turn⟩)
    (c_m_turn : PySem.W.codeIn K cd_m_turn "Line.turn" = true)
    (k_m_turn : PySem.W.keepIn K (.ref f_m_turn) = true)
    (a_m_undo : PySem.W.findIn K (.ref C) "undo" = some (some (.ref f_m_undo)))
    (i_m_undo : PySem.W.isFn K (.ref f_m_undo) = true)
    (l_m_undo : K.lookup f_m_undo = some ⟨oc_m_undo, od_m_undo, .func (PySem.W.fnOf "undo" "Line.undo" (defArgs sUndo) (defBody sUndo) (defScope sUndo) .none kV_m_undo dc_m_undo pm_m_undo an_m_undo cd_m_undo ct_m_undo), sl_m_undo⟩)
    (c_m_undo : PySem.W.codeIn K cd_m_undo "Line.undo" = true)
    (k_m_undo : PySem.W.keepIn K (.ref f_m_undo) = true)
    (a_m_good : PySem.W.findIn K (.ref C) "good" = some (some (.ref f_m_good)))
    (i_m_good : PySem.W.isFn K (.ref f_m_good) = true)
    (l_m_good : K.lookup f_m_good = some ⟨oc_m_good, od_m_good, .func (PySem.W.fnOf "good" "Line.good" (defArgs sGood) (defBody sGood) (defScope sGood) .none kV_m_good dc_m_good pm_m_good an_m_good cd_m_good ct_m_good), sl_m_good⟩)
    (c_m_good : PySem.W.codeIn K cd_m_good "Line.good" = true)
    (k_m_good : PySem.W.keepIn K (.ref f_m_good) = true)
    (a_m_path : PySem.W.findIn K (.ref C) "path" = some (some (.ref f_m_path)))
    (i_m_path : PySem.W.isFn K (.ref f_m_path) = true)
    (l_m_path : K.lookup f_m_path = some ⟨oc_m_path, od_m_path, .func (PySem.W.fnOf "path" "Line.path" (defArgs sPath) (defBody sPath) (defScope sPath) .none kV_m_path dc_m_path pm_m_path an_m_path cd_m_path ct_m_path), sl_m_path⟩)
    (c_m_path : PySem.W.codeIn K cd_m_path "Line.path" = true)
    (k_m_path : PySem.W.keepIn K (.ref f_m_path) = true)
    (pg : PySem.W.plainGet K C Str.empty = true) (hd : PySem.W.hasDictIn K C = true) (po : PySem.W.plainOver K C = true) (sa : PySem.W.findIn K (.ref C) "__setattr__" = some (some (.builtin "object.__setattr__"))) (mk : PySem.W.makesIn K C = true) (kc : PySem.W.keepIn K (.ref C) = true)
    (n_row : PySem.W.findIn K (.ref C) "row" = some none) :
    ∃ fd : FuncData, (∀ (s : Shared) (us : List Value), us.length = (["calls"] : List Str).length → BindsTo s fd ⟨us, []⟩ ((["calls"] : List Str).zip us)) ∧ ∀ base : Heap, K.In base → base.Ns mainGlobals mg → FnOk P w K mg base CX0 12 fa fd ["calls"] (spAnswers K) := by
  have e := hfa.symm.trans (PySem.W.mg_of X G a_answers)
  cases e
  have C_BEGIN := PySem.W.mg_of X G kc0
  have C_ROW := PySem.W.mg_of X G kc1
  have C_GENES := PySem.W.mg_of X G kc2
  have C_TURN := PySem.W.mg_of X G kc3
  have C_UNDO := PySem.W.mg_of X G kc4
  have C_DISTANCE := PySem.W.mg_of X G kc5
  have C_PARTS := PySem.W.mg_of X G kc6
  have C_GOOD := PySem.W.mg_of X G kc7
  have C_PATH := PySem.W.mg_of X G kc8
  have C_DONE := PySem.W.mg_of X G kc9
  have C_REFUSED := PySem.W.mg_of X G kc10
  have C_NO_ROW := PySem.W.mg_of X G kc11
  have C_MOST_GENES := PySem.W.mg_of X G kc12
  have B_len := PySem.W.mg_none_of X G kb0
  have B_sorted := PySem.W.mg_none_of X G kb1
  have B_abs := PySem.W.mg_none_of X G kb2
  have B_list := PySem.W.mg_none_of X G kb3
  have B_range := PySem.W.mg_none_of X G kb4
  have B_reversed := PySem.W.mg_none_of X G kb5
  have B_enumerate := PySem.W.mg_none_of X G kb6
  have B_min := PySem.W.mg_none_of X G kb7
  have B_max := PySem.W.mg_none_of X G kb8
  have B_any := PySem.W.mg_none_of X G kb9
  have B_all := PySem.W.mg_none_of X G kb10
  have hC := PySem.W.mg_of X G aC
  refine ⟨PySem.W.fnOf "answers" "answers" (defArgs sAnswers) (defBody sAnswers) (defScope sAnswers) .none kV_answers dc_answers pm_answers an_answers cd_answers ct_answers, fun s us hu => match us, hu with | [_], _ => .of_eq rfl, fun base _ _ => ?_⟩
  have T : Tx mg := ⟨⟨_, C_MOST_GENES⟩, B_len, B_sorted, B_abs, B_list, B_range, B_reversed, B_enumerate, B_min, B_max, B_any, B_all⟩
  have Tk : Tk mg := ⟨⟨_, C_ROW⟩, ⟨_, C_TURN⟩, ⟨_, C_GOOD⟩⟩
  have Tn : Tn mg := ⟨⟨_, C_BEGIN⟩, ⟨_, C_ROW⟩, ⟨_, C_NO_ROW⟩⟩
  have Tc : Tc K mg C := ⟨⟨pg, hd, po, sa⟩, n_row, ⟨_, C_DONE⟩, ⟨_, C_REFUSED⟩⟩
  have Tr : Tr mg := ⟨⟨_, C_GENES⟩, ⟨_, C_TURN⟩, ⟨_, C_UNDO⟩, ⟨_, C_DISTANCE⟩, ⟨_, C_PARTS⟩, ⟨_, C_GOOD⟩, ⟨_, C_PATH⟩⟩
  have c1 := cal_mk (ps := ["number"]) (qual := "signed") (st := sSigned) X G a_signed l_signed c_signed k_signed (fun _ _ _ _ _ _ us hl => match us, hl with | [_], _ => rfl) (fun fd F => ok_signed (P := P) (w := w) (mg := mg) (base := base) F)
  have c2 := cal_mk (ps := ["genes"]) (qual := "is_row") (st := sIsRow) X G a_is_row l_is_row c_is_row k_is_row (fun _ _ _ _ _ _ us hl => match us, hl with | [_], _ => rfl) (fun fd F => ok_isRow (P := P) (w := w) (base := base) F T)
  have c3 := cal_mk (ps := ["row", "i", "j"]) (qual := "is_stretch") (st := sIsStretch) X G a_is_stretch l_is_stretch c_is_stretch k_is_stretch (fun _ _ _ _ _ _ us hl => match us, hl with | [_, _, _], _ => rfl) (fun fd F => ok_isStretch (P := P) (w := w) (base := base) F T)
  have c4 := cal_mk (ps := ["row", "i", "j"]) (qual := "turned") (st := sTurned) X G a_turned l_turned c_turned k_turned (fun _ _ _ _ _ _ us hl => match us, hl with | [_, _, _], _ => rfl) (fun fd F => ok_turned (P := P) (w := w) (base := base) F T)
  have c5 := cal_mk (ps := ["row"]) (qual := "undone") (st := sUndone) X G a_undone l_undone c_undone k_undone (fun _ _ _ _ _ _ us hl => match us, hl with | [_], _ => rfl) (fun fd F => ok_undone (P := P) (w := w) (base := base) F T)
  have c6 := cal_mk (ps := ["calls", "start"]) (qual := "call_length") (st := sCallLength) X G a_call_length l_call_length c_call_length k_call_length (fun _ _ _ _ _ _ us hl => match us, hl with | [_, _], _ => rfl) (fun fd F => ok_callLength (P := P) (w := w) (base := base) F Tk)
  have d1 := cal_mk (ps := ["row"]) (qual := "ends_of") (st := sEndsOf) X G a_ends_of l_ends_of c_ends_of k_ends_of (fun _ _ _ _ _ _ us hl => match us, hl with | [_], _ => rfl) (fun fd F => ok_endsOf (P := P) (w := w) (base := base) F T)
  have d2 := cal_mk (ps := ["ends"]) (qual := "places_of") (st := sPlacesOf) X G a_places_of l_places_of c_places_of k_places_of (fun _ _ _ _ _ _ us hl => match us, hl with | [_], _ => rfl) (fun fd F => ok_placesOf (P := P) (w := w) (base := base) F T)
  have d3 := cal_mk (ps := ["number"]) (qual := "partner") (st := sPartner) X G a_partner l_partner c_partner k_partner (fun _ _ _ _ _ _ us hl => match us, hl with | [_], _ => rfl) (fun fd F => ok_partner (P := P) (w := w) (mg := mg) (base := base) F)
  have d4 := cal_mk (ps := ["ends"]) (qual := "count_breaks") (st := sCountBreaks) X G a_count_breaks l_count_breaks c_count_breaks k_count_breaks (fun _ _ _ _ _ _ us hl => match us, hl with | [_], _ => rfl) (fun fd F => ok_countBreaks F T d3)
  have d5 := cal_mk (ps := ["ends", "places"]) (qual := "count_cycles") (st := sCountCycles) X G a_count_cycles l_count_cycles c_count_cycles k_count_cycles (fun _ _ _ _ _ _ us hl => match us, hl with | [_, _], _ => rfl) (fun fd F => ok_countCycles F T d3)
  have d6 := cal_mk (ps := ["places"]) (qual := "bonds_of") (st := sBondsOf) X G a_bonds_of l_bonds_of c_bonds_of k_bonds_of (fun _ _ _ _ _ _ us hl => match us, hl with | [_], _ => rfl) (fun fd F => ok_bondsOf (P := P) (w := w) (base := base) F T)
  have d7 := cal_mk (ps := ["bond", "other"]) (qual := "cross") (st := sCross) X G a_cross l_cross c_cross k_cross (fun _ _ _ _ _ _ us hl => match us, hl with | [_, _], _ => rfl) (fun fd F => ok_cross (P := P) (w := w) (mg := mg) (base := base) F)
  have d8 := cal_mk (ps := ["bonds"]) (qual := "crowds_of") (st := sCrowdsOf) X G a_crowds_of l_crowds_of c_crowds_of k_crowds_of (fun _ _ _ _ _ _ us hl => match us, hl with | [_], _ => rfl) (fun fd F => ok_crowdsOf F T d7)
  have d9 := cal_mk (ps := ["crowd"]) (qual := "is_hard") (st := sIsHard) X G a_is_hard l_is_hard c_is_hard k_is_hard (fun _ _ _ _ _ _ us hl => match us, hl with | [_], _ => rfl) (fun fd F => ok_isHard F d3)
  have e1 := cal_mk (ps := ["crowds"]) (qual := "owners_of") (st := sOwnersOf) X G a_owners_of l_owners_of c_owners_of k_owners_of (fun _ _ _ _ _ _ us hl => match us, hl with | [_], _ => rfl) (fun fd F => ok_ownersOf (P := P) (w := w) (base := base) F T)
  have e2 := cal_mk (ps := ["owners"]) (qual := "hurdles_among") (st := sHurdlesAmong) X G a_hurdles_among l_hurdles_among c_hurdles_among k_hurdles_among (fun _ _ _ _ _ _ us hl => match us, hl with | [_], _ => rfl) (fun fd F => ok_hurdles (P := P) (w := w) (base := base) F T)
  have e3 := cal_mk (ps := ["hurdle", "hurdles", "owners"]) (qual := "holds_back") (st := sHoldsBack) X G a_holds_back l_holds_back c_holds_back k_holds_back (fun _ _ _ _ _ _ us hl => match us, hl with | [_, _, _], _ => rfl) (fun fd F => ok_holdsBack F T e2)
  have e4 := cal_mk (ps := ["hurdles", "owners"]) (qual := "is_fortress") (st := sIsFortress) X G a_is_fortress l_is_fortress c_is_fortress k_is_fortress (fun _ _ _ _ _ _ us hl => match us, hl with | [_, _], _ => rfl) (fun fd F => ok_isFortress F T e3)
  have e5 := cal_mk (ps := ["row"]) (qual := "parts_of") (st := sPartsOf) X G a_parts_of l_parts_of c_parts_of k_parts_of (fun _ _ _ _ _ _ us hl => match us, hl with | [_], _ => rfl) (fun fd F => ok_partsOf F T d1 d2 d6 d8 d9 e1 e2 e4 d5 d4)
  have e6 := cal_mk (ps := ["row"]) (qual := "distance_of") (st := sDistanceOf) X G a_distance_of l_distance_of c_distance_of k_distance_of (fun _ _ _ _ _ _ us hl => match us, hl with | [_], _ => rfl) (fun fd F => ok_distanceOf F T e5)
  have e7 := cal_mk (ps := ["row"]) (qual := "stretches_of") (st := sStretchesOf) X G a_stretches_of l_stretches_of c_stretches_of k_stretches_of (fun _ _ _ _ _ _ us hl => match us, hl with | [_], _ => rfl) (fun fd F => ok_stretchesOf (P := P) (w := w) (base := base) F T)
  have e8 := cal_mk (ps := ["row", "distance"]) (qual := "first_good") (st := sFirstGood) X G a_first_good l_first_good c_first_good k_first_good (fun _ _ _ _ _ _ us hl => match us, hl with | [_, _], _ => rfl) (fun fd F => ok_firstGood F T e7 c4 e6)
  have e9 := cal_mk (ps := ["row"]) (qual := "path_of") (st := sPathOf) X G a_path_of l_path_of c_path_of k_path_of (fun _ _ _ _ _ _ us hl => match us, hl with | [_], _ => rfl) (fun fd F => ok_pathOf F T e8 c4 e6)
  have m1 := mcal_mk (ps := ["self"]) (qual := "Line.begin") (st := sBegin) a_m_begin i_m_begin l_m_begin c_m_begin k_m_begin (fun _ _ _ _ _ _ us hl => match us, hl with | [_], _ => rfl) (fun fd F => ok_begin (P := P) (w := w) (base := base) F Tc)
  have m2 := mcal_mk (ps := ["self", "genes"]) (qual := "Line.take_row") (st := sTakeRow) a_m_take_row i_m_take_row l_m_take_row c_m_take_row k_m_take_row (fun _ _ _ _ _ _ us hl => match us, hl with | [_, _], _ => rfl) (fun fd F => ok_takeRow F Tc c2)
  have m3 := mcal_mk (ps := ["self", "i", "j"]) (qual := "Line.turn") (st := sTurn) a_m_turn i_m_turn l_m_turn c_m_turn k_m_turn (fun _ _ _ _ _ _ us hl => match us, hl with | [_, _, _], _ => rfl) (fun fd F => ok_turn F Tc c3 c4)
  have m4 := mcal_mk (ps := ["self"]) (qual := "Line.undo") (st := sUndo) a_m_undo i_m_undo l_m_undo c_m_undo k_m_undo (fun _ _ _ _ _ _ us hl => match us, hl with | [_], _ => rfl) (fun fd F => ok_undo F Tc c5)
  have m7 := mcal_mk (ps := ["self", "i", "j"]) (qual := "Line.good") (st := sGood) a_m_good i_m_good l_m_good c_m_good k_m_good (fun _ _ _ _ _ _ us hl => match us, hl with | [_, _, _], _ => rfl) (fun fd F => ok_good F Tc c3 c4 e6)
  have m8 := mcal_mk (ps := ["self"]) (qual := "Line.path") (st := sPath) a_m_path i_m_path l_m_path c_m_path k_m_path (fun _ _ _ _ _ _ us hl => match us, hl with | [_], _ => rfl) (fun fd F => ok_path F Tc T e9)
  have m5 := mcal_mk (ps := ["self", "call"]) (qual := "Line.answer_of_row") (st := sAnswerOfRow) a_m_answer_of_row i_m_answer_of_row l_m_answer_of_row c_m_answer_of_row k_m_answer_of_row (fun _ _ _ _ _ _ us hl => match us, hl with | [_, _], _ => rfl) (fun fd F => ok_answerOfRow F Tr T Tc m3 m4 m7 m8 e6 e5)
  have m6 := mcal_mk (ps := ["self", "call"]) (qual := "Line.answer") (st := sAnswer) a_m_answer i_m_answer l_m_answer c_m_answer k_m_answer (fun _ _ _ _ _ _ us hl => match us, hl with | [_, _], _ => rfl) (fun fd F => ok_answer (k := 9) (by decide) F Tn Tc m1 m2 c1 m5)
  exact FnOk.mono (ok_answers (k := 10) (by decide) (fun_mk (st := sAnswers) l_answers c_answers k_answers) T Tc hC ⟨mk, a_m_init, i_m_init, kc⟩ (ok_init (fun_mk (st := sInit) l_m_init c_m_init k_m_init) Tc) ((fun_mk (st := sInit) l_m_init c_m_init k_m_init).binds (ps := ["self"]) (fun _ _ _ _ _ _ us hl => match us, hl with | [_], _ => rfl)) c6 m6) (by decide)
end G
open PySem PySem.W PyProof.Rows
set_option maxRecDepth 100000 in
set_option maxHeartbeats 0 in
theorem PySem.Challenge.cw_geneturns_s01_answers_holds : PySem.Challenge.rw_geneturns_s01_answers.Holds := by
  w_on; k_headS; (case hw => exact ⟨[.list [.int 0]], by decide +kernel, by decide +kernel⟩)
  k_fillS
  refine L2.walk_specK (r := PySem.Challenge.rw_geneturns_s01_answers) (k := 12) (CX := L2.CX0) (ps := ["calls"]) (sp := G.spAnswers) (by decide +kernel) rfl rfl ⟨rfl, by decide, by decide⟩ (fun w h Y => PySem.W.kIn_of Y) ?F ?S (fun _ _ _ _ z => z)
  case F =>
    intro w mg fa h Y KX GN hmg
    refine' G.all_mk KX GN hmg ?kc0 ?kc1 ?kc2 ?kc3 ?kc4 ?kc5 ?kc6 ?kc7 ?kc8 ?kc9 ?kc10 ?kc11 ?kc12 ?kb0 ?kb1 ?kb2 ?kb3 ?kb4 ?kb5 ?kb6 ?kb7 ?kb8 ?kb9 ?kb10 ?aC ?a_signed ?l_signed ?c_signed ?k_signed ?a_is_row ?l_is_row ?c_is_row ?k_is_row ?a_is_stretch ?l_is_stretch ?c_is_stretch ?k_is_stretch ?a_turned ?l_turned ?c_turned ?k_turned ?a_undone ?l_undone ?c_undone ?k_undone ?a_ends_of ?l_ends_of ?c_ends_of ?k_ends_of ?a_places_of ?l_places_of ?c_places_of ?k_places_of ?a_partner ?l_partner ?c_partner ?k_partner ?a_count_breaks ?l_count_breaks ?c_count_breaks ?k_count_breaks ?a_count_cycles ?l_count_cycles ?c_count_cycles ?k_count_cycles ?a_bonds_of ?l_bonds_of ?c_bonds_of ?k_bonds_of ?a_cross ?l_cross ?c_cross ?k_cross ?a_crowds_of ?l_crowds_of ?c_crowds_of ?k_crowds_of ?a_is_hard ?l_is_hard ?c_is_hard ?k_is_hard ?a_owners_of ?l_owners_of ?c_owners_of ?k_owners_of ?a_hurdles_among ?l_hurdles_among ?c_hurdles_among ?k_hurdles_among ?a_holds_back ?l_holds_back ?c_holds_back ?k_holds_back ?a_is_fortress ?l_is_fortress ?c_is_fortress ?k_is_fortress ?a_parts_of ?l_parts_of ?c_parts_of ?k_parts_of ?a_distance_of ?l_distance_of ?c_distance_of ?k_distance_of ?a_stretches_of ?l_stretches_of ?c_stretches_of ?k_stretches_of ?a_first_good ?l_first_good ?c_first_good ?k_first_good ?a_path_of ?l_path_of ?c_path_of ?k_path_of ?a_call_length ?l_call_length ?c_call_length ?k_call_length ?a_answers ?l_answers ?c_answers ?k_answers ?a_m_init ?i_m_init ?l_m_init ?c_m_init ?k_m_init ?a_m_answer ?i_m_answer ?l_m_answer ?c_m_answer ?k_m_answer ?a_m_answer_of_row ?i_m_answer_of_row ?l_m_answer_of_row ?c_m_answer_of_row ?k_m_answer_of_row ?a_m_begin ?i_m_begin ?l_m_begin ?c_m_begin ?k_m_begin ?a_m_take_row ?i_m_take_row ?l_m_take_row ?c_m_take_row ?k_m_take_row ?a_m_turn ?i_m_turn ?l_m_turn ?c_m_turn ?k_m_turn ?a_m_undo ?i_m_undo ?l_m_undo ?c_m_undo ?k_m_undo ?a_m_good ?i_m_good ?l_m_good ?c_m_good ?k_m_good ?a_m_path ?i_m_path ?l_m_path ?c_m_path ?k_m_path ?pg ?hd ?po ?sa ?mk ?kc ?n_row
    (case kc0 => k_is)
    (case kc1 => k_is)
    (case kc2 => k_is)
    (case kc3 => k_is)
    (case kc4 => k_is)
    (case kc5 => k_is)
    (case kc6 => k_is)
    (case kc7 => k_is)
    (case kc8 => k_is)
    (case kc9 => k_is)
    (case kc10 => k_is)
    (case kc11 => k_is)
    (case kc12 => k_is)
    (case kb0 => k_is)
    (case kb1 => k_is)
    (case kb2 => k_is)
    (case kb3 => k_is)
    (case kb4 => k_is)
    (case kb5 => k_is)
    (case kb6 => k_is)
    (case kb7 => k_is)
    (case kb8 => k_is)
    (case kb9 => k_is)
    (case kb10 => k_is)
    (case aC => k_is)
    (case a_signed => k_is)
    (case l_signed => k_is)
    (case c_signed => k_is)
    (case k_signed => k_is)
    (case a_is_row => k_is)
    (case l_is_row => k_is)
    (case c_is_row => k_is)
    (case k_is_row => k_is)
    (case a_is_stretch => k_is)
    (case l_is_stretch => k_is)
    (case c_is_stretch => k_is)
    (case k_is_stretch => k_is)
    (case a_turned => k_is)
    (case l_turned => k_is)
    (case c_turned => k_is)
    (case k_turned => k_is)
    (case a_undone => k_is)
    (case l_undone => k_is)
    (case c_undone => k_is)
    (case k_undone => k_is)
    (case a_ends_of => k_is)
    (case l_ends_of => k_is)
    (case c_ends_of => k_is)
    (case k_ends_of => k_is)
    (case a_places_of => k_is)
    (case l_places_of => k_is)
    (case c_places_of => k_is)
    (case k_places_of => k_is)
    (case a_partner => k_is)
    (case l_partner => k_is)
    (case c_partner => k_is)
    (case k_partner => k_is)
    (case a_count_breaks => k_is)
    (case l_count_breaks => k_is)
    (case c_count_breaks => k_is)
    (case k_count_breaks => k_is)
    (case a_count_cycles => k_is)
    (case l_count_cycles => k_is)
    (case c_count_cycles => k_is)
    (case k_count_cycles => k_is)
    (case a_bonds_of => k_is)
    (case l_bonds_of => k_is)
    (case c_bonds_of => k_is)
    (case k_bonds_of => k_is)
    (case a_cross => k_is)
    (case l_cross => k_is)
    (case c_cross => k_is)
    (case k_cross => k_is)
    (case a_crowds_of => k_is)
    (case l_crowds_of => k_is)
    (case c_crowds_of => k_is)
    (case k_crowds_of => k_is)
    (case a_is_hard => k_is)
    (case l_is_hard => k_is)
    (case c_is_hard => k_is)
    (case k_is_hard => k_is)
    (case a_owners_of => k_is)
    (case l_owners_of => k_is)
    (case c_owners_of => k_is)
    (case k_owners_of => k_is)
    (case a_hurdles_among => k_is)
    (case l_hurdles_among => k_is)
    (case c_hurdles_among => k_is)
    (case k_hurdles_among => k_is)
    (case a_holds_back => k_is)
    (case l_holds_back => k_is)
    (case c_holds_back => k_is)
    (case k_holds_back => k_is)
    (case a_is_fortress => k_is)
    (case l_is_fortress => k_is)
    (case c_is_fortress => k_is)
    (case k_is_fortress => k_is)
    (case a_parts_of => k_is)
    (case l_parts_of => k_is)
    (case c_parts_of => k_is)
    (case k_parts_of => k_is)
    (case a_distance_of => k_is)
    (case l_distance_of => k_is)
    (case c_distance_of => k_is)
    (case k_distance_of => k_is)
    (case a_stretches_of => k_is)
    (case l_stretches_of => k_is)
    (case c_stretches_of => k_is)
    (case k_stretches_of => k_is)
    (case a_first_good => k_is)
    (case l_first_good => k_is)
    (case c_first_good => k_is)
    (case k_first_good => k_is)
    (case a_path_of => k_is)
    (case l_path_of => k_is)
    (case c_path_of => k_is)
    (case k_path_of => k_is)
    (case a_call_length => k_is)
    (case l_call_length => k_is)
    (case c_call_length => k_is)
    (case k_call_length => k_is)
    (case a_answers => k_is)
    (case l_answers => k_is)
    (case c_answers => k_is)
    (case k_answers => k_is)
    (case a_m_init => k_is)
    (case i_m_init => k_is)
    (case l_m_init => k_is)
    (case c_m_init => k_is)
    (case k_m_init => k_is)
    (case a_m_answer => k_is)
    (case i_m_answer => k_is)
    (case l_m_answer => k_is)
    (case c_m_answer => k_is)
    (case k_m_answer => k_is)
    (case a_m_answer_of_row => k_is)
    (case i_m_answer_of_row => k_is)
    (case l_m_answer_of_row => k_is)
    (case c_m_answer_of_row => k_is)
    (case k_m_answer_of_row => k_is)
    (case a_m_begin => k_is)
    (case i_m_begin => k_is)
    (case l_m_begin => k_is)
    (case c_m_begin => k_is)
    (case k_m_begin => k_is)
    (case a_m_take_row => k_is)
    (case i_m_take_row => k_is)
    (case l_m_take_row => k_is)
    (case c_m_take_row => k_is)
    (case k_m_take_row => k_is)
    (case a_m_turn => k_is)
    (case i_m_turn => k_is)
    (case l_m_turn => k_is)
    (case c_m_turn => k_is)
    (case k_m_turn => k_is)
    (case a_m_undo => k_is)
    (case i_m_undo => k_is)
    (case l_m_undo => k_is)
    (case c_m_undo => k_is)
    (case k_m_undo => k_is)
    (case a_m_good => k_is)
    (case i_m_good => k_is)
    (case l_m_good => k_is)
    (case c_m_good => k_is)
    (case k_m_good => k_is)
    (case a_m_path => k_is)
    (case i_m_path => k_is)
    (case l_m_path => k_is)
    (case c_m_path => k_is)
    (case k_m_path => k_is)
    (case pg => k_is)
    (case hd => k_is)
    (case po => k_is)
    (case sa => k_is)
    (case mk => k_is)
    (case kc => k_is)
    (case n_row => k_is)
  case S =>
    intro K H xs a hO hwi hask hx
    cases hx with
    | cons h1 h2 =>
      cases h2
      cases h1 with
      | lst hs ha =>
        have e := L2.ints_dw a.1 _ ha
        subst e
        have q : ((Codec.inLen 0 30000 a.1 && a.1.all (Codec.inInt (-2147483648) 4294967295)) && true) = true := hwi
        rw [Bool.and_eq_true, Bool.and_eq_true] at q
        exact ⟨_, a.1, rfl, hs, (Codec.inNat_iff.mp q.1.1).2, hask, fun H' p hp => .lst (L2.SqL.of hp) (L2.dw_ints _)⟩

