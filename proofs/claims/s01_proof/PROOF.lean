import PyProof.Rows.All
import Wide.All
import OpenK.AllK
import Wide.FinOn
import PyProof.EqAt
import PyProof.EqKinds
import PyProof.TupleCall
import KE.BitLaws
import Open.SpecLaws
import KE.OsHead
import KE.OsGo
import PyProof.Rows.SortShellAny
import PyProof.SetKind
import PyProof.DictStraight
import PyProof.DictIter
import PyProof.CollectWalk
import PyProof.FactsAll.set_1
import PyProof.FactsAll.dict_keyiterator_1
import PyProof.Rows.SortShell
import PyProof.Rows.SortWalk
import PyProof.ListRange
import PyProof.FactsAll.set_2
import PyProof.Rows.SetFrom
import PyProof.EnumMake
import PyProof.EnumFor
import PySem.Challenge.RW_lastingshares_s01_answers
section
set_option Elab.async false
set_option linter.all false
set_option maxRecDepth 100000
namespace L2
open PySem PySem.Spec PyProof.Rows
/-- a key: an int or a str -/
abbrev Key := Sum Int Str
def keyIs : Key → Value → Bool
  | .inl k, v => Value.isInt k v
  | .inr x, v => Value.isStrOf x v
def keyH (w : World) : Key → Int
  | .inl k => hashInt k
  | .inr x => hashStr w x
theorem keyIs_shape : ∀ {k : Key} {v : Value}, keyIs k v = true → (∃ i t, k = Sum.inl i ∧ v = Value.int i t) ∨ (∃ x t, k = Sum.inr x ∧ v = Value.str x t)
  | .inl i, v, h => by
    obtain ⟨t, e⟩ := Value.isInt_shape (k := i) (v := v) h
    exact .inl ⟨i, t, rfl, e⟩
  | .inr x, v, h => by
    obtain ⟨t, e⟩ := Value.isStrOf_shape (x := x) (v := v) h
    exact .inr ⟨x, t, rfl, e⟩
theorem keyIs_int (i : Int) (t : Tok) : keyIs (.inl i) (.int i t) = true := by simp [keyIs, Value.isInt]
theorem keyIs_str (x : Str) (t : Tok) : keyIs (.inr x) (.str x t) = true := by simp [keyIs, Value.isStrOf]
theorem key_ll (a b : Int) : decide ((Sum.inl a : Key) = Sum.inl b) = (a == b) := by
  by_cases e : a = b
  · subst e; simp
  · have h : ¬ (Sum.inl a : Key) = Sum.inl b := fun q => e (Sum.inl.inj q)
    rw [decide_eq_false h]
    exact (beq_eq_false_iff_ne.mpr e).symm
theorem key_rr (a b : Str) : decide ((Sum.inr a : Key) = Sum.inr b) = decide (a = b) := by
  by_cases e : a = b
  · subst e; simp
  · have h : ¬ (Sum.inr a : Key) = Sum.inr b := fun q => e (Sum.inr.inj q)
    rw [decide_eq_false h, decide_eq_false e]
theorem key_lr (a : Int) (b : Str) : decide ((Sum.inl a : Key) = Sum.inr b) = false := decide_eq_false (fun q => nomatch q)
theorem key_rl (a : Str) (b : Int) : decide ((Sum.inr a : Key) = Sum.inl b) = false := decide_eq_false (fun q => nomatch q)
def mixKind (prog : Program) (w : World) : PySem.KeyKind prog w Key where
  is := keyIs
  hash := keyH w
  inj := fun v a b ha hb => by
    rcases keyIs_shape ha with ⟨i, t, rfl, rfl⟩ | ⟨x, t, rfl, rfl⟩
    · rcases keyIs_shape hb with ⟨j, u, rfl, e⟩ | ⟨y, u, rfl, e⟩
      · injection e with e1 _; rw [e1]
      · exact nomatch e
    · rcases keyIs_shape hb with ⟨j, u, rfl, e⟩ | ⟨y, u, rfl, e⟩
      · exact nomatch e
      · injection e with e1 _; rw [e1]
  byValue := fun k v h => by
    rcases keyIs_shape h with ⟨i, t, rfl, rfl⟩ | ⟨x, t, rfl, rfl⟩ <;> rfl
  pyHash := fun hv h => by
    rcases keyIs_shape hv with ⟨i, t, rfl, rfl⟩ | ⟨x, t, rfl, rfl⟩
    · exact wpAny_pyHash_int h
    · exact wpAny_pyHash_str h
  eqBool := fun hu hv h => by
    rcases keyIs_shape hu with ⟨i, t, rfl, rfl⟩ | ⟨x, t, rfl, rfl⟩
    · rcases keyIs_shape hv with ⟨j, u, rfl, rfl⟩ | ⟨y, u, rfl, rfl⟩
      · rw [key_ll] at h; exact wpAny_eqBool_int h
      · rw [key_lr] at h; exact SeqAt.EqAt.int_str i t y u _ _ _ _ h
    · rcases keyIs_shape hv with ⟨j, u, rfl, rfl⟩ | ⟨y, u, rfl, rfl⟩
      · rw [key_rl] at h; exact SeqAt.EqAt.str_int x t j u _ _ _ _ h
      · rw [key_rr] at h; exact wpAny_eqBool_str h
  «strs» := fun k x t v h => by
    rcases keyIs_shape h with ⟨i, u, rfl, e⟩ | ⟨y, u, rfl, e⟩
    · exact nomatch e
    · injection e with e1 _
      subst e1
      cases v <;> rfl
theorem mixKind_int (prog : Program) (w : World) (i : Int) (t : Tok) : (mixKind prog w).is (.inl i) (.int i t) = true := keyIs_int i t
theorem mixKind_str (prog : Program) (w : World) (x : Str) (t : Tok) : (mixKind prog w).is (.inr x) (.str x t) = true := keyIs_str x t
end L2
namespace L2
open PySem PySem.Spec PyProof.Rows
/-- a value, without the heap -/
inductive V where
  | non | bl (b : Bool) | int (i : Int) | str (x : Str) | byt (b : Array UInt8) | flt (b : UInt64) | ref (a : Addr) | ty (n : String)
  deriving DecidableEq
def RelV : V → Value → Prop
  | .non, u => u = Value.none
  | .bl b, u => u = Value.bool b
  | .int i, u => ∃ t, u = Value.int i t
  | .str x, u => ∃ t, u = Value.str x t
  | .byt b, u => ∃ t, u = Value.bytes b t
  | .flt b, u => ∃ t, u = Value.float b t
  | .ref a, u => u = Value.ref a
  | .ty n, u => u = Value.type n
abbrev Vals : List V → List Value → Prop := Paired RelV
theorem Vals.length {xs : List V} {us : List Value} (r : Vals xs us) : xs.length = us.length := Paired.length r
theorem Vals.get : ∀ {xs : List V} {us : List Value} {i : Nat} {x : V}, Vals xs us → xs[i]? = some x → ∃ u, us[i]? = some u ∧ RelV x u
  | _, _, _, _, .nil, e => by simp at e
  | _, _, 0, _, .cons r _, e => by simp at e; subst e; exact ⟨_, rfl, r⟩
  | _, _, i + 1, x, .cons _ t, e => by
    obtain ⟨u, h1, h2⟩ := Vals.get (i := i) (x := x) t (by simpa using e)
    exact ⟨u, by simpa using h1, h2⟩
theorem Vals.append : ∀ {xs ys : List V} {us ws : List Value}, Vals xs us → Vals ys ws → Vals (xs ++ ys) (us ++ ws)
  | _, _, _, _, .nil, s => s
  | _, _, _, _, .cons r t, s => .cons r (Vals.append t s)
theorem Vals.take : ∀ {xs : List V} {us : List Value} (n : Nat), Vals xs us → Vals (xs.take n) (us.take n)
  | _, _, 0, _ => .nil
  | _, _, _ + 1, .nil => .nil
  | _, _, n + 1, .cons r t => .cons r (Vals.take n t)
theorem Vals.drop : ∀ {xs : List V} {us : List Value} (n : Nat), Vals xs us → Vals (xs.drop n) (us.drop n)
  | _, _, 0, r => r
  | _, _, _ + 1, .nil => .nil
  | _, _, n + 1, .cons _ t => Vals.drop n t
def RelO : Option V → Option Value → Prop
  | some v, some u => RelV v u
  | none, none => True
  | _, _ => False
def KV {κ : Type} : List (κ × V) → List (κ × Value) → Prop := Paired fun (p : κ × V) (q : κ × Value) => p.1 = q.1 ∧ RelV p.2 q.2
/-- a key of a dict (00_mix): an int or a text -/
def kV : Key → V
  | .inl i => .int i
  | .inr x => .str x
/-- what stands at a tracked address -/
inductive HO where
  /-- a list -/
  | lst (xs : List V)
  /-- a tuple (never changes) -/
  | tup (xs : List V)
  /-- a dict whose keys are ints and texts; one whose keys are tuples of ints and texts (the empty one is both) -/
  | dK (kvs : List (Key × V)) | dT (kvs : List (List Key × V))
  /-- a set of ints: its members, its size -/
  | set (S : Int → Bool) (n : Nat)
  /-- an instance of the class at C, its dict at dx, its attributes -/
  | ins (C dx : Addr) (fs : List (Str × V))
  /-- the dict of the instance at x -/
  | own (x : Addr)
  /-- the dict of an exception -/
  | xd (fs : List (Str × V))
  /-- a bound method, f of x -/
  | met (f x : Addr)
  /-- a range object lo, lo + 1, .. below hi -/
  | rng (lo hi : Int)
  /-- a thing that is known to the object (the script; a dict while a loop walks it): read, never written while it is so -/
  | frz (o : Obj) (u : HO)
  /-- a code object's table -/
  | tbl (ps : Array Value)
  /-- any other thing, by what is true of its one object (a def of one's own: SetO a S n := HO.ext fun h => ..) -/
  | ext (φ : Heap → Prop)
abbrev Hp := Addr → Option HO
def upd (H : Hp) (a : Addr) (o : HO) : Hp := fun b => if b = a then some o else H b
theorem upd_same {H : Hp} {a : Addr} {o : HO} : upd H a o a = some o := by unfold upd; rw [if_pos rfl]
theorem upd_ne {H : Hp} {a b : Addr} {o : HO} (h : b ≠ a) : upd H a o b = H b := by unfold upd; rw [if_neg h]
theorem upd_upd {H : Hp} {a : Addr} {o u : HO} : upd (upd H a o) a u = upd H a u := by
  funext b; unfold upd; split <;> rfl
/-- two objects of different content stand apart -/
theorem ne_of {H : Hp} {a b : Addr} {o u : HO} (h : H a = some o) (h' : H b = some u) (d : o ≠ u) : a ≠ b := by
  intro e; subst e; rw [h] at h'; exact d (Option.some.inj h')
theorem ne_of_none {H : Hp} {a b : Addr} {o : HO} (h : H a = some o) (h' : H b = none) : a ≠ b := by
  intro e; subst e; rw [h] at h'; cases h'
section
variable (P : Program) (w : World)
def ObjOk (H : Hp) (h : Heap) (a : Addr) : HO → Prop
  | .lst xs => xs.length ≤ sizeLine ∧ ∃ (its : List Value) (n : Nat), Vals xs its ∧ h.get? a = some { cls := .type "list", data := .seq its.toArray n }
  | .tup xs => xs.length ≤ sizeLine ∧ ∃ its : List Value, Vals xs its ∧ IsTup h a its.toArray
  | .dK kvs => kvs.length ≤ sizeLine ∧ (a == sysModules) = false ∧ ∃ vs, KV kvs vs ∧ h.DictOf (mixKind P w) a vs
  | .dT kvs => kvs.length ≤ sizeLine ∧ (a == sysModules) = false ∧ ∃ xs : List (List Key × Addr × Value),
      Paired (fun (p : List Key × V) (q : List Key × Addr × Value) => p.1 = q.1 ∧ H q.2.1 = some (.tup (p.1.map kV)) ∧ RelV p.2 q.2.2) kvs xs ∧
      ∃ o es ep, h.get? a = some o ∧ o.ExactDict ∧ o.data = .dict es ep ∧ es.toList = xs.map (entryOfKey (tupleKind (mixKind P w))) ∧ (xs.map (·.1)).Nodup
  | .set S n => h.SetOf (intKind P w) a S n
  | .ins C dx fs => H dx = some (.own a) ∧ fs.length ≤ 1000 ∧ dx ≠ a ∧ h.get? a = some (PySem.W.instObj C dx) ∧
      ∃ mA, h.Ns1 dx mA ∧ (∀ f, RelO (fs.lookup f) (mA f)) ∧ PySem.Within mA (fs.map (·.1))
  | .own _ => ∃ o, h.get? a = some o
  | .xd fs => ∃ mA, h.Ns1 a mA ∧ ∀ f, RelO (fs.lookup f) (mA f)
  | .rng lo hi => ∃ t u v, h.get? a = some { cls := .type "range", data := .fields #[.int lo t, .int hi u, .int 1 v] }
  | .frz o u => h.get? a = some o ∧ ObjOk H h a u
  | .tbl ps => h.get? a = some { cls := .none, data := .fields ps }
  | .met f x => h.get? a = some (PySem.W.methodObj (.ref f) (.ref x))
  | .ext φ => φ h ∧ (∃ o, h.get? a = some o) ∧ ∀ h1 h2 : Heap, φ h1 → (∀ o, h1.get? a = some o → h2.get? a = some o) → φ h2
/-- the abstract heap is held -/
def HOk (H : Hp) (h : Heap) : Prop := ∀ a o, H a = some o → ObjOk P w H h a o
end
section
variable {P : Program} {w : World} {H H' : Hp} {h h' : Heap} {a : Addr} {o : HO}
theorem ObjOk.lt (x : ObjOk P w H h a o) : a < h.objs.size := by
  cases o with
  | lst xs => obtain ⟨_, _, _, _, e⟩ := x; exact Heap.lt_size e
  | tup xs => obtain ⟨_, _, _, p⟩ := x; exact p.lt
  | dK kvs => obtain ⟨_, _, _, _, o, _, _, e, _⟩ := x; exact Heap.lt_size e
  | dT kvs => obtain ⟨_, _, _, _, o, _, _, e, _⟩ := x; exact Heap.lt_size e
  | set S n => obtain ⟨o, _, _, _, e, _⟩ := x; exact Heap.lt_size e
  | ins C dx fs => obtain ⟨_, _, _, e, _⟩ := x; exact Heap.lt_size e
  | own y => obtain ⟨_, e⟩ := x; exact Heap.lt_size e
  | xd fs => obtain ⟨_, ⟨_, _, _, e, _⟩, _⟩ := x; exact Heap.lt_size e
  | rng lo hi => obtain ⟨_, _, _, e⟩ := x; exact Heap.lt_size e
  | frz ob u => obtain ⟨e, _⟩ := x; exact Heap.lt_size e
  | tbl ps => exact Heap.lt_size (show h.get? a = some _ from x)
  | met f y => exact Heap.lt_size (show h.get? a = some _ from x)
  | ext φ => obtain ⟨_, ⟨_, e⟩, _⟩ := x; exact Heap.lt_size e
theorem Paired.mapP {α β : Type} {F G : α → β → Prop} : ∀ {l₁ : List α} {l₂ : List β}, Paired F l₁ l₂ → (∀ a b, F a b → G a b) → Paired G l₁ l₂
  | _, _, .nil, _ => .nil
  | _, _, .cons r t, f => .cons (f _ _ r) (Paired.mapP t f)
/-- what an object's description leans on: its own object, its own dict, the tuples -/
theorem ObjOk.stay (x : ObjOk P w H h a o) (k : ∀ b u, (b = a ∨ H b = some (.own a)) → h.get? b = some u → h'.get? b = some u)
    (ho : ∀ b, H b = some (.own a) → H' b = some (.own a)) (ht : ∀ b xs, H b = some (.tup xs) → H' b = some (.tup xs)) : ObjOk P w H' h' a o := by
  induction o with
  | lst xs => obtain ⟨z, its, n, r, e⟩ := x; exact ⟨z, its, n, r, k _ _ (.inl rfl) e⟩
  | tup xs => obtain ⟨z, its, r, ob, e, c⟩ := x; exact ⟨z, its, r, ob, k _ _ (.inl rfl) e, c⟩
  | dK kvs => obtain ⟨z, y, vs, r, ob, es, ep, e, c⟩ := x; exact ⟨z, y, vs, r, ob, es, ep, k _ _ (.inl rfl) e, c⟩
  | dT kvs =>
    obtain ⟨z, y, xs, r, ob, es, ep, e, c⟩ := x
    exact ⟨z, y, xs, Paired.mapP r fun p q z => ⟨z.1, ht _ _ z.2.1, z.2.2⟩, ob, es, ep, k _ _ (.inl rfl) e, c⟩
  | set S n => obtain ⟨ob, es, ep, t, e, c⟩ := x; exact ⟨ob, es, ep, t, k _ _ (.inl rfl) e, c⟩
  | ins C dx fs =>
    obtain ⟨d, z, ne, e, mA, ⟨od, es, ep, e2, c⟩, r⟩ := x
    exact ⟨ho _ d, z, ne, k _ _ (.inl rfl) e, mA, ⟨od, es, ep, k _ _ (.inr d) e2, c⟩, r⟩
  | own y => obtain ⟨ob, e⟩ := x; exact ⟨ob, k _ _ (.inl rfl) e⟩
  | xd fs => obtain ⟨mA, ⟨od, es, ep, e, c⟩, r⟩ := x; exact ⟨mA, ⟨od, es, ep, k _ _ (.inl rfl) e, c⟩, r⟩
  | rng lo hi => obtain ⟨t, u, v, e⟩ := x; exact ⟨t, u, v, k _ _ (.inl rfl) e⟩
  | frz ob u ih => obtain ⟨e, q⟩ := x; exact ⟨k _ _ (.inl rfl) e, ih q⟩
  | tbl ps =>
    have e : h.get? a = some { cls := .none, data := .fields ps } := x
    show h'.get? a = some { cls := .none, data := .fields ps }
    exact k a _ (.inl rfl) e
  | met f y =>
    have e : h.get? a = some (PySem.W.methodObj (.ref f) (.ref y)) := x
    show h'.get? a = some (PySem.W.methodObj (.ref f) (.ref y))
    exact k a _ (.inl rfl) e
  | ext φ => obtain ⟨p, ⟨o, e⟩, st⟩ := x; exact ⟨st _ _ p fun o q => k _ _ (.inl rfl) q, ⟨o, k _ _ (.inl rfl) e⟩, st⟩
theorem HOk.lt (x : HOk P w H h) (e : H a = some o) : a < h.objs.size := (x a o e).lt
theorem HOk.fresh (x : HOk P w H h) (e : h.objs.size ≤ a) : H a = none := by
  cases q : H a with
  | none => rfl
  | some u => exact absurd (Nat.lt_of_lt_of_le (x.lt q) e) (Nat.lt_irrefl _)
/-- every object of the heap is kept -/
theorem HOk.kept (x : HOk P w H h) (k : ∀ b u, h.get? b = some u → h'.get? b = some u) : HOk P w H h' := fun a o e =>
  (x a o e).stay (fun b u _ q => k b u q) (fun _ q => q) fun _ _ q => q
/-- a new object is laid and tracked -/
theorem HOk.laid (x : HOk P w H h) (k : ∀ b u, h.get? b = some u → h'.get? b = some u) (hp : h.objs.size ≤ a) (new : ObjOk P w (upd H a o) h' a o) : HOk P w (upd H a o) h' := fun b u e => by
  have hn := x.fresh hp
  by_cases hb : b = a
  · subst hb; rw [upd_same] at e; cases e; exact new
  · rw [upd_ne hb] at e
    exact (x b u e).stay (fun c v _ q => k c v q) (fun c q => by rw [upd_ne (ne_of_none q hn)]; exact q) fun c xs q => by rw [upd_ne (ne_of_none q hn)]; exact q
end
/-- what may be read as u: it is u, or a known u -/
def Rd (H : Hp) (a : Addr) (u : HO) : Prop := H a = some u ∨ ∃ o, H a = some (.frz o u)
theorem Rd.ok {P : Program} {w : World} {H : Hp} {h : Heap} {a : Addr} {u : HO} (r : Rd H a u) (x : HOk P w H h) : ObjOk P w H h a u := by
  rcases r with r | ⟨o, r⟩
  · exact x a u r
  · obtain ⟨_, q⟩ := x a _ r
    exact q
/-- what may be written -/
def Mut : Option HO → Prop
  | some (.lst _) => True
  | some (.dK _) => True
  | some (.dT _) => True
  | some (.set _ _) => True
  | some (.ins _ _ _) => True
  | some (.ext _) => True
  | _ => False
section
variable {P : Program} {w : World} {H : Hp} {h h' : Heap} {x e : Addr} {o' : HO}
/-- the object at e is changed: x itself, or the dict of the instance x -/
theorem HOk.write (ok : HOk P w H h) (mu : Mut (H x)) (he : e = x ∨ H e = some (.own x)) (k : ∀ b u, b ≠ e → h.get? b = some u → h'.get? b = some u) (heo : ∃ u, h'.get? e = some u)
    (new : ObjOk P w (upd H x o') h' x o') : HOk P w (upd H x o') h' := fun b u q => by
  have nown : ∀ c y, H c = some (.own y) → c ≠ x := fun c y r z => by subst z; rw [r] at mu; exact mu
  have ntup : ∀ c xs, H c = some (.tup xs) → c ≠ x := fun c xs r z => by subst z; rw [r] at mu; exact mu
  by_cases hb : b = x
  · subst hb; rw [upd_same] at q; cases q; exact new
  · rw [upd_ne hb] at q
    by_cases hbe : b = e
    · have q' : H b = some (.own x) := by
        rcases he with z | z
        · exact absurd (hbe.trans z) hb
        · rw [hbe]; exact z
      rw [q] at q'; cases q'
      obtain ⟨v, hv⟩ := heo
      exact ⟨v, by rw [hbe]; exact hv⟩
    · refine (ok b u q).stay (fun c v hc r => k c v ?_ r) (fun c r => by rw [upd_ne (nown c b r)]; exact r) fun c xs r => by rw [upd_ne (ntup c xs r)]; exact r
      rcases hc with rfl | hc
      · exact hbe
      · rintro rfl
        rcases he with z | z
        · exact nown c b hc z
        · rw [hc] at z; cases z; exact hb rfl
end
structure Un (fs ex : List Addr) (H H' : Hp) (h h' : Heap) : Prop where
  keep : ∀ b o, h.get? b = some o → H b = none → b ∉ fs → b ∉ ex → h'.get? b = some o
  slot : ∀ b o, h.get? b = some o → H b = none → b ∈ fs → b ∉ ex → ∃ sl, h'.get? b = some { o with slots := sl }
  free : ∀ b o, h.get? b = some o → H b = none → b ∉ ex → H' b = none
  there : ∀ b o, h.get? b = some o → b ∉ ex → ∃ o', h'.get? b = some o'
  tups : ∀ b xs, H b = some (.tup xs) → H' b = some (.tup xs)
  frzs : ∀ b o u, H b = some (.frz o u) → H' b = some (.frz o u)
  tbls : ∀ b ps, H b = some (.tbl ps) → ∃ more, H' b = some (.tbl (ps ++ more))
section
variable {fs fs' ex ex' : List Addr} {H H1 H2 : Hp} {h h1 h2 h' : Heap} {a x e : Addr} {o : HO}
theorem Un.any (u : Un fs ex H H1 h h1) {b : Addr} {ob : Obj} (q : h.get? b = some ob) (n : H b = none) (hx : b ∉ ex) : ∃ sl, h1.get? b = some { ob with slots := sl } := by
  by_cases hb : b ∈ fs
  · exact u.slot b ob q n hb hx
  · exact ⟨ob.slots, u.keep b ob q n hb hx⟩
theorem Un.kept (k : ∀ b u, h.get? b = some u → h'.get? b = some u) : Un fs ex H H h h' :=
  ⟨fun b ob q _ _ _ => k b ob q, fun b ob q _ _ _ => ⟨ob.slots, k b ob q⟩, fun _ _ _ n _ => n, fun b ob q _ => ⟨ob, k b ob q⟩, fun _ _ q => q, fun _ _ _ q => q, fun _ ps q => ⟨#[], by rw [q]; simp⟩⟩
theorem Un.refl : Un fs ex H H h h := Un.kept fun _ _ q => q
theorem Un.laid (k : ∀ b u, h.get? b = some u → h'.get? b = some u) (hp : h.objs.size ≤ a) (hn : H a = none) : Un fs ex H (upd H a o) h h' where
  keep := fun b u q _ _ _ => k b u q
  slot := fun b u q _ _ _ => ⟨u.slots, k b u q⟩
  free := fun b u q n _ => by rw [upd_ne (Nat.ne_of_lt (Nat.lt_of_lt_of_le (Heap.lt_size q) hp))]; exact n
  there := fun b u q _ => ⟨u, k b u q⟩
  tups := fun b xs q => by rw [upd_ne (ne_of_none q hn)]; exact q
  frzs := fun b u xs q => by rw [upd_ne (ne_of_none q hn)]; exact q
  tbls := fun b ps q => ⟨#[], by rw [upd_ne (ne_of_none q hn), q]; simp⟩
theorem Un.write (mu : Mut (H x)) (he : e = x ∨ H e = some (.own x)) (k : ∀ b u, b ≠ e → h.get? b = some u → h'.get? b = some u) (heo : ∃ u, h'.get? e = some u) : Un fs ex H (upd H x o) h h' := by
  have hx : ∀ b, H b = none → b ≠ x := fun b n z => by subst z; rw [n] at mu; exact mu
  have hb : ∀ b, H b = none → b ≠ e := fun b n z => by
    subst z
    rcases he with r | r
    · exact hx b n r
    · rw [n] at r; cases r
  have hm : ∀ b u, H b = some u → ¬ Mut (some u) → b ≠ x := fun b u q nm z => by subst z; rw [q] at mu; exact nm mu
  refine ⟨fun b u q n _ _ => k b u (hb b n) q, fun b u q n _ _ => ⟨u.slots, k b u (hb b n) q⟩, fun b u q n _ => by rw [upd_ne (hx b n)]; exact n, fun b u q _ => ?_,
    fun b xs q => by rw [upd_ne (hm b _ q fun z => z)]; exact q, fun b u xs q => by rw [upd_ne (hm b _ q fun z => z)]; exact q, fun b ps q => ⟨#[], by rw [upd_ne (hm b _ q fun z => z), q]; simp⟩⟩
  by_cases hbe : b = e
  · subst hbe; exact heo
  · exact ⟨u, k b u hbe q⟩
end
def trk (h : Heap) (H : Hp) : List Addr := (List.range h.objs.size).filter fun a => (H a).isSome
def hidT (h : Heap) (H : Hp) : Heap := PySem.W.hideAll h (trk h H)
theorem hidT_size (h : Heap) (H : Hp) : (hidT h H).objs.size = h.objs.size := PySem.W.hideAll_size _ _
theorem hidT_get {h : Heap} {H : Hp} {b : Addr} {o : Obj} (e : h.get? b = some o) (n : H b = none) : (hidT h H).get? b = some o :=
  PySem.W.hideAll_get _ e fun hm => by
    have q : (H b).isSome = true := (List.mem_filter.mp hm).2
    rw [n] at q; simp at q
theorem of_hidT {h : Heap} {H : Hp} {b : Addr} {o : Obj} (e : (hidT h H).get? b = some o) : h.get? b = some o ∧ H b = none := by
  have e' : h.get? b = some o := PySem.W.of_hideAll (trk h H) e
  refine ⟨e', ?_⟩
  cases q : H b with
  | none => rfl
  | some x =>
    have hm : b ∈ trk h H := List.mem_filter.mpr ⟨List.mem_range.mpr (Heap.lt_size e'), by simp [q]⟩
    have z : (hidT h H).get? b = none := PySem.W.hideAll_none (trk h H) hm
    rw [z] at e; cases e
end L2
namespace L2
open PySem PySem.Spec PyProof.Rows
/-- the module's facts, over the base: the heap at the law's entry without what is tracked there -/
structure Mod (K : PySem.W.Frag) (mg : Str → Option Value) (base : Heap) : Prop where
  kin : K.In base
  glob : base.Ns mainGlobals mg
  blt : ∃ mb, base.Ns builtinsNs mb ∧ ∀ x : Str, x ≠ "__name__" → mb x = bootBuiltins x
  nolimit : base.NoLimit
/-- the context: a def's body (or a comprehension's block) running. base: fixed through the whole law; s₀, H₀: the entry; outer: the frames whose slots others may change (a def's callers); stack: all frames that run;
   ex: iterators that were made ahead of the entry and are walked here (a comprehension's); fn: the names whose cells were made at the entry (a def: all; a comprehension's block: its own); calm: not within an except suite; pn: pins that every state bears; xe: what is wanted of an exception that leaves the code -/
structure Cx where
  prog : Program
  w : World
  K : PySem.W.Frag
  mg : Str → Option Value
  base : Heap
  A : Around
  N : List Str
  s_0 : Shared
  H_0 : Hp
  env : Env
  outer : List Env
  stack : List Env
  ex : List Addr
  fn : Str → Bool
  calm : Bool
  pn : List (Addr × Obj)
  xe : Value → Shared → Prop
/-- the callers' frames -/
def frs (l : List Env) : List Addr := l.filterMap (·.frame)
abbrev Cx.fs (X : Cx) : List Addr := frs X.outer
def Vis (sc : Scope) (x : Str) : Prop := sc.names.lookup x = some .local ∨ sc.names.lookup x = some .cell ∨ sc.names.lookup x = some .free
def Loc (sc : Scope) (x : Str) : Prop := sc.names.lookup x = some .local ∨ sc.names.lookup x = some .cell
def Look (env : Env) (h : Heap) (m : Str → Option Value) (x : Str) (u : Value) : Prop :=
  (env.kindOf x = some .local ∧ m x = some u) ∨ ((env.kindOf x = some .cell ∨ env.kindOf x = some .free) ∧ ∃ c, env.cells.lookup x = some c ∧ h.IsCell c (some u))
structure Cx.Ok (X : Cx) : Prop where
  mod : Mod X.K X.mg X.base
  kind : X.env.scope.kind = .function
  glob : X.env.globals = mainGlobals
  blt : X.env.builtins = builtinsNs
  above : X.s_0.heap.objs.size ≤ X.env.locals
  inj : ∀ x y c, X.env.cells.lookup x = some c → X.env.cells.lookup y = some c → x = y
  has : ∀ x, (X.env.kindOf x = some .cell ∨ X.env.kindOf x = some .free) → ∃ c, X.env.cells.lookup x = some c
  cab : ∀ x c, X.fn x = true → X.env.cells.lookup x = some c → X.s_0.heap.objs.size ≤ c
  hd : X.calm = true → X.A.handled = none
  frames : X.A.frames = some X.stack
  stk : X.stack = X.outer ∨ (X.stack = X.env :: X.outer ∧ X.env.frame = some X.env.locals)
  exf : ∀ b ∈ X.ex, b ≠ X.env.locals ∧ ∀ x c, X.env.cells.lookup x = some c → c ≠ b
  bs : ∀ b o, X.base.get? b = some o → X.s_0.heap.get? b = some o ∧ X.H_0 b = none
  bsz : X.base.objs.size ≤ X.s_0.heap.objs.size
  noex : ∀ b o, X.base.get? b = some o → b ∉ X.ex
  exfs : ∀ b ∈ X.ex, b ∉ X.fs
  funs : X.s_0.heap.FunFrames X.base X.outer
  frf : ∀ b ∈ X.fs, X.H_0 b = none
structure Inv (X : Cx) (pins : List (Addr × Obj)) (σ : List (Option V)) (H : Hp) (s : Shared) : Prop where
  ok : X.Ok
  os : s.os = X.s_0.os
  bare : AllBare s.gens
  base : Un X.fs X.ex X.H_0 H X.s_0.heap s.heap
  loc : ∃ m, s.heap.Ns X.env.locals m ∧ ∀ (i : Nat) (x : Str) (v : V), X.N[i]? = some x → σ[i]? = some (some v) → Vis X.env.scope x → ∃ u, RelV v u ∧ Look X.env s.heap m x u
  cell : ∀ x c, X.env.cells.lookup x = some c → ∃ v, s.heap.IsCell c v
  free : H X.env.locals = none
  freeC : ∀ x c, X.env.cells.lookup x = some c → H c = none
  pin : ∀ p ∈ X.pn ++ pins, s.heap.get? p.1 = some p.2 ∧ H p.1 = none ∧ p.1 ≠ X.env.locals ∧ p.1 ∉ X.fs ∧ ∀ v, p.2.data ≠ .cell v
  hok : HOk X.prog X.w H s.heap
  len : σ.length = X.N.length
section
variable {X : Cx} {pins : List (Addr × Obj)} {σ : List (Option V)} {H H' : Hp} {s : Shared} {h' : Heap}
theorem Cx.Ok.nofr (ok : X.Ok) {b : Addr} {o : Obj} (e : X.base.get? b = some o) : b ∉ X.fs := fun hb => by
  have := (ok.funs.mem hb).1
  rw [e] at this; cases this
theorem Inv.bs (I : Inv X pins σ H s) : ∀ b o, X.base.get? b = some o → s.heap.get? b = some o ∧ H b = none := fun b o e =>
  ⟨I.base.keep b o (I.ok.bs b o e).1 (I.ok.bs b o e).2 (I.ok.nofr e) (I.ok.noex b o e), I.base.free b o (I.ok.bs b o e).1 (I.ok.bs b o e).2 (I.ok.noex b o e)⟩
theorem Inv.bk (I : Inv X pins σ H s) : ∀ b o, X.base.get? b = some o → s.heap.get? b = some o := fun b o e => (I.bs b o e).1
theorem Inv.mod (I : Inv X pins σ H s) : Mod X.K X.mg X.base := I.ok.mod
theorem Inv.kIn (I : Inv X pins σ H s) : X.K.In s.heap := I.ok.mod.kin.keeps I.bk
theorem Inv.lt (I : Inv X pins σ H s) : X.env.locals < s.heap.objs.size := let ⟨_, hn, _⟩ := I.loc; hn.lt
theorem Inv.sz (I : Inv X pins σ H s) : X.s_0.heap.objs.size ≤ s.heap.objs.size := Nat.le_trans I.ok.above (Nat.le_of_lt I.lt)
theorem Inv.nofs (I : Inv X pins σ H s) {a : Addr} (h : s.heap.objs.size ≤ a) : a ∉ X.fs := fun hb => by
  obtain ⟨_, o, ho, _⟩ := I.ok.funs.mem hb
  exact absurd (Nat.lt_of_lt_of_le (Heap.lt_size ho) (Nat.le_trans I.sz h)) (Nat.lt_irrefl _)
theorem Inv.cne (I : Inv X pins σ H s) : ∀ x c, X.env.cells.lookup x = some c → c ≠ X.env.locals := fun x c e z => by
  obtain ⟨v, o, ho, hd⟩ := I.cell x c e
  obtain ⟨m, ⟨o', es, ep, ho', hd', _⟩, _⟩ := I.loc
  rw [z, ho'] at ho; cases ho; rw [hd'] at hd; cases hd
theorem Inv.funs (I : Inv X pins σ H s) : s.heap.FunFrames X.base X.outer := by
  have all : ∀ (l : List Env), (∀ b ∈ frs l, b ∈ X.fs) → X.s_0.heap.FunFrames X.base l → s.heap.FunFrames X.base l := by
    intro l
    induction l with
    | nil => intro _ _; trivial
    | cons env r ih =>
      intro hs hl
      obtain ⟨hk, ⟨L, o, hf, hn, ho, hd⟩, hr⟩ := hl
      have hL : L ∈ X.fs := hs L (by unfold frs; rw [List.filterMap_cons, hf]; exact List.mem_cons_self)
      obtain ⟨sl, e⟩ := I.base.slot L o ho (I.ok.frf L hL) hL fun z => I.ok.exfs L z hL
      exact ⟨hk, ⟨L, _, hf, hn, e, hd⟩, ih (fun b hb => hs b (by unfold frs; rw [List.filterMap_cons, hf]; exact List.mem_cons_of_mem _ hb)) hr⟩
  exact all X.outer (fun _ hb => hb) I.ok.funs
/-- the frames that run, for a call -/
theorem Inv.stack (I : Inv X pins σ H s) : s.heap.FunFrames X.base X.stack := by
  rcases I.ok.stk with e | ⟨e, hf⟩
  · rw [e]; exact I.funs
  · rw [e]
    obtain ⟨m, hn, _⟩ := I.loc
    refine .cons (by rw [I.ok.kind]; decide) hf hn ?_ I.funs
    exact Heap.get?_none_of_le (Nat.le_trans I.ok.bsz I.ok.above)
theorem Inv.stkSub (I : Inv X pins σ H s) : ∀ b ∈ frs X.stack, b ∈ X.env.locals :: X.fs := fun b hb => by
  rcases I.ok.stk with e | ⟨e, hf⟩
  · rw [e] at hb; exact List.mem_cons_of_mem _ hb
  · rw [e] at hb
    unfold frs at hb
    rw [List.filterMap_cons, hf] at hb
    exact hb
theorem Inv.stkFree (I : Inv X pins σ H s) : ∀ b ∈ frs X.stack, H b = none := fun b hb => by
  rcases List.mem_cons.mp (I.stkSub b hb) with e | hb
  · rw [e]; exact I.free
  · obtain ⟨_, o, ho, _⟩ := I.ok.funs.mem hb
    exact I.base.free b o ho (I.ok.frf b hb) fun z => I.ok.exfs b z hb
/-- THE STEP: the untracked objects but the frame and the records at ch are kept (the callers' frames up to slots), the frame's map is kept, the new abstract heap is held -/
theorem Inv.step {g' : Array GenState} {t' : Nat} {d' : Drawn} {ch : List Addr} (I : Inv X pins σ H s)
    (hch : ∀ b ∈ ch, (b ∈ X.ex ∨ X.s_0.heap.objs.size ≤ b) ∧ b ≠ X.env.locals ∧ (∀ x c, X.env.cells.lookup x = some c → c ≠ b) ∧ ∀ p ∈ X.pn ++ pins, p.1 ≠ b)
    (keep : ∀ b o, b ≠ X.env.locals → b ∉ X.fs → b ∉ ch → s.heap.get? b = some o → H b = none → h'.get? b = some o)
    (slot : ∀ b o, b ≠ X.env.locals → b ∈ X.fs → b ∉ ch → s.heap.get? b = some o → H b = none → ∃ sl, h'.get? b = some { o with slots := sl }) (free : ∀ b o, b ∉ ch → s.heap.get? b = some o → H b = none → H' b = none)
    (there : ∀ b o, b ∉ ch → s.heap.get? b = some o → ∃ o', h'.get? b = some o')
    (tups : ∀ b xs, H b = some (.tup xs) → H' b = some (.tup xs)) (frzs : ∀ b o u, H b = some (.frz o u) → H' b = some (.frz o u)) (tbls : ∀ b ps, H b = some (.tbl ps) → ∃ more, H' b = some (.tbl (ps ++ more)))
    (ns : ∀ m, s.heap.Ns X.env.locals m → h'.Ns X.env.locals m) (hok : HOk X.prog X.w H' h') (hg : AllBare g') :
    Inv X pins σ H' { s with heap := h', gens := g', drawn := d', toks := t' } := by
  have neL : ∀ b o, X.s_0.heap.get? b = some o → b ≠ X.env.locals := fun b o e => Nat.ne_of_lt (Nat.lt_of_lt_of_le (Heap.lt_size e) I.ok.above)
  have neC : ∀ b o, X.s_0.heap.get? b = some o → b ∉ X.ex → b ∉ ch := fun b o e hx hb => by
    rcases (hch b hb).1 with z | z
    · exact hx z
    · exact absurd (Nat.lt_of_lt_of_le (Heap.lt_size e) z) (Nat.lt_irrefl _)
  have cellK : ∀ x c, X.env.cells.lookup x = some c → ∀ v, s.heap.IsCell c v → h'.IsCell c v := fun x c e v ⟨o, ho, hd⟩ => by
    have nch : c ∉ ch := fun z => (hch c z).2.2.1 x c e rfl
    by_cases hc : c ∈ X.fs
    · obtain ⟨sl, q⟩ := slot c o (I.cne x c e) hc nch ho (I.freeC x c e)
      exact ⟨_, q, hd⟩
    · exact ⟨o, keep c o (I.cne x c e) hc nch ho (I.freeC x c e), hd⟩
  refine ⟨I.ok, I.os, hg, ⟨fun b o e n hb hx => ?_, fun b o e n hb hx => ?_, fun b o e n hx => ?_, fun b o e hx => ?_, fun b xs e => tups b xs (I.base.tups b xs e), fun b o xs e => frzs b o xs (I.base.frzs b o xs e), fun b ps e => ?_⟩, ?_, fun x c e => ?_, ?_, fun x c e => ?_, fun p hp => ?_, hok, I.len⟩
  · exact keep b o (neL b o e) hb (neC b o e hx) (I.base.keep b o e n hb hx) (I.base.free b o e n hx)
  · obtain ⟨sl, e1⟩ := I.base.slot b o e n hb hx
    obtain ⟨sl', e2⟩ := slot b _ (neL b o e) hb (neC b o e hx) e1 (I.base.free b o e n hx)
    exact ⟨sl', e2⟩
  · obtain ⟨o', e1⟩ := I.base.there b o e hx
    exact free b o' (neC b o e hx) e1 (I.base.free b o e n hx)
  · obtain ⟨o', e1⟩ := I.base.there b o e hx
    exact there b o' (neC b o e hx) e1
  · obtain ⟨m1, e1⟩ := I.base.tbls b ps e
    obtain ⟨m2, e2⟩ := tbls b _ e1
    exact ⟨m1 ++ m2, by rw [e2, Array.append_assoc]⟩
  · obtain ⟨m, hn, hl⟩ := I.loc
    refine ⟨m, ns m hn, fun i x v e1 e2 e3 => ?_⟩
    obtain ⟨u, r, l⟩ := hl i x v e1 e2 e3
    refine ⟨u, r, ?_⟩
    rcases l with l | ⟨k, c, e, z⟩
    · exact .inl l
    · exact .inr ⟨k, c, e, cellK x c e _ z⟩
  · obtain ⟨v, z⟩ := I.cell x c e
    exact ⟨v, cellK x c e v z⟩
  · obtain ⟨m, ⟨o, _, _, ho, _⟩, _⟩ := I.loc
    exact free _ o (fun z => (hch _ z).2.1 rfl) ho I.free
  · obtain ⟨v, o, ho, hd⟩ := I.cell x c e
    exact free c o (fun z => (hch c z).2.2.1 x c e rfl) ho (I.freeC x c e)
  · obtain ⟨e, n, ne, nf, d⟩ := I.pin p hp
    have nch : p.1 ∉ ch := fun z => (hch p.1 z).2.2.2 p hp rfl
    exact ⟨keep p.1 p.2 ne nf nch e n, free p.1 p.2 nch e n, ne, nf, d⟩
/-- .. where the frame's own object is kept too -/
theorem Inv.un {t' : Nat} (I : Inv X pins σ H s) (u : Un X.fs [] H H' s.heap h') (hok : HOk X.prog X.w H' h') : Inv X pins σ H' { s with heap := h', toks := t' } := by
  obtain ⟨m, ⟨o, es, ep, ho, r⟩, _⟩ := id I.loc
  obtain ⟨sl, hL⟩ := u.any ho I.free (by simp)
  exact I.step (g' := s.gens) (d' := s.drawn) (ch := []) (fun _ z => nomatch z) (fun b o _ hb _ e n => u.keep b o e n hb (by simp)) (fun b o _ hb _ e n => u.slot b o e n hb (by simp)) (fun b o _ e n => u.free b o e n (by simp)) (fun b o _ e => u.there b o e (by simp)) u.tups u.frzs u.tbls (fun m' hm => by
    obtain ⟨o', es', ep', ho', r'⟩ := hm
    rw [ho] at ho'; cases ho'
    exact ⟨_, es', ep', hL, r'⟩) hok I.bare
/-- behind a call (or a comprehension's block): the slots of this frame may have changed too, the records at ch may have turned -/
theorem Inv.call {g' : Array GenState} {t' : Nat} {d' : Drawn} {ch : List Addr} (I : Inv X pins σ H s) (u : Un (frs X.stack) ch H H' s.heap h') (hok : HOk X.prog X.w H' h') (hg : AllBare g')
    (hch : ∀ b ∈ ch, (b ∈ X.ex ∨ X.s_0.heap.objs.size ≤ b) ∧ b ≠ X.env.locals ∧ (∀ x c, X.env.cells.lookup x = some c → c ≠ b) ∧ ∀ p ∈ X.pn ++ pins, p.1 ≠ b) :
    Inv X pins σ H' { s with heap := h', gens := g', drawn := d', toks := t' } := by
  obtain ⟨m, ⟨o, es, ep, ho, r⟩, _⟩ := id I.loc
  obtain ⟨sl, hL⟩ := u.any ho I.free fun z => (hch _ z).2.1 rfl
  exact I.step (ch := ch) hch (fun b o hL hb hc e n => u.keep b o e n (fun z => (List.mem_cons.mp (I.stkSub b z)).elim hL hb) hc) (fun b o _ _ hc e n => u.any e n hc) (fun b o hc e n => u.free b o e n hc) (fun b o hc e => u.there b o e hc) u.tups u.frzs u.tbls (fun m' hm => by
    obtain ⟨o', es', ep', ho', r'⟩ := hm
    rw [ho] at ho'; cases ho'
    exact ⟨_, es', ep', hL, r'⟩) hok hg
/-- an untracked record of ours (an iterator) has turned -/
theorem Inv.turned {t' : Nat} {it : Addr} (I : Inv X pins σ H s) (k : ∀ b o, b ≠ it → s.heap.get? b = some o → h'.get? b = some o) (hn : H it = none) (hL : it ≠ X.env.locals)
    (h1 : it ∈ X.ex ∨ X.s_0.heap.objs.size ≤ it) (h2 : ∀ x c, X.env.cells.lookup x = some c → c ≠ it) (h3 : ∀ p ∈ X.pn ++ pins, p.1 ≠ it) : Inv X pins σ H { s with heap := h', toks := t' } := by
  have nit : ∀ b u, H b = some u → b ≠ it := fun b u e z => by rw [z, hn] at e; cases e
  refine I.step (g' := s.gens) (d' := s.drawn) (ch := [it]) (fun b hb => ?_) (fun b o _ _ hc e _ => k b o (fun z => hc (by simp [z])) e) (fun b o _ _ hc e _ => ⟨o.slots, k b o (fun z => hc (by simp [z])) e⟩) (fun _ _ _ _ n => n)
    (fun b o hc e => ⟨o, k b o (fun z => hc (by simp [z])) e⟩) (fun _ _ e => e) (fun _ _ _ e => e) (fun b ps e => ⟨#[], by rw [e]; simp⟩) (fun m hm => ?_) (fun b u e => ?_) I.bare
  · have e : b = it := by simpa using hb
    subst e
    exact ⟨h1, hL, h2, h3⟩
  · obtain ⟨o, es, ep, ho, r⟩ := hm
    exact ⟨o, es, ep, k _ o (Ne.symm hL) ho, r⟩
  · refine (I.hok b u e).stay (fun c v hc q => k c v ?_ q) (fun _ q => q) fun _ _ q => q
    rcases hc with z | z
    · rw [z]; exact nit b u e
    · exact nit c _ z
theorem Inv.tok (I : Inv X pins σ H s) (t : Nat) : Inv X pins σ H { s with toks := t } := I.un (h' := s.heap) (t' := t) Un.refl I.hok
/-- all objects kept -/
theorem Inv.kept {t' : Nat} (I : Inv X pins σ H s) (k : ∀ b u, s.heap.get? b = some u → h'.get? b = some u) : Inv X pins σ H { s with heap := h', toks := t' } := I.un (Un.kept k) (I.hok.kept k)
/-- a new object laid and tracked -/
theorem Inv.laid {a : Addr} {o : HO} {t' : Nat} (I : Inv X pins σ H s) (k : ∀ b u, s.heap.get? b = some u → h'.get? b = some u) (hp : s.heap.objs.size ≤ a) (new : ObjOk X.prog X.w (upd H a o) h' a o) :
    Inv X pins σ (upd H a o) { s with heap := h', toks := t' } := I.un (Un.laid k hp (I.hok.fresh hp)) (I.hok.laid k hp new)
/-- an object written -/
theorem Inv.write {x e : Addr} {o : HO} {t' : Nat} (I : Inv X pins σ H s) (mu : Mut (H x)) (he : e = x ∨ H e = some (.own x)) (k : ∀ b u, b ≠ e → s.heap.get? b = some u → h'.get? b = some u) (heo : ∃ u, h'.get? e = some u)
    (new : ObjOk X.prog X.w (upd H x o) h' x o) : Inv X pins σ (upd H x o) { s with heap := h', toks := t' } := I.un (Un.write mu he k heo) (I.hok.write mu he k heo new)
/-- forgetting slots, pins -/
theorem Inv.weak {σ' : List (Option V)} (I : Inv X pins σ H s) (hl : σ'.length = σ.length) (w : ∀ (i : Nat) v, σ'[i]? = some (some v) → σ[i]? = some (some v)) : Inv X pins σ' H s :=
  ⟨I.ok, I.os, I.bare, I.base, let ⟨m, hn, hl'⟩ := I.loc; ⟨m, hn, fun i x v e1 e2 e3 => hl' i x v e1 (w i v e2) e3⟩, I.cell, I.free, I.freeC, I.pin, I.hok, hl.trans I.len⟩
theorem Inv.pins_of {pins' : List (Addr × Obj)} (I : Inv X pins σ H s) (h : ∀ p ∈ pins', s.heap.get? p.1 = some p.2 ∧ H p.1 = none ∧ p.1 ≠ X.env.locals ∧ p.1 ∉ X.fs ∧ ∀ v, p.2.data ≠ .cell v) : Inv X pins' σ H s :=
  ⟨I.ok, I.os, I.bare, I.base, I.loc, I.cell, I.free, I.freeC, fun p hp => (List.mem_append.mp hp).elim (fun z => I.pin p (List.mem_append_left _ z)) (h p), I.hok, I.len⟩
theorem nodup_ix {N : List Str} (hN : N.Nodup) {i j : Nat} {x : Str} (a : N[i]? = some x) (b : N[j]? = some x) : i = j := by
  obtain ⟨h1, e1⟩ := List.getElem?_eq_some_iff.mp a
  obtain ⟨h2, e2⟩ := List.getElem?_eq_some_iff.mp b
  exact (List.getElem_inj hN).mp (e1.trans e2.symm)
/-- a name is stored; what changed -/
theorem store_ok2 {M : Model} {A : Around} {E : Value → Shared → Prop} {i : Nat} {x : Str} {v : V} {u : Value} {Q : Unit → Shared → Prop} (I : Inv X pins σ H s) (hN : X.N.Nodup) (hi : X.N[i]? = some x) (hx : Loc X.env.scope x) (r : RelV v u)
    (h : ∀ s', Inv X pins (σ.set i (some v)) H s' → (∃ a, Heap.SameBut a s.heap s'.heap ∧ (a = X.env.locals ∨ X.env.cells.lookup x = some a)) → Q () s') (hf : X.fn x = true ∨ X.env.scope.names.lookup x = some .local := by first | exact .inl rfl | exact .inr rfl | assumption) : wpAny M A (storeName X.env x u) Q E s := by
  obtain ⟨m, hn, hl⟩ := id I.loc
  have hcls : (X.env.scope.kind == .class || (X.env.scope.kind == .module && X.env.locals != X.env.globals)) = false := by rw [I.ok.kind]; rfl
  have hiσ : i < σ.length := by rw [I.len]; exact (List.getElem?_eq_some_iff.mp hi).1
  have cne := I.cne
  have tracked : ∀ {a : Addr} {h' : Heap}, (∃ o, s.heap.get? a = some o ∧ H a = none) → Heap.SameBut a s.heap h' → HOk X.prog X.w H h' := fun {a h'} ha hs b ob e => by
    obtain ⟨_, _, hfree⟩ := ha
    refine (I.hok b ob e).stay (fun c w' hc q => (hs.2 c ?_).trans q) (fun _ q => q) fun _ _ q => q
    rintro rfl
    rcases hc with rfl | hc
    · rw [hfree] at e; cases e
    · rw [hfree] at hc; cases hc
  rcases hx with hk | hk
  · refine wpAny_storeName_local hk hn (fun h' hn' hs => ?_) hcls
    obtain ⟨oL, _, _, hoL, _⟩ := id hn
    refine h _ ⟨I.ok, I.os, I.bare, ⟨fun b o e n hb hx => ?_, fun b o e n hb hx => ?_, I.base.free, fun b o e hx => ?_, I.base.tups, I.base.frzs, I.base.tbls⟩, ⟨_, hn', fun j y v' e1 e2 e3 => ?_⟩, fun y c e => ?_, I.free, I.freeC, fun p hp => ?_, tracked ⟨oL, hoL, I.free⟩ hs, by simpa using I.len⟩ ⟨_, hs, .inl rfl⟩
    · exact (hs.2 b (Nat.ne_of_lt (Nat.lt_of_lt_of_le (Heap.lt_size e) I.ok.above))).trans (I.base.keep b o e n hb hx)
    · obtain ⟨sl, e1⟩ := I.base.slot b o e n hb hx
      exact ⟨sl, (hs.2 b (Nat.ne_of_lt (Nat.lt_of_lt_of_le (Heap.lt_size e) I.ok.above))).trans e1⟩
    · obtain ⟨o', e1⟩ := I.base.there b o e hx
      exact ⟨o', (hs.2 b (Nat.ne_of_lt (Nat.lt_of_lt_of_le (Heap.lt_size e) I.ok.above))).trans e1⟩
    · by_cases hj : j = i
      · subst hj
        rw [hi] at e1; cases e1
        rw [List.getElem?_set_self hiσ] at e2
        cases e2
        exact ⟨u, r, .inl ⟨hk, by simp⟩⟩
      · rw [List.getElem?_set_ne (Ne.symm hj)] at e2
        obtain ⟨u', r', q⟩ := hl j y v' e1 e2 e3
        refine ⟨u', r', ?_⟩
        rcases q with ⟨k, e⟩ | ⟨k, c, e, z⟩
        · refine .inl ⟨k, ?_⟩
          have : y ≠ x := fun e => hj (nodup_ix hN e1 (e ▸ hi))
          simp [this, e]
        · exact .inr ⟨k, c, e, z.sameBut hs (cne y c e)⟩
    · obtain ⟨w', z⟩ := I.cell y c e
      exact ⟨w', z.sameBut hs (cne y c e)⟩
    · obtain ⟨e, n, ne, nf, d⟩ := I.pin p hp
      exact ⟨(hs.2 p.1 ne).trans e, n, ne, nf, d⟩
  · have hfn : X.fn x = true := by
      rcases hf with z | z
      · exact z
      · rw [z] at hk; cases hk
    obtain ⟨c, hc⟩ := I.ok.has x (.inl hk)
    obtain ⟨w', z⟩ := I.cell x c hc
    refine wpAny_storeName_cell I.ok.kind hk hc z (fun h' hc' hs => ?_)
    obtain ⟨oc, hoc, hocd⟩ := id z
    refine h { s with heap := h' } ⟨I.ok, I.os, I.bare, ⟨fun b o e n hb hx => ?_, fun b o e n hb hx => ?_, I.base.free, fun b o e hx => ?_, I.base.tups, I.base.frzs, I.base.tbls⟩, ⟨m, hn.sameBut hs (Ne.symm (cne x c hc)), fun j y v' e1 e2 e3 => ?_⟩, fun y c' e => ?_, I.free, I.freeC, fun p hp => ?_, tracked ⟨oc, hoc, I.freeC x c hc⟩ hs, by simpa using I.len⟩ ⟨c, hs, .inr hc⟩
    · exact (hs.2 b (Nat.ne_of_lt (Nat.lt_of_lt_of_le (Heap.lt_size e) (I.ok.cab x c hfn hc)))).trans (I.base.keep b o e n hb hx)
    · obtain ⟨sl, e1⟩ := I.base.slot b o e n hb hx
      exact ⟨sl, (hs.2 b (Nat.ne_of_lt (Nat.lt_of_lt_of_le (Heap.lt_size e) (I.ok.cab x c hfn hc)))).trans e1⟩
    · obtain ⟨o', e1⟩ := I.base.there b o e hx
      exact ⟨o', (hs.2 b (Nat.ne_of_lt (Nat.lt_of_lt_of_le (Heap.lt_size e) (I.ok.cab x c hfn hc)))).trans e1⟩
    · by_cases hj : j = i
      · subst hj
        rw [hi] at e1; cases e1
        rw [List.getElem?_set_self hiσ] at e2
        cases e2
        exact ⟨u, r, .inr ⟨.inl hk, c, hc, hc'⟩⟩
      · rw [List.getElem?_set_ne (Ne.symm hj)] at e2
        obtain ⟨u', r', q⟩ := hl j y v' e1 e2 e3
        refine ⟨u', r', ?_⟩
        rcases q with q | ⟨k, c', e, z'⟩
        · exact .inl q
        · refine .inr ⟨k, c', e, z'.sameBut hs ?_⟩
          rintro rfl
          exact hj (nodup_ix hN e1 (I.ok.inj _ _ _ e hc ▸ hi))
    · by_cases hcc : c' = c
      · subst hcc; exact ⟨_, hc'⟩
      · obtain ⟨w2, z2⟩ := I.cell y c' e
        exact ⟨w2, z2.sameBut hs hcc⟩
    · obtain ⟨e, n, ne, nf, d⟩ := I.pin p hp
      refine ⟨(hs.2 p.1 ?_).trans e, n, ne, nf, d⟩
      intro q
      rw [q, hoc] at e
      have q' : oc = p.2 := Option.some.inj e
      exact d w' (by rw [← q']; exact hocd)
theorem store_ok {M : Model} {A : Around} {E : Value → Shared → Prop} {i : Nat} {x : Str} {v : V} {u : Value} {Q : Unit → Shared → Prop} (I : Inv X pins σ H s) (hN : X.N.Nodup) (hi : X.N[i]? = some x) (hx : Loc X.env.scope x) (r : RelV v u)
    (h : ∀ s', Inv X pins (σ.set i (some v)) H s' → Q () s') (hf : X.fn x = true ∨ X.env.scope.names.lookup x = some .local := by first | exact .inl rfl | exact .inr rfl | assumption) : wpAny M A (storeName X.env x u) Q E s :=
  store_ok2 I hN hi hx r (fun s' I' _ => h s' I') hf
/-- behind a call or a block, the state as it is -/
theorem Inv.call' {s' : Shared} {ch : List Addr} (I : Inv X pins σ H s) (ho : s'.os = s.os) (u : Un (frs X.stack) ch H H' s.heap s'.heap) (hok : HOk X.prog X.w H' s'.heap) (hg : AllBare s'.gens)
    (hch : ∀ b ∈ ch, (b ∈ X.ex ∨ X.s_0.heap.objs.size ≤ b) ∧ b ≠ X.env.locals ∧ (∀ x c, X.env.cells.lookup x = some c → c ≠ b) ∧ ∀ p ∈ X.pn ++ pins, p.1 ≠ b) : Inv X pins σ H' s' := by
  obtain ⟨h', g', d', t', o'⟩ := s'
  have e : o' = s.os := ho
  subst e
  exact I.call (g' := g') (t' := t') (d' := d') u hok hg hch
end
/-- an exception: its class, its own dict's address (where it has one), the abstract heap behind it -/
abbrev XK := Value → Option Addr → Hp → Prop
abbrev St := List (Option V)
abbrev VK := V → Hp → Prop
/-- an expression's reading; a test's; an argument list's -/
abbrev TE := St → Hp → VK → Prop
abbrev TT := St → Hp → (Bool → Hp → Prop) → Prop
abbrev TA := St → Hp → (List V → Hp → Prop) → Prop
/-- what is wanted behind a statement -/
structure Ends where
  nx : St → Hp → Prop
  rt : VK
  bk : St → Hp → Prop := fun _ _ => False
  ct : St → Hp → Prop := fun _ _ => False
abbrev TS := Ends → St → Hp → Prop
def EP (X : Cx) (pins : List (Addr × Obj)) (σ : St) (Q : VK) (u : Value) (s' : Shared) : Prop := ∃ v H', Inv X pins σ H' s' ∧ RelV v u ∧ Q v H'
def TP (X : Cx) (pins : List (Addr × Obj)) (σ : St) (Q : Bool → Hp → Prop) (b : Bool) (s' : Shared) : Prop := ∃ H', Inv X pins σ H' s' ∧ Q b H'
def AP (X : Cx) (pins : List (Addr × Obj)) (σ : St) (Q : List V → Hp → Prop) (us : List Value) (s' : Shared) : Prop := ∃ vs H', Inv X pins σ H' s' ∧ Vals vs us ∧ Q vs H'
def SP (X : Cx) (pins : List (Addr × Obj)) (D : Ends) (f : Flow) (s' : Shared) : Prop :=
  match f with
  | .next => ∃ σ' H', Inv X pins σ' H' s' ∧ D.nx σ' H'
  | .brk => ∃ σ' H', Inv X pins σ' H' s' ∧ D.bk σ' H'
  | .cont => ∃ σ' H', Inv X pins σ' H' s' ∧ D.ct σ' H'
  | .ret u => ∃ v σ' H', Inv X pins σ' H' s' ∧ RelV v u ∧ D.rt v H'
def PE (X : Cx) (e : Expr) (t : TE) : Prop :=
  ∀ (pins : List (Addr × Obj)) (s : Shared) (σ : St) (H : Hp) (Q : VK), Inv X pins σ H s → t σ H Q → wpAny (model X.prog X.w) X.A (eval e X.env) (EP X pins σ Q) X.xe s
def PT (X : Cx) (e : Expr) (t : TT) : Prop :=
  ∀ (pins : List (Addr × Obj)) (s : Shared) (σ : St) (H : Hp) (Q : Bool → Hp → Prop), Inv X pins σ H s → t σ H Q → wpAny (model X.prog X.w) X.A (isTrue e X.env (eval e X.env)) (TP X pins σ Q) X.xe s
/-- a test whatever its 'whole' is (and, or) -/
def PW (X : Cx) (e : Expr) (t : TT) : Prop :=
  ∀ (whole : Sem Value) (pins : List (Addr × Obj)) (s : Shared) (σ : St) (H : Hp) (Q : Bool → Hp → Prop), Inv X pins σ H s → t σ H Q → wpAny (model X.prog X.w) X.A (isTrue e X.env whole) (TP X pins σ Q) X.xe s
theorem PW.pt {X : Cx} {e : Expr} {t : TT} (h : PW X e t) : PT X e t := h _
/-- an argument list (no star), from the left -/
def PA (X : Cx) (es : List Expr) (t : TA) : Prop :=
  ∀ (pos : Pos) (pins : List (Addr × Obj)) (s : Shared) (σ : St) (H : Hp) (Q : List V → Hp → Prop), Inv X pins σ H s → t σ H Q → wpAny (model X.prog X.w) X.A (spliced (backTo pos (starEach es X.env))) (AP X pins σ Q) X.xe s
def PS (X : Cx) (st : Stmt) (t : TS) : Prop :=
  ∀ (pins : List (Addr × Obj)) (s : Shared) (σ : St) (H : Hp) (D : Ends), Inv X pins σ H s → t D σ H → wpAny (model X.prog X.w) X.A (exec st X.env) (SP X pins D) X.xe s
def PSs (X : Cx) (st : List Stmt) (t : TS) : Prop :=
  ∀ (pins : List (Addr × Obj)) (s : Shared) (σ : St) (H : Hp) (D : Ends), Inv X pins σ H s → t D σ H → wpAny (model X.prog X.w) X.A (execs st X.env) (SP X pins D) X.xe s
/-- weaken the end -/
theorem thn {α : Type} {t : Sem α} {Q Q' : α → Shared → Prop} {M : Model} {A : Around} {E : Value → Shared → Prop} {s : Shared} (h : wpAny M A t Q E s) (hQ : ∀ a s, Q a s → Q' a s) : wpAny M A t Q' E s := wpAny_mono h hQ fun _ _ x => x
end L2
namespace L2
open PySem PySem.Spec PyProof.Rows
section
variable {X : Cx}
def tVar (i : Nat) : TE := fun σ H Q => ∃ v, σ[i]? = some (some v) ∧ Q v H
def tC (v : V) : TE := fun _ H Q => Q v H
theorem pe_var {i : Nat} {x : Str} {pos : Pos} (hN : X.N[i]? = some x) (hv : Vis X.env.scope x) (hd : (x == ("__debug__" : Str)) = false := by decide) (hcd : (x == ("__classdict__" : Str)) = false := by decide) : PE X (.Name x pos) (tVar i) := by
  intro pins s σ H Q I h
  obtain ⟨v, e, h⟩ := h
  obtain ⟨m, hn, hl⟩ := I.loc
  obtain ⟨u, r, l⟩ := hl i x v hN e hv
  have fin : EP X pins σ Q u s := ⟨v, H, I, r, h⟩
  rcases l with ⟨hk, hm⟩ | ⟨hk, c, hc, hcell⟩
  · exact wpAny_Name (wpAny_loadName_local I.ok.kind hk hn hm fin) hd
  · rcases hk with hk | hk
    · exact wpAny_Name (wpAny_loadName_cell I.ok.kind hk hc hcell fin) hd
    · exact wpAny_Name (wpAny_loadName_free I.ok.kind hk hc hcell fin hcd) hd
theorem pe_int {i j pos} : PE X (.Constant (.int i) j pos) (tC (.int i)) := fun _ _ _ H _ I h => wpAny_Constant_int ⟨.int i, H, I.tok _, ⟨_, rfl⟩, h⟩
theorem pe_non {j pos} : PE X (.Constant .none j pos) (tC .non) := fun _ _ _ H _ I h => Constant_none ⟨.non, H, I, rfl, h⟩
/-- a global name of the def -/
def Gl (X : Cx) (x : Str) : Prop := X.env.kindOf x = some .globalImplicit
theorem ld_glob {E : Value → Shared → Prop} {pins : List (Addr × Obj)} {s : Shared} {σ : St} {H : Hp} {x : Str} {u : Value} {pos : Pos} {Q : Value → Shared → Prop} (I : Inv X pins σ H s) (hg : Gl X x) (hm : X.mg x = some u) (h : Q u s)
    (hd : (x == ("__debug__" : Str)) = false := by decide) : wpAny (model X.prog X.w) X.A (eval (.Name x pos) X.env) Q E s :=
  Calls.Name_function_global I.ok.kind hg (Calls.loadGlobal_global (by rw [I.ok.glob]; exact I.mod.glob.keeps I.bk) hm h) hd
theorem ld_blt {E : Value → Shared → Prop} {pins : List (Addr × Obj)} {s : Shared} {σ : St} {H : Hp} {x : Str} {u : Value} {pos : Pos} {Q : Value → Shared → Prop} (I : Inv X pins σ H s) (hg : Gl X x) (hm : X.mg x = none) (hv : bootBuiltins x = some u) (h : Q u s)
    (hn : x ≠ "__name__" := by decide) (hd : (x == ("__debug__" : Str)) = false := by decide) : wpAny (model X.prog X.w) X.A (eval (.Name x pos) X.env) Q E s := by
  obtain ⟨mb, h1, h2⟩ := I.mod.blt
  exact Calls.Name_function_global I.ok.kind hg (Calls.loadGlobal_builtin (by rw [I.ok.glob]; exact I.mod.glob.keeps I.bk) hm (by rw [I.ok.blt]; exact h1.keeps I.bk) ((h2 x hn).trans hv) h) hd
/-- a module's constant, a class, a function, as a value -/
theorem pe_glob {x : Str} {v : V} {u : Value} {pos : Pos} (hg : Gl X x) (hm : X.mg x = some u) (r : RelV v u) (hd : (x == ("__debug__" : Str)) = false := by decide) : PE X (.Name x pos) (tC v) :=
  fun _ _ _ H _ I h => ld_glob I hg hm ⟨v, H, I, r, h⟩ hd
variable {a b : Expr} {ta tb : TE} {pos : Pos}
/-- a comparison as a value, as a test -/
def tB (t : TE) : TT := fun σ H Q => t σ H fun x H1 => ∃ c, x = .bl c ∧ Q c H1
/-- an expression whose value is a bool, as a test -/
theorem pt_val {e : Expr} {t : TE} (h : PE X e t) (he : ∀ whole, isTrue e X.env whole = (do let v ← whole; standAt e.pos; holding [v] (truthy v)) := by intro _; rfl) : PT X e (tB t) := by
  intro pins s σ H Q I hw
  refine isTrue_plain (thn (h pins s σ H _ I hw) fun v s1 ⟨x, H1, I1, r1, q1⟩ => ?_) (he _)
  obtain ⟨d, rfl, q⟩ := q1
  cases r1
  exact wpAny_truthy_bool ⟨H1, I1, q⟩
variable {tA tB' : TT} {rest : List Expr}
def tAnd (t u : TT) : TT := fun σ H Q => t σ H fun c H1 => if c = true then u σ H1 Q else Q false H1
def tOr (t u : TT) : TT := fun σ H Q => t σ H fun c H1 => if c = true then Q true H1 else u σ H1 Q
def tNot (t : TT) : TT := fun σ H Q => t σ H fun c H1 => Q (!c) H1
theorem pw_and1 (ha : PT X a tA) : PW X (.BoolOp .And [a] pos) tA := by
  intro wh pins s σ H Q I h
  refine isTrue_and (thn (ha pins s σ H Q I h) fun c s1 e => ?_)
  cases c with
  | true => exact isTrue_and_nil e
  | false => exact e
theorem pw_or1 (ha : PT X a tA) : PW X (.BoolOp .Or [a] pos) tA := by
  intro wh pins s σ H Q I h
  refine isTrue_or (thn (ha pins s σ H Q I h) fun c s1 e => ?_)
  cases c with
  | false => exact isTrue_or_nil e
  | true => exact e
theorem pw_and (ha : PT X a tA) (hb : PW X (.BoolOp .And (b :: rest) pos) tB') : PW X (.BoolOp .And (a :: b :: rest) pos) (tAnd tA tB') := by
  intro wh pins s σ H Q I h
  refine isTrue_and (thn (ha pins s σ H _ I h) fun c s1 ⟨H1, I1, q1⟩ => ?_)
  cases c with
  | true => exact hb wh pins s1 σ H1 Q I1 q1
  | false => exact ⟨H1, I1, q1⟩
theorem pw_or (ha : PT X a tA) (hb : PW X (.BoolOp .Or (b :: rest) pos) tB') : PW X (.BoolOp .Or (a :: b :: rest) pos) (tOr tA tB') := by
  intro wh pins s σ H Q I h
  refine isTrue_or (thn (ha pins s σ H _ I h) fun c s1 ⟨H1, I1, q1⟩ => ?_)
  cases c with
  | true => exact ⟨H1, I1, q1⟩
  | false => exact hb wh pins s1 σ H1 Q I1 q1
theorem pt_not (ha : PT X a tA) : PT X (.UnaryOp .Not a pos) (tNot tA) := by
  intro pins s σ H Q I h
  exact isTrue_not (ha pins s σ H (fun c H1 => Q (!c) H1) I h)
/-- .. as values (bools) -/
def tAndV (ta tb : TE) : TE := fun σ H Q => ta σ H fun x H1 => ∃ c, x = .bl c ∧ if c = true then tb σ H1 Q else Q (.bl false) H1
theorem pe_one {op} {t : TE} (h : PE X a t) : PE X (.BoolOp op [a] pos) t := fun pins s σ H Q I hw => BoolOp_one (h pins s σ H Q I hw)
theorem pe_and (ha : PE X a ta) (hb : PE X (.BoolOp .And (b :: rest) pos) tb) : PE X (.BoolOp .And (a :: b :: rest) pos) (tAndV ta tb) := by
  intro pins s σ H Q I h
  refine BoolOp_and (thn (ha pins s σ H _ I h) fun v s1 ⟨x, H1, I1, r1, q1⟩ => ?_)
  obtain ⟨c, rfl, q1⟩ := q1
  cases r1
  refine wpAny_truthy_bool ?_
  cases c with
  | true => exact hb pins s1 σ H1 Q I1 q1
  | false => exact ⟨.bl false, H1, I1, rfl, q1⟩
/-- a if t else b -/
def tIf (t : TT) (ta tb : TE) : TE := fun σ H Q => t σ H fun c H1 => if c = true then ta σ H1 Q else tb σ H1 Q
theorem pe_ifExp {c : Expr} (hc : PT X c tA) (ha : PE X a ta) (hb : PE X b tb) : PE X (.IfExp c a b pos) (tIf tA ta tb) := by
  intro pins s σ H Q I h
  refine wpAny_IfExp (thn (hc pins s σ H _ I h) fun d s1 ⟨H1, I1, q1⟩ => ?_)
  cases d with
  | true => exact ha pins s1 σ H1 Q I1 q1
  | false => exact hb pins s1 σ H1 Q I1 q1
end
end L2
namespace L2
open PySem PySem.Spec PyProof.Rows
def SqL (K : PySem.W.Frag) (H : Hp) (a : Addr) (xs : List V) : Prop :=
  Rd H a (.lst xs) ∨
    ∃ (o : Obj) (its : Array Value) (n : Nat), K.lookup a = some o ∧ o.cls = .type "list" ∧ o.dict = none ∧ o.data = .seq its n ∧ its.size ≤ sizeLine ∧ Vals xs its.toList
def SqT (K : PySem.W.Frag) (H : Hp) (a : Addr) (xs : List V) : Prop :=
  Rd H a (.tup xs) ∨
    ∃ (o : Obj) (its : Array Value) (n : Nat), K.lookup a = some o ∧ o.cls = .type "tuple" ∧ o.data = .seq its n ∧ its.size ≤ sizeLine ∧ Vals xs its.toList
def absV : Value → Option V
  | .none => some .non
  | .bool b => some (.bl b)
  | .int i _ => some (.int i)
  | .str x _ => some (.str x)
  | .bytes b _ => some (.byt b)
  | .float b _ => some (.flt b)
  | .ref a => some (.ref a)
  | .type n => some (.ty n)
  | _ => none
theorem RelV.abs {x : V} {u : Value} (r : RelV x u) : absV u = some x := by
  cases x with
  | non => cases r; rfl
  | bl _ => cases r; rfl
  | int _ => obtain ⟨t, rfl⟩ := r; rfl
  | str _ => obtain ⟨t, rfl⟩ := r; rfl
  | byt _ => obtain ⟨t, rfl⟩ := r; rfl
  | flt _ => obtain ⟨t, rfl⟩ := r; rfl
  | ref _ => cases r; rfl
  | ty _ => cases r; rfl
theorem RelV.inj {x y : V} {u : Value} (r : RelV x u) (q : RelV y u) : x = y := Option.some.inj (r.abs.symm.trans q.abs)
theorem Vals.inj : ∀ {xs ys : List V} {us : List Value}, Vals xs us → Vals ys us → xs = ys
  | _, _, _, .nil, .nil => rfl
  | _, _, _, .cons r t, .cons r' t' => by rw [r.inj r', Vals.inj t t']
section
variable {X : Cx} {pins : List (Addr × Obj)} {σ : St} {H : Hp} {s : Shared} {a : Addr} {xs ys : List V}
theorem SqL.of {K : PySem.W.Frag} (h : H a = some (.lst xs)) : SqL K H a xs := .inl (.inl h)
theorem SqT.of {K : PySem.W.Frag} (h : H a = some (.tup xs)) : SqT K H a xs := .inl (.inl h)
theorem Inv.list (I : Inv X pins σ H s) (h : SqL X.K H a xs) : ∃ its : List Value, Vals xs its ∧ PlainL s.heap a its.toArray ∧ xs.length ≤ sizeLine := by
  rcases h with h | ⟨o, its, n, hk, hc, hd, hs, hz, r⟩
  · obtain ⟨z, its, n, r, e⟩ := h.ok I.hok
    exact ⟨its, r, ⟨_, n, e, rfl, rfl, rfl⟩, z⟩
  · refine ⟨its.toList, r, ⟨o, n, I.kIn a o hk, hc, hd, by simpa using hs⟩, ?_⟩
    have e := r.length
    simp only [Array.length_toList] at e
    omega
theorem Inv.tuple (I : Inv X pins σ H s) (h : SqT X.K H a xs) : ∃ its : List Value, Vals xs its ∧ IsTup s.heap a its.toArray ∧ xs.length ≤ sizeLine := by
  rcases h with h | ⟨o, its, n, hk, hc, hs, hz, r⟩
  · obtain ⟨z, its, r, p⟩ := h.ok I.hok
    exact ⟨its, r, p, z⟩
  · refine ⟨its.toList, r, ⟨o, I.kIn a o hk, hc, n, by simpa using hs⟩, ?_⟩
    have e := r.length
    simp only [Array.length_toList] at e
    omega
theorem Inv.list_inj (I : Inv X pins σ H s) (h : SqL X.K H a xs) (h' : SqL X.K H a ys) : xs = ys := by
  obtain ⟨its, r, ⟨o, n, e, _, _, d⟩, _⟩ := I.list h
  obtain ⟨its', r', ⟨o', n', e', _, _, d'⟩, _⟩ := I.list h'
  rw [e] at e'; cases e'
  rw [d] at d'
  injection d' with d1 _
  have : its = its' := by simpa using congrArg Array.toList d1
  subst this
  exact r.inj r'
end
abbrev Cx.wish (X : Cx) (E : Value → Shared → Prop) : Cx := { X with xe := E }
/-- no exception leaves -/
abbrev Cx.nox (X : Cx) : Cx := X.wish fun _ _ => False
theorem Cx.Ok.wish {X : Cx} (ok : X.Ok) (E : Value → Shared → Prop) : (X.wish E).Ok :=
  ⟨ok.mod, ok.kind, ok.glob, ok.blt, ok.above, ok.inj, ok.has, ok.cab, ok.hd, ok.frames, ok.stk, ok.exf, ok.bs, ok.bsz, ok.noex, ok.exfs, ok.funs, ok.frf⟩
theorem Cx.Ok.unwish {X : Cx} {E : Value → Shared → Prop} (ok : (X.wish E).Ok) : X.Ok :=
  ⟨ok.mod, ok.kind, ok.glob, ok.blt, ok.above, ok.inj, ok.has, ok.cab, ok.hd, ok.frames, ok.stk, ok.exf, ok.bs, ok.bsz, ok.noex, ok.exfs, ok.funs, ok.frf⟩
section
variable {X : Cx} {pins : List (Addr × Obj)} {σ : St} {H : Hp} {s : Shared} {E : Value → Shared → Prop}
theorem Inv.wish (I : Inv X pins σ H s) (E : Value → Shared → Prop) : Inv (X.wish E) pins σ H s := ⟨I.ok.wish E, I.os, I.bare, I.base, I.loc, I.cell, I.free, I.freeC, I.pin, I.hok, I.len⟩
theorem Inv.unwish (I : Inv (X.wish E) pins σ H s) : Inv X pins σ H s := ⟨I.ok.unwish, I.os, I.bare, I.base, I.loc, I.cell, I.free, I.freeC, I.pin, I.hok, I.len⟩
theorem SP.unwish {D : Ends} {f : Flow} {s' : Shared} (h : SP (X.wish E) pins D f s') : SP X pins D f s' := by
  cases f with
  | next => obtain ⟨σ', H', I, q⟩ := h; exact ⟨σ', H', I.unwish, q⟩
  | brk => obtain ⟨σ', H', I, q⟩ := h; exact ⟨σ', H', I.unwish, q⟩
  | cont => obtain ⟨σ', H', I, q⟩ := h; exact ⟨σ', H', I.unwish, q⟩
  | ret u => obtain ⟨v, σ', H', I, r, q⟩ := h; exact ⟨v, σ', H', I.unwish, r, q⟩
theorem PSs.nox {st : List Stmt} {t : TS} (h : PSs X.nox st t) : PSs X st t := fun pins s σ H D I hw =>
  wpAny_mono (h pins s σ H D (I.wish _) hw) (fun _ _ q => q.unwish) fun _ _ z => False.elim z
end
section
variable {X : Cx} {st : Stmt} {rest : List Stmt} {t u : TS} {e : Expr} {te : TE} {pos : Pos}
def tNext : TS := fun D σ H => D.nx σ H
def tSeq (t u : TS) : TS := fun D σ H => t { D with nx := u D } σ H
theorem pss_nil : PSs X [] tNext := fun _ _ σ H _ I h => wpAny_execs_nil ⟨σ, H, I, h⟩
theorem pss_cons (h1 : PS X st t) (h2 : PSs X rest u) : PSs X (st :: rest) (tSeq t u) := by
  intro pins s σ H D I h
  refine wpAny_execs_cons (thn (h1 pins s σ H { D with nx := u D } I h) fun f s1 q => ?_)
  cases f with
  | next =>
    obtain ⟨σ', H', I', q⟩ := q
    exact h2 pins s1 σ' H' D I' q
  | ret v => exact q
  | brk => exact q
  | cont => exact q
theorem pss_one (h1 : PS X st t) : PSs X [st] t := by
  intro pins s σ H D I h
  refine wpAny_execs_cons (thn (h1 pins s σ H D I h) fun f s1 q => ?_)
  cases f with
  | next => exact wpAny_execs_nil q
  | ret v => exact q
  | brk => exact q
  | cont => exact q
/-- in a def's body nothing is shown -/
theorem Inv.quiet {pins : List (Addr × Obj)} {σ : St} {H : Hp} {s : Shared} (I : Inv X pins σ H s) : interactive X.env = false := by simp [interactive, I.ok.kind]
/-- an expression whose value is dropped -/
def tDrop (te : TE) : TS := fun D σ H => te σ H fun _ H1 => D.nx σ H1
theorem ps_expr (he : PE X e te) (hs : swapsWith e none pos.line X.env = pure false := by rfl) : PS X (.Expr e pos) (tDrop te) := by
  intro pins s σ H D I h
  exact wpAny_Expr_any (thn (he pins s σ H _ I h) fun v s1 ⟨x, H1, I1, r1, q1⟩ => ⟨σ, H1, I1, q1⟩) I.quiet hs
def tRet (te : TE) : TS := fun D σ H => te σ H D.rt
theorem ps_ret (he : PE X e te) : PS X (.Return (some e) pos) (tRet te) := by
  intro pins s σ H D I h
  exact wpAny_Return_some (thn (he pins s σ H _ I h) fun v s1 ⟨x, H1, I1, r1, q1⟩ => ⟨x, σ, H1, I1, r1, q1⟩)
def tIfS (c : TT) (t u : TS) : TS := fun D σ H => c σ H fun b H1 => if b = true then t D σ H1 else u D σ H1
theorem ps_if {c : Expr} {a b : List Stmt} {tc : TT} (hc : PT X c tc) (ha : PSs X a t) (hb : PSs X b u) : PS X (.If c a b pos) (tIfS tc t u) := by
  intro pins s σ H D I h
  refine wpAny_If (thn (hc pins s σ H _ I h) fun d s1 ⟨H1, I1, q1⟩ => ?_)
  cases d with
  | true => exact ha pins s1 σ H1 D I1 q1
  | false => exact hb pins s1 σ H1 D I1 q1
end
abbrev TG := V → St → Hp → (St → Hp → Prop) → Prop
abbrev TGs := List V → St → Hp → (St → Hp → Prop) → Prop
def PG (X : Cx) (target : Expr) (t : TG) : Prop :=
  ∀ (pins : List (Addr × Obj)) (s : Shared) (σ : St) (H : Hp) (v : V) (u : Value) (Q : St → Hp → Prop), Inv X pins σ H s → RelV v u → t v σ H Q →
    wpAny (model X.prog X.w) X.A (assign target X.env u) (fun _ s' => ∃ σ' H', Inv X pins σ' H' s' ∧ Q σ' H') X.xe s
/-- several targets, one after another -/
def PGs (X : Cx) (ts : List Expr) (t : TGs) : Prop :=
  ∀ (pins : List (Addr × Obj)) (s : Shared) (σ : St) (H : Hp) (vs : List V) (us : List Value) (Q : St → Hp → Prop), Inv X pins σ H s → Vals vs us → t vs σ H Q →
    wpAny (model X.prog X.w) X.A (assignInOrder ((assignEach ts X.env).map (·.2)) us) (fun _ s' => ∃ σ' H', Inv X pins σ' H' s' ∧ Q σ' H') X.xe s
/-- a op= b, by values -/
abbrev TIp := V → V → Hp → VK → Prop
def PIp (X : Cx) (op : Operator) (t : TIp) : Prop :=
  ∀ (pins : List (Addr × Obj)) (s : Shared) (σ : St) (H : Hp) (x y : V) (v u : Value) (Q : VK), Inv X pins σ H s → RelV x v → RelV y u → t x y H Q →
    wpAny (model X.prog X.w) X.A (inplaceOp op v u) (EP X pins σ Q) X.xe s
section
variable {X : Cx} {pos : Pos}
def gName (i : Nat) : TG := fun v σ H Q => Q (σ.set i (some v)) H
theorem pg_name {i : Nat} {x : Str} (hN : X.N.Nodup) (hi : X.N[i]? = some x) (hx : Loc X.env.scope x) (hf : X.fn x = true ∨ X.env.scope.names.lookup x = some .local := by first | exact .inl rfl | exact .inr rfl | assumption) : PG X (.Name x pos) (gName i) := by
  intro pins s σ H v u Q I r h
  exact wpAny_assign_Name (store_ok I hN hi hx r (fun s' I' => ⟨_, H, I', h⟩) hf)
def gNil : TGs := fun vs σ H Q => vs = [] ∧ Q σ H
def gCons (t : TG) (u : TGs) : TGs := fun vs σ H Q => ∃ v r, vs = v :: r ∧ t v σ H fun σ' H' => u r σ' H' Q
theorem pgs_nil : PGs X [] gNil := by
  intro pins s σ H vs us Q I r h
  obtain ⟨e, h⟩ := h
  subst e
  cases r
  exact assignInOrder_nil ⟨σ, H, I, h⟩
theorem pgs_cons {e : Expr} {es : List Expr} {t : TG} {u : TGs} (h1 : PG X e t) (h2 : PGs X es u)
    (hs : (assignEach (e :: es) X.env).map (·.2) = assign e X.env :: (assignEach es X.env).map (·.2) := by rfl) : PGs X (e :: es) (gCons t u) := by
  intro pins s σ H vs us Q I r h
  obtain ⟨v, vr, e1, h⟩ := h
  subst e1
  cases r with
  | cons r rr =>
    rw [hs]
    refine assignInOrder_cons (thn (h1 pins s σ H _ _ _ I r h) fun _ s1 ⟨σ1, H1, I1, q1⟩ => ?_)
    exact h2 pins s1 σ1 H1 _ _ Q I1 rr q1
/-- (a, b, ..) = a tuple of that length -/
def gTup (K : PySem.W.Frag) (n : Nat) (t : TGs) : TG := fun v σ H Q => ∃ a xs, v = .ref a ∧ SqT K H a xs ∧ xs.length = n ∧ t xs σ H Q
theorem pg_tup {es : List Expr} {k : Nat} {t : TGs} {n : Nat} (hc : X.calm = true) (h : PGs X es t)
    (hn : (assignEach es X.env).length = n := by rfl) (hst : (assignEach es X.env).findIdx? (·.1) = none := by rfl) : PG X (.Tuple es k pos) (gTup X.K n t) := by
  intro pins s σ H v u Q I r hw
  obtain ⟨a, xs, e1, hq, hl, hw⟩ := hw
  subst e1
  cases r
  obtain ⟨its, rv, ht, hz⟩ := I.tuple hq
  refine assign_Tuple_tuple (I.ok.hd hc) ht (by simp [hn, ← hl, rv.length]) hst fun h' hx => ?_
  have I1 : Inv X pins σ H { s with heap := h' } := I.kept (t' := s.toks) fun b o e => hx b o (Nat.ne_of_lt (Heap.lt_size e)) e
  exact h pins _ σ H xs _ Q I1 (by simpa using rv) hw
/-- target = value -/
def tAsg (te : TE) (g : TG) : TS := fun D σ H => te σ H fun x H1 => g x σ H1 D.nx
/-- name = value -/
theorem ps_set {i : Nat} {x : Str} {e : Expr} {te : TE} {pos' : Pos} (hN : X.N.Nodup) (hi : X.N[i]? = some x) (hx : Loc X.env.scope x) (he : PE X e te) (hs : swapsWith e (some (.Name x pos')) pos.line X.env = pure false := by rfl) (hf : X.fn x = true ∨ X.env.scope.names.lookup x = some .local := by first | exact .inl rfl | exact .inr rfl | assumption) :
    PS X (.Assign [.Name x pos'] e pos) (tAsg te (gName i)) := by
  intro pins s σ H D I h
  refine wpAny_Assign_Name (thn (he pins s σ H _ I h) fun v s1 ⟨y, H1, I1, r1, q1⟩ => ?_) hs
  exact store_ok I1 hN hi hx r1 (fun s2 I2 => ⟨_, H1, I2, q1⟩) hf
/-- name op= e -/
def tAug (i : Nat) (te : TE) (ti : TIp) : TS := fun D σ H => ∃ x, σ[i]? = some (some x) ∧ te σ H fun y H1 => ti x y H1 fun z H2 => D.nx (σ.set i (some z)) H2
theorem ps_aug {i : Nat} {x : Str} {e : Expr} {te : TE} {op : Operator} {ti : TIp} {pos' : Pos} (hN : X.N.Nodup) (hi : X.N[i]? = some x) (hx : Loc X.env.scope x) (he : PE X e te) (ho : PIp X op ti) (hf : X.fn x = true ∨ X.env.scope.names.lookup x = some .local := by first | exact .inl rfl | exact .inr rfl | assumption) :
    PS X (.AugAssign (.Name x pos') op e pos) (tAug i te ti) := by
  intro pins s σ H D I h
  obtain ⟨v, e1, h⟩ := h
  obtain ⟨m, hn, hl⟩ := I.loc
  have vis : Vis X.env.scope x := by rcases hx with k | k; exact .inl k; exact .inr (.inl k)
  obtain ⟨u, r, l⟩ := hl i x v hi e1 vis
  refine wpAny_AugAssign_Name ?_
  have go : wpAny (model X.prog X.w) X.A (eval e X.env) (fun w s₂ => wpAny (model X.prog X.w) X.A (inplaceOp op u w) (fun r s₃ => wpAny (model X.prog X.w) X.A (storeName X.env x r) (fun _ => SP X pins D .next) X.xe s₃) X.xe s₂) X.xe s := by
    refine thn (he pins s σ H _ I h) fun w s1 ⟨y, H1, I1, r1, q1⟩ => ?_
    refine thn (ho pins s1 σ H1 v y u w _ I1 r r1 q1) fun z s2 ⟨zv, H2, I2, r2, q2⟩ => ?_
    exact store_ok I2 hN hi hx r2 (fun s3 I3 => ⟨_, H2, I3, q2⟩) hf
  rcases l with ⟨hk, hm⟩ | ⟨hk, c, hc, hcell⟩
  · exact wpAny_loadName_local I.ok.kind hk hn hm go
  · rcases hk with hk | hk
    · exact wpAny_loadName_cell I.ok.kind hk hc hcell go
    · rcases hx with k | k
      · have : X.env.scope.names.lookup x = some .free := hk
        rw [k] at this; cases this
      · have : X.env.scope.names.lookup x = some .free := hk
        rw [k] at this; cases this
/-- ints -/
def ipI (f : Int → Int → Int) : TIp := fun x y H Q => ∃ i j, x = .int i ∧ y = .int j ∧ Q (.int (f i j)) H
theorem ip_add : PIp X .Add (ipI fun i j => i + j) := by
  intro pins s σ H x y v u Q I r1 r2 h
  obtain ⟨i, j, e1, e2, q⟩ := h
  subst e1; subst e2
  obtain ⟨t, rfl⟩ := r1
  obtain ⟨t', rfl⟩ := r2
  exact iadd_int ⟨.int _, H, I.tok _, ⟨_, rfl⟩, q⟩
theorem ip_sub : PIp X .Sub (ipI fun i j => i - j) := by
  intro pins s σ H x y v u Q I r1 r2 h
  obtain ⟨i, j, e1, e2, q⟩ := h
  subst e1; subst e2
  obtain ⟨t, rfl⟩ := r1
  obtain ⟨t', rfl⟩ := r2
  exact isub_int ⟨.int _, H, I.tok _, ⟨_, rfl⟩, q⟩
end
section
variable {X : Cx} {pos : Pos}
/-- the invariant W with its measure -/
def tWhile (c : TT) (tb : TS) : TS := fun D σ H => ∃ W : Nat → St → Hp → Prop, (∃ m, W m σ H) ∧ ∀ m σ H, W m σ H →
  c σ H fun b H1 => if b = true then ∃ N : St → Hp → Prop, (∀ σ' H', N σ' H' → ∃ m', m' < m ∧ W m' σ' H') ∧ tb { D with nx := N, ct := N, bk := D.nx } σ H1 else D.nx σ H1
theorem ps_while {c : Expr} {body : List Stmt} {tc : TT} {tb : TS} (hp : PassesOwn (model X.prog X.w) X.A X.env X.xe) (hc : PT X c tc) (hb : PSs X body tb) : PS X (.While c body [] pos) (tWhile tc tb) := by
  intro pins s σ H D I h
  obtain ⟨W, ⟨m0, w0⟩, turn⟩ := h
  refine wpAny_While (codeAny_whileLoop (fun n s' => ∃ σ' H', Inv X pins σ' H' s' ∧ W n σ' H') ?_ m0 ⟨σ, H, I, w0⟩)
  rintro n s1 ⟨σ1, H1, I1, w1⟩
  refine wpAny_passesOwn hp (thn (hc pins s1 σ1 H1 _ I1 (turn n σ1 H1 w1)) fun b s2 ⟨H2, I2, q2⟩ => ?_)
  cases b with
  | true =>
    obtain ⟨N, hN, q2⟩ := q2
    rw [if_pos rfl]
    refine wpAny_passesOwn hp (thn (hb pins s2 σ1 H2 _ I2 q2) fun f s3 q3 => ?_)
    cases f with
    | next =>
      obtain ⟨σ3, H3, I3, n3⟩ := q3
      obtain ⟨m', hm, w3⟩ := hN σ3 H3 n3
      exact ⟨m', hm, σ3, H3, I3, w3⟩
    | cont =>
      obtain ⟨σ3, H3, I3, n3⟩ := q3
      obtain ⟨m', hm, w3⟩ := hN σ3 H3 n3
      exact ⟨m', hm, σ3, H3, I3, w3⟩
    | brk => exact q3
    | ret v => exact q3
  | false =>
    rw [if_neg Bool.false_ne_true]
    exact wpAny_execs_nil ⟨σ1, H2, I2, q2⟩
end
/-- at turn i: it yields x (the heap may grow), or it stops -/
structure It where
  go : Nat → Hp → Prop
  yld : Nat → Hp → V → Hp → Prop
  stop : Nat → Hp → Prop
/-- the iterator's own objects may turn: they are not the frame's, not pinned, younger than the entry (or a comprehension's own) -/
def FpOk (X : Cx) (pins : List (Addr × Obj)) (H : Hp) (b : Addr) : Prop :=
  H b = none ∧ b ≠ X.env.locals ∧ b ∉ X.fs ∧ (b ∈ X.ex ∨ X.s_0.heap.objs.size ≤ b) ∧ (∀ x c, X.env.cells.lookup x = some c → c ≠ b) ∧ ∀ p ∈ X.pn ++ pins, p.1 ≠ b
theorem Inv.fpOk {X : Cx} {pins : List (Addr × Obj)} {σ : St} {H H' : Hp} {s : Shared} {b : Addr} (I : Inv X pins σ H s) (hb : s.heap.objs.size ≤ b) (hn : H' b = none) : FpOk X pins H' b := by
  refine ⟨hn, Nat.ne_of_gt (Nat.lt_of_lt_of_le I.lt hb), I.nofs hb, .inr (Nat.le_trans I.sz hb), fun x c e z => ?_, fun p hp z => ?_⟩
  · obtain ⟨v, q⟩ := I.cell x c e
    exact absurd (Nat.lt_of_lt_of_le q.lt (by rw [z]; exact hb)) (Nat.lt_irrefl _)
  · exact absurd (Nat.lt_of_lt_of_le (Heap.lt_size (I.pin p hp).1) (by rw [z]; exact hb)) (Nat.lt_irrefl _)
structure Turn (P : Program) (w : World) (K : PySem.W.Frag) (tg : Expr) (J : It) (fp : List Addr) (it : Addr) (tn : Nat → Heap → Prop) : Prop where
  mem : it ∈ fp
  obj : ∀ i h, tn i h → ∀ b ∈ fp, ∃ o, h.get? b = some o ∧ ∀ v, o.data ≠ .cell v
  keep : ∀ i h h', tn i h → (∀ b ∈ fp, ∀ o, h.get? b = some o → h'.get? b = some o) → tn i h'
  item : ∀ (X : Cx), X.prog = P → X.w = w → X.K = K → X.calm = true → ∀ (i : Nat) (pins : List (Addr × Obj)) (s : Shared) (σ : St) (H : Hp) (E : Value → Shared → Prop), Inv X pins σ H s → (∀ b ∈ fp, FpOk X pins H b) → tn i s.heap → J.go i H →
    wpAny (model P w) X.A (pyNext (.ref it)) (fun r s1 => ∃ u, r = some u ∧
      wpAny (model P w) X.A (letOwnedTupleGo tg (.ref it) u) (fun _ s2 => ∃ x H', Inv X pins σ H' s2 ∧ RelV x u ∧ J.yld i H x H' ∧ tn (i + 1) s2.heap ∧ ∀ b ∈ fp, H' b = none) E s1) E s
  done : ∀ (X : Cx), X.prog = P → X.w = w → X.K = K → X.calm = true → ∀ (i : Nat) (pins : List (Addr × Obj)) (s : Shared) (σ : St) (H : Hp) (E : Value → Shared → Prop), Inv X pins σ H s → (∀ b ∈ fp, FpOk X pins H b) → tn i s.heap → J.stop i H →
    wpAny (model P w) X.A (pyNext (.ref it)) (fun r s1 => r = none ∧ Inv X pins σ H s1) E s
  self : ∀ (A : Around) (i : Nat) (s : Shared) (Q : Value → Shared → Prop) (E : Value → Shared → Prop), tn i s.heap → Q (.ref it) s → wpAny (model P w) A (pyIter (.ref it)) Q E s
abbrev TI := St → Hp → (It → Hp → Prop) → Prop
/-- an iterator has come -/
def PIE (X : Cx) (pins : List (Addr × Obj)) (σ : St) (tg : Expr) (R : It → Hp → Prop) (itv : Value) (s2 : Shared) : Prop :=
  ∃ (it : Addr) (fp : List Addr) (tn : Nat → Heap → Prop) (J : It) (H' : Hp), itv = .ref it ∧ Inv X pins σ H' s2 ∧ Turn X.prog X.w X.K tg J fp it tn ∧ tn 0 s2.heap ∧ (∀ b ∈ fp, FpOk X pins H' b) ∧ R J H'
def PI (X : Cx) (tg iter : Expr) (wi : TI) : Prop :=
  ∀ (pins : List (Addr × Obj)) (s : Shared) (σ : St) (H : Hp) (R : It → Hp → Prop), Inv X pins σ H s → wi σ H R →
    wpAny (model X.prog X.w) X.A (eval iter X.env) (fun v s1 => wpAny (model X.prog X.w) X.A (pyIter v) (PIE X pins σ tg R) X.xe s1) X.xe s
/-- the step ahead of the store is nothing for an iterator that keeps no tuple -/
theorem go_of {M : Model} {A : Around} {E : Value → Shared → Prop} {s : Shared} {tg : Expr} {it : Addr} {u : Value} {o : Obj} {n : String} {vs : Array Value} {Q : Unit → Shared → Prop} (ho : s.heap.get? it = some o) (hc : o.cls = .type n) (hd : o.data = .fields vs)
    (hn : ["enumerate", "zip", "dict_itemiterator", "dict_reverseitemiterator", "odict_iterator", "itertools.zip_longest", "itertools.pairwise"].contains n = false) (hQ : Q () s) : wpAny M A (letOwnedTupleGo tg (.ref it) u) Q E s := by
  unfold letOwnedTupleGo
  cases tg <;> first
    | exact wpAny_pure hQ
    | (cases u <;> first
        | exact wpAny_pure hQ
        | (refine wpAny_bind (wpAny_load ho ?_)
           rw [hc, hd]
           show wpAny M A (if (["enumerate", "zip", "dict_itemiterator", "dict_reverseitemiterator", "odict_iterator", "itertools.zip_longest", "itertools.pairwise"].contains n && vs[0]? == some (rawInt _)) = true then _ else _) Q E s
           rw [if_neg (by intro h; rw [hn, Bool.false_and] at h; cases h)]
           exact wpAny_pure hQ))
/-- the list at a, as it stands at each turn (a loop may append to it) -/
def Itl (K : PySem.W.Frag) (a : Addr) : It :=
  ⟨fun i H => ∃ xs x, SqL K H a xs ∧ xs[i]? = some x, fun i H x H' => H' = H ∧ ∀ xs, SqL K H a xs → xs[i]? = some x, fun i H => ∃ xs, SqL K H a xs ∧ xs.length ≤ i⟩
theorem turn_list {P : Program} {w : World} {K : PySem.W.Frag} {tg : Expr} (a it : Addr) : Turn P w K tg (Itl K a) [it] it (fun i h => h.IsListIter it a i) where
  mem := by simp
  obj := fun i h st b hb => by
    have e : b = it := by simpa using hb
    subst e
    obtain ⟨o, e, c, d⟩ := st
    exact ⟨o, e, fun v z => by rw [d] at z; cases z⟩
  keep := fun i h h' st k => st.at fun o e => k it (by simp) o e
  item := by
    intro X hP hw hK hc i pins s σ H E I hf st hg
    subst hP hw hK
    obtain ⟨xs, x, hq, hx⟩ := hg
    obtain ⟨its, rv, p, hz⟩ := I.list hq
    obtain ⟨u, hu, ru⟩ := rv.get hx
    obtain ⟨f0, f1, f2, f3, f4, f5⟩ := hf it (by simp)
    refine wpAny_pyNext_list_item st p.isList (x := u) (by simpa using hu) fun h' st' sb => ?_
    have I1 : Inv X pins σ H { s with heap := h' } := I.turned (t' := s.toks) (fun b o hb e => (sb.2 b hb).trans e) f0 f1 f3 f4 f5
    obtain ⟨o, e, c, d⟩ := id st'
    exact ⟨u, rfl, go_of (s := { s with heap := h' }) e c d (by decide) ⟨x, H, I1, ru, ⟨rfl, fun ys hy => by rw [I.list_inj hy hq]; exact hx⟩, st', fun b hb => (hf b hb).1⟩⟩
  done := by
    intro X hP hw hK hc i pins s σ H E I hf st hg
    subst hP hw hK
    obtain ⟨xs, hq, hx⟩ := hg
    obtain ⟨its, rv, p, hz⟩ := I.list hq
    obtain ⟨f0, f1, f2, f3, f4, f5⟩ := hf it (by simp)
    have hl := rv.length
    exact wpAny_pyNext_list_end (I.ok.hd hc) st p.isList (by simp; omega) fun h' eb => ⟨rfl, I.turned (t' := s.toks) (fun b o hb e => eb b o hb e) f0 f1 f3 f4 f5⟩
  self := fun _ _ _ _ _ st h => wpAny_pyIter_listiter st h
end L2
namespace L2
open PySem PySem.Spec PyProof.Rows
section
variable {X : Cx} {tg : Expr}
def iList (K : PySem.W.Frag) (tl : TE) : TI := fun σ H R => tl σ H fun x H1 => ∃ a, x = .ref a ∧ (∃ xs, SqL K H1 a xs) ∧ R (Itl K a) H1
theorem pi_list {l : Expr} {tl : TE} (hl : PE X l tl) : PI X tg l (iList X.K tl) := by
  intro pins s σ H R I h
  refine thn (hl pins s σ H _ I h) fun v s1 ⟨x, H1, I1, r1, q1⟩ => ?_
  obtain ⟨a, e, ⟨xs, hq⟩, q⟩ := q1
  subst e
  cases r1
  obtain ⟨its, rv, p, hz⟩ := I1.list hq
  refine wpAny_pyIter_list p.isList ?_
  refine ⟨s1.heap.objs.size, [s1.heap.objs.size], _, _, H1, rfl, I1.kept (t' := s1.toks) fun b o e => Heap.get?_push_of_some _ e, turn_list a _, ⟨_, Heap.get?_push_size _ rfl, rfl, rfl⟩, fun b hb => ?_, q⟩
  have e : b = s1.heap.objs.size := by simpa using hb
  subst e
  exact I1.fpOk (Nat.le_refl _) (I1.hok.fresh (Nat.le_refl _))
/-- W: the invariant by the turn and a measure; N: what the body is to reach -/
def tFor (wi : TI) (g : TG) (tb : TS) : TS := fun D σ H => wi σ H fun J H1 => ∃ W : Nat → Nat → St → Hp → Prop, (∃ m, W 0 m σ H1) ∧ ∀ i m σ H, W i m σ H →
  (J.stop i H ∧ D.nx σ H) ∨ (J.go i H ∧ ∃ N : St → Hp → Prop, (∀ σ' H', N σ' H' → ∃ m', m' < m ∧ W (i + 1) m' σ' H') ∧ ∀ x H', J.yld i H x H' → g x σ H' fun σ2 H2 => tb { D with nx := N, ct := N, bk := D.nx } σ2 H2)
/-- the records at fp as they stand -/
def pinsAt (fp : List Addr) (h : Heap) : List (Addr × Obj) := fp.filterMap fun b => (h.get? b).map fun o => (b, o)
theorem mem_pinsAt {fp : List Addr} {h : Heap} {b : Addr} {o : Obj} (hb : b ∈ fp) (e : h.get? b = some o) : (b, o) ∈ pinsAt fp h := List.mem_filterMap.mpr ⟨b, hb, by rw [e]; rfl⟩
theorem of_pinsAt {fp : List Addr} {h : Heap} {p : Addr × Obj} (hp : p ∈ pinsAt fp h) : p.1 ∈ fp ∧ h.get? p.1 = some p.2 := by
  obtain ⟨b, hb, e⟩ := List.mem_filterMap.mp hp
  cases q : h.get? b with
  | none => rw [q] at e; cases e
  | some o =>
    rw [q] at e
    have e' : (b, o) = p := Option.some.inj e
    subst e'
    exact ⟨hb, q⟩
theorem Inv.pinned {pins : List (Addr × Obj)} {σ : St} {H : Hp} {s : Shared} {fp : List Addr} (I : Inv X pins σ H s) (hf : ∀ b ∈ fp, FpOk X pins H b) (ho : ∀ b ∈ fp, ∃ o, s.heap.get? b = some o ∧ ∀ v, o.data ≠ .cell v) : Inv X (pins ++ pinsAt fp s.heap) σ H s :=
  I.pins_of fun p hp => (List.mem_append.mp hp).elim (fun z => I.pin p (List.mem_append_right _ z)) fun z => by
    obtain ⟨hb, e⟩ := of_pinsAt z
    obtain ⟨f0, f1, f2, _⟩ := hf p.1 hb
    obtain ⟨o, e', d⟩ := ho p.1 hb
    rw [e] at e'; cases e'
    exact ⟨e, f0, f1, f2, d⟩
theorem Inv.unpinned {pins pl : List (Addr × Obj)} {σ : St} {H : Hp} {s : Shared} (I : Inv X (pins ++ pl) σ H s) : Inv X pins σ H s := I.pins_of fun p hp => I.pin p (List.mem_append_right _ (List.mem_append_left _ hp))
theorem ps_for {iter : Expr} {body : List Stmt} {wi : TI} {g : TG} {tb : TS} {pos : Pos} (hp : PassesOwn (model X.prog X.w) X.A X.env X.xe) (hc : X.calm = true) (hi : PI X tg iter wi) (hg : PG X tg g) (hb : PSs X body tb)
    (hs : ∀ x, foldedSetIterable iter X.env x = pure x := by intro _; rfl) : PS X (.For tg iter body [] pos) (tFor wi g tb) := by
  intro pins s σ H D I h
  refine wpAny_For (thn (hi pins s σ H _ I h) fun v s1 h1 => thn h1 fun itv s2 h2 => ?_) hs
  obtain ⟨it, fp, tn, J, H2, e, I2, T, st2, f2, W, ⟨m0, w0⟩, turn⟩ := h2
  subst e
  have stat : ∀ {H' : Hp}, (∀ b ∈ fp, H' b = none) → ∀ b ∈ fp, FpOk X pins H' b := fun hn b hb => ⟨hn b hb, (f2 b hb).2⟩
  refine codeAny_forLoop_any (fun n s' => ∃ i σ' H', Inv X pins σ' H' s' ∧ tn i s'.heap ∧ (∀ b ∈ fp, H' b = none) ∧ W i n σ' H') ?_ m0 ⟨0, σ, H2, I2, st2, fun b hb => (f2 b hb).1, w0⟩
  rintro n s3 ⟨i, σ3, H3, I3, st3, fr3, w3⟩
  rcases turn i n σ3 H3 w3 with ⟨stop, qn⟩ | ⟨go, N, hN, step⟩
  · refine wpAny_passesOwn hp (thn (T.done X rfl rfl rfl hc i pins s3 σ3 H3 X.xe I3 (stat fr3) st3 stop) fun r s4 ⟨hr, I4⟩ => ?_)
    subst hr
    exact wpAny_execs_nil ⟨σ3, H3, I4, qn⟩
  · refine wpAny_passesOwn hp (thn (T.item X rfl rfl rfl hc i pins s3 σ3 H3 X.xe I3 (stat fr3) st3 go) fun r s4 ⟨u, hr, h4⟩ => ?_)
    subst hr
    refine wpAny_passesOwn hp (thn h4 fun _ s5 ⟨x, H5, I5, r5, y5, st5, fr5⟩ => ?_)
    have I5' := I5.pinned (stat fr5) (T.obj _ _ st5)
    refine wpAny_passesOwn hp (thn (hg _ s5 σ3 H5 x u _ I5' r5 (step x H5 y5)) fun _ s6 ⟨σ6, H6, I6, q6⟩ => ?_)
    refine wpAny_passesOwn hp (thn (hb _ s6 σ6 H6 _ I6 q6) fun f s7 q7 => ?_)
    have again : ∀ {σ7 : St} {H7 : Hp}, Inv X (pins ++ pinsAt fp s5.heap) σ7 H7 s7 → N σ7 H7 → ∃ m, m < n ∧ ∃ i σ' H', Inv X pins σ' H' s7 ∧ tn i s7.heap ∧ (∀ b ∈ fp, H' b = none) ∧ W i m σ' H' := fun {σ7 H7} I7 n7 => by
      obtain ⟨m', hm, w7⟩ := hN σ7 H7 n7
      refine ⟨m', hm, i + 1, σ7, H7, I7.unpinned, T.keep _ _ _ st5 fun b hb o e => (I7.pin (b, o) (List.mem_append_right _ (List.mem_append_right _ (mem_pinsAt hb e)))).1, fun b hb => ?_, w7⟩
      obtain ⟨o, e, d⟩ := T.obj _ _ st5 b hb
      exact (I7.pin (b, o) (List.mem_append_right _ (List.mem_append_right _ (mem_pinsAt hb e)))).2.1
    cases f with
    | next => obtain ⟨σ7, H7, I7, n7⟩ := q7; exact again I7 n7
    | cont => obtain ⟨σ7, H7, I7, n7⟩ := q7; exact again I7 n7
    | brk => obtain ⟨σ7, H7, I7, q7⟩ := q7; exact ⟨σ7, H7, I7.unpinned, q7⟩
    | ret v => obtain ⟨x7, σ7, H7, I7, r7, q7⟩ := q7; exact ⟨x7, σ7, H7, I7.unpinned, r7, q7⟩
end
/-- over a list that the body leaves as it is -/
theorem for_list {K : PySem.W.Frag} {a : Addr} {xs : List V} {g : TG} {tb : TS} {D : Ends} {σ : St} {H : Hp} (Pv : Nat → St → Hp → Prop) (h0 : Pv 0 σ H) (hl : ∀ i σ H, i ≤ xs.length → Pv i σ H → SqL K H a xs)
    (hs : ∀ i x σ H, xs[i]? = some x → Pv i σ H → g x σ H fun σ2 H2 => tb { D with nx := Pv (i + 1), ct := Pv (i + 1), bk := D.nx } σ2 H2) (hd : ∀ σ H, Pv xs.length σ H → D.nx σ H) :
    ∃ W : Nat → Nat → St → Hp → Prop, (∃ m, W 0 m σ H) ∧ ∀ i m σ H, W i m σ H →
      ((Itl K a).stop i H ∧ D.nx σ H) ∨ ((Itl K a).go i H ∧ ∃ N : St → Hp → Prop, (∀ σ' H', N σ' H' → ∃ m', m' < m ∧ W (i + 1) m' σ' H') ∧ ∀ x H', (Itl K a).yld i H x H' → g x σ H' fun σ2 H2 => tb { D with nx := N, ct := N, bk := D.nx } σ2 H2) := by
  refine ⟨fun i m σ H => m = xs.length - i ∧ i ≤ xs.length ∧ Pv i σ H, ⟨xs.length, by simp, Nat.zero_le _, h0⟩, ?_⟩
  rintro i m σ H ⟨rfl, hi, p⟩
  have q := hl i σ H hi p
  by_cases hlt : i < xs.length
  · refine .inr ⟨⟨xs, xs[i], q, by simp [hlt]⟩, Pv (i + 1), fun σ' H' p' => ⟨xs.length - (i + 1), by omega, rfl, hlt, p'⟩, fun x H' y => ?_⟩
    obtain ⟨e, y⟩ := y
    subst e
    exact hs i x σ _ (y xs q) p
  · have e : i = xs.length := by omega
    subst e
    exact .inl ⟨⟨xs, q, Nat.le_refl _⟩, hd σ H p⟩
/-- while, by a word and a measure of the state -/
theorem while_by {c : TT} {tb : TS} {D : Ends} {σ : St} {H : Hp} (Pv : St → Hp → Prop) (μ : St → Hp → Nat) (h0 : Pv σ H)
    (hs : ∀ σ H, Pv σ H → c σ H fun b H1 => if b = true then tb { D with nx := fun σ' H' => Pv σ' H' ∧ μ σ' H' < μ σ H, ct := fun σ' H' => Pv σ' H' ∧ μ σ' H' < μ σ H, bk := D.nx } σ H1 else D.nx σ H1)
    (mono : ∀ σ H Q Q', (∀ b H1, Q b H1 → Q' b H1) → c σ H Q → c σ H Q') : tWhile c tb D σ H := by
  refine ⟨fun m σ H => m = μ σ H ∧ Pv σ H, ⟨_, rfl, h0⟩, ?_⟩
  rintro m σ H ⟨rfl, p⟩
  refine mono σ H _ _ (fun b H1 q => ?_) (hs σ H p)
  cases b with
  | true => exact ⟨_, fun σ' H' ⟨p', l⟩ => ⟨_, l, rfl, p'⟩, q⟩
  | false => exact q
end L2
namespace L2
open PySem PySem.Spec PyProof.Rows
abbrev R2 := V → V → Hp → VK → Prop
/-- a two-place operation on values: f is binaryOp op, inplaceOp op or compareOp op -/
def OpR (X : Cx) (f : Value → Value → Sem Value) (r : R2) : Prop :=
  ∀ (pins : List (Addr × Obj)) (s : Shared) (σ : St) (H : Hp) (x y : V) (v u : Value) (Q : VK), Inv X pins σ H s → RelV x v → RelV y u → r x y H Q →
    wpAny (model X.prog X.w) X.A (f v u) (EP X pins σ Q) X.xe s
/-- a one-place operation -/
def UnR (X : Cx) (f : Value → Sem Value) (r : V → Hp → VK → Prop) : Prop :=
  ∀ (pins : List (Addr × Obj)) (s : Shared) (σ : St) (H : Hp) (x : V) (v : Value) (Q : VK), Inv X pins σ H s → RelV x v → r x H Q →
    wpAny (model X.prog X.w) X.A (f v) (EP X pins σ Q) X.xe s
/-- a call of a value that is known (a builtin, a type) with values -/
def CallR (X : Cx) (f : Value) (r : List V → Hp → VK → Prop) : Prop :=
  ∀ (pins : List (Addr × Obj)) (s : Shared) (σ : St) (H : Hp) (xs : List V) (us : List Value) (Q : VK), Inv X pins σ H s → Vals xs us → r xs H Q →
    wpAny (model X.prog X.w) X.A (call f us) (EP X pins σ Q) X.xe s
def tOp (r : R2) (ta tb : TE) : TE := fun σ H Q => ta σ H fun x H1 => tb σ H1 fun y H2 => r x y H2 Q
def tUn (r : V → Hp → VK → Prop) (ta : TE) : TE := fun σ H Q => ta σ H fun x H1 => r x H1 Q
/-- ints in, under C, and a value out -/
def rI (C : Int → Int → Prop) (g : Int → Int → V) : R2 := fun x y H Q => ∃ i j, x = .int i ∧ y = .int j ∧ C i j ∧ Q (g i j) H
def rI0 (g : Int → Int → V) : R2 := fun x y H Q => ∃ i j, x = .int i ∧ y = .int j ∧ Q (g i j) H
def rU (g : Int → V) : V → Hp → VK → Prop := fun x H Q => ∃ i, x = .int i ∧ Q (g i) H
section
variable {X : Cx} {a b c : Expr} {ta tb tc : TE} {pos : Pos}
theorem binT (ha : PE X a ta) (hb : PE X b tb) {pins : List (Addr × Obj)} {s : Shared} {σ : St} {H : Hp} {R : V → V → Hp → Prop} (I : Inv X pins σ H s)
    (h : ta σ H fun x H1 => tb σ H1 fun y H2 => R x y H2) {Q : Value → Shared → Prop} {f : Value → Value → Sem Value}
    (hf : ∀ v u s2 x y H2, Inv X pins σ H2 s2 → RelV x v → RelV y u → R x y H2 → wpAny (model X.prog X.w) X.A (f v u) Q X.xe s2) :
    wpAny (model X.prog X.w) X.A (eval a X.env) (fun v s₁ => wpAny (model X.prog X.w) X.A (eval b X.env) (fun u s₂ => wpAny (model X.prog X.w) X.A (f v u) Q X.xe s₂) X.xe s₁) X.xe s := by
  refine thn (ha pins s σ H _ I h) fun v s1 ⟨x, H1, I1, r1, q1⟩ => ?_
  refine thn (hb pins s1 σ H1 _ I1 q1) fun u s2 ⟨y, H2, I2, r2, q2⟩ => ?_
  exact hf v u s2 x y H2 I2 r1 r2 q2
theorem pe_op {op : Operator} {r : R2} (ho : OpR X (binaryOp op) r) (ha : PE X a ta) (hb : PE X b tb) : PE X (.BinOp a op b pos) (tOp r ta tb) := by
  intro pins s σ H Q I h
  exact wpAny_BinOp (binT ha hb I h fun v u s2 x y H2 I2 rx ry q => ho pins s2 σ H2 x y v u Q I2 rx ry q)
theorem pe_un {op : UnaryOp} {r : V → Hp → VK → Prop} (ho : UnR X (unaryOp op) r) (ha : PE X a ta) : PE X (.UnaryOp op a pos) (tUn r ta) := by
  intro pins s σ H Q I h
  exact UnaryOp_ (thn (ha pins s σ H _ I h) fun v s1 ⟨x, H1, I1, r1, q1⟩ => ho pins s1 σ H1 x v Q I1 r1 q1)
theorem opI {f : Value → Value → Sem Value} {C : Int → Int → Prop} {g : Int → Int → Int}
    (rule : ∀ (i j : Int) (t u : Tok) (s : Shared) (Q : Value → Shared → Prop) (E : Value → Shared → Prop), C i j → Q (.int (g i j) s.toks) { s with toks := s.toks + 1 } → wpAny (model X.prog X.w) X.A (f (.int i t) (.int j u)) Q E s) :
    OpR X f (rI C fun i j => .int (g i j)) := by
  intro pins s σ H x y v u Q I rx ry h
  obtain ⟨i, j, rfl, rfl, hc, q⟩ := h
  obtain ⟨t, rfl⟩ := rx
  obtain ⟨t', rfl⟩ := ry
  exact rule i j t t' s _ _ hc ⟨.int (g i j), H, I.tok _, ⟨_, rfl⟩, q⟩
theorem opI0 {f : Value → Value → Sem Value} {g : Int → Int → Int}
    (rule : ∀ (i j : Int) (t u : Tok) (s : Shared) (Q : Value → Shared → Prop) (E : Value → Shared → Prop), Q (.int (g i j) s.toks) { s with toks := s.toks + 1 } → wpAny (model X.prog X.w) X.A (f (.int i t) (.int j u)) Q E s) :
    OpR X f (rI0 fun i j => .int (g i j)) := by
  intro pins s σ H x y v u Q I rx ry h
  obtain ⟨i, j, rfl, rfl, q⟩ := h
  obtain ⟨t, rfl⟩ := rx
  obtain ⟨t', rfl⟩ := ry
  exact rule i j t t' s _ _ ⟨.int (g i j), H, I.tok _, ⟨_, rfl⟩, q⟩
theorem opB0 {f : Value → Value → Sem Value} {g : Int → Int → Bool}
    (rule : ∀ (i j : Int) (t u : Tok) (s : Shared) (Q : Value → Shared → Prop) (E : Value → Shared → Prop), Q (.bool (g i j)) s → wpAny (model X.prog X.w) X.A (f (.int i t) (.int j u)) Q E s) :
    OpR X f (rI0 fun i j => .bl (g i j)) := by
  intro pins s σ H x y v u Q I rx ry h
  obtain ⟨i, j, rfl, rfl, q⟩ := h
  obtain ⟨t, rfl⟩ := rx
  obtain ⟨t', rfl⟩ := ry
  exact rule i j t t' s _ _ ⟨.bl (g i j), H, I, rfl, q⟩
def CDiv (i j : Int) : Prop := 0 < j ∧ j < 1073741824
def CMul (i j : Int) : Prop := (-(2 ^ 64) < i ∧ i < 2 ^ 64) ∨ (-(2 ^ 64) < j ∧ j < 2 ^ 64)
theorem CMul.ok {i j : Int} (h : CMul i j) : IntMulOk i j := by
  rcases h with ⟨h1, h2⟩ | ⟨h1, h2⟩
  · exact .of_left (intBits_le_64 h1 h2)
  · exact .of_right (intBits_le_64 h1 h2)
theorem op_add : OpR X (binaryOp .Add) (rI0 fun i j => .int (i + j)) := opI0 fun _ _ _ _ _ _ _ q => add_int q
theorem op_sub : OpR X (binaryOp .Sub) (rI0 fun i j => .int (i - j)) := opI0 fun _ _ _ _ _ _ _ q => sub_int q
theorem op_mul : OpR X (binaryOp .Mult) (rI CMul fun i j => .int (i * j)) := opI fun _ _ _ _ _ _ _ hc q => mul_int q hc.ok
/-- // by a positive divisor -/
theorem op_fdiv : OpR X (binaryOp .FloorDiv) (rI CDiv fun i j => .int (i / j)) := opI fun i j _ _ _ _ _ hc q => by
  have h1 : (0 : Int) < j := hc.1
  have h2 : j < 1073741824 := hc.2
  exact floordiv_int (by omega) (by rw [Int.fdiv_eq_ediv_of_nonneg i (by omega)]; exact q) (.inl (PyProof.noPylong_small (by omega)))
/-- % by a positive divisor of any size -/
theorem op_mod : OpR X (binaryOp .Mod) (rI (fun _ j => 0 < j) fun i j => .int (i % j)) := opI fun i j _ _ _ _ _ hc q => by
  have h1 : (0 : Int) < j := hc
  exact mod_int' (by omega) (by rw [Int.fmod_eq_emod_of_nonneg i (by omega)]; exact q)
theorem unI {f : Value → Sem Value} {g : Int → Int}
    (rule : ∀ (i : Int) (t : Tok) (s : Shared) (Q : Value → Shared → Prop) (E : Value → Shared → Prop), Q (.int (g i) s.toks) { s with toks := s.toks + 1 } → wpAny (model X.prog X.w) X.A (f (.int i t)) Q E s) :
    UnR X f (rU fun i => .int (g i)) := by
  intro pins s σ H x v Q I rx h
  obtain ⟨i, rfl, q⟩ := h
  obtain ⟨t, rfl⟩ := rx
  exact rule i t s _ _ ⟨.int (g i), H, I.tok _, ⟨_, rfl⟩, q⟩
theorem un_neg : UnR X (unaryOp .USub) (rU fun i => .int (-i)) := unI fun _ _ _ _ _ q => neg_int q
end
/-- the scalars that == tells apart as data does -/
def scal : V → V → Bool
  | .non, .non => true | .non, .int _ => true | .int _, .non => true | .non, .bl _ => true | .bl _, .non => true | .non, .str _ => true | .str _, .non => true
  | .int _, .int _ => true | .bl _, .bl _ => true | .str _, .str _ => true | .byt _, .byt _ => true
  | .int _, .str _ => true | .str _, .int _ => true | .bl _, .str _ => true | .str _, .bl _ => true
  | _, _ => false
def rEq : R2 := fun x y H Q => scal x y = true ∧ Q (.bl (decide (x = y))) H
def rNe : R2 := fun x y H Q => scal x y = true ∧ Q (.bl (!decide (x = y))) H
theorem dec_int {i j : Int} : decide (V.int i = V.int j) = (i == j) := by
  rw [Bool.eq_iff_iff]
  simp
theorem dec_bl {i j : Bool} : decide (V.bl i = V.bl j) = (i == j) := by
  rw [Bool.eq_iff_iff]
  simp
theorem dec_str {i j : Str} : decide (V.str i = V.str j) = (i == j) := by
  rw [Bool.eq_iff_iff]
  simp
theorem dec_byt {i j : Array UInt8} : decide (V.byt i = V.byt j) = (i.toList == j.toList) := by
  rw [Bool.eq_iff_iff]
  cases i
  cases j
  simp
section
variable {X : Cx} {a b c : Expr} {ta tb tc : TE} {pos : Pos}
theorem fin_bl {pins : List (Addr × Obj)} {σ : St} {H : Hp} {s : Shared} {Q : VK} {k k' : Bool} (I : Inv X pins σ H s) (q : Q (.bl k) H) (e : k = k') : EP X pins σ Q (.bool k') s := by
  subst e
  exact ⟨.bl k, H, I, rfl, q⟩
theorem op_eq : OpR X (compareOp .Eq) rEq := by
  intro pins s σ H x y v u Q I rx ry h
  obtain ⟨hs, q⟩ := h
  cases x with
  | non =>
    cases rx
    cases y with
    | non => cases ry; exact PySem.EqNone.eq_none_none (fin_bl I q (by simp))
    | bl j => cases ry; exact PySem.EqNone.eq_none_bool (fin_bl I q (by simp))
    | int j => obtain ⟨t', rfl⟩ := ry; exact PySem.EqNone.eq_none_int (fin_bl I q (by simp))
    | str j => obtain ⟨t', rfl⟩ := ry; exact PySem.EqNone.eq_none_str (fin_bl I q (by simp))
    | _ => exact absurd (show false = true from hs) Bool.false_ne_true
  | bl i =>
    cases rx
    cases y with
    | non => cases ry; exact PySem.EqNone.eq_bool_none (fin_bl I q (by simp))
    | bl j => cases ry; exact eq_bool (fin_bl I q dec_bl)
    | str j => obtain ⟨t', rfl⟩ := ry; exact PySem.EqMixed.eq_bool_str (fin_bl I q (by simp))
    | _ => exact absurd (show false = true from hs) Bool.false_ne_true
  | int i =>
    obtain ⟨t, rfl⟩ := rx
    cases y with
    | non => cases ry; exact PySem.EqNone.eq_int_none (fin_bl I q (by simp))
    | int j => obtain ⟨t', rfl⟩ := ry; exact eq_int (fin_bl I q dec_int)
    | str j => obtain ⟨t', rfl⟩ := ry; exact PySem.EqMixed.eq_int_str (fin_bl I q (by simp))
    | _ => exact absurd (show false = true from hs) Bool.false_ne_true
  | str i =>
    obtain ⟨t, rfl⟩ := rx
    cases y with
    | non => cases ry; exact PySem.EqNone.eq_str_none (fin_bl I q (by simp))
    | bl j => cases ry; exact PySem.EqMixed.eq_str_bool (fin_bl I q (by simp))
    | int j => obtain ⟨t', rfl⟩ := ry; exact PySem.EqMixed.eq_str_int (fin_bl I q (by simp))
    | str j => obtain ⟨t', rfl⟩ := ry; exact eq_str (fin_bl I q dec_str)
    | _ => exact absurd (show false = true from hs) Bool.false_ne_true
  | byt i =>
    obtain ⟨t, rfl⟩ := rx
    cases y with
    | byt j => obtain ⟨t', rfl⟩ := ry; exact PySem.W.eq_bytes (fin_bl I q dec_byt)
    | _ => exact absurd (show false = true from hs) Bool.false_ne_true
  | _ => cases y <;> exact absurd (show false = true from hs) Bool.false_ne_true
theorem op_ne : OpR X (compareOp .NotEq) rNe := by
  intro pins s σ H x y v u Q I rx ry h
  obtain ⟨hs, q⟩ := h
  cases x with
  | non =>
    cases rx
    cases y with
    | non => cases ry; exact PySem.EqNone.ne_none_none (fin_bl I q (by simp))
    | bl j => cases ry; exact PySem.EqNone.ne_none_bool (fin_bl I q (by simp))
    | int j => obtain ⟨t', rfl⟩ := ry; exact PySem.EqNone.ne_none_int (fin_bl I q (by simp))
    | str j => obtain ⟨t', rfl⟩ := ry; exact PySem.EqNone.ne_none_str (fin_bl I q (by simp))
    | _ => exact absurd (show false = true from hs) Bool.false_ne_true
  | bl i =>
    cases rx
    cases y with
    | non => cases ry; exact PySem.EqNone.ne_bool_none (fin_bl I q (by simp))
    | bl j => cases ry; exact ne_bool (fin_bl I q (congrArg not dec_bl))
    | str j => obtain ⟨t', rfl⟩ := ry; exact PySem.EqMixed.ne_bool_str (fin_bl I q (by simp))
    | _ => exact absurd (show false = true from hs) Bool.false_ne_true
  | int i =>
    obtain ⟨t, rfl⟩ := rx
    cases y with
    | non => cases ry; exact PySem.EqNone.ne_int_none (fin_bl I q (by simp))
    | int j => obtain ⟨t', rfl⟩ := ry; exact ne_int (fin_bl I q (congrArg not dec_int))
    | str j => obtain ⟨t', rfl⟩ := ry; exact PySem.EqMixed.ne_int_str (fin_bl I q (by simp))
    | _ => exact absurd (show false = true from hs) Bool.false_ne_true
  | str i =>
    obtain ⟨t, rfl⟩ := rx
    cases y with
    | non => cases ry; exact PySem.EqNone.ne_str_none (fin_bl I q (by simp))
    | bl j => cases ry; exact PySem.EqMixed.ne_str_bool (fin_bl I q (by simp))
    | int j => obtain ⟨t', rfl⟩ := ry; exact PySem.EqMixed.ne_str_int (fin_bl I q (by simp))
    | str j => obtain ⟨t', rfl⟩ := ry; exact ne_str (fin_bl I q (congrArg not dec_str))
    | _ => exact absurd (show false = true from hs) Bool.false_ne_true
  | byt i =>
    obtain ⟨t, rfl⟩ := rx
    cases y with
    | byt j => obtain ⟨t', rfl⟩ := ry; exact PySem.W.ne_bytes (fin_bl I q (congrArg not dec_byt))
    | _ => exact absurd (show false = true from hs) Bool.false_ne_true
  | _ => cases y <;> exact absurd (show false = true from hs) Bool.false_ne_true
theorem op_lt : OpR X (compareOp .Lt) (rI0 fun i j => .bl (decide (i < j))) := opB0 fun _ _ _ _ _ _ _ q => lt_int q
theorem op_le : OpR X (compareOp .LtE) (rI0 fun i j => .bl (decide (i ≤ j))) := opB0 fun _ _ _ _ _ _ _ q => le_int q
theorem op_gt : OpR X (compareOp .Gt) (rI0 fun i j => .bl (decide (j < i))) := opB0 fun _ _ _ _ _ _ _ q => gt_int q
theorem op_ge : OpR X (compareOp .GtE) (rI0 fun i j => .bl (decide (j ≤ i))) := opB0 fun _ _ _ _ _ _ _ q => ge_int q
/-- is None, is not None: the right side a value none -/
theorem op_isN : OpR X (compareOp .Is) (fun x y H Q => y = .non ∧ Q (.bl (decide (x = .non))) H) := by
  intro pins s σ H x y v u Q I rx ry h
  obtain ⟨rfl, q⟩ := h
  cases ry
  refine is_none_gen (fin_bl I q ?_)
  cases x <;> first
    | (cases rx; rfl)
    | (obtain ⟨t, rfl⟩ := rx; rfl)
theorem nomark (b : Expr) {op : CmpOp} (h : op ≠ .In := by decide) (h2 : op ≠ .NotIn := by decide) : behindInMarks op b = false := by
  have e1 : (op == CmpOp.In) = false := by cases op <;> first | rfl | exact absurd rfl h
  have e2 : (op == CmpOp.NotIn) = false := by cases op <;> first | rfl | exact absurd rfl h2
  cases b <;> simp [behindInMarks, e1, e2]
/-- a comparison as a value; hm: nomark b, or (for in, not in) by with_unfolding_all rfl -/
theorem pe_cmpR {op : CmpOp} {r : R2} (ho : OpR X (compareOp op) r) (ha : PE X a ta) (hb : PE X b tb) (hm : behindInMarks op b = false) : PE X (.Compare a [op] [b] pos) (tOp r ta tb) := by
  intro pins s σ H Q I h
  exact wpAny_Compare1 (binT ha hb I h fun v u s2 x y H2 I2 rx ry q => ho pins s2 σ H2 x y v u Q I2 rx ry q) hm
/-- a reading of a value as a test -/
def tTest (t : TE) : TT := fun σ H Q => t σ H fun x H' => ∃ k, x = .bl k ∧ Q k H'
theorem pt_cmpR {op : CmpOp} {r : R2} (ho : OpR X (compareOp op) r) (ha : PE X a ta) (hb : PE X b tb) (hm : behindInMarks op b = false) : PT X (.Compare a [op] [b] pos) (tTest (tOp r ta tb)) := by
  intro pins s σ H Q I h
  refine wpAny_isTrue_Compare1 (thn (ha pins s σ H _ I h) fun v s1 ⟨x, H1, I1, r1, q1⟩ => thn (hb pins s1 σ H1 _ I1 q1) fun u s2 ⟨y, H2, I2, r2, q2⟩ =>
    thn (ho pins s2 σ H2 x y v u _ I2 r1 r2 q2) fun c s3 ⟨z, H3, I3, r3, k, e, q3⟩ => ?_) hm
  subst e
  cases r3
  exact wpAny_truthy_bool ⟨H3, I3, q3⟩
theorem line63 : (sizeLine : Nat) < 2 ^ 63 := by rw [sizeLine_eq]; decide
theorem vals1 {x : V} {us : List Value} (r : Vals [x] us) : ∃ u, us = [u] ∧ RelV x u := by
  cases r with
  | cons r1 r2 => cases r2; exact ⟨_, rfl, r1⟩
theorem call_ord : CallR X (.builtin "ord") (fun xs H Q => ∃ x, xs = [.str x] ∧ x.length = 1 ∧ Q (.int (x.cps.getD 0 0 : Nat)) H) := by
  intro pins s σ H xs us Q I r h
  obtain ⟨x, rfl, hz, q⟩ := h
  obtain ⟨u, rfl, t, rfl⟩ := vals1 r
  exact ord_of_one hz ⟨.int _, H, I.tok _, ⟨_, rfl⟩, q⟩
end
end L2
namespace L2
open PySem PySem.Spec PyProof.Rows
section
variable {prog : Program} {w : World} {A : Around} {E : Value → Shared → Prop} {s : Shared} {K : PySem.W.Frag} {x dx C f : Addr} {mA : Str → Option Value} {name : Str} {v : Value}
end
section
variable {P : Program} {w : World} {H H' : Hp} {h h' : Heap} {a C dx : Addr} {fs fs' : List (Str × V)}
end
section
variable {X : Cx} {pins : List (Addr × Obj)} {σ : St} {H : Hp} {s : Shared} {a C dx : Addr} {fs : List (Str × V)} {f : Str} {v : V} {A : Around} {E : Value → Shared → Prop}
end
section
variable {X : Cx} {o e value : Expr} {f : Str} {pos pos' tpos : Pos} {ta tv : TE}
end
section
variable {X : Cx} {pins : List (Addr × Obj)} {σ : St} {H : Hp} {s : Shared} {A : Around} {E : Value → Shared → Prop} {Q : Value → Shared → Prop} {c : Value} {b : Bool}
end
end L2
namespace L2
open PySem PySem.Spec PyProof.Rows
structure Room (k : Nat) (A : Around) : Prop where
  hd : A.handled = none
  dp : A.depth + 3 * k + 5 < recursionLimit
  un : A.units + 16 * k + 200 < cLine
theorem Room.mono {j k : Nat} {A : Around} (r : Room k A) (h : j ≤ k) : Room j A := ⟨r.hd, by have := r.dp; omega, by have := r.un; omega⟩
theorem Room.deeper {k : Nat} {A : Around} (r : Room (k + 1) A) (env : Env) : Room k (A.deeper env) :=
  ⟨r.hd, by have := r.dp; show A.depth + 1 + 3 * k + 5 < _; omega, by have := r.un; show A.units + 3 + 16 * k + 200 < _; omega⟩
theorem Room.depth {k : Nat} {A : Around} (r : Room k A) : A.depth < recursionLimit := by have := r.dp; omega
def tNil : TA := fun _ H Q => Q [] H
def tCons (ta : TE) (tr : TA) : TA := fun σ H Q => ta σ H fun x H1 => tr σ H1 fun xs H2 => Q (x :: xs) H2
section
variable {X : Cx} {e : Expr} {es : List Expr} {te : TE} {t : TA} {pos : Pos}
theorem pa_nil : PA X [] tNil := fun _ _ _ _ H Q I h => Calls.spliced_nil ⟨[], H, I, .nil, h⟩
theorem pa_cons (ha : PE X e te) (hr : PA X es t) (hs : starEach (e :: es) X.env = (false, eval e X.env) :: starEach es X.env := by rfl) : PA X (e :: es) (tCons te t) := by
  intro pos pins s σ H Q I h
  rw [hs]
  show wpAny _ _ (spliced ((false, eval e X.env) :: backTo pos (starEach es X.env))) _ _ s
  refine Calls.spliced_cons (thn (ha pins s σ H _ I h) fun u s1 ⟨x, H1, I1, r1, q1⟩ => ?_)
  exact thn (hr pos pins s1 σ H1 _ I1 q1) fun us s2 ⟨xs, H2, I2, r2, q2⟩ => ⟨x :: xs, H2, I2, .cons r1 r2, q2⟩
/-- a tuple, a list of written items -/
def tTup (t : TA) : TE := fun σ H Q => t σ H fun xs H1 => xs.length ≤ sizeLine ∧ ∀ p, H1 p = none → Q (.ref p) (upd H1 p (.tup xs))
def tLst (t : TA) : TE := fun σ H Q => t σ H fun xs H1 => xs.length ≤ sizeLine ∧ ∀ p, H1 p = none → Q (.ref p) (upd H1 p (.lst xs))
theorem pe_tup {x1} (h : PA X es t) : PE X (.Tuple es x1 pos) (tTup t) := by
  intro pins s σ H Q I hq
  refine wpAny_Tuple_spliced (thn (h pos pins s σ H _ I hq) fun us s1 ⟨xs, H1, I1, r, z, q⟩ => ⟨by rw [← r.length]; exact z, ?_⟩)
  have hf : H1 s1.heap.objs.size = none := I1.hok.fresh (Nat.le_refl _)
  refine ⟨.ref s1.heap.objs.size, upd H1 s1.heap.objs.size (.tup xs), I1.laid (t' := s1.toks) (fun b u e => Heap.get?_push_of_some _ e) (Nat.le_refl _) ?_, rfl, q _ hf⟩
  exact ⟨z, us, r, ⟨_, Heap.get?_push_size _ rfl, rfl, _, rfl⟩⟩
theorem pe_lst (h : PA X es t) : PE X (.List es pos) (tLst t) := by
  intro pins s σ H Q I hq
  refine wpAny_List_spliced (thn (h pos pins s σ H _ I hq) fun us s1 ⟨xs, H1, I1, r, z, q⟩ => ⟨by rw [← r.length]; exact z, ?_⟩)
  have hf : H1 s1.heap.objs.size = none := I1.hok.fresh (Nat.le_refl _)
  refine ⟨.ref s1.heap.objs.size, upd H1 s1.heap.objs.size (.lst xs), I1.laid (t' := s1.toks) (fun b u e => Heap.get?_push_of_some _ e) (Nat.le_refl _) ?_, rfl, q _ hf⟩
  exact ⟨z, us, 0, r, Heap.get?_push_size _ rfl⟩
end
/-- a def's promise: the bound arguments in the parameters' order, the heap, the wanted end, the wanted exception -/
abbrev Sp := List V → Hp → VK → XK → Prop
/-- how an exception lies behind a call (file 08 gives it): the callers' frames, abstract heap and state ahead of the call, the wish, the exception, the state -/
abbrev CXT := List Env → Hp → Shared → XK → Value → Shared → Prop
/-- the state at a call -/
structure Env0 (P : Program) (w : World) (K : PySem.W.Frag) (mg : Str → Option Value) (base : Heap) (A : Around) (outer : List Env) (s : Shared) (H : Hp) : Prop where
  frames : A.frames = some outer
  mod : Mod K mg base
  bs : ∀ b o, base.get? b = some o → s.heap.get? b = some o ∧ H b = none
  bsz : base.objs.size ≤ s.heap.objs.size
  funs : s.heap.FunFrames base outer
  frf : ∀ b ∈ frs outer, H b = none
  hok : HOk P w H s.heap
  bare : AllBare s.gens
/-- a call's end -/
def CE (outer : List Env) (P : Program) (w : World) (H : Hp) (s : Shared) (Q : VK) (u : Value) (s' : Shared) : Prop :=
  ∃ v H', s'.os = s.os ∧ AllBare s'.gens ∧ Un (frs outer) [] H H' s.heap s'.heap ∧ HOk P w H' s'.heap ∧ RelV v u ∧ Q v H'
def CR (CX : CXT) (outer : List Env) (P : Program) (w : World) (H : Hp) (s : Shared) (Q : VK) (E : XK) (r : Result) (s' : Shared) : Prop :=
  match r with
  | .ok (.ret u) => CE outer P w H s Q u s'
  | .ok _ => False
  | .error e => CX outer H s E e s'
structure FnOk (P : Program) (w : World) (K : PySem.W.Frag) (mg : Str → Option Value) (base : Heap) (CX : CXT) (k : Nat) (f : Addr) (fd : FuncData) (ps : List Str) (sp : Sp) : Prop where
  len : ∀ vs H Q E, sp vs H Q E → vs.length = ps.length
  run : ∀ (A : Around) (outer : List Env) (s : Shared) (H : Hp) (args : Args) (us : List Value) (vs : List V) (Q : VK) (E : XK), Room k A → Env0 P w K mg base A outer s H → BindsTo s fd args (ps.zip us) → Vals vs us → sp vs H Q E →
    codeAny (model P w) A (.call (.ref f) args) (CR CX outer P w H s Q E) s
section
variable {X : Cx} {pins : List (Addr × Obj)} {σ : St} {H : Hp} {s s' : Shared}
/-- from a body: what a callee wants -/
theorem Inv.env0 (I : Inv X pins σ H s) : Env0 X.prog X.w X.K X.mg X.base X.A X.stack s H :=
  ⟨I.ok.frames, I.ok.mod, I.bs, Nat.le_trans I.ok.bsz I.sz, I.stack, I.stkFree, I.hok, I.bare⟩
/-- behind a call -/
theorem Inv.after {Q : VK} {u : Value} (I : Inv X pins σ H s) (h : CE X.stack X.prog X.w H s Q u s') : EP X pins σ Q u s' := by
  obtain ⟨v, H', os, bare, un, hok, r, q⟩ := h
  obtain ⟨hh, g, d, t, os'⟩ := s'
  obtain rfl : os' = s.os := os
  exact ⟨v, H', I.call (h' := hh) (g' := g) (d' := d) (t' := t) (ch := []) un hok bare (fun b z => absurd z (by simp)), r, q⟩
end
/-- f(..): the written arguments, then the defaults dvs; E: what is wanted of an exception -/
def tCall (sp : Sp) (dvs : List V) (E : XK) (t : TA) : TE := fun σ H Q => t σ H fun vs H1 => sp (vs ++ dvs) H1 Q E
/-- how the parameters are bound: us the positional arguments, kw the keywords' values by name, ds the defaults that fill up -/
def Binds (K : PySem.W.Frag) (fd : FuncData) (ps : List Str) (ds : List Value) : Prop :=
  ∀ (s : Shared) (us : List Value), K.In s.heap → (us ++ ds).length = ps.length → BindsTo s fd ⟨us, []⟩ (ps.zip (us ++ ds))
/-- every parameter is given -/
theorem Binds.all {K : PySem.W.Frag} {fd : FuncData} {ps : List Str} (h : ∀ us : List Value, us.length = ps.length → bindArgs fd ⟨us, []⟩ = pure (ps.zip us)) : Binds K fd ps [] := fun s us _ hl => by
  rw [List.append_nil] at hl ⊢
  exact .of_eq (h us hl)
/-- an exception of a callee reaches what this body wants of exceptions -/
def Passes (CX : CXT) (X : Cx) (E : XK) : Prop := ∀ (pins : List (Addr × Obj)) (σ : St) (H : Hp) (s : Shared) (e : Value) (s' : Shared), Inv X pins σ H s → CX X.stack H s E e s' → X.xe e s'
section
variable {X : Cx} {CX : CXT} {k : Nat} {f C : Addr} {fd : FuncData} {ps : List Str} {sp : Sp} {dvs : List V} {ds : List Value} {E : XK} {x m : Str} {p pos apos : Pos} {e o : Expr} {es : List Expr} {ta : TE} {t : TA}
/-- the callee runs -/
theorem run_fn {pins : List (Addr × Obj)} {σ : St} {H : Hp} {s : Shared} {Q : VK} {us : List Value} {vs : List V} (F : FnOk X.prog X.w X.K X.mg X.base CX k f fd ps sp) (hr : Room k X.A) (hb : Binds X.K fd ps ds) (hd : Vals dvs ds) (hx : Passes CX X E)
    (I : Inv X pins σ H s) (r : Vals vs us) (h : sp (vs ++ dvs) H Q E) : wpAny (model X.prog X.w) X.A (call (.ref f) us) (EP X pins σ Q) X.xe s := by
  have r2 : Vals (vs ++ dvs) (us ++ ds) := r.append hd
  have hl : (us ++ ds).length = ps.length := by rw [← r2.length]; exact F.len _ _ _ _ h
  refine wpAny_call (codeAny_mono (F.run X.A X.stack s H ⟨us, []⟩ (us ++ ds) (vs ++ dvs) Q E hr I.env0 (hb s us I.kIn hl) r2 h) fun r s' hq => ?_)
  cases r with
  | error e => exact hx pins σ H s e s' I hq
  | ok fl =>
    cases fl with
    | ret u => exact I.after hq
    | next => exact False.elim hq
    | brk => exact False.elim hq
    | cont => exact False.elim hq
theorem pe_call (F : FnOk X.prog X.w X.K X.mg X.base CX k f fd ps sp) (hr : Room k X.A) (hg : Gl X x) (hm : X.mg x = some (.ref f)) (hk : PySem.W.keepIn X.K (.ref f) = true) (hb : Binds X.K fd ps ds) (hd : Vals dvs ds) (hx : Passes CX X E)
    (ha : PA X (e :: es) t) (hdb : (x == ("__debug__" : Str)) = false := by decide) (he : starEach (e :: es) X.env = (false, eval e X.env) :: starEach es X.env := by rfl) (hpl : (backTo pos (starEach es X.env)).any (·.1) = false := by rfl) :
    PE X (.Call (.Name x p) (e :: es) [] pos) (tCall sp dvs E t) := by
  intro pins s σ H Q I h
  refine wpAny_Call_Name_kw (ld_glob I hg hm ?_ hdb)
  refine PySem.W.callWith_K (h₀ := X.base) I.ok.mod.kin hk (thn (ha pos pins s σ H _ I h) fun us s1 ⟨vs, H1, I1, r, q⟩ => ⟨I1.kIn, ?_⟩) he hpl
  exact run_fn F hr hb hd hx I1 r q
end
section
variable {X : Cx} {CX : CXT} {k : Nat} {f C : Addr} {fd : FuncData} {ps ks : List Str} {sp : Sp} {E : XK} {x m : Str} {p pos apos kpos : Pos} {e o : Expr} {es : List Expr} {kws : List Keyword} {te ta : TE} {t tk : TA} {nm : Option Str}
variable {g : List Value → List Value → List Value} {gV : List V → List V → List V}
end
/-- names: the parameters first -/
structure FnScope (N P : List Str) (sc : Scope) : Prop where
  kind : sc.kind = .function
  co : sc.isCoroutine = false
  gen : sc.isGenerator = false
  nd : N.Nodup
  pre : N.take P.length = P
  par : ∀ x ∈ P, sc.names.lookup x = some .local ∨ sc.names.lookup x = some .cell
  nofree : ∀ y ∈ sc.names, y.2 ≠ .free
theorem bindL_out {kindOf : Str → Option NameKind} {x : Str} : ∀ {binds : List (Str × Value)} {m : Str → Option Value}, (∀ v, (x, v) ∉ binds) → bindL kindOf binds m x = m x
  | [], _, _ => rfl
  | (n, v) :: r, m, h => by
    unfold bindL
    rw [bindL_out fun w hw => h w (List.mem_cons_of_mem _ hw)]
    split
    · have : x ≠ n := by rintro rfl; exact h v List.mem_cons_self
      simp [this]
    · rfl
theorem bindC_out {kindOf : Str → Option NameKind} {x : Str} : ∀ {binds : List (Str × Value)} {m : Str → Option Value}, (∀ v, (x, v) ∉ binds) → bindC kindOf binds m x = m x
  | [], _, _ => rfl
  | (n, v) :: r, m, h => by
    unfold bindC
    rw [bindC_out fun w hw => h w (List.mem_cons_of_mem _ hw)]
    split
    · rfl
    · have : x ≠ n := by rintro rfl; exact h v List.mem_cons_self
      simp [this]
theorem bindL_get {kindOf : Str → Option NameKind} {x : Str} {v : Value} : ∀ {P : List Str} {vs : List Value} {i : Nat} {m : Str → Option Value}, P.Nodup → P[i]? = some x → vs[i]? = some v → kindOf x = some .local →
    bindL kindOf (P.zip vs) m x = some v
  | [], _, _, _, _, h, _, _ => by simp at h
  | _ :: _, [], _, _, _, _, h, _ => by simp at h
  | p :: P, w :: vs, 0, m, nd, h1, h2, hk => by
    simp at h1 h2; subst h1; subst h2
    show bindL kindOf ((p, w) :: P.zip vs) m p = _
    unfold bindL
    rw [bindL_out fun v hv => (List.nodup_cons.mp nd).1 (List.of_mem_zip hv).1, if_pos hk]
    simp
  | p :: P, w :: vs, i + 1, m, nd, h1, h2, hk => by
    show bindL kindOf ((p, w) :: P.zip vs) m x = _
    unfold bindL
    exact bindL_get (i := i) (List.nodup_cons.mp nd).2 (by simpa using h1) (by simpa using h2) hk
theorem bindC_get {kindOf : Str → Option NameKind} {x : Str} {v : Value} : ∀ {P : List Str} {vs : List Value} {i : Nat} {m : Str → Option Value}, P.Nodup → P[i]? = some x → vs[i]? = some v → kindOf x ≠ some .local →
    bindC kindOf (P.zip vs) m x = some v
  | [], _, _, _, _, h, _, _ => by simp at h
  | _ :: _, [], _, _, _, _, h, _ => by simp at h
  | p :: P, w :: vs, 0, m, nd, h1, h2, hk => by
    simp at h1 h2; subst h1; subst h2
    show bindC kindOf ((p, w) :: P.zip vs) m p = _
    unfold bindC
    rw [bindC_out fun v hv => (List.nodup_cons.mp nd).1 (List.of_mem_zip hv).1, if_neg hk]
    simp
  | p :: P, w :: vs, i + 1, m, nd, h1, h2, hk => by
    show bindC kindOf ((p, w) :: P.zip vs) m x = _
    unfold bindC
    exact bindC_get (i := i) (List.nodup_cons.mp nd).2 (by simpa using h1) (by simpa using h2) hk
/-- the names' values at the entry -/
def start (N : List Str) (vs : List V) : St := vs.map some ++ List.replicate (N.length - vs.length) none
/-- the context of a def's body, at its entry; an exception leaves the frame, then lies as CX says -/
def cxOf (CX : CXT) (P : Program) (w : World) (K : PySem.W.Frag) (mg : Str → Option Value) (base : Heap) (N : List Str) (qual : Str) (scope : Scope) (f : Addr) (cd : Value) (A : Around) (outer : List Env) (s : Shared) (H : Hp) (E : XK) : Cx where
  prog := P
  w := w
  K := K
  mg := mg
  base := base
  A := A.deeper (envOfC qual scope s.heap.objs.size f cd)
  N := N
  s_0 := s
  H_0 := H
  env := envOfC qual scope s.heap.objs.size f cd
  outer := outer
  stack := envOfC qual scope s.heap.objs.size f cd :: outer
  ex := []
  calm := true
  fn := fun _ => true
  pn := []
  xe := fun e s' => wpAny (model P w) (A.deeper (envOfC qual scope s.heap.objs.size f cd)) (leaving (envOfC qual scope s.heap.objs.size f cd) e) (fun _ s'' => CX outer H s E e s'') (fun e' s'' => CX outer H s E e' s'') s'
theorem cell_has {sc : Scope} {n : Nat} {x : Str} (h : sc.names.lookup x = some .cell) : ∃ c, (cellsFrom n sc.names []).lookup x = some c := by
  have q := PySem.W.cellsFrom_some sc.names n [] (.inl h)
  exact Option.isSome_iff_exists.mp q
theorem inv_start {CX : CXT} {P : Program} {w : World} {K : PySem.W.Frag} {mg : Str → Option Value} {base : Heap} {N ps : List Str} {qual : Str} {scope : Scope} {f : Addr} {cd : Value} {A : Around} {outer : List Env} {s s1 : Shared} {H : Hp} {E : XK} {us : List Value} {vs : List V}
    (S : FnScope N ps scope) (hd : A.handled = none) (e0 : Env0 P w K mg base A outer s H) (hl : vs.length = ps.length) (r : Vals vs us)
    (x : InCallC s s.heap.objs.size (bindL (envOfC qual scope s.heap.objs.size f cd).kindOf (ps.zip us) fun _ => none) (cellsFrom (s.heap.objs.size + 1) scope.names []) (bindC (envOfC qual scope s.heap.objs.size f cd).kindOf (ps.zip us) fun _ => none) s1) :
    Inv (cxOf CX P w K mg base N qual scope f cd A outer s H E) [] (start N vs) H s1 := by
  have hpl : ps.length ≤ N.length := by have := congrArg List.length S.pre; rw [List.length_take] at this; omega
  obtain ⟨h1, tk, rfl, hk⟩ := x.done
  have noA : ∀ b : Addr, b ∉ (cxOf CX P w K mg base N qual scope f cd A outer s H E).ex := fun b z => absurd (show b ∈ ([] : List Addr) from z) (by simp)
  refine ⟨⟨e0.mod, S.kind, rfl, rfl, Nat.le_refl _, fun y z c h1 h2 => ?_, fun y hy => ?_, fun y c _ h => ?_, fun _ => hd, Around.frames_deeper e0.frames, .inr ⟨rfl, rfl⟩, fun b z => absurd z (noA b), e0.bs, e0.bsz, fun b _ _ => noA b, fun b z => absurd z (noA b), e0.funs, e0.frf⟩,
    rfl, e0.bare, Un.kept hk, ⟨_, x.toInCall.ns, fun i y v h1 h2 h3 => ?_⟩, fun y c h => ⟨_, x.cell y c h⟩, e0.hok.fresh (Nat.le_refl _), fun y c h => ?_, fun p hp => absurd (show p ∈ ([] : List (Addr × Obj)) from hp) (by simp), e0.hok.kept hk, ?_⟩
  · exact name_of_addr x.apart (PySem.mem_of_lookup h1) (PySem.mem_of_lookup h2)
  · have hy : scope.names.lookup y = some .cell ∨ scope.names.lookup y = some .free := hy
    rcases hy with hy | hy
    · exact cell_has hy
    · exact absurd rfl (S.nofree _ (PySem.mem_of_lookup hy))
  · exact Nat.le_of_lt (x.above y c (PySem.mem_of_lookup h))
  · have hi : i < vs.length := by
      unfold start at h2
      by_cases hi : i < vs.length
      · exact hi
      · rw [List.getElem?_append_right (by simpa using hi)] at h2
        rw [List.getElem?_replicate] at h2
        split at h2 <;> cases h2
    have ha : vs[i]? = some v := by
      unfold start at h2
      rw [List.getElem?_append_left (by simpa using hi), List.getElem?_map] at h2
      cases e : vs[i]? with
      | none => rw [e] at h2; cases h2
      | some a => rw [e] at h2; cases h2; rfl
    obtain ⟨u, hu, rv⟩ := r.get ha
    have hp : ps[i]? = some y := by
      rw [← S.pre, List.getElem?_take_of_lt (by omega)]; exact h1
    have ndP : ps.Nodup := by rw [← S.pre]; exact S.nd.sublist (List.take_sublist _ _)
    refine ⟨u, rv, ?_⟩
    rcases S.par y (List.mem_of_getElem? hp) with k | k
    · exact .inl ⟨k, bindL_get ndP hp hu k⟩
    · obtain ⟨c, e⟩ := cell_has (n := s.heap.objs.size + 1) k
      refine .inr ⟨.inl k, c, e, ?_⟩
      have q := x.cell y c e
      rw [bindC_get ndP hp hu (by show scope.names.lookup y ≠ _; rw [k]; decide)] at q
      exact q
  · exact e0.hok.fresh (Nat.le_of_lt (x.above y c (PySem.mem_of_lookup h)))
  · unfold start
    show _ = N.length
    rw [List.length_append, List.length_map, List.length_replicate]
    omega
/-- THE RULE: a def (or a method) of the text, by its body. The body's reading t is chosen for each entry; it is run at the parameters' values -/
theorem fn_of {CX : CXT} {P : Program} {w : World} {K : PySem.W.Frag} {mg : Str → Option Value} {base : Heap} {k : Nat} {f : Addr} {name qual : Str} {params : Arguments} {body : List Stmt} {scope : Scope} {dV kV doc pm cdv ct oc : Value} {an od : Option Addr}
    {osl : Array (Option Value)} {N ps : List Str} {sp : Sp} (lk : K.lookup f = some ⟨oc, od, .func (PySem.W.fnOf name qual params body scope dV kV doc pm an cdv ct), osl⟩) (hcd : PySem.W.codeIn K cdv qual = true) (S : FnScope N ps scope)
    (len : ∀ vs H Q E, sp vs H Q E → vs.length = ps.length)
    (hbody : ∀ (A : Around) (outer : List Env) (s : Shared) (H : Hp) (vs : List V) (Q : VK) (E : XK), Room k (A.deeper (envOfC qual scope s.heap.objs.size f cdv)) → sp vs H Q E →
      ∃ t, PSs (cxOf CX P w K mg base N qual scope f cdv A outer s H E) body t ∧ t { nx := fun _ H' => Q .non H', rt := Q } (start N vs) H) :
    FnOk P w K mg base CX (k + 1) f (PySem.W.fnOf name qual params body scope dV kV doc pm an cdv ct) ps sp := by
  refine ⟨len, fun A outer s H args us vs Q E hr e0 hb r hsp => ?_⟩
  have hl := len _ _ _ _ hsp
  have KX : K.In s.heap := e0.mod.kin.keeps fun b o e => (e0.bs b o e).1
  have lim : s.heap.NoLimit := e0.mod.nolimit.keeps fun b o e => (e0.bs b o e).1
  have hkind : ∀ y ∈ ps.zip us, scope.names.lookup y.1 = some .local ∨ (scope.names.lookup y.1 = some .cell ∧ ((cellsFrom (s.heap.objs.size + 1) scope.names []).lookup y.1).isSome = true) := fun ⟨n, v⟩ hy => by
    rcases S.par n (List.of_mem_zip hy).1 with q | q
    · exact .inl q
    · exact .inr ⟨q, PySem.W.cellsFrom_some _ _ _ (.inl q)⟩
  refine codeAny_call_function hr.depth (KX _ _ lk) rfl S.co S.gen rfl (PySem.W.codeRec_of KX hcd) (hb _ _ _ _ ?_)
  refine wpAny_newFunctionEnv_cells S.kind hkind fun env he s1 x => ?_
  subst he
  refine ⟨lim.keeps x.toInCall.keep, codeAny_func ?_⟩
  obtain ⟨t, ht, hq⟩ := hbody A outer s H vs Q E (hr.deeper _) hsp
  have I : Inv (cxOf CX P w K mg base N qual scope f cdv A outer s H E) [] (start N vs) H s1 := inv_start S hr.hd e0 hl r x
  refine wpAny_mono (ht [] s1 (start N vs) H _ I hq) (fun fl s' hs => ?_) fun e s' hs => hs
  have fin : ∀ {σ' : St} {H' : Hp} {v : V} {u : Value}, Inv (cxOf CX P w K mg base N qual scope f cdv A outer s H E) [] σ' H' s' → RelV v u → Q v H' → CE outer P w H s Q u s' :=
    fun {σ' H' v u} J rv q => ⟨v, H', J.os, J.bare, J.base, J.hok, rv, q⟩
  cases fl with
  | ret u =>
    obtain ⟨v, σ', H', J, rv, q⟩ := hs
    exact fin J rv q
  | next =>
    obtain ⟨σ', H', J, q⟩ := hs
    exact fin (v := V.non) (u := Value.none) J rfl q
  | brk =>
    obtain ⟨_, _, _, q⟩ := hs
    exact False.elim q
  | cont =>
    obtain ⟨_, _, _, q⟩ := hs
    exact False.elim q
end L2
namespace L2
open PySem PySem.Spec PyProof.Rows
section
variable {X : Cx} {x : Str} {p pos : Pos} {e : Expr} {es : List Expr} {t : TA} {id T : String} {r : List V → Hp → VK → Prop}
def tCB (r : List V → Hp → VK → Prop) (t : TA) : TE := fun σ H Q => t σ H fun vs H1 => r vs H1 Q
/-- f(e, ..), f a built-in function -/
theorem pe_callB (hc : CallR X (.builtin id) r) (hg : Gl X x) (hm : X.mg x = none) (hv : bootBuiltins x = some (.builtin id)) (ha : PA X (e :: es) t) (hn : x ≠ "__name__" := by decide) (hdb : (x == ("__debug__" : Str)) = false := by decide)
    (he : starEach (e :: es) X.env = (false, eval e X.env) :: starEach es X.env := by rfl) (hpl : (backTo pos (starEach es X.env)).any (·.1) = false := by rfl) : PE X (.Call (.Name x p) (e :: es) [] pos) (tCB r t) := by
  intro pins s σ H Q I h
  refine wpAny_Call_Name_kw (ld_blt I hg hm hv ?_ hn hdb)
  exact PyProof.Rows.callWith_builtin1 (thn (ha pos pins s σ H _ I h) fun us s1 ⟨vs, H1, I1, r1, q1⟩ => hc pins s1 σ H1 vs us Q I1 r1 q1) he hpl
/-- T(e, ..), T a built-in type -/
theorem pe_callTy (hc : CallR X (.type T) r) (hg : Gl X x) (hm : X.mg x = none) (hv : bootBuiltins x = some (.type T)) (ha : PA X (e :: es) t) (hn : x ≠ "__name__" := by decide) (hdb : (x == ("__debug__" : Str)) = false := by decide)
    (he : starEach (e :: es) X.env = (false, eval e X.env) :: starEach es X.env := by rfl) (hpl : (backTo pos (starEach es X.env)).any (·.1) = false := by rfl) : PE X (.Call (.Name x p) (e :: es) [] pos) (tCB r t) := by
  intro pins s σ H Q I h
  refine wpAny_Call_Name_kw (ld_blt I hg hm hv ?_ hn hdb)
  exact PyProof.Rows.callWith_type1 (thn (ha pos pins s σ H _ I h) fun us s1 ⟨vs, H1, I1, r1, q1⟩ => hc pins s1 σ H1 vs us Q I1 r1 q1) he hpl
end
end L2
namespace HT
open PySem PyProof.Rows
section
open PySem.SeqAt
open PySem.AutoSeq1 (wpAny_loadPart')
open PySem.MeetsSeq PySem.MeetsSeq2 PySem.MeetsSeq3
end
section
variable {prog : Program} {w : World} {A : Around} {E : Value → Shared → Prop} {s : Shared}
/-- a slice's bound as a place among n (d where it is left out) -/
def sIx (n d : Nat) : Option Int → Nat
  | none => d
  | some v => if v < 0 then (v + (n : Int)).toNat else min v.toNat n
theorem sIx_none (n d : Nat) : sIx n d none = d := rfl
theorem sIx_nat (n d k : Nat) : sIx n d (some (k : Int)) = min k n := by
  show (if (k : Int) < 0 then ((k : Int) + (n : Int)).toNat else min (k : Int).toNat n) = min k n
  rw [if_neg (by omega), Int.toNat_natCast]
end
end HT
namespace L2
open PySem PySem.Spec PyProof.Rows
abbrev TO := St → Hp → (Option Int → Hp → Prop) → Prop
/-- a slice's part (left out, or an int) -/
def PO (X : Cx) (e : Option Expr) (t : TO) : Prop :=
  ∀ (pins : List (Addr × Obj)) (s : Shared) (σ : St) (H : Hp) (Q : Option Int → Hp → Prop), Inv X pins σ H s → t σ H Q →
    wpAny (model X.prog X.w) X.A (evalPart e X.env) (fun u s' => ∃ o H', Inv X pins σ H' s' ∧ IsPart u o ∧ Q o H') X.xe s
def tNoPart : TO := fun _ H Q => Q none H
def tPart (t : TE) : TO := fun σ H Q => t σ H fun x H1 => ∃ i, x = .int i ∧ Q (some i) H1
section
variable {X : Cx} {e : Expr} {te : TE} {lo hi : Option Expr} {tl th : TO} {pos p2 : Pos}
theorem po_none : PO X none tNoPart := by
  intro pins s σ H Q I h
  rw [evalPart_none]
  exact wpAny_pure ⟨none, H, I, .none, h⟩
theorem po_some (h : PE X e te) : PO X (some e) (tPart te) := by
  intro pins s σ H Q I hw
  rw [evalPart_some]
  refine thn (h pins s σ H _ I hw) fun u s1 ⟨x, H1, I1, r1, q1⟩ => ?_
  obtain ⟨i, rfl, q⟩ := q1
  obtain ⟨t, rfl⟩ := r1
  exact ⟨some i, H1, I1, .int i t, q⟩
/-- what a slice of a value is, by values: the slice object stands at sl -/
def SlR (X : Cx) (r : V → Option Int → Option Int → Hp → VK → Prop) : Prop :=
  ∀ (pins : List (Addr × Obj)) (s : Shared) (σ : St) (H : Hp) (x : V) (v vl vu : Value) (lo hi : Option Int) (sl : Addr) (Q : VK), Inv X pins σ H s → RelV x v → s.heap.IsSliceOf sl vl vu .none → IsPart vl lo → IsPart vu hi → r x lo hi H Q →
    ∃ T id, typeLookup (.type T) "__getitem__" = pure (some (.builtin id)) ∧ s.TypeIs v T ∧ wpAny (model X.prog X.w) X.A (getItem v (.ref sl)) (EP X pins σ Q) X.xe s
def tSl (r : V → Option Int → Option Int → Hp → VK → Prop) (te : TE) (tl th : TO) : TE := fun σ H Q => te σ H fun x H1 => tl σ H1 fun l H2 => th σ H2 fun u H3 => r x l u H3 Q
/-- a[lo:hi], any a -/
theorem pe_slice {r : V → Option Int → Option Int → Hp → VK → Prop} (hr : SlR X r) (he : PE X e te) (hl : PO X lo tl) (hu : PO X hi th) : PE X (.Subscript e (.Slice lo hi none p2) pos) (tSl r te tl th) := by
  intro pins s σ H Q I h
  refine Subscript_ (thn (he pins s σ H _ I h) fun v s1 ⟨x, H1, I1, r1, q1⟩ => ?_)
  refine wpAny_Slice (thn (hl pins s1 σ H1 _ I1 q1) fun vl s2 ⟨l, H2, I2, pl, q2⟩ => thn (hu pins s2 σ H2 _ I2 q2) fun vu s3 ⟨u, H3, I3, pu, q3⟩ => ?_)
  rw [evalPart_none]
  refine wpAny_pure ?_
  have I4 : Inv X pins σ H3 { s3 with heap := s3.heap.push { cls := .type "slice", data := .fields #[vl, vu, .none] } } := I3.kept (t' := s3.toks) fun b ob q => Heap.get?_push_of_some _ q
  obtain ⟨T, id, hT, ht, hg⟩ := hr pins { s3 with heap := s3.heap.push { cls := .type "slice", data := .fields #[vl, vu, .none] } } σ H3 x v vl vu l u s3.heap.objs.size Q I4 r1 (Heap.IsSliceOf.new ..) pl pu q3
  show wpAny (model X.prog X.w) X.A (subscriptTail e (.Slice lo hi none p2) v (.ref s3.heap.objs.size)) (EP X pins σ Q) X.xe { s3 with heap := s3.heap.push { cls := .type "slice", data := .fields #[vl, vu, .none] } }
  exact tail_any (ops := [.ref s3.heap.objs.size, v]) ht hT hg (by with_unfolding_all rfl)
/-- the items of xs[lo:hi] -/
def cutV (xs : List V) (lo hi : Option Int) : List V := (xs.drop (HT.sIx xs.length 0 lo)).take (HT.sIx xs.length xs.length hi - HT.sIx xs.length 0 lo)
theorem cutV_length (xs : List V) (lo hi : Option Int) : (cutV xs lo hi).length ≤ xs.length := by
  unfold cutV
  rw [List.length_take, List.length_drop]
  omega
end
end L2
namespace L2
open PySem PySem.Spec PyProof.Rows
/-- the place that an index of any sign means -/
def ixN (n : Nat) (i : Int) : Option Nat := if 0 ≤ i then (if i < n then some i.toNat else none) else if -(n : Int) ≤ i then some (i + n).toNat else none
def atI {α : Type} (xs : List α) (i : Int) : Option α := (ixN xs.length i).bind fun j => xs[j]?
theorem ixN_seq {n : Nat} {i : Int} {j : Nat} (h : ixN n i = some j) : seqIndex? i n = some j ∧ j < n ∧ -(n : Int) ≤ i ∧ i < n := by
  unfold ixN at h
  by_cases h0 : 0 ≤ i
  · rw [if_pos h0] at h
    by_cases h1 : i < n
    · rw [if_pos h1] at h
      have e : i.toNat = j := Option.some.inj h
      exact ⟨by rw [seqIndex_of h0 h1, e], by omega, by omega, h1⟩
    · rw [if_neg h1] at h; cases h
  · rw [if_neg h0] at h
    by_cases h1 : -(n : Int) ≤ i
    · rw [if_pos h1] at h
      have e : (i + n).toNat = j := Option.some.inj h
      exact ⟨by rw [seqIndex_neg (by omega) h1, e], by omega, h1, by omega⟩
    · rw [if_neg h1] at h; cases h
theorem atI_get {α : Type} {xs : List α} {i : Int} {v : α} (h : atI xs i = some v) : ∃ j, seqIndex? i xs.length = some j ∧ xs[j]? = some v ∧ j < xs.length ∧ -(xs.length : Int) ≤ i ∧ i < xs.length := by
  unfold atI at h
  cases e : ixN xs.length i with
  | none => rw [e] at h; cases h
  | some j =>
    rw [e] at h
    obtain ⟨h1, h2, h3, h4⟩ := ixN_seq e
    exact ⟨j, h1, h, h2, h3, h4⟩
theorem atI_nat {α : Type} {xs : List α} {j : Nat} {v : α} (h : xs[j]? = some v) : atI xs (j : Int) = some v := by
  have hj : j < xs.length := (List.getElem?_eq_some_iff.mp h).1
  have e : ixN xs.length (j : Int) = some j := by
    unfold ixN
    rw [if_pos (by omega), if_pos (by omega)]; simp
  unfold atI; rw [e]; exact h
theorem atI_last {α : Type} (xs : List α) (v : α) : atI (xs ++ [v]) (-1) = some v := by
  have hl : (xs ++ [v]).length = xs.length + 1 := by simp
  have e : ixN (xs ++ [v]).length (-1) = some xs.length := by
    unfold ixN
    rw [hl, if_neg (by decide), if_pos (by omega)]
    congr 1
    omega
  unfold atI
  rw [e]
  show (xs ++ [v])[xs.length]? = some v
  simp
/-- what stands as an index of a plain subscript -/
def PlainIx (b : Expr) : Prop := ∀ o i, subscripted b false o i = operate [o, i] (getItem o i)
/-- a subscript by values -/
def IxR (X : Cx) (r : R2) : Prop :=
  ∀ (value slice : Expr) (pins : List (Addr × Obj)) (s : Shared) (σ : St) (H : Hp) (x y : V) (v u : Value) (Q : VK), Inv X pins σ H s → RelV x v → RelV y u → r x y H Q →
    subscripted slice false v u = operate [v, u] (getItem v u) → wpAny (model X.prog X.w) X.A (subscriptTail value slice v u) (EP X pins σ Q) X.xe s
/-- a call of a builtin's method by values: the receiver, the arguments -/
def MtR (X : Cx) (id : String) (r : V → List V → Hp → VK → Prop) : Prop :=
  ∀ (pins : List (Addr × Obj)) (s : Shared) (σ : St) (H : Hp) (x : V) (xs : List V) (v : Value) (us : List Value) (Q : VK), Inv X pins σ H s → RelV x v → Vals xs us → r x xs H Q →
    wpAny (model X.prog X.w) X.A (call (.builtin id) (v :: us)) (EP X pins σ Q) X.xe s
section
variable {X : Cx} {a b : Expr} {ta tb : TE} {pos : Pos}
/-- a[b] -/
theorem pe_ix {r : R2} (hr : IxR X r) (ha : PE X a ta) (hb : PE X b tb) (hs : PlainIx b) : PE X (.Subscript a b pos) (tOp r ta tb) := by
  intro pins s σ H Q I h
  exact Subscript_ (binT ha hb I h fun v u s2 x y H2 I2 rx ry q => hr a b pins s2 σ H2 x y v u Q I2 rx ry q (hs _ _))
def rIxL (K : PySem.W.Frag) : R2 := fun x y H Q => ∃ p xs i v, x = .ref p ∧ y = .int i ∧ SqL K H p xs ∧ atI xs i = some v ∧ Q v H
def rIxT (K : PySem.W.Frag) : R2 := fun x y H Q => ∃ p xs i v, x = .ref p ∧ y = .int i ∧ SqT K H p xs ∧ atI xs i = some v ∧ Q v H
theorem ix_list : IxR X (rIxL X.K) := by
  intro value slice pins s σ H x y v u Q I rx ry h hs
  obtain ⟨p, xs, i, z, rfl, rfl, hq, he, q⟩ := h
  cases rx
  obtain ⟨t, rfl⟩ := ry
  obtain ⟨its, r, pl, hz⟩ := I.list hq
  obtain ⟨j, h1, h2, h3, h4, h5⟩ := atI_get he
  obtain ⟨w, ew, rw'⟩ := r.get h2
  have hl := r.length
  have hn := line63
  have fin : EP X pins σ Q w s := ⟨z, H, I, rw', q⟩
  by_cases h0 : 0 ≤ i
  · have hj : i.toNat = j := by
      rw [seqIndex_of h0 h5] at h1
      exact Option.some.inj h1
    exact item_listR pl.isList h0 (by omega) (by rw [hj]; simpa using ew) fin hs
  · have hj : (i + (its.toArray.size : Int)).toNat = j := by
      rw [seqIndex_neg (by omega) h4] at h1
      rw [List.size_toArray, ← hl]
      exact Option.some.inj h1
    exact subscriptTail_builtinR (x := w) pl.isList.typeIs slot_list_getitem.lookup
      (wpAny_getItem_list_neg (Q := fun r s' => r = w ∧ EP X pins σ Q r s') pl.isList (by omega) (by rw [List.size_toArray] <;> omega) (by omega) (by rw [hj]; simpa using ew) ⟨rfl, fin⟩) hs
theorem ix_tup : IxR X (rIxT X.K) := by
  intro value slice pins s σ H x y v u Q I rx ry h hs
  obtain ⟨p, xs, i, z, rfl, rfl, hq, he, q⟩ := h
  cases rx
  obtain ⟨t, rfl⟩ := ry
  obtain ⟨its, r, pl, hz⟩ := I.tuple hq
  obtain ⟨j, h1, h2, h3, h4, h5⟩ := atI_get he
  obtain ⟨w, ew, rw'⟩ := r.get h2
  have hl := r.length
  have hn := line63
  have fin : EP X pins σ Q w s := ⟨z, H, I, rw', q⟩
  exact subscriptTail_builtinR (x := w) pl.typeIs slot_tuple_getitem.lookup
    (getItem_tuple (j := j) (Q := fun r s' => r = w ∧ EP X pins σ Q r s') pl (by omega) (by omega) (by rw [List.size_toArray, ← hl]; exact h1) (by simpa using ew) ⟨rfl, fin⟩) hs
theorem slice_bounds (lo hi : Option Int) (n : Nat) : (sliceBounds lo hi none n).1 = ((HT.sIx n 0 lo : Nat) : Int) ∧ (sliceBounds lo hi none n).2.1 = ((HT.sIx n n hi : Nat) : Int) ∧ (sliceBounds lo hi none n).2.2 = 1 := by
  refine ⟨?_, ?_, rfl⟩
  · cases lo with
    | none => simp [sliceBounds, HT.sIx]
    | some i =>
      simp only [sliceBounds, HT.sIx, Option.getD_none, show (1 : Int) > 0 by decide, if_true]
      by_cases h : i < 0
      · simp only [h, if_true] <;> omega
      · simp only [h, if_false] <;> omega
  · cases hi with
    | none => simp [sliceBounds, HT.sIx]
    | some i =>
      simp only [sliceBounds, HT.sIx, Option.getD_none, show (1 : Int) > 0 by decide, if_true]
      by_cases h : i < 0
      · simp only [h, if_true] <;> omega
      · simp only [h, if_false] <;> omega
theorem slicePick_cut (its : List Value) (lo hi : Option Int) : slicePick its.toArray lo hi none = ((its.drop (HT.sIx its.length 0 lo)).take (HT.sIx its.length its.length hi - HT.sIx its.length 0 lo)).toArray := by
  obtain ⟨h1, h2, h3⟩ := slice_bounds lo hi its.toArray.size
  unfold slicePick
  rw [h1, h2, h3]
  simp only [sliceRange_one, pick_run, List.size_toArray] <;> rfl
/-- xs[lo:hi] of a list: a new list -/
def rSlL (K : PySem.W.Frag) : V → Option Int → Option Int → Hp → VK → Prop := fun x lo hi H Q => ∃ a xs, x = .ref a ∧ SqL K H a xs ∧ ∀ p, H p = none → Q (.ref p) (upd H p (.lst (cutV xs lo hi)))
theorem sl_list : SlR X (rSlL X.K) := by
  intro pins s σ H x v vl vu lo hi sl Q I rx hs pl pu h
  obtain ⟨a, xs, rfl, hx, q⟩ := h
  cases rx
  obtain ⟨its, r, ht, hz⟩ := I.list hx
  have hlen := r.length
  refine ⟨"list", _, slot_list_getitem.lookup, ht.isList.typeIs, ?_⟩
  refine wpAny_getItem_list_slice ht.isList hs pl pu .none (by simp) ?_ (by rw [List.size_toArray] <;> omega)
  rw [slicePick_cut, ← hlen]
  refine ⟨.ref s.heap.objs.size, _, I.laid (t' := s.toks) (o := .lst (cutV xs lo hi)) (fun b ob q => Heap.get?_push_of_some _ q) (Nat.le_refl _) ?_, rfl, q _ (I.hok.fresh (Nat.le_refl _))⟩
  exact ⟨Nat.le_trans (cutV_length xs lo hi) hz, _, 0, (r.drop (HT.sIx xs.length 0 lo)).take (HT.sIx xs.length xs.length hi - HT.sIx xs.length 0 lo), Heap.get?_push_size _ rfl⟩
theorem call_len_seq : CallR X (.builtin "len") (fun xs H Q => ∃ p ys, xs = [.ref p] ∧ (SqL X.K H p ys ∨ SqT X.K H p ys) ∧ Q (.int ys.length) H) := by
  intro pins s σ H xs us Q I r h
  obtain ⟨p, ys, rfl, hq, q⟩ := h
  obtain ⟨u, rfl, rx⟩ := vals1 r
  cases rx
  have hn := line63
  rcases hq with hq | hq
  · obtain ⟨its, r', pl, hz⟩ := I.list hq
    have hlen := r'.length
    exact Calls.call_len_list pl.isList (by simp only [List.size_toArray] <;> omega) ⟨.int ys.length, H, I.tok _, ⟨s.toks + 1, by rw [List.size_toArray, hlen]⟩, q⟩
  · obtain ⟨its, r', pl, hz⟩ := I.tuple hq
    have hlen := r'.length
    exact len_tuple pl (by simp only [List.size_toArray] <;> omega) ⟨.int ys.length, H, I.tok _, ⟨s.toks + 1, by rw [List.size_toArray, hlen]⟩, q⟩
/-- the value is of that builtin type -/
def tyV (K : PySem.W.Frag) (T : String) (x : V) (H : Hp) : Prop := match x with
  | .str _ => T = "str"
  | .int _ => T = "int"
  | .ref p => (T = "list" ∧ ∃ xs, SqL K H p xs) ∨ (T = "tuple" ∧ ∃ o, K.lookup p = some o ∧ o.cls = .type "tuple" ∧ o.dict = none) ∨
      (T = "dict" ∧ ((∃ kvs, H p = some (.dK kvs)) ∨ ∃ kvs, H p = some (.dT kvs))) ∨ (T = "set" ∧ ∃ S n, H p = some (.set S n))
  | _ => False
theorem tyV_is {pins : List (Addr × Obj)} {σ : St} {H : Hp} {s : Shared} {T : String} {x : V} {v : Value} (I : Inv X pins σ H s) (r : RelV x v) (ty : tyV X.K T x H) :
    s.TypeIs v T ∧ ∀ a, v = .ref a → ∃ ob, s.heap.get? a = some ob ∧ ob.dict = none := by
  cases x with
  | str z =>
    obtain ⟨t, rfl⟩ := r
    cases (show T = "str" from ty)
    exact ⟨typeIs_str s z t, fun _ e => nomatch e⟩
  | int i =>
    obtain ⟨t, rfl⟩ := r
    cases (show T = "int" from ty)
    exact ⟨typeIs_int s i t, fun _ e => nomatch e⟩
  | ref p =>
    cases r
    rcases ty with ⟨rfl, xs, hq⟩ | ⟨rfl, o, hk, hc, hd⟩ | ⟨rfl, hk⟩ | ⟨rfl, S, n, hk⟩
    · obtain ⟨its, _, pl, _⟩ := I.list hq
      refine ⟨pl.isList.typeIs, fun a e => ?_⟩
      cases e
      obtain ⟨o, n, e, c, hd, _⟩ := pl
      exact ⟨o, e, hd⟩
    · refine ⟨⟨o, I.kIn p o hk, hc⟩, fun a e => ?_⟩
      cases e
      exact ⟨o, I.kIn _ o hk, hd⟩
    · have z : ∃ o, s.heap.get? p = some o ∧ o.ExactDict := by
        rcases hk with ⟨kvs, hk⟩ | ⟨kvs, hk⟩
        · obtain ⟨_, _, _, _, o, _, _, e, ex, _⟩ := I.hok p _ hk
          exact ⟨o, e, ex⟩
        · obtain ⟨_, _, _, _, o, _, _, e, ex, _⟩ := I.hok p _ hk
          exact ⟨o, e, ex⟩
      obtain ⟨o, e, ex⟩ := z
      refine ⟨⟨o, e, ex.1⟩, fun a e2 => ?_⟩
      cases e2
      exact ⟨o, e, ex.2.1⟩
    · obtain ⟨o, _, _, _, e, ex, _⟩ := I.hok p _ hk
      refine ⟨⟨o, e, ex.1⟩, fun a e2 => ?_⟩
      cases e2
      exact ⟨o, e, ex.2.1⟩
  | _ => exact False.elim ty
def tBM0 (K : PySem.W.Frag) (T : String) (r : V → List V → Hp → VK → Prop) (to : TE) : TE := fun σ H Q => to σ H fun x H1 => tyV K T x H1 ∧ r x [] H1 Q
def tBM (K : PySem.W.Frag) (T : String) (r : V → List V → Hp → VK → Prop) (to : TE) (t : TA) : TE := fun σ H Q => to σ H fun x H1 => tyV K T x H1 ∧ t σ H1 fun xs H2 => r x xs H2 Q
variable {o e : Expr} {es : List Expr} {to : TE} {t : TA} {name : Str} {apos cpos : Pos} {T id : String} {r : V → List V → Hp → VK → Prop}
theorem pe_bm0 (pa : PlainAttrs T) (slot : Slot T name id) (hty : typeOf (.builtin id) = pure (.type "method_descriptor")) (hm : MtR X id r) (ho : PE X o to)
    (hbase : attributeBase o name X.env (eval o X.env) = eval o X.env := by rfl) (hline : (apos.endLine == cpos.line) = true := by rfl) : PE X (.Call (.Attribute o name apos) [] [] cpos) (tBM0 X.K T r to) := by
  intro pins s σ H Q I h
  refine wpAny_Call_method0_late hbase hline (thn (ho pins s σ H _ I h) fun v s1 ⟨x, H1, I1, r1, ty, q1⟩ => ?_)
  obtain ⟨h1, h2⟩ := tyV_is I1 r1 ty
  exact ⟨T, id, pa, slot, hty, h1, h2, Calls.callWith_builtin rfl (PySem.evalArgs_none (hm pins s1 σ H1 x [] v [] Q I1 r1 .nil q1))⟩
theorem pe_bm (pa : PlainAttrs T) (slot : Slot T name id) (hty : typeOf (.builtin id) = pure (.type "method_descriptor")) (hm : MtR X id r) (ho : PE X o to) (ha : PA X (e :: es) t)
    (hbase : attributeBase o name X.env (eval o X.env) = eval o X.env := by rfl)
    (hfew : ((backTo cpos (starEach (e :: es) X.env)).all (fun x => !x.1) && (backToKw cpos (keywordEach [] X.env)).all (fun x => x.1.isSome)
      && decide ((e :: es).length + ([] : List Keyword).length + (if ([] : List Keyword).isEmpty then 0 else 1) < 30)) = true := by rfl)
    (hline : (apos.endLine == cpos.line) = true := by rfl) (hs : starEach (e :: es) X.env = (false, eval e X.env) :: starEach es X.env := by rfl) (hplain : (backTo cpos (starEach es X.env)).any (·.1) = false := by rfl) :
    PE X (.Call (.Attribute o name apos) (e :: es) [] cpos) (tBM X.K T r to t) := by
  intro pins s σ H Q I h
  refine wpAny_Call_method_late hbase hfew hline rfl (thn (ho pins s σ H _ I h) fun v s1 ⟨x, H1, I1, r1, ty, q1⟩ => ?_)
  obtain ⟨h1, h2⟩ := tyV_is I1 r1 ty
  refine ⟨T, id, pa, slot, hty, h1, h2, ?_⟩
  have hA := ha cpos pins s1 σ H1 _ I1 q1
  rw [hs] at hA ⊢
  refine Calls.callWith_builtin (by show (false || (backTo cpos (starEach es X.env)).any (·.1)) = false; rw [hplain] <;> rfl) (Calls.evalArgs_plain ?_)
  exact thn hA fun us s2 ⟨vs, H2, I2, r2, q2⟩ => hm pins s2 σ H2 x vs v us Q I2 r1 r2 q2
/- xs.append(e), list.index on a module's tuple .. are MtR facts of 06m -/
end
end L2
namespace L2
open PySem PySem.Spec PyProof.Rows
def MtM (X : Cx) (id : String) (r : V → List V → Hp → VK → Prop) : Prop :=
  ∀ (pins : List (Addr × Obj)) (s : Shared) (σ : St) (H : Hp) (x : V) (xs : List V) (v : Value) (us : List Value) (Q : VK), Inv X pins σ H s → RelV x v → Vals xs us → r x xs H Q →
    wpAny (model X.prog X.w) X.A (call (.builtin id) (v :: us)) (EP X pins σ Q) X.xe s
theorem Vals.one : ∀ {x : V} {us : List Value}, Vals [x] us → ∃ u, us = [u] ∧ RelV x u
  | _, _, .cons r .nil => ⟨_, rfl, r⟩
theorem Vals.zero : ∀ {us : List Value}, Vals [] us → us = []
  | _, .nil => rfl
theorem Vals.dropLast {xs : List V} {us : List Value} (h : Vals xs us) : Vals xs.dropLast us.dropLast := by
  induction h with
  | nil => exact .nil
  | cons r t ih =>
    cases t with
    | nil => exact .nil
    | cons q t' => exact .cons r ih
theorem erase_last {α : Type} (l : List α) : l.eraseIdx (l.length - 1) = l.dropLast := by
  induction l with
  | nil => rfl
  | cons a r ih =>
    cases r with
    | nil => rfl
    | cons b r =>
      have e : (a :: b :: r).length - 1 = ((b :: r).length - 1) + 1 := by
        have h1 : (a :: b :: r).length = r.length + 2 := rfl
        have h2 : (b :: r).length = r.length + 1 := rfl
        omega
      rw [e, List.eraseIdx_cons_succ, ih]
      all_goals rfl
section
variable {X : Cx} {pins : List (Addr × Obj)} {σ : St} {H : Hp} {s : Shared} {l b : Addr} {xs ys zs : List V}
theorem Inv.lset {its its' : List Value} {n : Nat} {f : Array Value → Array Value} {t' : Nat} (I : Inv X pins σ H s) (hH : H l = some (.lst xs))
    (e : s.heap.get? l = some { cls := .type "list", data := .seq its.toArray n }) (hf : f its.toArray = its'.toArray) (hv : Vals ys its') (hz : ys.length ≤ sizeLine) :
    Inv X pins σ (upd H l (.lst ys)) { s with heap := s.heap.update l (Obj.mapSeq f), toks := t' } := by
  have q := PySem.IsL.update e f
  rw [hf] at q
  refine I.write (x := l) (e := l) (by rw [hH]; exact trivial) (.inl rfl) (fun b' u hb hu => (Heap.get?_update_other s.heap (Obj.mapSeq f) (Ne.symm hb)).trans hu) ⟨_, q⟩ ?_
  exact ⟨hz, its', _, hv, q⟩
theorem Inv.lnew {its : List Value} {t' : Nat} (I : Inv X pins σ H s) (hv : Vals ys its) (hz : ys.length ≤ sizeLine) :
    Inv X pins σ (upd H s.heap.objs.size (.lst ys)) { s with heap := s.heap.push { cls := .type "list", data := .seq its.toArray }, toks := t' } :=
  I.laid (fun _ _ q => Heap.get?_push_of_some _ q) (Nat.le_refl _) ⟨hz, its, 0, hv, Heap.get?_push_size _ rfl⟩
theorem Inv.fresh (I : Inv X pins σ H s) : H s.heap.objs.size = none := I.hok.fresh (Nat.le_refl _)
theorem Inv.lstM (I : Inv X pins σ H s) (hH : H l = some (.lst xs)) : xs.length ≤ sizeLine ∧ ∃ (its : List Value) (n : Nat), Vals xs its ∧ xs.length = its.length ∧ s.heap.get? l = some { cls := .type "list", data := .seq its.toArray n } := by
  obtain ⟨z, its, n, r, e⟩ := I.hok l _ hH
  exact ⟨z, its, n, r, r.length, e⟩
theorem notLongL {n : Nat} (h : n ≤ sizeLine) : Builtin.List.listTooLong n = false := by
  unfold Builtin.List.listTooLong
  exact decide_eq_false (by omega)
end
section
variable {X : Cx}
def rAppend : V → List V → Hp → VK → Prop := fun x vs H Q => ∃ l xs y, x = .ref l ∧ vs = [y] ∧ H l = some (.lst xs) ∧ xs.length < sizeLine ∧ Q .non (upd H l (.lst (xs ++ [y])))
theorem mt_append : MtM X "list.append" rAppend := by
  intro pins s σ H x vs v us Q I rx rv h
  obtain ⟨l, xs, y, rfl, rfl, hH, hz, q⟩ := h
  cases rx
  obtain ⟨u, rfl, ru⟩ := rv.one
  obtain ⟨z, its, n, r, hl, e⟩ := I.lstM hH
  refine call_meets F.slot_list_append ⟨_, e, rfl⟩ F.entry_list_append (F.args_list_append_2 _ _) (PySem.list_append l its.toArray n u (by rw [List.size_toArray]; omega)) ⟨e, ?_⟩
  refine ⟨.non, _, I.lset (its' := its ++ [u]) hH e (by simp) (r.append (.cons ru .nil)) ?_, rfl, q⟩
  rw [List.length_append, List.length_singleton]
  omega
def rExtend : V → List V → Hp → VK → Prop := fun x vs H Q => ∃ l b xs zs, x = .ref l ∧ vs = [.ref b] ∧ H l = some (.lst xs) ∧ H b = some (.lst zs) ∧ xs.length + zs.length ≤ sizeLine ∧ Q .non (upd H l (.lst (xs ++ zs)))
theorem mt_extend : MtM X "list.extend" rExtend := by
  intro pins s σ H x vs v us Q I rx rv h
  obtain ⟨l, b, xs, zs, rfl, rfl, hH, hB, hz, q⟩ := h
  cases rx
  obtain ⟨u, rfl, ru⟩ := rv.one
  cases ru
  obtain ⟨z, its, n, r, hl, e⟩ := I.lstM hH
  obtain ⟨z2, its2, n2, r2, hl2, e2⟩ := I.lstM hB
  have hsz : its.toArray.size + its2.toArray.size ≤ sizeLine := by rw [List.size_toArray, List.size_toArray]; omega
  have hlong : ¬ (!its.toArray.isEmpty && Builtin.List.listTooLong (its.toArray.size + its2.toArray.size)) = true := by
    rw [notLongL hsz, Bool.and_false]
    exact Bool.false_ne_true
  refine call_meets F.slot_list_extend ⟨_, e, rfl⟩ F.entry_list_extend (F.args_list_extend_2 _ _)
    (AutoSeq1.list_extend_list_list_0 l its.toArray n b its2.toArray n2 hlong (by rw [List.size_toArray]; omega) (by omega)) ⟨e, e2, ?_⟩
  refine ⟨.non, _, I.lset (its' := its ++ its2) hH e (by simp) (r.append r2) ?_, rfl, q⟩
  rw [List.length_append]
  omega
def rPop : V → List V → Hp → VK → Prop := fun x vs H Q => ∃ l xs y, x = .ref l ∧ vs = [] ∧ H l = some (.lst xs) ∧ xs[xs.length - 1]? = some y ∧ Q y (upd H l (.lst xs.dropLast))
theorem mt_pop : MtM X "list.pop" rPop := by
  intro pins s σ H x vs v us Q I rx rv h
  obtain ⟨l, xs, y, rfl, rfl, hH, hy, q⟩ := h
  cases rx
  have hus := rv.zero
  subst hus
  obtain ⟨z, its, n, r, hl, e⟩ := I.lstM hH
  obtain ⟨u, hu, ru⟩ := r.get hy
  have hy' : its.toArray[its.toArray.size - 1]? = some u := by
    show its.toArray[its.length - 1]? = some u
    rw [← Array.getElem?_toList, ← hl]
    exact hu
  refine call_meets F.slot_list_pop ⟨_, e, rfl⟩ F.entry_list_pop (F.args_list_pop_1 _) (MeetsSeq.list_pop_last l its.toArray n u hy' (by rw [List.size_toArray]; omega)) ⟨e, ?_⟩
  refine ⟨y, _, I.lset (its' := its.dropLast) hH e ?_ r.dropLast ?_, ru, q⟩
  · show its.toArray.eraseIdxIfInBounds (its.toArray.size - 1) = its.dropLast.toArray
    rw [List.size_toArray, List.eraseIdxIfInBounds_toArray, erase_last]
  · rw [List.length_dropLast]
    omega
def rCat : R2 := fun x y H Q => ∃ l b xs zs, x = .ref l ∧ y = .ref b ∧ H l = some (.lst xs) ∧ H b = some (.lst zs) ∧ xs.length + zs.length ≤ sizeLine ∧ ∀ p, H p = none → Q (.ref p) (upd H p (.lst (xs ++ zs)))
theorem op_cat : OpR X (binaryOp .Add) rCat := by
  intro pins s σ H x y v u Q I rx ry h
  obtain ⟨l, b, xs, zs, rfl, rfl, hH, hB, hz, q⟩ := h
  cases rx
  cases ry
  obtain ⟨z, its, n, r, hl, e⟩ := I.lstM hH
  obtain ⟨z2, its2, n2, r2, hl2, e2⟩ := I.lstM hB
  refine PySem.P.add_list e e2 ?_ (by rw [List.size_toArray, List.size_toArray]; omega)
  have ea : its.toArray ++ its2.toArray = (its ++ its2).toArray := by simp
  rw [ea]
  exact ⟨.ref _, _, I.lnew (t' := s.toks) (r.append r2) (by rw [List.length_append]; omega), rfl, q _ I.fresh⟩
end
section
variable {prog : Program} {w : World} {A : Around} {E : Value → Shared → Prop} {s : Shared}
end
section
variable {X : Cx}
end
end L2
namespace L2
open PySem PySem.Spec PyProof.Rows
theorem Vals.ints : ∀ {ns : List Int} {us : List Value}, Vals (ns.map V.int) us → IntsAre us ns
  | [], us, h => by
    rw [List.map_nil] at h
    cases h
    exact IntsAre.nil
  | n :: ns, us, h => by
    rw [List.map_cons] at h
    cases h with
    | cons r t =>
      obtain ⟨k, rfl⟩ := r
      exact IntsAre.cons n k (Vals.ints t)
theorem vals_of_ints : ∀ {us : List Value} {ns : List Int}, IntsAre us ns → Vals (ns.map V.int) us
  | _, _, .nil => by rw [List.map_nil]; exact Paired.nil
  | _, _, .cons n t h => by rw [List.map_cons]; exact Paired.cons (show RelV (V.int n) (Value.int n t) from ⟨t, rfl⟩) (vals_of_ints h)
theorem Vals.ref1 {a : Addr} {us : List Value} (r : Vals [V.ref a] us) : us = [Value.ref a] := by
  cases r with
  | cons r t =>
    cases t
    cases r
    rfl
section
variable {prog : Program} {w : World} {A : Around} {E : Value → Shared → Prop} {s : Shared} {l : Addr} {its : List Value} {ns : List Int} {Q : Value → Shared → Prop}
theorem sum_raw (hh : A.handled = none) (hl : s.heap.IsList l its.toArray) (hi : IntsAre its ns)
    (h : ∀ h' tk t', (∀ b o, s.heap.get? b = some o → h'.get? b = some o) → Q (.int ns.sum t') { s with heap := h', toks := tk }) : wpAny (model prog w) A (call (.builtin "sum") [.ref l]) Q E s := by
  obtain ⟨xs, e⟩ := hi.allInts.items
  have hn : numsOf (intItems xs).toList = ns := by rw [← e]; exact hi.numsOf
  rw [nums_intItems] at hn
  rw [e] at hl
  refine PySem.sum_intListG hh hl fun h' tk t' hk => ?_
  have := h h' tk t' hk
  rw [preSum_eq, List.take_of_length_le (by simp), hn]; exact this
end
section
variable {X : Cx}
/-- sum(xs) of a list of ints -/
def rSum (K : PySem.W.Frag) : List V → Hp → VK → Prop := fun vs H Q => ∃ (a : Addr) (ns : List Int), vs = [V.ref a] ∧ SqL K H a (ns.map V.int) ∧ Q (.int ns.sum) H
theorem cr_sum (hc : X.calm = true) : CallR X (.builtin "sum") (rSum X.K) := by
  intro pins s σ H vs us Q I r h
  obtain ⟨a, ns, rfl, hs, q⟩ := h
  obtain ⟨its, rv, hl, _⟩ := I.list hs
  rw [Vals.ref1 r]
  exact sum_raw (I.ok.hd hc) hl.isList rv.ints fun h' tk t' hk => ⟨.int _, H, I.kept hk, ⟨_, rfl⟩, q⟩
theorem small64 {n : Nat} (h : n < 64) : n ≤ sizeLine := by rw [sizeLine_eq]; omega
end
section
variable {X : Cx}
end
section
variable {X : Cx}
end
section
variable {X : Cx}
end
section
variable {X : Cx} {pins : List (Addr × Obj)} {σ : St} {H : Hp} {s : Shared}
end
section
variable {X : Cx}
end
end L2
namespace L2
open PySem PySem.Spec PyProof.Rows
abbrev CellAt (h : Heap) (c : Addr) (v : Option Value) : Prop := h.IsCell c v
def relS (scope sc : Scope) : Scope :=
  { scope with names := scope.names.map fun (n, k) => if (k == .free && sc.kind == .function && sc.names.lookup n == some .cell) then (n, .cell) else (n, k) }
def cloFrom (cells : List (Str × Addr)) : List (Str × NameKind) → List (Str × Addr) → List (Str × Addr)
  | [], acc => acc
  | (n, k) :: r, acc => if k == .free then cloFrom cells r ((n, (cells.lookup n).getD 0) :: acc) else cloFrom cells r acc
theorem closure_loop (env : Env) (f : Str × NameKind → List (Str × Addr) → Sem (ForInStep (List (Str × Addr))))
    (hf : ∀ n k c, f (n, k) c = if k == .free then (do let a ← cellOf env n; pure (.yield ((n, a) :: c))) else pure (.yield c)) :
    ∀ (names : List (Str × NameKind)) (acc : List (Str × Addr)), (∀ y ∈ names, y.2 = .free → ∃ c, env.cells.lookup y.1 = some c) → forIn names acc f = pure (cloFrom env.cells names acc)
  | [], acc, _ => by rw [List.forIn_nil]; rfl
  | (n, k) :: r, acc, h => by
    rw [List.forIn_cons, hf]
    have ih := fun acc => closure_loop env f hf r acc fun y hy => h y (List.mem_cons_of_mem _ hy)
    unfold cloFrom
    by_cases hk : (k == NameKind.free) = true
    · rw [if_pos hk, if_pos hk]
      obtain ⟨c, hc⟩ := h (n, k) List.mem_cons_self (by simpa using hk)
      have e : cellOf env n = pure c := by unfold cellOf; rw [hc]
      rw [e]
      have e2 : (env.cells.lookup n).getD 0 = c := by rw [hc]; rfl
      rw [e2]
      exact ih _
    · rw [if_neg hk, if_neg hk]
      exact ih _
theorem closure_ok {scope : Scope} {env : Env} (h : ∀ y ∈ scope.names, y.2 = .free → ∃ c, env.cells.lookup y.1 = some c) : closureFor scope env = pure (cloFrom env.cells scope.names []) := by
  simp only [closureFor]
  rw [closure_loop env _ (fun n k c => rfl) scope.names [] h]
  rfl
theorem mem_lookup {α : Type} : ∀ {l : List (Str × α)} {n : Str} {c : α}, (n, c) ∈ l → ∃ c', l.lookup n = some c'
  | (k, v) :: r, n, c, h => by
    rw [List.lookup_cons]
    cases hb : n == k with
    | true => exact ⟨_, rfl⟩
    | false =>
      rcases List.mem_cons.mp h with e | h
      · cases e; simp at hb
      · exact mem_lookup h
theorem cloFrom_mem {cells : List (Str × Addr)} : ∀ {names : List (Str × NameKind)} {acc : List (Str × Addr)} {n : Str} {c : Addr}, (n, c) ∈ cloFrom cells names acc → (n, c) ∈ acc ∨ ((n, .free) ∈ names ∧ c = (cells.lookup n).getD 0)
  | [], _, _, _, h => .inl h
  | (m, k) :: r, acc, n, c, h => by
    unfold cloFrom at h
    split at h
    · rename_i hk
      have hk : k = .free := by simpa using hk
      rcases cloFrom_mem h with h | ⟨h1, h2⟩
      · rcases List.mem_cons.mp h with e | h
        · cases e; exact .inr ⟨hk ▸ List.mem_cons_self, rfl⟩
        · exact .inl h
      · exact .inr ⟨List.mem_cons_of_mem _ h1, h2⟩
    · rcases cloFrom_mem h with h | ⟨h1, h2⟩
      · exact .inl h
      · exact .inr ⟨List.mem_cons_of_mem _ h1, h2⟩
theorem cloFrom_acc {cells : List (Str × Addr)} : ∀ {names : List (Str × NameKind)} {acc : List (Str × Addr)} {p : Str × Addr}, p ∈ acc → p ∈ cloFrom cells names acc
  | [], _, _, h => h
  | (m, k) :: r, acc, p, h => by
    unfold cloFrom
    split
    · exact cloFrom_acc (List.mem_cons_of_mem _ h)
    · exact cloFrom_acc h
theorem cloFrom_has {cells : List (Str × Addr)} : ∀ {names : List (Str × NameKind)} {acc : List (Str × Addr)} {n : Str}, (n, .free) ∈ names → (n, (cells.lookup n).getD 0) ∈ cloFrom cells names acc
  | (m, k) :: r, acc, n, h => by
    unfold cloFrom
    rcases List.mem_cons.mp h with e | h
    · cases e
      exact cloFrom_acc List.mem_cons_self
    · split
      · exact cloFrom_has h
      · exact cloFrom_has h
theorem cells_mem : ∀ {names : List (Str × NameKind)} {h : Heap} {acc : List (Str × Addr)} {x : Str} {c : Addr}, (x, c) ∈ cellsFrom h.objs.size names acc →
    (x, c) ∈ acc ∨ ((x, .cell) ∈ names ∧ h.objs.size ≤ c ∧ CellAt (pushCells h names) c none)
  | [], _, _, _, _, h => .inl h
  | (n, k) :: r, h, acc, x, c, hm => by
    unfold cellsFrom at hm
    unfold pushCells
    split at hm
    · rename_i hk
      rw [if_pos hk]
      have hk : k = .cell := by simpa using hk
      rw [← Heap.size_push h { cls := .type "cell", data := .cell none }] at hm
      rcases cells_mem hm with hm | ⟨h1, h2, h3⟩
      · rcases List.mem_cons.mp hm with e | hm
        · cases e
          exact .inr ⟨hk ▸ List.mem_cons_self, Nat.le_refl _, _, pushCells_keeps r _ _ _ (Heap.get?_push_size _ rfl), rfl⟩
        · exact .inl hm
      · rw [Heap.size_push] at h2
        exact .inr ⟨List.mem_cons_of_mem _ h1, Nat.le_of_succ_le h2, h3⟩
    · rename_i hk
      rw [if_neg hk]
      rcases cells_mem hm with hm | ⟨h1, h2, h3⟩
      · exact .inl hm
      · exact .inr ⟨List.mem_cons_of_mem _ h1, h2, h3⟩
theorem cells_acc : ∀ {names : List (Str × NameKind)} {n : Nat} {acc : List (Str × Addr)} {p : Str × Addr}, p ∈ acc → p ∈ cellsFrom n names acc
  | [], _, _, _, h => h
  | (m, k) :: r, n, acc, p, h => by
    unfold cellsFrom
    split
    · exact cells_acc (List.mem_cons_of_mem _ h)
    · exact cells_acc h
theorem cells_has : ∀ {names : List (Str × NameKind)} {n : Nat} {acc : List (Str × Addr)} {x : Str}, (x, .cell) ∈ names → ∃ c, (x, c) ∈ cellsFrom n names acc
  | (m, k) :: r, n, acc, x, h => by
    unfold cellsFrom
    rcases List.mem_cons.mp h with e | h
    · cases e
      exact ⟨n, cells_acc List.mem_cons_self⟩
    · split
      · exact cells_has h
      · exact cells_has h
theorem cells_inj : ∀ {names : List (Str × NameKind)} {h : Heap} {acc : List (Str × Addr)} {x y : Str} {c : Addr}, (∀ p ∈ acc, p.2 < h.objs.size) → (∀ x y c, (x, c) ∈ acc → (y, c) ∈ acc → x = y) →
    (x, c) ∈ cellsFrom h.objs.size names acc → (y, c) ∈ cellsFrom h.objs.size names acc → x = y
  | [], _, _, _, _, _, _, hi, h1, h2 => hi _ _ _ h1 h2
  | (n, k) :: r, h, acc, x, y, c, hl, hi, h1, h2 => by
    unfold cellsFrom at h1 h2
    split at h1
    · rename_i hk
      rw [if_pos hk] at h2
      rw [← Heap.size_push h { cls := .type "cell", data := .cell none }] at h1 h2
      refine cells_inj (h := h.push _) (fun p hp => ?_) (fun x y c a b => ?_) h1 h2
      · rw [Heap.size_push]
        rcases List.mem_cons.mp hp with rfl | hp
        · exact Nat.lt_succ_self _
        · exact Nat.lt_succ_of_lt (hl p hp)
      · rcases List.mem_cons.mp a with e | a <;> rcases List.mem_cons.mp b with e' | b
        · cases e; cases e'; rfl
        · cases e; exact absurd (hl _ b) (Nat.lt_irrefl _)
        · cases e'; exact absurd (hl _ a) (Nat.lt_irrefl _)
        · exact hi _ _ _ a b
    · rename_i hk
      rw [if_neg hk] at h2
      exact cells_inj hl hi h1 h2
theorem newEnv_comp {M : Model} {A : Around} {E : Value → Shared → Prop} {s : Shared} {scope : Scope} {globals : Addr} {closure : List (Str × Addr)} {qual : Str} {func : Option Addr} {code : Value} {around : Env} {builtins : Addr} {Q : Env → Shared → Prop}
    (h : Q (newEnv scope s.heap.objs.size globals (cellsFrom (s.heap.objs.size + 1) scope.names closure) qual func code (some around) builtins)
      { s with heap := pushCells (s.heap.push { cls := .type "dict", data := .dict #[] }) scope.names }) :
    wpAny M A (newFunctionEnv scope globals closure [] qual func code (some around) builtins) Q E s := by
  simp only [newFunctionEnv, Option.isSome_some, if_true]
  refine wpAny_bind (wpAny_alloc ?_)
  refine wpAny_bind (wpAny_layCells _ (fun n k c => rfl) scope.names closure _ _ ?_)
  rw [show ({ s with heap := s.heap.push { cls := .type "dict", data := .dict #[] } } : Shared).heap.objs.size = s.heap.objs.size + 1 from Heap.size_push ..]
  rw [List.forIn_nil]
  exact wpAny_bind (wpAny_pure (wpAny_pure h))
/-- every name of the written scope, in the scope that runs -/
theorem lookup_relS {sc : Scope} : ∀ {names : List (Str × NameKind)} {x : Str} {k : NameKind},
    (names.map fun (n, k) => if (k == NameKind.free && sc.kind == .function && sc.names.lookup n == some .cell) then (n, NameKind.cell) else (n, k)).lookup x = some k →
    ∃ k', names.lookup x = some k' ∧ (k = k' ∨ (k' = .free ∧ k = .cell))
  | [], _, _, h => by simp at h
  | (n, k₀) :: r, x, k, h => by
    have ih := @lookup_relS sc r x k
    have h' : List.lookup x ((if (k₀ == NameKind.free && sc.kind == .function && sc.names.lookup n == some .cell) = true then (n, NameKind.cell) else (n, k₀)) :: (r.map _)) = some k := h
    cases hx : x == n with
    | true =>
      simp only [List.lookup_cons, hx]
      by_cases hc : (k₀ == NameKind.free && sc.kind == .function && sc.names.lookup n == some .cell) = true
      · rw [if_pos hc] at h'
        simp only [List.lookup_cons, hx] at h'
        cases h'
        simp only [Bool.and_eq_true, beq_iff_eq] at hc
        exact ⟨k₀, rfl, .inr ⟨hc.1.1, rfl⟩⟩
      · rw [if_neg hc] at h'
        simp only [List.lookup_cons, hx] at h'
        cases h'
        exact ⟨_, rfl, .inl rfl⟩
    | false =>
      simp only [List.lookup_cons, hx]
      by_cases hc : (k₀ == NameKind.free && sc.kind == .function && sc.names.lookup n == some .cell) = true
      · rw [if_pos hc] at h'
        simp only [List.lookup_cons, hx] at h'
        exact ih h'
      · rw [if_neg hc] at h'
        simp only [List.lookup_cons, hx] at h'
        exact ih h'
/-- the names of a comprehension's block: its own (with their places in N), or captured -/
structure BlkOk (N : List Str) (sc scope : Scope) (own : List (Str × Nat)) : Prop where
  kind : scope.kind = .function
  uniq : ∀ y ∈ scope.names, scope.names.lookup y.1 = some y.2
  ix : ∀ p ∈ own, N[p.2]? = some p.1
  free : ∀ y ∈ scope.names, y.2 = .free → sc.names.lookup y.1 = some .cell ∨ sc.names.lookup y.1 = some .free
  own : ∀ y ∈ scope.names, y.2 = .local ∨ y.2 = .cell → y.1 ∈ own.map (·.1) ∨ y.1 ∉ N
/-- the slots of the block's own names forgotten -/
def wipe (σ : St) : List Nat → St
  | [] => σ
  | v :: vs => (wipe σ vs).set v none
theorem wipe_length (σ : St) : ∀ vs : List Nat, (wipe σ vs).length = σ.length
  | [] => rfl
  | v :: vs => by unfold wipe; rw [List.length_set, wipe_length σ vs]
theorem wipe_some {σ : St} {i : Nat} {x : V} : ∀ {vs : List Nat}, (wipe σ vs)[i]? = some (some x) → σ[i]? = some (some x) ∧ i ∉ vs
  | [], h => ⟨h, by simp⟩
  | v :: vs, h => by
    unfold wipe at h
    by_cases hi : v = i
    · subst hi
      by_cases hv : v < (wipe σ vs).length
      · rw [List.getElem?_set_self hv] at h; cases h
      · rw [List.getElem?_eq_none (by simpa using hv)] at h; cases h
    · rw [List.getElem?_set_ne hi] at h
      obtain ⟨h1, h2⟩ := wipe_some h
      exact ⟨h1, by simp only [List.mem_cons, not_or]; exact ⟨fun e => hi e.symm, h2⟩⟩
/-- the context of a block that starts at s, its iterator's objects at fp -/
abbrev Cx.blk (X : Cx) (s : Shared) (H : Hp) (scope : Scope) (cenv : Env) (fp : List Addr) : Cx := { X with s_0 := s, H_0 := H, env := cenv, outer := X.stack, ex := fp, fn := fun x => scope.names.lookup x == some .cell, pn := [], xe := fun _ _ => False }
section
variable {X : Cx} {pins : List (Addr × Obj)} {σ : St} {H : Hp} {s : Shared}
theorem block_start {scope : Scope} {own : List (Str × Nat)} {fp : List Addr} (I : Inv X pins σ H s) (ok : BlkOk X.N X.env.scope scope own) (hN : X.N.Nodup) (hfp : ∀ b ∈ fp, FpOk X pins H b ∧ b < s.heap.objs.size) :
    Inv (X.blk s H scope (compEnvC scope (cellsFrom (s.heap.objs.size + 1) scope.names (cloFrom X.env.cells scope.names [])) s.heap.objs.size X.env) fp) [] (wipe σ (own.map (·.2))) H { s with heap := pushCells (s.heap.push { cls := .type "dict", data := .dict #[] }) scope.names } := by
  have hfree : ∀ y ∈ scope.names, y.2 = .free → ∃ c, X.env.cells.lookup y.1 = some c := fun y hy e => by
    rcases ok.free y hy e with k | k
    · exact I.ok.has _ (.inl k)
    · exact I.ok.has _ (.inr k)
  generalize hcenv : compEnvC scope (cellsFrom (s.heap.objs.size + 1) scope.names (cloFrom X.env.cells scope.names [])) s.heap.objs.size X.env = cenv
  have kp : ∀ b o, s.heap.get? b = some o → (pushCells (s.heap.push { cls := .type "dict", data := .dict #[] }) scope.names).get? b = some o := fun b o e => pushCells_keeps _ _ _ _ (Heap.get?_push_of_some _ e)
  have hL : cenv.locals = s.heap.objs.size := by rw [← hcenv]; rfl
  have hcl : cenv.cells = cellsFrom (s.heap.objs.size + 1) scope.names (cloFrom X.env.cells scope.names []) := by rw [← hcenv]; rfl
  have hsc : cenv.scope = relS scope X.env.scope := by rw [← hcenv]; rfl
  rw [← Heap.size_push s.heap { cls := .type "dict", data := .dict #[] }] at hcl
  have cm : ∀ {y c}, (y, c) ∈ cloFrom X.env.cells scope.names [] → X.env.cells.lookup y = some c ∧ c < s.heap.objs.size := fun {y c} hm => by
    rcases cloFrom_mem hm with hm | ⟨h1, rfl⟩
    · cases hm
    · obtain ⟨c, hc⟩ := hfree _ h1 rfl
      rw [hc]
      obtain ⟨w, z⟩ := I.cell _ _ hc
      exact ⟨rfl, z.lt⟩
  have mem : ∀ {y c}, cenv.cells.lookup y = some c → (X.env.cells.lookup y = some c ∧ c < s.heap.objs.size) ∨ (s.heap.objs.size + 1 ≤ c ∧ CellAt (pushCells (s.heap.push { cls := .type "dict", data := .dict #[] }) scope.names) c none) := fun {y c} e => by
    rw [hcl] at e
    rcases cells_mem (PySem.mem_of_lookup e) with hm | ⟨_, h2, h3⟩
    · exact .inl (cm hm)
    · rw [Heap.size_push] at h2; exact .inr ⟨h2, h3⟩
  have look : ∀ {y}, scope.names.lookup y = some .free → ∃ c, cenv.cells.lookup y = some c ∧ X.env.cells.lookup y = some c := fun {y} hl => by
    have hy : (y, NameKind.free) ∈ scope.names := PySem.mem_of_lookup hl
    obtain ⟨c', e'⟩ := mem_lookup (cells_acc (names := scope.names) (n := (s.heap.push { cls := .type "dict", data := .dict #[] }).objs.size) (cloFrom_has (cells := X.env.cells) (acc := []) hy))
    rw [← hcl] at e'
    refine ⟨c', e', ?_⟩
    rw [hcl] at e'
    rcases cells_mem (PySem.mem_of_lookup e') with hm | ⟨h1, _, _⟩
    · exact (cm hm).1
    · have := ok.uniq _ h1
      rw [hl] at this; cases this
  have okB : (X.blk s H scope cenv fp).Ok := by
    refine ⟨I.ok.mod, by show cenv.scope.kind = _; rw [hsc]; exact ok.kind, by show cenv.globals = _; rw [← hcenv]; exact I.ok.glob, by show cenv.builtins = _; rw [← hcenv]; exact I.ok.blt, by show s.heap.objs.size ≤ cenv.locals; rw [hL]; exact Nat.le_refl _,
      fun y z c e1 e2 => ?_, fun y hy => ?_, fun y c z e => ?_, I.ok.hd, I.ok.frames, .inl rfl, fun b hb => ⟨?_, fun y c e z => ?_⟩, I.bs, Nat.le_trans I.ok.bsz I.sz, fun b o e hb => ?_, fun b hb z => ?_, I.stack, I.stkFree⟩
    · have e1 : cenv.cells.lookup y = some c := e1
      have e2 : cenv.cells.lookup z = some c := e2
      rw [hcl] at e1 e2
      refine cells_inj (fun p hp => ?_) (fun y z c a b => I.ok.inj y z c (cm a).1 (cm b).1) (PySem.mem_of_lookup e1) (PySem.mem_of_lookup e2)
      rw [Heap.size_push]
      exact Nat.lt_succ_of_lt (cm (y := p.1) (c := p.2) hp).2
    · show ∃ c, cenv.cells.lookup y = some c
      have key : ∀ k, cenv.kindOf y = some k → (k = .cell ∨ k = .free) → ∃ c, cenv.cells.lookup y = some c := fun k hk hk' => by
        unfold Env.kindOf at hk
        rw [hsc] at hk
        obtain ⟨k', e, r⟩ := lookup_relS hk
        have : k' = .cell ∨ k' = .free := by
          rcases r with rfl | ⟨rfl, _⟩
          · exact hk'
          · exact .inr rfl
        rcases this with rfl | rfl
        · obtain ⟨c, hm⟩ := cells_has (n := (s.heap.push { cls := .type "dict", data := .dict #[] }).objs.size) (acc := cloFrom X.env.cells scope.names []) (PySem.mem_of_lookup e)
          obtain ⟨c', e'⟩ := mem_lookup hm
          exact ⟨c', by rw [hcl]; exact e'⟩
        · obtain ⟨c, h1, _⟩ := look e
          exact ⟨c, h1⟩
      rcases hy with hy | hy
      · exact key _ hy (.inl rfl)
      · exact key _ hy (.inr rfl)
    · have z : (scope.names.lookup y == some NameKind.cell) = true := z
      have z : scope.names.lookup y = some .cell := by simpa using z
      have e : cenv.cells.lookup y = some c := e
      rw [hcl] at e
      rcases cells_mem (PySem.mem_of_lookup e) with hm | ⟨_, h2, _⟩
      · rcases cloFrom_mem hm with hm | ⟨h1, _⟩
        · cases hm
        · have q := ok.uniq _ h1
          rw [z] at q; cases q
      · rw [Heap.size_push] at h2
        exact Nat.le_of_succ_le h2
    · show b ≠ cenv.locals
      rw [hL]; exact Nat.ne_of_lt (hfp b hb).2
    · have e : cenv.cells.lookup y = some c := e
      rcases mem e with ⟨h1, _⟩ | ⟨h1, _⟩
      · exact (hfp b hb).1.2.2.2.2.1 y c h1 z
      · have h2 : s.heap.objs.size + 1 ≤ b := by rw [← z]; exact h1
        exact absurd (Nat.lt_of_lt_of_le (hfp b hb).2 (Nat.le_of_succ_le h2)) (Nat.lt_irrefl _)
    · rcases (hfp b hb).1.2.2.2.1 with z | z
      · exact I.ok.noex b o e z
      · exact absurd (Nat.lt_of_lt_of_le (Heap.lt_size e) (Nat.le_trans I.ok.bsz z)) (Nat.lt_irrefl _)
    · rcases List.mem_cons.mp (I.stkSub b z) with z | z
      · exact (hfp b hb).1.2.1 z
      · exact (hfp b hb).1.2.2.1 z
  refine ⟨okB, rfl, I.bare, Un.kept kp, ⟨fun _ => none, ?_, fun i y av e1 e2 e3 => ?_⟩, fun y c e => ?_, ?_, fun y c e => ?_, fun p hp => ?_, I.hok.kept kp, by rw [wipe_length]; exact I.len⟩
  · show Heap.Ns _ cenv.locals _
    rw [hL]
    exact Heap.Ns.keeps (Heap.Ns.new ..) fun b o e => pushCells_keeps _ _ _ _ e
  · obtain ⟨e2, hne⟩ := wipe_some e2
    have hfr : scope.names.lookup y = some .free ∧ (cenv.kindOf y = some .cell ∨ cenv.kindOf y = some .free) := by
      have key : ∀ k, cenv.scope.names.lookup y = some k → k = .local ∨ k = .cell ∨ k = .free → scope.names.lookup y = some .free ∧ (cenv.kindOf y = some .cell ∨ cenv.kindOf y = some .free) := fun k hk hk' => by
        have hk0 := hk
        rw [hsc] at hk
        obtain ⟨k', e, r⟩ := lookup_relS hk
        have no : ¬ (k' = .local ∨ k' = .cell) := fun hh => by
          rcases ok.own _ (PySem.mem_of_lookup e) hh with e' | e'
          · obtain ⟨p, hp, hpy⟩ := List.mem_map.mp e'
            have e3 := ok.ix p hp
            have : p.1 = y := hpy
            rw [this] at e3
            exact hne (List.mem_map.mpr ⟨p, hp, nodup_ix hN e3 e1⟩)
          · exact e' (List.mem_of_getElem? e1)
        rcases r with rfl | ⟨rfl, rfl⟩
        · rcases hk' with rfl | rfl | rfl
          · exact absurd (.inl rfl) no
          · exact absurd (.inr rfl) no
          · exact ⟨e, .inr hk0⟩
        · exact ⟨e, .inl hk0⟩
      have e3 : Vis cenv.scope y := e3
      rcases e3 with e3 | e3 | e3
      · exact key _ e3 (.inl rfl)
      · exact key _ e3 (.inr (.inl rfl))
      · exact key _ e3 (.inr (.inr rfl))
    obtain ⟨m, hn, hl⟩ := I.loc
    have hvis : Vis X.env.scope y := (ok.free _ (PySem.mem_of_lookup hfr.1) rfl).elim (fun k => .inr (.inl k)) (fun k => .inr (.inr k))
    obtain ⟨w, r, q⟩ := hl i y av e1 e2 hvis
    refine ⟨w, r, .inr ⟨hfr.2, ?_⟩⟩
    obtain ⟨c, h1, h2⟩ := look hfr.1
    rcases q with ⟨k, _⟩ | ⟨_, c', e', z⟩
    · have k : X.env.scope.names.lookup y = some .local := k
      rcases ok.free _ (PySem.mem_of_lookup hfr.1) rfl with k' | k' <;> rw [show X.env.scope.names.lookup y = _ from k'] at k <;> cases k
    · rw [h2] at e'; cases e'
      exact ⟨c, h1, z.keeps kp⟩
  · have e : cenv.cells.lookup y = some c := e
    rcases mem e with ⟨h1, _⟩ | ⟨_, z⟩
    · obtain ⟨w, z⟩ := I.cell y c h1
      exact ⟨w, z.keeps kp⟩
    · exact ⟨_, z⟩
  · show H cenv.locals = none
    rw [hL]; exact I.hok.fresh (Nat.le_refl _)
  · have e : cenv.cells.lookup y = some c := e
    rcases mem e with ⟨h1, _⟩ | ⟨h1, _⟩
    · exact I.freeC y c h1
    · exact I.hok.fresh (Nat.le_of_succ_le h1)
  · exact absurd (show p ∈ ([] : List (Addr × Obj)) ++ [] from hp) (by simp)
/-- an item appended to a tracked list -/
theorem app_ok {E : Value → Shared → Prop} {D : Addr} {xs : List V} {y : V} {v : Value} {Q : Value → Shared → Prop} (I : Inv X pins σ H s) (hD : H D = some (.lst xs)) (hz : xs.length < sizeLine) (r : RelV y v)
    (h : ∀ s', Inv X pins σ (upd H D (.lst (xs ++ [y]))) s' → Q .none s') : wpAny (model X.prog X.w) X.A (call (.builtin "list.append") [.ref D, v]) Q E s := by
  obtain ⟨hz', its, n, ri, e⟩ := I.hok D _ hD
  have hl := ri.length
  refine append_at (hsz := by rw [List.size_toArray]; omega) e fun h' sb ho' => ?_
  refine h { s with heap := h' } (I.write (t' := s.toks) (by rw [hD]; trivial) (.inl rfl) (fun b u hb q => (sb.2 b hb).trans q) ⟨_, ho'⟩ ⟨by rw [List.length_append]; exact hz, its ++ [v], n + 1, ri.append (.cons r .nil), ?_⟩)
  rw [ho']
  simp
/-- a clause's tests -/
def PTs (X : Cx) (ifs : List Expr) (t : TT) : Prop :=
  ∀ (pins : List (Addr × Obj)) (s : Shared) (σ : St) (H : Hp) (Q : Bool → Hp → Prop), Inv X pins σ H s → t σ H Q →
    wpAny (model X.prog X.w) X.A (forIn ifs true fun c r => if r = true then do let ok ← isTrue c X.env (eval c X.env); pure (ForInStep.yield ok) else pure (ForInStep.yield r)) (TP X pins σ Q) X.xe s
def tYes : TT := fun _ H Q => Q true H
theorem pts_nil : PTs X [] tYes := fun _ _ _ H _ I h => wpAny_tests_nil ⟨H, I, h⟩
theorem pts_one {c : Expr} {t : TT} (h : PT X c t) : PTs X [c] t := fun pins s σ H Q I hw => wpAny_tests_one (h pins s σ H Q I hw)
end
theorem thnF {α : Type} {t : Sem α} {Q Q' : α → Shared → Prop} {M : Model} {A : Around} {E : Value → Shared → Prop} {s : Shared} (h : wpAny M A t Q (fun _ _ => False) s) (hQ : ∀ a s, Q a s → Q' a s) : wpAny M A t Q' E s := wpAny_mono h hQ fun _ _ z => False.elim z
/-- the loop of a list comprehension's block, the target of any form (codeAny_compLoop_tests asks a target that no tuple goes to; statement and proof follow it, PyProof/CompMap.lean:41-61, with the step letOwnedTupleGo kept) -/
theorem compLoop_any {prog : Program} {w : World} {A : Around} {R : Result → Shared → Prop} {s : Shared} {elt target iter : Expr} {ifs : List Expr} {scope : Scope} {pos : Pos} {it acc : Value} {env : Env} (I : Nat → Shared → Prop)
    (turn : ∀ n s, I n s → wpAny (model prog w) A (pyNext it) (fun r s₁ => match r with
      | none => R (.ok .next) s₁
      | some v => wpAny (model prog w) A (letOwnedTupleGo target it v) (fun _ s₁' => wpAny (model prog w) A (assign target env v) (fun _ s₂ =>
          wpAny (model prog w) A (forIn ifs true fun c r => if r = true then do let ok ← isTrue c env (eval c env); pure (ForInStep.yield ok) else pure (ForInStep.yield r)) (fun ok s₃ =>
            if ok = true then wpAny (model prog w) A (eval elt env) (fun x s₄ =>
              wpAny (model prog w) A (call (.builtin "list.append") [acc, x]) (fun _ s₅ => ∃ m, m < n ∧ I m s₅) (notedBy (model prog w) A env fun e s' => R (.error e) s') s₄) (notedBy (model prog w) A env fun e s' => R (.error e) s') s₃
            else ∃ m, m < n ∧ I m s₃) (notedBy (model prog w) A env fun e s' => R (.error e) s') s₂) (notedBy (model prog w) A env fun e s' => R (.error e) s') s₁') (notedBy (model prog w) A env fun e s' => R (.error e) s') s₁) (notedBy (model prog w) A env fun e s' => R (.error e) s') s)
    (n : Nat) (h : I n s) :
    codeAny (model prog w) A (.compLoop (.ListComp elt [⟨target, iter, ifs, 0⟩] scope pos) 0 it acc env) R s := by
  refine codeAny_loop rfl I (fun n s hI => ?_) n h
  show wpAny _ A ((compTurn (.ListComp elt [⟨target, iter, ifs, 0⟩] scope pos) 0 it acc env).onRaise (fun x => do noteFrame x env; theTreesLotGoes x)) _ _ s
  refine wpAny_noted ?_
  rw [compTurn_list]
  refine wpAny_bind (wpAny_standAt (wpAny_bind (wpAny_mono (turn n s hI) (fun r s₁ h₁ => ?_) fun _ _ h' => h')))
  cases r with
  | none => exact wpAny_pure h₁
  | some v =>
    refine wpAny_bind (wpAny_mono h₁ (fun _ s₁' h₁' => ?_) fun _ _ h' => h')
    refine wpAny_bind (wpAny_mono h₁' (fun _ s₂ h₂ => wpAny_bind (wpAny_mono h₂ (fun ok s₃ h₃ => ?_) fun _ _ h' => h')) fun _ _ h' => h')
    cases ok with
    | false => exact wpAny_pure ⟨rfl, h₃⟩
    | true =>
      exact wpAny_bind (wpAny_bind (wpAny_mono h₃ (fun x s₄ h₄ => wpAny_bind (wpAny_mono h₄ (fun _ s₅ h₅ => wpAny_pure (wpAny_pure ⟨rfl, h₅⟩)) fun _ _ h' => h')) fun _ _ h' => h'))
section
variable {X : Cx}
/-- [elt for target in iter if ..]: D the new list; W by the turn and a measure, Nx what a turn is to reach -/
def tLc (wi : TI) (g : TG) (tt : TT) (te : TE) (vs : List Nat) : TE := fun σ H Q => wi σ H fun J H1 => ∀ D, H1 D = none → ∃ W : Nat → Nat → Hp → Prop, (∃ m, W 0 m (upd H1 D (.lst []))) ∧ ∀ i m H, W i m H →
  (J.stop i H ∧ Q (.ref D) H) ∨ (J.go i H ∧ ∃ Nx : Hp → Prop, (∀ H', Nx H' → ∃ m', m' < m ∧ W (i + 1) m' H') ∧ ∀ x H', J.yld i H x H' → g x (wipe σ vs) H' fun σ2 H2 => wipe σ2 vs = wipe σ vs ∧ tt σ2 H2 fun b H3 =>
    if b = true then te σ2 H3 fun y H4 => ∃ acc, H4 D = some (.lst acc) ∧ acc.length < sizeLine ∧ Nx (upd H4 D (.lst (acc ++ [y]))) else Nx H3)
theorem lc_core {pins : List (Addr × Obj)} {s : Shared} {σ : St} {H : Hp} {Q : VK} {elt tg iter : Expr} {ifs : List Expr} {scope : Scope} {own : List (Str × Nat)} {pos pos' : Pos} {wi : TI} {g : TG} {tt : TT} {te : TE} {use : Option (Value → Sem Unit)} {Qf : Value → Shared → Prop}
    (hc : X.calm = true) (hN : X.N.Nodup) (I : Inv X pins σ H s) (hi : PI X tg iter wi) (ok : BlkOk X.N X.env.scope scope own)
    (hg : ∀ (s : Shared) (H : Hp) (C : Addr) (cl : List (Str × Addr)) (fp : List Addr), PG (X.blk s H scope (compEnvC scope cl C X.env) fp) tg g) (ht : ∀ (s : Shared) (H : Hp) (C : Addr) (cl : List (Str × Addr)) (fp : List Addr), PTs (X.blk s H scope (compEnvC scope cl C X.env) fp) ifs tt)
    (he : ∀ (s : Shared) (H : Hp) (C : Addr) (cl : List (Str × Addr)) (fp : List Addr), PE (X.blk s H scope (compEnvC scope cl C X.env) fp) elt te) (hs : ∀ x, foldedSetIterable iter X.env x = pure x)
    (h : tLc wi g tt te (own.map (·.2)) σ H Q)
    (hRR : ∀ D C s' m H', Inv X pins σ H' s' → Q (.ref D) H' → s'.heap.Ns C m → FpOk X pins H' C → compPost (model X.prog X.w) X.A X.xe use Qf (.ref D) C (.ok .next) s') :
    wpAny (model X.prog X.w) X.A (comprehension (.ListComp elt [⟨tg, iter, ifs, 0⟩] scope pos) scope X.env pos' (newList []) false (eval iter X.env) use) Qf X.xe s := by
  have hfree : ∀ y ∈ scope.names, y.2 = .free → ∃ c, X.env.cells.lookup y.1 = some c := fun y hy e => by
    rcases ok.free y hy e with k | k
    · exact I.ok.has _ (.inl k)
    · exact I.ok.has _ (.inr k)
  refine wpAny_comprehension_free (use := use) rfl hs (closure_ok hfree) ok.kind (fun y hy e => by rw [ok.uniq y hy, e])
    (thn (hi pins s σ H _ I h) fun xv s1 hx => thn hx fun itv s2 h2 => ?_)
  obtain ⟨it, fp, tn, J, H2, e, I2, T, st2, f2, q⟩ := h2
  subst e
  refine wpAny_newObj_type (newEnv_comp ?_) (by show 0 ≤ sizeLine; decide)
  generalize hD : s2.heap.objs.size = D
  have hDn : H2 D = none := I2.hok.fresh (Nat.le_of_eq hD)
  obtain ⟨W, ⟨m0, w0⟩, turn⟩ := q D hDn
  generalize hs3 : ({ s2 with heap := s2.heap.push { cls := .type "list", data := .seq ([] : List Value).toArray } } : Shared) = s3
  have I3 : Inv X pins σ (upd H2 D (.lst [])) s3 := by
    rw [← hs3]
    refine I2.laid (t' := s2.toks) (fun b o e => Heap.get?_push_of_some _ e) (Nat.le_of_eq hD) ⟨Nat.zero_le _, [], 0, .nil, ?_⟩
    rw [← hD]
    exact Heap.get?_push_size _ rfl
  have h3 : s3.heap = s2.heap.push { cls := .type "list", data := .seq ([] : List Value).toArray } := by rw [← hs3]
  have sz : ∀ b ∈ fp, b < s2.heap.objs.size := fun b hb => by
    obtain ⟨o, e, _⟩ := T.obj _ _ st2 b hb
    exact Heap.lt_size e
  have f3 : ∀ b ∈ fp, FpOk X pins (upd H2 D (.lst [])) b ∧ b < s3.heap.objs.size := fun b hb => by
    have hlt := sz b hb
    refine ⟨⟨?_, (f2 b hb).2⟩, by rw [h3, Heap.size_push]; exact Nat.lt_succ_of_lt hlt⟩
    rw [upd_ne (by rw [← hD]; exact Nat.ne_of_lt hlt)]
    exact (f2 b hb).1
  have st3 : tn 0 s3.heap := T.keep _ _ _ st2 fun b _ o e => by rw [h3]; exact Heap.get?_push_of_some _ e
  have I4 := block_start I3 ok hN f3
  have pg := hg s3 (upd H2 D (.lst [])) s3.heap.objs.size (cellsFrom (s3.heap.objs.size + 1) scope.names (cloFrom X.env.cells scope.names [])) fp
  have pt := ht s3 (upd H2 D (.lst [])) s3.heap.objs.size (cellsFrom (s3.heap.objs.size + 1) scope.names (cloFrom X.env.cells scope.names [])) fp
  have pe := he s3 (upd H2 D (.lst [])) s3.heap.objs.size (cellsFrom (s3.heap.objs.size + 1) scope.names (cloFrom X.env.cells scope.names [])) fp
  show codeAny _ _ (.compStart (.ListComp elt [⟨tg, iter, ifs, 0⟩] scope pos) 0 (.ref it) (.ref D) (compEnvC scope (cellsFrom (s3.heap.objs.size + 1) scope.names (cloFrom X.env.cells scope.names [])) s3.heap.objs.size X.env)) (compPost (model X.prog X.w) X.A X.xe use Qf (.ref D) s3.heap.objs.size) { s3 with heap := pushCells (s3.heap.push { cls := .type "dict", data := .dict #[] }) scope.names }
  have nfp : ∀ b ∈ fp, (upd H2 D (.lst [])) b = none := fun b hb => (f3 b hb).1.1
  generalize hce : compEnvC scope (cellsFrom (s3.heap.objs.size + 1) scope.names (cloFrom X.env.cells scope.names [])) s3.heap.objs.size X.env = ce at I4 pg pt pe ⊢
  have cL : ce.locals = s3.heap.objs.size := by subst hce; rfl
  generalize hH3 : upd H2 D (.lst []) = H3 at I3 I4 pg pt pe w0 nfp f3
  generalize hs4 : ({ s3 with heap := pushCells (s3.heap.push { cls := .type "dict", data := .dict #[] }) scope.names } : Shared) = s4 at I4 ⊢
  have st4 : tn 0 s4.heap := T.keep _ _ _ st3 fun b _ o e => by rw [← hs4]; exact pushCells_keeps _ _ _ _ (Heap.get?_push_of_some _ e)
  have stat : ∀ {σ' : St} {H' : Hp} {s' : Shared}, Inv (X.blk s3 H3 scope ce fp) [] σ' H' s' → (∀ b ∈ fp, H' b = none) → ∀ b ∈ fp, FpOk (X.blk s3 H3 scope ce fp) [] H' b := fun {σ' H' s'} I' hn b hb =>
    ⟨hn b hb, (I'.ok.exf b hb).1, I'.ok.exfs b hb, .inl hb, fun x c e => (I'.ok.exf b hb).2 x c e, fun p hp => absurd (show p ∈ ([] : List (Addr × Obj)) ++ [] from hp) (by simp)⟩
  have loop : codeAny (model X.prog X.w) X.A (.compLoop (.ListComp elt [⟨tg, iter, ifs, 0⟩] scope pos) 0 (.ref it) (.ref D) ce) (compPost (model X.prog X.w) X.A X.xe use Qf (.ref D) s3.heap.objs.size) s4 := by
    refine compLoop_any (fun n s' => ∃ i H', Inv (X.blk s3 H3 scope ce fp) [] (wipe σ (own.map (·.2))) H' s' ∧ tn i s'.heap ∧ (∀ b ∈ fp, H' b = none) ∧ W i n H') ?_ m0 ⟨0, H3, I4, st4, nfp, w0⟩
    rintro n s5 ⟨i, H5, I5, st5, n5, w5⟩
    rcases turn i n H5 w5 with ⟨stop, qq⟩ | ⟨go, Nx, hNx, step⟩
    · have td := T.done (X.blk s3 H3 scope ce fp) rfl rfl rfl hc i [] s5 _ H5 (fun _ _ => False) I5 (stat I5 n5) st5 stop
      refine thnF td fun r s6 ⟨hr, I6⟩ => ?_
      subst hr
      have I7 : Inv X pins σ H5 s6 := I3.call' (ch := fp) I6.os I6.base I6.hok I6.bare fun b hb => ⟨(f3 b hb).1.2.2.2.1, (f3 b hb).1.2.1, (f3 b hb).1.2.2.2.2.1, (f3 b hb).1.2.2.2.2.2⟩
      have nC : H5 s3.heap.objs.size = none := by
        have z : H5 ce.locals = none := I6.free
        rw [cL] at z
        exact z
      obtain ⟨m, hn, _⟩ := I6.loc
      have hn : s6.heap.Ns ce.locals m := hn
      rw [cL] at hn
      exact hRR D s3.heap.objs.size s6 m H5 I7 qq hn (I3.fpOk (Nat.le_refl _) nC)
    · have ti := T.item (X.blk s3 H3 scope ce fp) rfl rfl rfl hc i [] s5 _ H5 (fun _ _ => False) I5 (stat I5 n5) st5 go
      refine thnF ti fun r s6 ⟨u, hr, h6⟩ => ?_
      subst hr
      refine thnF h6 fun _ s7 ⟨x, H7, I7, r7, y7, st7, n7⟩ => ?_
      have I7' := I7.pinned (stat I7 n7) (T.obj _ _ st7)
      refine thnF (pg _ s7 _ H7 x u _ I7' r7 (step x H7 y7)) fun _ s8 ⟨σ8, H8, I8, hw8, q8⟩ => ?_
      refine thnF (pt _ s8 σ8 H8 _ I8 q8) fun b s9 ⟨H9, I9, q9⟩ => ?_
      have fin : ∀ {s' : Shared} {H' : Hp}, Inv (X.blk s3 H3 scope ce fp) ([] ++ pinsAt fp s7.heap) σ8 H' s' → Nx H' → ∃ m, m < n ∧ ∃ i H', Inv (X.blk s3 H3 scope ce fp) [] (wipe σ (own.map (·.2))) H' s' ∧ tn i s'.heap ∧ (∀ b ∈ fp, H' b = none) ∧ W i m H' := fun {s' H'} I' nx => by
        obtain ⟨m', hm, w'⟩ := hNx H' nx
        have pin' : ∀ b ∈ fp, ∀ o, s7.heap.get? b = some o → s'.heap.get? b = some o ∧ H' b = none := fun b hb o e =>
          let z := I'.pin (b, o) (List.mem_append_right _ (List.mem_append_right _ (mem_pinsAt hb e)))
          ⟨z.1, z.2.1⟩
        have hl : (wipe σ (own.map (·.2))).length = σ8.length := by rw [← hw8, wipe_length]
        refine ⟨m', hm, i + 1, H', (I'.unpinned (pins := [])).weak hl (fun j v e => ?_), T.keep _ _ _ st7 fun b hb o e => (pin' b hb o e).1, fun b hb => ?_, w'⟩
        · rw [← hw8] at e
          exact (wipe_some e).1
        · obtain ⟨o, e, _⟩ := T.obj _ _ st7 b hb
          exact (pin' b hb o e).2
      cases b with
      | false =>
        simp only [Bool.false_eq_true, if_false] at q9 ⊢
        exact fin I9 q9
      | true =>
        simp only [if_true] at q9 ⊢
        refine thnF (pe _ s9 σ8 H9 _ I9 q9) fun z s10 ⟨yv, H10, I10, r10, acc, hD10, hz10, nx⟩ => ?_
        exact app_ok (X := X.blk s3 H3 scope ce fp) I10 hD10 hz10 r10 fun s11 I11 => fin I11 nx
  exact codeAny_compStart_list loop (T.self X.A 0 _ _ _ st4 loop)
/-- as a value -/
theorem pe_lc {elt tg iter : Expr} {ifs : List Expr} {scope : Scope} {own : List (Str × Nat)} {pos : Pos} {wi : TI} {g : TG} {tt : TT} {te : TE} (hc : X.calm = true) (hN : X.N.Nodup) (hi : PI X tg iter wi) (ok : BlkOk X.N X.env.scope scope own)
    (hg : ∀ (s : Shared) (H : Hp) (C : Addr) (cl : List (Str × Addr)) (fp : List Addr), PG (X.blk s H scope (compEnvC scope cl C X.env) fp) tg g) (ht : ∀ (s : Shared) (H : Hp) (C : Addr) (cl : List (Str × Addr)) (fp : List Addr), PTs (X.blk s H scope (compEnvC scope cl C X.env) fp) ifs tt)
    (he : ∀ (s : Shared) (H : Hp) (C : Addr) (cl : List (Str × Addr)) (fp : List Addr), PE (X.blk s H scope (compEnvC scope cl C X.env) fp) elt te) (hs : ∀ x, foldedSetIterable iter X.env x = pure x := by intro _; rfl) :
    PE X (.ListComp elt [⟨tg, iter, ifs, 0⟩] scope pos) (tLc wi g tt te (own.map (·.2))) := by
  intro pins s σ H Q I h
  rw [eval_ListComp]
  refine lc_core hc hN I hi ok hg ht he hs h fun D C s' m H' I' q hn f => ⟨m, hn, fun h'' sb => ?_⟩
  obtain ⟨f0, f1, f2, f3, f4, f5⟩ := f
  exact ⟨.ref D, H', I'.turned (t' := s'.toks) (fun b o hb e => (sb.2 b hb).trans e) f0 f1 f3 f4 f5, rfl, q⟩
/-- name = [..] on one line, the name a local -/
theorem ps_setLc {i : Nat} {y : Str} {py : Pos} {elt tg iter : Expr} {ifs : List Expr} {scope : Scope} {own : List (Str × Nat)} {pos spos : Pos} {wi : TI} {g : TG} {tt : TT} {te : TE} (hc : X.calm = true) (hN : X.N.Nodup) (hy : X.N[i]? = some y) (hyl : X.env.scope.names.lookup y = some .local)
    (hsw : swapsWith (.ListComp elt [⟨tg, iter, ifs, 0⟩] scope pos) (some (.Name y py)) spos.line X.env = pure true) (hi : PI X tg iter wi) (ok : BlkOk X.N X.env.scope scope own)
    (hg : ∀ (s : Shared) (H : Hp) (C : Addr) (cl : List (Str × Addr)) (fp : List Addr), PG (X.blk s H scope (compEnvC scope cl C X.env) fp) tg g) (ht : ∀ (s : Shared) (H : Hp) (C : Addr) (cl : List (Str × Addr)) (fp : List Addr), PTs (X.blk s H scope (compEnvC scope cl C X.env) fp) ifs tt)
    (he : ∀ (s : Shared) (H : Hp) (C : Addr) (cl : List (Str × Addr)) (fp : List Addr), PE (X.blk s H scope (compEnvC scope cl C X.env) fp) elt te) (hs : ∀ x, foldedSetIterable iter X.env x = pure x := by intro _; rfl) :
    PS X (.Assign [.Name y py] (.ListComp elt [⟨tg, iter, ifs, 0⟩] scope pos) spos) (tAsg (tLc wi g tt te (own.map (·.2))) (gName i)) := by
  intro pins s σ H D I h
  rw [exec_Assign_Name_used _ _ _ _ hsw]
  refine wpAny_bind (wpAny_standAt (wpAny_bind ?_))
  show wpAny _ X.A (do let _ ← comprehension (.ListComp elt [⟨tg, iter, ifs, 0⟩] scope pos) scope X.env (firstIterPos [⟨tg, iter, ifs, 0⟩] pos) (newList []) false (eval iter X.env) (some (assign (.Name y py) X.env))) _ _ s
  have h : tLc wi g tt te (own.map (·.2)) σ H (fun x H1 => gName i x σ H1 D.nx) := h
  refine wpAny_bind (thn (lc_core (Qf := fun _ s' => SP X pins D .next s') hc hN I hi ok hg ht he hs h fun L C s' m H' I' q hn f => ?_) fun _ s' hq => wpAny_pure (wpAny_pure hq))
  show wpAny _ _ (assign (.Name y py) X.env (.ref L)) _ _ _
  refine wpAny_assign_Name (store_ok2 (v := V.ref L) I' hN hy (.inl hyl) rfl (fun s2 I2 ⟨a, sb, ha⟩ => ?_) (.inr hyl))
  obtain ⟨f0, f1, f2, f3, f4, f5⟩ := f
  have haC : C ≠ a := by
    rcases ha with z | z
    · rw [z]; exact f1
    · exact fun e => f4 y a z e.symm
  refine ⟨m, hn.sameBut sb haC, fun h3 sb3 => ?_⟩
  exact ⟨_, H', I2.turned (t' := s2.toks) (fun b o hb e => (sb3.2 b hb).trans e) f0 f1 f3 f4 f5, q⟩
theorem sw_true {elt : Expr} {gs : List Comprehension} {scope : Scope} {pos py : Pos} {y : Str} {l : Nat} {env : Env} (hk : env.scope.kind = .function) (hy : env.scope.names.lookup y = some .local) (hl : (py.line == pos.line) = true)
    (ha : (scope.names.any fun (n, k) => n == y && (k == .local || k == .cell)) = false) : swapsWith (.ListComp elt gs scope pos) (some (.Name y py)) l env = pure true := by
  have ky : env.kindOf y = some .local := hy
  have hb : env.blockKind = .function := by unfold Env.blockKind; rw [hk]; rfl
  unfold swapsWith
  simp only [hb, ky, ha, Expr.pos, hl]
  rfl
end
/-- over a list that the block leaves as it is -/
theorem lc_list {K : PySem.W.Frag} {a : Addr} {xs : List V} {g : TG} {tt : TT} {te : TE} {vs : List Nat} {σ : St} {H1 : Hp} {D : Addr} {Qd : Hp → Prop} (Pv : Nat → Hp → Prop) (h0 : Pv 0 (upd H1 D (.lst []))) (hl : ∀ i H, i ≤ xs.length → Pv i H → SqL K H a xs)
    (hs : ∀ i x H, xs[i]? = some x → Pv i H → g x (wipe σ vs) H fun σ2 H2 => wipe σ2 vs = wipe σ vs ∧ tt σ2 H2 fun b H3 =>
      if b = true then te σ2 H3 fun y H4 => ∃ acc, H4 D = some (.lst acc) ∧ acc.length < sizeLine ∧ Pv (i + 1) (upd H4 D (.lst (acc ++ [y]))) else Pv (i + 1) H3) (hd : ∀ H, Pv xs.length H → Qd H) :
    ∃ W : Nat → Nat → Hp → Prop, (∃ m, W 0 m (upd H1 D (.lst []))) ∧ ∀ i m H, W i m H →
      ((Itl K a).stop i H ∧ Qd H) ∨ ((Itl K a).go i H ∧ ∃ Nx : Hp → Prop, (∀ H', Nx H' → ∃ m', m' < m ∧ W (i + 1) m' H') ∧ ∀ x H', (Itl K a).yld i H x H' → g x (wipe σ vs) H' fun σ2 H2 => wipe σ2 vs = wipe σ vs ∧ tt σ2 H2 fun b H3 =>
        if b = true then te σ2 H3 fun y H4 => ∃ acc, H4 D = some (.lst acc) ∧ acc.length < sizeLine ∧ Nx (upd H4 D (.lst (acc ++ [y]))) else Nx H3) := by
  refine ⟨fun i m H => m = xs.length - i ∧ i ≤ xs.length ∧ Pv i H, ⟨xs.length, by simp, Nat.zero_le _, h0⟩, ?_⟩
  rintro i m H ⟨rfl, hi, p⟩
  have q := hl i H hi p
  by_cases hlt : i < xs.length
  · refine .inr ⟨⟨xs, xs[i], q, by simp [hlt]⟩, Pv (i + 1), fun H' p' => ⟨xs.length - (i + 1), by omega, rfl, hlt, p'⟩, fun x H' y => ?_⟩
    obtain ⟨e, y⟩ := y
    subst e
    exact hs i x _ (y xs q) p
  · have e : i = xs.length := by omega
    subst e
    exact .inl ⟨⟨xs, q, Nat.le_refl _⟩, hd H p⟩
def blkC (N : List Str) (sc scope : Scope) (own : List (Str × Nat)) : Bool :=
  (match scope.kind with | .function => true | _ => false) && (scope.names.all fun y => decide (scope.names.lookup y.1 = some y.2)) && (own.all fun p => decide (N[p.2]? = some p.1)) &&
    (scope.names.all fun y => match y.2 with
      | .free => (match sc.names.lookup y.1 with | some .cell => true | some .free => true | _ => false)
      | .local => decide (y.1 ∈ own.map (·.1)) || decide (y.1 ∉ N)
      | .cell => decide (y.1 ∈ own.map (·.1)) || decide (y.1 ∉ N)
      | _ => true)
theorem blkOk_by {N : List Str} {sc scope : Scope} {own : List (Str × Nat)} (h : blkC N sc scope own = true) : BlkOk N sc scope own := by
  unfold blkC at h
  simp only [Bool.and_eq_true, List.all_eq_true, decide_eq_true_eq] at h
  obtain ⟨⟨⟨h1, h2⟩, h3⟩, h4⟩ := h
  refine ⟨?_, h2, h3, fun y hy e => ?_, fun y hy e => ?_⟩
  · split at h1
    · assumption
    · cases h1
  · have q := h4 y hy
    simp only [e] at q
    split at q <;> first | exact .inl (by assumption) | exact .inr (by assumption) | cases q
  · have q := h4 y hy
    rcases e with e | e <;> (simp only [e, Bool.or_eq_true, decide_eq_true_eq] at q; exact q)
end L2
namespace L2
open PySem PySem.Spec PyProof.Rows
section
variable {prog : Program} {w : World} {A : Around} {R : Result → Shared → Prop} {s : Shared} {elt t0 i0 t1 i1 : Expr} {ifs0 ifs1 : List Expr} {scope : Scope} {pos : Pos} {it acc : Value} {env : Env}
end
section
variable {X : Cx}
end
end L2
namespace L2
open PySem PySem.Spec PyProof.Rows
section
variable {κ : Type} [DecidableEq κ]
end
theorem kV_is {P : Program} {w : World} {k : Key} {u : Value} (r : RelV (kV k) u) : (mixKind P w).is k u = true := by
  cases k with
  | inl i => obtain ⟨t, e⟩ := (show ∃ t, u = Value.int i t from r); subst e; exact mixKind_int P w i t
  | inr x => obtain ⟨t, e⟩ := (show ∃ t, u = Value.str x t from r); subst e; exact mixKind_str P w x t
section
variable {P : Program} {w : World} {H : Hp} {h : Heap} {a : Addr}
end
section
variable {X : Cx} {pins : List (Addr × Obj)} {σ : St} {H : Hp} {s : Shared} {a : Addr} {y v : V} {u r : Value} {o : Option V} {A : Around} {E : Value → Shared → Prop}
end
section
variable {X : Cx} {pins : List (Addr × Obj)} {σ : St} {H : Hp} {s : Shared} {a : Addr} {kvs : List (Key × V)} {k : Key} {u : Value} {A : Around} {E : Value → Shared → Prop}
end
/-- the element of a subscription, not a slice -/
def NoSl (i : Expr) : Prop := ∀ ov iv, subscripted i false ov iv = operate [ov, iv] (getItem ov iv)
theorem subD_of {prog : Program} {w : World} {A : Around} {E : Value → Shared → Prop} {s : Shared} {env : Env} {value slice : Expr} {pos : Pos} {T id : String} {Q : Value → Shared → Prop}
    (hl : typeLookup (.type T) "__getitem__" = pure (some (.builtin id))) (hs : NoSl slice)
    (h : wpAny (model prog w) A (eval value env) (fun o s₁ => wpAny (model prog w) A (eval slice env) (fun i s₂ => s₂.TypeIs o T ∧ wpAny (model prog w) A (getItem o i) Q E s₂) E s₁) E s) :
    wpAny (model prog w) A (eval (.Subscript value slice pos) env) Q E s := by
  refine Subscript_ (wpAny_mono h (fun o s₁ h₁ => wpAny_mono h₁ (fun i s₂ h₂ => ?_) fun _ _ x => x) fun _ _ x => x)
  obtain ⟨hT, h₂⟩ := h₂
  unfold subscriptTail
  refine wpAny_bind ?_
  rw [getitemInPython_of_ne hT.not_modules]
  refine wpAny_bind (wpAny_specialOf hT hl ?_)
  have fin : wpAny (model prog w) A (subscripted slice false o i) (fun r s₃ => wpAny (model prog w) A (letTemporaryGo value o r >>= fun _ => pure r) Q E s₃) E s₂ := by
    rw [hs o i]
    exact wpAny_operating (wpAny_mono h₂ (fun r s₃ h₃ => wpAny_bind (wpAny_letTemporaryGo (wpAny_pure h₃))) fun _ _ x => x)
  first
    | exact wpAny_pure (wpAny_bind fin)
    | exact wpAny_bind (wpAny_pure (wpAny_bind fin))
    | exact wpAny_bind fin
section
variable {X : Cx} {o i e value : Expr} {pos pos' tpos : Pos} {td ty tv : TE}
end
section
variable {X : Cx} {pos : Pos}
end
section
variable {X : Cx} {pins : List (Addr × Obj)} {σ : St} {H : Hp} {s : Shared} {a : Addr} {y d : V} {u r : Value} {o : Option V} {A : Around} {E : Value → Shared → Prop}
end
section
variable {X : Cx} {o e f : Expr} {apos cpos : Pos} {td ty tx : TE}
end
section
variable {X : Cx} {pins : List (Addr × Obj)} {σ : St} {H : Hp} {s : Shared} {a : Addr} {kvs : List (Key × V)} {A : Around} {E : Value → Shared → Prop}
end
section
variable {X : Cx} {pins : List (Addr × Obj)} {σ : St} {H : Hp} {s : Shared} {a : Addr} {y : V} {u : Value} {A : Around} {E : Value → Shared → Prop}
end
end L2
namespace L2
open PySem PySem.Spec PyProof.Rows
section
variable {prog : Program} {w : World} {A : Around} {E : Value → Shared → Prop}
end
section
variable {X : Cx}
end
end L2
namespace L2
open PySem PySem.Spec PyProof.Rows
section
variable {X : Cx} {pins : List (Addr × Obj)} {σ : St} {H : Hp} {s : Shared} {h' : Heap}
/-- several records of ours have turned -/
theorem Inv.turnedL {t' : Nat} {ch : List Addr} (I : Inv X pins σ H s) (k : ∀ b o, b ∉ ch → s.heap.get? b = some o → h'.get? b = some o) (hf : ∀ b ∈ ch, FpOk X pins H b) : Inv X pins σ H { s with heap := h', toks := t' } := by
  have nit : ∀ b u, H b = some u → b ∉ ch := fun b u e z => by
    have q := (hf b z).1
    rw [q] at e; cases e
  refine I.step (g' := s.gens) (d' := s.drawn) (ch := ch) (fun b hb => ⟨(hf b hb).2.2.2.1, (hf b hb).2.1, (hf b hb).2.2.2.2.1, (hf b hb).2.2.2.2.2⟩) (fun b o _ _ hc e _ => k b o hc e) (fun b o _ _ hc e _ => ⟨o.slots, k b o hc e⟩)
    (fun _ _ _ _ n => n) (fun b o hc e => ⟨o, k b o hc e⟩) (fun _ _ e => e) (fun _ _ _ e => e) (fun b ps e => ⟨#[], by rw [e]; simp⟩) (fun m hm => ?_) (fun b u e => ?_) I.bare
  · obtain ⟨o, es, ep, ho, r⟩ := hm
    exact ⟨o, es, ep, k _ o (fun z => (hf _ z).2.1 rfl) ho, r⟩
  · refine (I.hok b u e).stay (fun c v hc q => k c v ?_ q) (fun _ q => q) fun _ _ q => q
    rcases hc with z | z
    · rw [z]; exact nit b u e
    · exact nit c _ z
/-- .. and one new object is laid -/
theorem Inv.turnedNew {t' : Nat} {ch : List Addr} {T : Addr} {ob : HO} (I : Inv X pins σ H s) (k : ∀ b o, b ∉ ch → s.heap.get? b = some o → h'.get? b = some o) (hf : ∀ b ∈ ch, FpOk X pins H b) (hT : s.heap.objs.size ≤ T)
    (new : ObjOk X.prog X.w (upd H T ob) h' T ob) : Inv X pins σ (upd H T ob) { s with heap := h', toks := t' } := by
  have hn : H T = none := I.hok.fresh hT
  have nit : ∀ b u, H b = some u → b ∉ ch := fun b u e z => by
    have q := (hf b z).1
    rw [q] at e; cases e
  refine I.step (g' := s.gens) (d' := s.drawn) (ch := ch) (fun b hb => ⟨(hf b hb).2.2.2.1, (hf b hb).2.1, (hf b hb).2.2.2.2.1, (hf b hb).2.2.2.2.2⟩) (fun b o _ _ hc e _ => k b o hc e) (fun b o _ _ hc e _ => ⟨o.slots, k b o hc e⟩)
    (fun b o _ e n => ?_) (fun b o hc e => ⟨o, k b o hc e⟩) (fun b xs e => ?_) (fun b o u e => ?_) (fun b ps e => ⟨#[], ?_⟩) (fun m hm => ?_) (fun b u e => ?_) I.bare
  · rw [upd_ne (Nat.ne_of_lt (Nat.lt_of_lt_of_le (Heap.lt_size e) hT))]; exact n
  · rw [upd_ne (ne_of_none e hn)]; exact e
  · rw [upd_ne (ne_of_none e hn)]; exact e
  · rw [upd_ne (ne_of_none e hn), e]; simp
  · obtain ⟨o, es, ep, ho, r⟩ := hm
    exact ⟨o, es, ep, k _ o (fun z => (hf _ z).2.1 rfl) ho, r⟩
  · by_cases hb : b = T
    · subst hb
      rw [upd_same] at e
      cases e
      exact new
    · rw [upd_ne hb] at e
      refine (I.hok b u e).stay (fun c v hc q => k c v ?_ q) (fun c q => by rw [upd_ne (ne_of_none q hn)]; exact q) fun c xs q => by rw [upd_ne (ne_of_none q hn)]; exact q
      rcases hc with z | z
      · rw [z]; exact nit b u e
      · exact nit c _ z
end
section
variable {X : Cx}
theorem pi_one {tg : Expr} {pins : List (Addr × Obj)} {σ : St} {H : Hp} {s : Shared} {R : It → Hp → Prop} {J : It} {tn : Nat → Heap → Prop} {tk : Nat} (I : Inv X pins σ H s) (o : Obj)
    (T : Turn X.prog X.w X.K tg J [s.heap.objs.size] s.heap.objs.size tn) (st : tn 0 (s.heap.push o)) (q : R J H) : PIE X pins σ tg R (.ref s.heap.objs.size) { s with heap := s.heap.push o, toks := tk } := by
  refine ⟨s.heap.objs.size, [s.heap.objs.size], tn, J, H, rfl, I.kept fun b ob e => Heap.get?_push_of_some _ e, T, st, fun b hb => ?_, q⟩
  have e : b = s.heap.objs.size := by simpa using hb
  subst e
  exact I.fpOk (Nat.le_refl _) (I.hok.fresh (Nat.le_refl _))
end
section
variable {X : Cx} {tg : Expr}
end
section
variable {X : Cx} {tg : Expr}
end
def Its (x : Str) : It := ⟨fun i _ => i < x.cps.size, fun i H v H' => H' = H ∧ ∃ c, x.cps[i]? = some c ∧ v = .str ⟨#[c]⟩, fun i _ => x.cps.size ≤ i⟩
theorem turn_str {P : Program} {w : World} {K : PySem.W.Frag} {tg : Expr} (it : Addr) (x : Str) (t : Tok) (ty : String) (hty : ty = "str_ascii_iterator" ∨ ty = "str_iterator") :
    Turn P w K tg (Its x) [it] it (fun i h => h.IsStrIter it ty x t i) where
  mem := by simp
  obj := fun i h st b hb => by
    have e : b = it := by simpa using hb
    subst e
    obtain ⟨o, e, c, d⟩ := st
    exact ⟨o, e, fun v z => by rw [d] at z; cases z⟩
  keep := fun i h h' st k => let ⟨o, ho, r⟩ := st; ⟨o, k it (by simp) o ho, r⟩
  item := by
    intro X hP hw hK hc i pins s σ H E I hf st hg
    subst hP hw hK
    obtain ⟨f0, f1, f2, f3, f4, f5⟩ := hf it (by simp)
    have W : Walks X.prog X.w X.A it [it] [it] x.cps.size (SignAt x) (fun i h => h.IsStrIter it ty x t i) := by
      rcases hty with e | e
      · rw [e]; exact Walks.strAscii (I.ok.hd hc) it x t
      · rw [e]; exact Walks.strWide (I.ok.hd hc) it x t
    have hno : ["enumerate", "zip", "dict_itemiterator", "dict_reverseitemiterator", "odict_iterator", "itertools.zip_longest", "itertools.pairwise"].contains ty = false := by
      rcases hty with e | e
      · rw [e]; decide
      · rw [e]; decide
    refine W.item i s _ _ hg st fun v h' tk hv st' kk => ?_
    obtain ⟨c, u, hcx, rfl⟩ := hv
    have I1 : Inv X pins σ H { s with heap := h', toks := tk } := I.turned (fun b o hb e => kk b o (by simpa using hb) e) f0 f1 f3 f4 f5
    obtain ⟨oi, e, cc, dd⟩ := id st'
    exact ⟨_, rfl, go_of (s := { s with heap := h', toks := tk }) e cc dd hno ⟨.str ⟨#[c]⟩, H, I1, ⟨u, rfl⟩, ⟨rfl, c, hcx, rfl⟩, st', fun b hb => (hf b hb).1⟩⟩
  done := by
    intro X hP hw hK hc i pins s σ H E I hf st hg
    subst hP hw hK
    obtain ⟨f0, f1, f2, f3, f4, f5⟩ := hf it (by simp)
    have hx : x.cps[i]? = none := Array.getElem?_eq_none hg
    rcases hty with e | e
    · rw [e] at st
      exact wpAny_pyNext_ascii_end (I.ok.hd hc) st hx fun h' eb => ⟨rfl, I.turned (t' := s.toks) (fun b o hb e => eb b o hb e) f0 f1 f3 f4 f5⟩
    · rw [e] at st
      exact wpAny_pyNext_wide_end (I.ok.hd hc) st hx fun h' eb => ⟨rfl, I.turned (t' := s.toks) (fun b o hb e => eb b o hb e) f0 f1 f3 f4 f5⟩
  self := fun A i s Q E st h => by
    rcases hty with e | e
    · rw [e] at st; exact wpAny_pyIter_striter_ascii st h
    · rw [e] at st; exact wpAny_pyIter_striter_wide st h
def iStr (te : TE) : TI := fun σ H R => te σ H fun v H1 => ∃ x, v = .str x ∧ R (Its x) H1
theorem pi_str {X : Cx} {tg e : Expr} {te : TE} (he : PE X e te) : PI X tg e (iStr te) := by
  intro pins s σ H R I h
  refine thn (he pins s σ H _ I h) fun v s1 ⟨y, H1, I1, r1, x, ex, q⟩ => ?_
  subst ex
  obtain ⟨t, rfl⟩ := r1
  cases ha : x.cps.all (· < 128)
  · exact wpAny_pyIter_wide ha (pi_one (tk := s1.toks) I1 _ (turn_str _ x t "str_iterator" (.inr rfl)) ⟨_, Heap.get?_push_size _ rfl, rfl, rfl⟩ q)
  · exact wpAny_pyIter_ascii ha (pi_one (tk := s1.toks) I1 _ (turn_str _ x t "str_ascii_iterator" (.inl rfl)) ⟨_, Heap.get?_push_size _ rfl, rfl, rfl⟩ q)
section
variable {prog : Program} {w : World} {A : Around} {E : Value → Shared → Prop} {s : Shared}
end
section
variable {X : Cx} {pins : List (Addr × Obj)} {σ : St} {H : Hp} {s : Shared} {d : Addr} {o : Obj}
end
section
variable {P : Program} {w : World} {K : PySem.W.Frag} {tg : Expr} {d : Addr} {o : Obj} {es : Array DictEntry} {ep : Nat}
end
section
variable {X : Cx} {tg e : Expr} {td : TE} {apos cpos : Pos}
end
/-- the list at a as it stands at each turn, each item in a new pair -/
def Ite (K : PySem.W.Frag) (a : Addr) : It :=
  ⟨fun i H => ∃ (xs : List V) (x : V), SqL K H a xs ∧ xs[i]? = some x, fun i H v H' => ∃ T x, v = .ref T ∧ H T = none ∧ H' = upd H T (.tup [.int (i : Nat), x]) ∧ ∀ xs, SqL K H a xs → xs[i]? = some x, fun i H => ∃ xs : List V, SqL K H a xs ∧ xs.length ≤ i⟩
theorem turn_enum {P : Program} {w : World} {K : PySem.W.Frag} {elts : List Expr} {kk : Nat} {tpos : Pos} (a e it : Addr) :
    Turn P w K (.Tuple elts kk tpos) (Ite K a) [e, it] e (fun i h => (∃ old, IsEnum h e it ((i : Nat) : Int) old) ∧ h.IsListIter it a i ∧ e ≠ it) where
  mem := by simp
  obj := fun i h st b hb => by
    obtain ⟨⟨old, he⟩, ⟨o, ho, hc, hd⟩, _⟩ := st
    have e' : b = e ∨ b = it := by simpa using hb
    rcases e' with z | z
    · rw [z]; exact ⟨_, he, fun v q => nomatch q⟩
    · rw [z]; exact ⟨o, ho, fun v q => by rw [hd] at q; cases q⟩
  keep := fun i h h' st k => let ⟨⟨old, he⟩, hi, hne⟩ := st; ⟨⟨old, k e (by simp) _ he⟩, hi.at fun o q => k it (by simp) o q, hne⟩
  item := by
    intro X hP hw hK hc i pins s σ H E I hf st hg
    subst hP hw hK
    obtain ⟨⟨old, he⟩, hit, hne⟩ := st
    obtain ⟨xs, x, hq, hx⟩ := hg
    obtain ⟨its, rv, p, hz⟩ := I.list hq
    obtain ⟨u, hu, ru⟩ := rv.get hx
    have hel : e < s.heap.objs.size := Heap.lt_size he
    have hil : it < s.heap.objs.size := by obtain ⟨_, q, _⟩ := hit; exact Heap.lt_size q
    refine wpAny_pyNext_enum_item he hit p.isList (x := u) (by simpa using hu) hne fun h' ho hit' hT hsz hk => ?_
    refine ⟨_, rfl, wpAny_letOwnedTupleGo_enum (s := { s with heap := h', toks := s.toks + 1 }) ho fun h'' he' sb => ?_⟩
    have hT2 : h''.get? s.heap.objs.size = some { cls := .type "tuple", data := .seq #[.int i s.toks, u] } := (sb.2 _ (Nat.ne_of_gt hel)).trans hT
    have new : ObjOk X.prog X.w (upd H s.heap.objs.size (.tup [.int (i : Nat), x])) h'' s.heap.objs.size (.tup [.int (i : Nat), x]) :=
      ⟨by show 2 ≤ sizeLine; decide, [.int i s.toks, u], .cons ⟨_, rfl⟩ (.cons ru .nil), ⟨_, hT2, rfl, _, rfl⟩⟩
    have I1 : Inv X pins σ (upd H s.heap.objs.size (.tup [.int (i : Nat), x])) { s with heap := h'', toks := s.toks + 1 } :=
      I.turnedNew (ch := [e, it]) (fun b ob hb q => (sb.2 b (fun z => hb (by simp [z]))).trans (hk b ob (fun z => hb (by simp [z])) (fun z => hb (by simp [z])) q)) hf (Nat.le_refl _) new
    refine ⟨.ref s.heap.objs.size, _, I1, rfl, ⟨_, x, rfl, I.hok.fresh (Nat.le_refl _), rfl, fun ys hy => by rw [I.list_inj hy hq]; exact hx⟩, ⟨⟨u, ?_⟩, hit'.at fun o q => (sb.2 it (Ne.symm hne)).trans q, hne⟩, fun b hb => ?_⟩
    · have e1 : ((i + 1 : Nat) : Int) = (i : Int) + 1 := by omega
      rw [e1]; exact he'
    · have hb' : b < s.heap.objs.size := by
        have e' : b = e ∨ b = it := by simpa using hb
        rcases e' with z | z
        · rw [z]; exact hel
        · rw [z]; exact hil
      rw [upd_ne (Nat.ne_of_lt hb')]
      exact (hf b hb).1
  done := by
    intro X hP hw hK hc i pins s σ H E I hf st hg
    subst hP hw hK
    obtain ⟨⟨old, he⟩, hit, hne⟩ := st
    obtain ⟨xs, hq, hx⟩ := hg
    obtain ⟨its, rv, p, hz⟩ := I.list hq
    obtain ⟨f0, f1, f2, f3, f4, f5⟩ := hf it (by simp)
    have hl := rv.length
    exact wpAny_pyNext_enum_end (I.ok.hd hc) he hit p.isList (by simp; omega) fun h' eb => ⟨rfl, I.turned (t' := s.toks) (fun b o hb q => eb b o hb q) f0 f1 f3 f4 f5⟩
  self := fun A i s Q E st h => let ⟨⟨_, he⟩, _⟩ := st; wpAny_pyIter_enum he h
def iEnum (K : PySem.W.Frag) (ta : TA) : TI := fun σ H R => ta σ H fun vs H1 => ∃ a xs, vs = [.ref a] ∧ SqL K H1 a xs ∧ R (Ite K a) H1
theorem pi_enum {X : Cx} {e : Expr} {ta : TA} {p pos tpos : Pos} {elts : List Expr} {kk : Nat} (hg : Gl X "enumerate") (hm : X.mg "enumerate" = none) (ha : PA X [e] ta) (hs : starEach [e] X.env = [(false, eval e X.env)] := by rfl) :
    PI X (.Tuple elts kk tpos) (.Call (.Name "enumerate" p) [e] [] pos) (iEnum X.K ta) := by
  intro pins s σ H R I h
  refine Call_ (ld_blt I hg hm boot_enumerate (PyProof.Rows.callWith_type1 (thn (ha pos pins s σ H _ I h) fun us s1 ⟨vs, H1, I1, r1, q1⟩ => ?_) hs rfl))
  obtain ⟨a, xs, ex, hq, q⟩ := q1
  subst ex
  cases r1 with
  | cons r rr =>
    cases rr
    cases r
    obtain ⟨its, rv, p', hz⟩ := I1.list hq
    refine call_enumerate_list p'.isList fun h' he hit hsz hk => wpAny_pyIter_enum he ?_
    have I2 : Inv X pins σ H1 { s1 with heap := h' } := I1.kept (t' := s1.toks) hk
    refine ⟨s1.heap.objs.size + 1, [s1.heap.objs.size + 1, s1.heap.objs.size], _, _, H1, rfl, I2, turn_enum a (s1.heap.objs.size + 1) s1.heap.objs.size, ⟨⟨.none, he⟩, hit, Nat.succ_ne_self _⟩, fun b hb => ?_, q⟩
    have e' : b = s1.heap.objs.size + 1 ∨ b = s1.heap.objs.size := by simpa using hb
    have hle : s1.heap.objs.size ≤ b := by
      rcases e' with z | z
      · rw [z]; exact Nat.le_add_right _ _
      · rw [z]; exact Nat.le_refl _
    exact I1.fpOk hle (I1.hok.fresh hle)
theorem boot_zip5 : bootBuiltins "zip" = some (.type "zip") := by decide +kernel
/-- the lists at a and b as they stand at each turn, the items in new pairs -/
def Itz (K : PySem.W.Frag) (a b : Addr) : It :=
  ⟨fun i H => ∃ (xs ys : List V) (x y : V), SqL K H a xs ∧ SqL K H b ys ∧ xs[i]? = some x ∧ ys[i]? = some y,
    fun i H v H' => ∃ T x y, v = .ref T ∧ H T = none ∧ H' = upd H T (.tup [x, y]) ∧ (∀ xs, SqL K H a xs → xs[i]? = some x) ∧ ∀ ys, SqL K H b ys → ys[i]? = some y,
    fun i H => ∃ xs ys : List V, SqL K H a xs ∧ SqL K H b ys ∧ (xs.length ≤ i ∨ ys.length ≤ i)⟩
theorem turn_zip {P : Program} {w : World} {K : PySem.W.Frag} {elts : List Expr} {kk : Nat} {tpos : Pos} {a b z TI TO i1 i2 : Addr} (D : ZipApart z TI TO i1 i2 a b) :
    Turn P w K (.Tuple elts kk tpos) (Itz K a b) [z, TI, TO, i1, i2] z (fun i h => IsZip h z TI TO .none ∧ IsPair h TI (.ref i1) (.ref i2) ∧ (∃ x y, IsPair h TO x y) ∧ h.IsListIter i1 a i ∧ h.IsListIter i2 b i) where
  mem := by simp
  obj := fun i h st c hc => by
    obtain ⟨hz, hTI, ⟨x, y, hTO⟩, ⟨o1, e1, _, d1⟩, ⟨o2, e2, _, d2⟩⟩ := st
    have e' : c = z ∨ c = TI ∨ c = TO ∨ c = i1 ∨ c = i2 := by simpa using hc
    rcases e' with q | q | q | q | q
    · rw [q]; exact ⟨_, hz, fun v q => nomatch q⟩
    · rw [q]; exact ⟨_, hTI, fun v q => nomatch q⟩
    · rw [q]; exact ⟨_, hTO, fun v q => nomatch q⟩
    · rw [q]; exact ⟨o1, e1, fun v q => by rw [d1] at q; cases q⟩
    · rw [q]; exact ⟨o2, e2, fun v q => by rw [d2] at q; cases q⟩
  keep := fun i h h' st k => by
    obtain ⟨hz, hTI, ⟨x, y, hTO⟩, h1, h2⟩ := st
    exact ⟨k z (by simp) _ hz, k TI (by simp) _ hTI, ⟨x, y, k TO (by simp) _ hTO⟩, h1.at fun o q => k i1 (by simp) o q, h2.at fun o q => k i2 (by simp) o q⟩
  item := by
    intro X hP hw hK hc i pins s σ H E I hf st hg
    subst hP hw hK
    obtain ⟨hz, hTI, ⟨x0, y0, hTO⟩, h1, h2⟩ := st
    obtain ⟨xs, ys, x, y, hqx, hqy, hx, hy⟩ := hg
    obtain ⟨its, rv, p, _⟩ := I.list hqx
    obtain ⟨its2, rv2, p2, _⟩ := I.list hqy
    obtain ⟨u, hu, ru⟩ := rv.get hx
    obtain ⟨u2, hu2, ru2⟩ := rv2.get hy
    have hzl : z < s.heap.objs.size := Heap.lt_size hz
    refine wpAny_pyNext_zip_item D hz hTI hTO h1 h2 p.isList p2.isList (x := u) (y := u2) (by simpa using hu) (by simpa using hu2) fun h' z' TO' h1' h2' hT hsz hk => ?_
    refine ⟨_, rfl, wpAny_letOwnedTupleGo_zip (s := { s with heap := h' }) z' fun h'' z'' sb => ?_⟩
    have hT2 : h''.get? s.heap.objs.size = some { cls := .type "tuple", data := .seq #[u, u2] } := (sb.2 _ (Nat.ne_of_gt hzl)).trans hT
    have new : ObjOk X.prog X.w (upd H s.heap.objs.size (.tup [x, y])) h'' s.heap.objs.size (.tup [x, y]) :=
      ⟨by show 2 ≤ sizeLine; decide, [u, u2], .cons ru (.cons ru2 .nil), ⟨_, hT2, rfl, _, rfl⟩⟩
    have I1 : Inv X pins σ (upd H s.heap.objs.size (.tup [x, y])) { s with heap := h'' } :=
      I.turnedNew (t' := s.toks) (ch := [z, TI, TO, i1, i2]) (fun c o hb q => (sb.2 c (fun q' => hb (by simp [q']))).trans (hk c o (fun q' => hb (by simp [q'])) (fun q' => hb (by simp [q'])) (fun q' => hb (by simp [q'])) (fun q' => hb (by simp [q'])) q)) hf (Nat.le_refl _) new
    refine ⟨.ref s.heap.objs.size, _, I1, rfl, ⟨_, x, y, rfl, I.hok.fresh (Nat.le_refl _), rfl, fun l hl => by rw [I.list_inj hl hqx]; exact hx, fun l hl => by rw [I.list_inj hl hqy]; exact hy⟩, ⟨z'', ?_, ⟨u, u2, ?_⟩, ?_, ?_⟩, fun c hcm => ?_⟩
    · exact (sb.2 _ D.TIz).trans (hk _ _ D.TIz D.TITO D.TIi1 D.TIi2 hTI)
    · exact (sb.2 _ D.TOz).trans TO'
    · exact h1'.at fun o q => (sb.2 _ D.i1z).trans q
    · exact h2'.at fun o q => (sb.2 _ D.i2z).trans q
    · have hlt : c < s.heap.objs.size := by
        have e' : c = z ∨ c = TI ∨ c = TO ∨ c = i1 ∨ c = i2 := by simpa using hcm
        rcases e' with q | q | q | q | q
        · rw [q]; exact hzl
        · rw [q]; exact Heap.lt_size hTI
        · rw [q]; exact Heap.lt_size hTO
        · rw [q]; obtain ⟨_, e1, _⟩ := h1; exact Heap.lt_size e1
        · rw [q]; obtain ⟨_, e2, _⟩ := h2; exact Heap.lt_size e2
      rw [upd_ne (Nat.ne_of_lt hlt)]
      exact (hf c hcm).1
  done := by
    intro X hP hw hK hc i pins s σ H E I hf st hg
    subst hP hw hK
    obtain ⟨hz, hTI, ⟨x0, y0, hTO⟩, h1, h2⟩ := st
    obtain ⟨xs, ys, hqx, hqy, hend⟩ := hg
    obtain ⟨its, rv, p, _⟩ := I.list hqx
    obtain ⟨its2, rv2, p2, _⟩ := I.list hqy
    have l1 := rv.length
    have l2 := rv2.length
    have he : its.toArray[i]? = none ∨ its2.toArray[i]? = none := by
      rcases hend with q | q
      · exact .inl (by simp; omega)
      · exact .inr (by simp; omega)
    exact wpAny_pyNext_zip_end (I.ok.hd hc) D hz hTI hTO h1 h2 p.isList p2.isList he fun h' hk => ⟨rfl, I.turnedL (t' := s.toks) (ch := [z, TI, TO, i1, i2]) (fun c o hb q =>
      hk c o (fun q' => hb (by simp [q'])) (fun q' => hb (by simp [q'])) (fun q' => hb (by simp [q'])) (fun q' => hb (by simp [q'])) q) hf⟩
  self := fun A i s Q E st h => wpAny_pyIter_zip st.1 h
def iZip (K : PySem.W.Frag) (ta : TA) : TI := fun σ H R => ta σ H fun vs H1 => ∃ a b xs ys, vs = [.ref a, .ref b] ∧ SqL K H1 a xs ∧ SqL K H1 b ys ∧ R (Itz K a b) H1
theorem pi_zip {X : Cx} {e e2 : Expr} {ta : TA} {p pos tpos : Pos} {elts : List Expr} {kk : Nat} (hg : Gl X "zip") (hm : X.mg "zip" = none) (ha : PA X [e, e2] ta)
    (hs : starEach [e, e2] X.env = (false, eval e X.env) :: starEach [e2] X.env := by rfl) (hpl : (backTo pos (starEach [e2] X.env)).any (·.1) = false := by rfl) :
    PI X (.Tuple elts kk tpos) (.Call (.Name "zip" p) [e, e2] [] pos) (iZip X.K ta) := by
  intro pins s σ H R I h
  refine Call_ (ld_blt I hg hm boot_zip5 (PyProof.Rows.callWith_type1 (thn (ha pos pins s σ H _ I h) fun us s1 ⟨vs, H1, I1, r1, q1⟩ => ?_) hs hpl))
  obtain ⟨a, b, xs, ys, ex, hqx, hqy, q⟩ := q1
  subst ex
  cases r1 with
  | cons r rr =>
    cases rr with
    | cons r' rr =>
      cases rr
      cases r
      cases r'
      obtain ⟨its, rv, p1, _⟩ := I1.list hqx
      obtain ⟨its2, rv2, p2, _⟩ := I1.list hqy
      have la : a < s1.heap.objs.size := p1.lt
      have lb : b < s1.heap.objs.size := p2.lt
      refine call_zip_2 p1.isList p2.isList fun h' hz hTI hTO h1 h2 hsz hk => wpAny_pyIter_zip hz ?_
      have I2 : Inv X pins σ H1 { s1 with heap := h' } := I1.kept (t' := s1.toks) hk
      refine ⟨s1.heap.objs.size + 4, [s1.heap.objs.size + 4, s1.heap.objs.size + 2, s1.heap.objs.size + 3, s1.heap.objs.size, s1.heap.objs.size + 1], _, _, H1, rfl, I2, turn_zip (PySem.W.ktu_apart s1.heap.objs.size a b la lb), ⟨hz, hTI, ⟨_, _, hTO⟩, h1, h2⟩, fun c hcm => ?_, q⟩
      have e' : c = s1.heap.objs.size + 4 ∨ c = s1.heap.objs.size + 2 ∨ c = s1.heap.objs.size + 3 ∨ c = s1.heap.objs.size ∨ c = s1.heap.objs.size + 1 := by simpa using hcm
      have hle : s1.heap.objs.size ≤ c := by
        rcases e' with z | z | z | z | z
        · rw [z]; exact Nat.le_add_right _ _
        · rw [z]; exact Nat.le_add_right _ _
        · rw [z]; exact Nat.le_add_right _ _
        · rw [z]; exact Nat.le_refl _
        · rw [z]; exact Nat.le_add_right _ _
      exact I1.fpOk hle (I1.hok.fresh hle)
end L2
section 
namespace Bits
open PySem PyProof.Rows
end Bits
end 
section 
namespace TL
open PySem PySem.Builtin PySem.Builtin.Str PySem.StrLaws
abbrev tl (x : Str) : List Nat := x.cps.toList
theorem tl_append (x y : Str) : tl (x ++ y) = tl x ++ tl y := by
  show (x ++ y).cps.toList = _
  rw [Str.cps_append, Array.toList_append]
/-- the signs of a number -/
def numL (n : Nat) : List Nat := (Nat.toDigits 10 n).map Char.toNat
theorem tl_num (n : Nat) : tl (Str.ofString (toString ((n : Nat) : Int))) = numL n := PySem.W.KIN.signs_num n
end TL
end 
namespace L2
open PySem PySem.Spec PyProof.Rows
section
variable {X : Cx} {pins : List (Addr × Obj)} {σ : St} {H : Hp} {s : Shared} {Q : VK}
end
section
variable {X : Cx}
end
section
variable {X : Cx} {o e : Expr} {to te : TE}
end
end L2
namespace L2
open PySem PySem.Spec PyProof.Rows
section
variable {X : Cx}
end
end L2
namespace Att
open PySem PySem.W PySem.Calls PyProof.Rows
section
variable {prog : Program} {w : World} {A : Around} {E : Value → Shared → Prop} {s : Shared} {K : Frag}
end
end Att
namespace L2
open PySem PySem.Spec PyProof.Rows
end L2
namespace L2
open PySem PySem.Spec PyProof.Rows
end L2
section
set_option Elab.async false
set_option linter.all false
set_option maxRecDepth 100000
set_option maxHeartbeats 2000000
namespace L2
open PySem PySem.Spec PyProof.Rows
open PySem.W (WData Codec OpenSpec Well WellAll ReadsW ReadsAllW)
mutual
/-- x stands for the datum d, lists and tuples all the way -/
inductive Dw (K : PySem.W.Frag) (H : Hp) : V → WData → Prop
  | non : Dw K H .non .none
  | bl (b : Bool) : Dw K H (.bl b) (.bool b)
  | int (i : Int) : Dw K H (.int i) (.int i)
  | str (x : Str) : Dw K H (.str x) (.str x)
  | byt (b : Array UInt8) : Dw K H (.byt b) (.bytes b.toList)
  | lst {a : Addr} {xs : List V} {ds : List WData} : SqL K H a xs → DwAll K H xs ds → Dw K H (.ref a) (.list ds)
  | tup {a : Addr} {xs : List V} {ds : List WData} : SqT K H a xs → DwAll K H xs ds → Dw K H (.ref a) (.tuple ds)
inductive DwAll (K : PySem.W.Frag) (H : Hp) : List V → List WData → Prop
  | nil : DwAll K H [] []
  | cons {v : V} {vs : List V} {d : WData} {ds : List WData} : Dw K H v d → DwAll K H vs ds → DwAll K H (v :: vs) (d :: ds)
end
theorem dw_ints {K : PySem.W.Frag} {H : Hp} : ∀ ns : List Int, DwAll K H (ns.map V.int) (ns.map WData.int)
  | [] => .nil
  | n :: r => .cons (.int n) (dw_ints r)
theorem ints_dw {K : PySem.W.Frag} {H : Hp} : ∀ (ns : List Int) (xs : List V), DwAll K H xs (ns.map WData.int) → xs = ns.map V.int
  | [], xs, h => by
    cases h
    rfl
  | n :: r, xs, h => by
    cases h with
    | cons h1 h2 =>
      cases h1
      rw [ints_dw r _ h2] <;> rfl
section
variable {P : Program} {w : World} {K : PySem.W.Frag} {H : Hp} {h : Heap} {R : PySem.W.WRecords} {cl : Str → Option Addr}
theorem sqL_at {a : Addr} {xs : List V} (hok : HOk P w H h) (KX : K.In h) (q : SqL K H a xs) : ∃ (its : List Value) (o : Obj) (n : Nat), Vals xs its ∧ h.get? a = some o ∧ o.cls = .type "list" ∧ o.data = .seq its.toArray n := by
  rcases q with q | ⟨o, its, n, e, hc, _, hd, _, hv⟩
  · obtain ⟨_, its, n, hv, e⟩ := (show ObjOk P w H h a (.lst xs) from q.ok hok)
    exact ⟨its, _, n, hv, e, rfl, rfl⟩
  · exact ⟨its.toList, o, n, hv, KX _ _ e, hc, by simp [hd]⟩
theorem sqT_at {a : Addr} {xs : List V} (hok : HOk P w H h) (KX : K.In h) (q : SqT K H a xs) : ∃ (its : List Value) (o : Obj) (n : Nat), Vals xs its ∧ h.get? a = some o ∧ o.cls = .type "tuple" ∧ o.data = .seq its.toArray n := by
  rcases q with q | ⟨o, its, n, e, hc, hd, _, hv⟩
  · obtain ⟨_, its, hv, o, e, hc, n, hd⟩ := (show ObjOk P w H h a (.tup xs) from q.ok hok)
    exact ⟨its, o, n, hv, e, hc, hd⟩
  · exact ⟨its.toList, o, n, hv, KX _ _ e, hc, by simp [hd]⟩
mutual
theorem Dw.reads (hok : HOk P w H h) (KX : K.In h) : ∀ (d : WData) (v : V) (u : Value), Dw K H v d → RelV v u → ∃ as, ReadsW R cl h u d as
  | .none, _, _, x, r => by
    cases x
    cases r
    exact ⟨_, ReadsW.none⟩
  | .bool b, _, _, x, r => by
    cases x
    cases r
    exact ⟨_, ReadsW.bool b⟩
  | .int i, _, _, x, r => by
    cases x
    obtain ⟨t, rfl⟩ := r
    exact ⟨_, ReadsW.int i t⟩
  | .str s, _, _, x, r => by
    cases x
    obtain ⟨t, rfl⟩ := r
    exact ⟨_, ReadsW.str s t⟩
  | .bytes b, _, _, x, r => by
    cases x
    obtain ⟨t, rfl⟩ := r
    exact ⟨_, ReadsW.bytes _ t⟩
  | .list ds, _, _, x, r => by
    cases x with
    | lst hs ha =>
      cases r
      obtain ⟨its, o, n, rv, ho, hc, hd⟩ := sqL_at hok KX hs
      obtain ⟨as, hr⟩ := Dw.readsAll hok KX ds _ its ha rv
      exact ⟨_, ReadsW.list ho hc hd hr⟩
  | .tuple ds, _, _, x, r => by
    cases x with
    | tup hs ha =>
      cases r
      obtain ⟨its, o, n, rv, ho, hc, hd⟩ := sqT_at hok KX hs
      obtain ⟨as, hr⟩ := Dw.readsAll hok KX ds _ its ha rv
      exact ⟨_, ReadsW.tuple ho hc hd hr⟩
  | .float _, _, _, x, _ => by cases x
  | .dict _, _, _, x, _ => by cases x
  | .bytearray _, _, _, x, _ => by cases x
  | .set _, _, _, x, _ => by cases x
  | .frozenset _, _, _, x, _ => by cases x
  | .obj _ _, _, _, x, _ => by cases x
theorem Dw.readsAll (hok : HOk P w H h) (KX : K.In h) : ∀ (ds : List WData) (vs : List V) (us : List Value), DwAll K H vs ds → Vals vs us → ∃ as, ReadsAllW R cl h us ds as
  | [], _, _, x, r => by
    cases x
    cases r
    exact ⟨_, ReadsAllW.nil⟩
  | d :: ds, _, _, x, r => by
    cases x with
    | cons h1 h2 =>
      cases r with
      | cons r1 r2 =>
        obtain ⟨as, q1⟩ := Dw.reads hok KX d _ _ h1 r1
        obtain ⟨bs, q2⟩ := Dw.readsAll hok KX ds _ _ h2 r2
        exact ⟨_, ReadsAllW.cons q1 q2⟩
end
end
mutual
/-- data that a codec tells -/
def plW : WData → Bool
  | .none => true
  | .bool _ => true
  | .int _ => true
  | .str _ => true
  | .bytes _ => true
  | .list xs => plWs xs
  | .tuple xs => plWs xs
  | _ => false
def plWs : List WData → Bool
  | [] => true
  | x :: r => plW x && plWs r
end
theorem plWs_map {α : Type} {f : α → WData} (h : ∀ a, plW (f a) = true) : ∀ l : List α, plWs (l.map f) = true
  | [] => rfl
  | x :: r => by
    show (plW (f x) && plWs (r.map f)) = true
    rw [h x, plWs_map h r] <;> rfl
theorem pl_enc : ∀ (c : Codec) (a : c.denote), plW (c.enc a) = true
  | .unit, _ => rfl
  | .bool, _ => rfl
  | .int _ _, _ => rfl
  | .nat _ _, _ => rfl
  | .u8, _ => rfl
  | .bytes _ _, _ => rfl
  | .text _ _ _ _, _ => rfl
  | .list _ _ c, a => plWs_map (fun x => pl_enc c x) a
  | .pair c d, a => by
    show (plW (c.enc a.1) && (plW (d.enc a.2) && true)) = true
    rw [pl_enc c a.1, pl_enc d a.2] <;> rfl
  | .triple c d e, a => by
    show (plW (c.enc a.1) && (plW (d.enc a.2.1) && (plW (e.enc a.2.2) && true))) = true
    rw [pl_enc c a.1, pl_enc d a.2.1, pl_enc e a.2.2] <;> rfl
  | .option c, none => rfl
  | .option c, some x => pl_enc c x
theorem pl_encAll : ∀ (cs : List Codec) (a : Codec.denoteAll cs), plWs (Codec.encAll cs a) = true
  | [], _ => rfl
  | c :: cs, a => by
    show (plW (c.enc a.1) && plWs (Codec.encAll cs a.2)) = true
    rw [pl_enc c a.1, pl_encAll cs a.2] <;> rfl
theorem weight_mem : ∀ {xs : List WData} {d : WData}, d ∈ xs → d.weight ≤ WData.weightAll xs
  | [], d, h => absurd h (by simp)
  | x :: r, d, h => by
    show d.weight ≤ x.weight + 1 + WData.weightAll r
    rcases List.mem_cons.mp h with e | m
    · rw [e]
      omega
    · have z := weight_mem m
      omega
def toV : Value → V
  | .none => .non
  | .bool b => .bl b
  | .int i _ => .int i
  | .str x _ => .str x
  | .bytes b _ => .byt b
  | .ref a => .ref a
  | _ => .non
/-- a value of the arguments, its objects among A -/
def OkU (A : List Addr) : Value → Prop
  | .none => True
  | .bool _ => True
  | .int _ _ => True
  | .str _ _ => True
  | .bytes _ _ => True
  | .ref a => a ∈ A
  | _ => False
theorem OkU.mono {A B : List Addr} (h : ∀ a ∈ A, a ∈ B) : ∀ {u : Value}, OkU A u → OkU B u := fun {u} x => by
  cases u with
  | ref a => exact h a x
  | none => trivial
  | bool b => trivial
  | int i t => trivial
  | str s t => trivial
  | bytes b t => trivial
  | _ => exact False.elim x
theorem relV_toV {A : List Addr} {u : Value} (x : OkU A u) : RelV (toV u) u := by
  cases u with
  | ref a => rfl
  | none => rfl
  | bool b => rfl
  | int i t => exact ⟨t, rfl⟩
  | str s t => exact ⟨t, rfl⟩
  | bytes b t => exact ⟨t, rfl⟩
  | _ => exact False.elim x
theorem vals_toV {A : List Addr} : ∀ {vs : List Value}, (∀ u ∈ vs, OkU A u) → Vals (vs.map toV) vs
  | [], _ => .nil
  | u :: r, h => .cons (relV_toV (h u (List.mem_cons_self ..))) (vals_toV fun x hx => h x (List.mem_cons_of_mem _ hx))
/-- an object of the arguments -/
def ArgOb (h : Heap) (A : List Addr) (a : Addr) : Prop := ∃ vs : List Value, vs.length ≤ sizeLine ∧ (∀ u ∈ vs, OkU A u) ∧
  (h.get? a = some { cls := .type "list", data := .seq vs.toArray } ∨ h.get? a = some { cls := .type "tuple", data := .seq vs.toArray })
theorem ArgOb.mono {h : Heap} {A B : List Addr} {a : Addr} (k : ∀ a ∈ A, a ∈ B) (x : ArgOb h A a) : ArgOb h B a := by
  obtain ⟨vs, h1, h2, h3⟩ := x
  exact ⟨vs, h1, fun u hu => (h2 u hu).mono k, h3⟩
theorem wellAll_len {P : Params} {h : Heap} : ∀ {vs : List Value} {ds : List WData}, WellAll P h vs ds → vs.length = ds.length
  | _, _, .nil => rfl
  | _, _, .cons _ b => by
    show _ + 1 = _ + 1
    rw [wellAll_len b]
theorem well_list {P : Params} {h : Heap} {v : Value} {ds : List WData} (x : Well P h v (.list ds)) : ∃ (a : Addr) (vs : List Value), v = .ref a ∧ h.get? a = some { cls := .type "list", data := .seq vs.toArray } ∧ WellAll P h vs ds := by
  cases x with
  | list ho hall => exact ⟨_, _, rfl, ho, hall⟩
theorem well_tuple {P : Params} {h : Heap} {v : Value} {ds : List WData} (x : Well P h v (.tuple ds)) : ∃ (a : Addr) (vs : List Value), v = .ref a ∧ h.get? a = some { cls := .type "tuple", data := .seq vs.toArray } ∧ WellAll P h vs ds := by
  cases x with
  | tuple ho hall => exact ⟨_, _, rfl, ho, hall⟩
theorem well_cons {P : Params} {h : Heap} {us : List Value} {d : WData} {ds : List WData} (x : WellAll P h us (d :: ds)) : ∃ (v : Value) (vs : List Value), us = v :: vs ∧ Well P h v d ∧ WellAll P h vs ds := by
  cases x with
  | cons a b => exact ⟨_, _, rfl, a, b⟩
theorem line_of {n : Nat} (h : n ≤ 1048576) : n ≤ sizeLine := Nat.le_trans h (by decide)
section
variable {P : Params} {h : Heap}
mutual
theorem area_one : ∀ (d : WData) (v : Value), Well P h v d → plW d = true → d.weight ≤ 1048576 → ∃ A : List Addr, OkU A v ∧ ∀ a ∈ A, ArgOb h A a
  | .none, _, x, _, _ => by
    cases x
    exact ⟨[], trivial, fun a m => absurd m (by simp)⟩
  | .bool b, _, x, _, _ => by
    cases x
    exact ⟨[], trivial, fun a m => absurd m (by simp)⟩
  | .int i, _, x, _, _ => by
    cases x
    exact ⟨[], trivial, fun a m => absurd m (by simp)⟩
  | .str s, _, x, _, _ => by
    cases x
    exact ⟨[], trivial, fun a m => absurd m (by simp)⟩
  | .bytes b, _, x, _, _ => by
    cases x
    exact ⟨[], trivial, fun a m => absurd m (by simp)⟩
  | .list ds, _, x, p, z => by
    obtain ⟨a, vs, rfl, ho, hall⟩ := well_list x
    have z2 : WData.weightAll ds ≤ 1048576 := z
    obtain ⟨A, h1, h2⟩ := area_all ds _ hall p fun d hd => Nat.le_trans (weight_mem hd) z2
    have k : ∀ b ∈ A, b ∈ a :: A := fun b hb => List.mem_cons_of_mem _ hb
    refine ⟨a :: A, List.mem_cons_self .., fun b hb => ?_⟩
    rcases List.mem_cons.mp hb with e | m
    · rw [e]
      exact ⟨vs, line_of (by rw [wellAll_len hall]; exact Nat.le_trans (PySem.W.length_le_weightAllW ds) z2), fun u hu => (h1 u hu).mono k, .inl ho⟩
    · exact (h2 b m).mono k
  | .tuple ds, _, x, p, z => by
    obtain ⟨a, vs, rfl, ho, hall⟩ := well_tuple x
    have z2 : WData.weightAll ds ≤ 1048576 := z
    obtain ⟨A, h1, h2⟩ := area_all ds _ hall p fun d hd => Nat.le_trans (weight_mem hd) z2
    have k : ∀ b ∈ A, b ∈ a :: A := fun b hb => List.mem_cons_of_mem _ hb
    refine ⟨a :: A, List.mem_cons_self .., fun b hb => ?_⟩
    rcases List.mem_cons.mp hb with e | m
    · rw [e]
      exact ⟨vs, line_of (by rw [wellAll_len hall]; exact Nat.le_trans (PySem.W.length_le_weightAllW ds) z2), fun u hu => (h1 u hu).mono k, .inr ho⟩
    · exact (h2 b m).mono k
  | .float _, _, _, p, _ => Bool.noConfusion (show false = true from p)
  | .dict _, _, _, p, _ => Bool.noConfusion (show false = true from p)
  | .bytearray _, _, _, p, _ => Bool.noConfusion (show false = true from p)
  | .set _, _, _, p, _ => Bool.noConfusion (show false = true from p)
  | .frozenset _, _, _, p, _ => Bool.noConfusion (show false = true from p)
  | .obj _ _, _, _, p, _ => Bool.noConfusion (show false = true from p)
theorem area_all : ∀ (ds : List WData) (vs : List Value), WellAll P h vs ds → plWs ds = true → (∀ d ∈ ds, d.weight ≤ 1048576) → ∃ A : List Addr, (∀ u ∈ vs, OkU A u) ∧ ∀ a ∈ A, ArgOb h A a
  | [], _, x, _, _ => by
    cases x
    exact ⟨[], fun u m => absurd m (by simp), fun a m => absurd m (by simp)⟩
  | d :: ds, _, x, p, z => by
    obtain ⟨v, vs, rfl, x1, x2⟩ := well_cons x
    have q : plW d = true ∧ plWs ds = true := Bool.and_eq_true_iff.mp p
    obtain ⟨A, a1, a2⟩ := area_one d v x1 q.1 (z d (List.mem_cons_self ..))
    obtain ⟨B, b1, b2⟩ := area_all ds vs x2 q.2 fun e he => z e (List.mem_cons_of_mem _ he)
    have kA : ∀ b ∈ A, b ∈ A ++ B := fun b hb => List.mem_append.mpr (.inl hb)
    have kB : ∀ b ∈ B, b ∈ A ++ B := fun b hb => List.mem_append.mpr (.inr hb)
    refine ⟨A ++ B, fun u hu => ?_, fun b hb => ?_⟩
    · rcases List.mem_cons.mp hu with e | m
      · rw [e]
        exact a1.mono kA
      · exact (b1 u m).mono kB
    · rcases List.mem_append.mp hb with m | m
      · exact (a2 b m).mono kA
      · exact (b2 b m).mono kB
end
end
/-- what is tracked of an argument's object -/
def hoOf (o : Obj) : Option HO := match o.data with
  | .seq vs _ => if (o.cls == Value.type "list") = true then some (.frz o (.lst (vs.toList.map toV))) else some (.frz o (.tup (vs.toList.map toV)))
  | _ => none
def argH (K : PySem.W.Frag) (h : Heap) (A : List Addr) : Hp := fun b => if b ∈ A then (if (K.lookup b).isNone = true then (h.get? b).bind hoOf else none) else none
/-- nothing is tracked but what is known to the object -/
def OnlyF (H : Hp) : Prop := ∀ b, H b = none ∨ ∃ o u, H b = some (.frz o u)
theorem hoOf_lst (vs : List Value) : hoOf { cls := .type "list", data := .seq vs.toArray } = some (.frz { cls := .type "list", data := .seq vs.toArray } (.lst (vs.map toV))) := by
  show (if (Value.type "list" == Value.type "list") = true then some (HO.frz { cls := .type "list", data := .seq vs.toArray } (.lst (vs.toArray.toList.map toV))) else some (HO.frz { cls := .type "list", data := .seq vs.toArray } (.tup (vs.toArray.toList.map toV)))) = _
  rw [if_pos (beq_self_eq_true _)]
theorem hoOf_tup (vs : List Value) : hoOf { cls := .type "tuple", data := .seq vs.toArray } = some (.frz { cls := .type "tuple", data := .seq vs.toArray } (.tup (vs.map toV))) := by
  show (if (Value.type "tuple" == Value.type "list") = true then some (HO.frz { cls := .type "tuple", data := .seq vs.toArray } (.lst (vs.toArray.toList.map toV))) else some (HO.frz { cls := .type "tuple", data := .seq vs.toArray } (.tup (vs.toArray.toList.map toV)))) = _
  rw [if_neg (by decide)]
section
variable {P : Program} {w : World} {K : PySem.W.Frag} {h : Heap} {A : List Addr}
theorem argH_at {b : Addr} {o : Obj} (hb : b ∈ A) (hk : K.lookup b = none) (e : h.get? b = some o) : argH K h A b = hoOf o := by
  unfold argH
  rw [if_pos hb, hk, if_pos (show (none : Option Obj).isNone = true from rfl), e] <;> rfl
theorem of_argH {b : Addr} {u : HO} (q : argH K h A b = some u) : b ∈ A ∧ K.lookup b = none := by
  unfold argH at q
  by_cases hb : b ∈ A
  · rw [if_pos hb] at q
    cases hk : K.lookup b with
    | none => exact ⟨hb, rfl⟩
    | some o =>
      rw [hk, if_neg (by simp)] at q
      cases q
  · rw [if_neg hb] at q
    cases q
/-- what stands tracked -/
theorem argH_is (ar : ∀ a ∈ A, ArgOb h A a) {b : Addr} {u : HO} (q : argH K h A b = some u) : K.lookup b = none ∧ ∃ vs : List Value, vs.length ≤ sizeLine ∧ (∀ u ∈ vs, OkU A u) ∧
    ((h.get? b = some { cls := .type "list", data := .seq vs.toArray } ∧ u = .frz { cls := .type "list", data := .seq vs.toArray } (.lst (vs.map toV))) ∨
     (h.get? b = some { cls := .type "tuple", data := .seq vs.toArray } ∧ u = .frz { cls := .type "tuple", data := .seq vs.toArray } (.tup (vs.map toV)))) := by
  obtain ⟨hb, hk⟩ := of_argH q
  obtain ⟨vs, h1, h2, h3⟩ := ar b hb
  refine ⟨hk, vs, h1, h2, ?_⟩
  rcases h3 with e | e
  · rw [argH_at hb hk e, hoOf_lst] at q
    exact .inl ⟨e, (Option.some.inj q).symm⟩
  · rw [argH_at hb hk e, hoOf_tup] at q
    exact .inr ⟨e, (Option.some.inj q).symm⟩
theorem argH_only (ar : ∀ a ∈ A, ArgOb h A a) : OnlyF (argH K h A) := fun b => by
  cases q : argH K h A b with
  | none => exact .inl rfl
  | some u =>
    obtain ⟨_, vs, _, _, ⟨_, e⟩ | ⟨_, e⟩⟩ := argH_is ar q
    · exact .inr ⟨_, _, by rw [e]⟩
    · exact .inr ⟨_, _, by rw [e]⟩
theorem argH_ok (ar : ∀ a ∈ A, ArgOb h A a) : HOk P w (argH K h A) h := fun b u q => by
  obtain ⟨_, vs, h1, h2, ⟨e, rfl⟩ | ⟨e, rfl⟩⟩ := argH_is ar q
  · exact ⟨e, by rw [List.length_map]; exact h1, vs, _, vals_toV h2, e⟩
  · exact ⟨e, by rw [List.length_map]; exact h1, vs, vals_toV h2, _, e, rfl, _, rfl⟩
theorem seq_inj {c c' : Value} {vs us : List Value} (e : (some { cls := c, data := .seq vs.toArray } : Option Obj) = some { cls := c', data := .seq us.toArray }) : c = c' ∧ vs = us := by
  have e1 := Option.some.inj e
  have e2 : c = c' := congrArg Obj.cls e1
  have e3 : Data.seq vs.toArray = Data.seq us.toArray := congrArg Obj.data e1
  injection e3 with e4
  refine ⟨e2, ?_⟩
  have e5 := congrArg Array.toList e4
  simpa using e5
/-- a list argument -/
theorem argL (KX : K.In h) (ar : ∀ a ∈ A, ArgOb h A a) {a : Addr} {vs : List Value} (ha : a ∈ A) (e : h.get? a = some { cls := .type "list", data := .seq vs.toArray }) : (∀ u ∈ vs, OkU A u) ∧ SqL K (argH K h A) a (vs.map toV) := by
  obtain ⟨us, h1, h2, h3⟩ := ar a ha
  have hu : us = vs := by
    rcases h3 with q | q
    · rw [e] at q
      exact (seq_inj q).2.symm
    · rw [e] at q
      exact absurd (Value.type.inj (seq_inj q).1) (by decide)
  subst hu
  refine ⟨h2, ?_⟩
  cases hk : K.lookup a with
  | none => exact .inl (.inr ⟨_, by rw [argH_at ha hk e, hoOf_lst]⟩)
  | some o =>
    have e2 := KX a o hk
    rw [e] at e2
    obtain rfl := Option.some.inj e2
    exact .inr ⟨_, us.toArray, _, hk, rfl, rfl, rfl, by rw [List.size_toArray]; exact h1, by simpa using vals_toV h2⟩
theorem argT (KX : K.In h) (ar : ∀ a ∈ A, ArgOb h A a) {a : Addr} {vs : List Value} (ha : a ∈ A) (e : h.get? a = some { cls := .type "tuple", data := .seq vs.toArray }) : (∀ u ∈ vs, OkU A u) ∧ SqT K (argH K h A) a (vs.map toV) := by
  obtain ⟨us, h1, h2, h3⟩ := ar a ha
  have hu : us = vs := by
    rcases h3 with q | q
    · rw [e] at q
      exact absurd (Value.type.inj (seq_inj q).1) (by decide)
    · rw [e] at q
      exact (seq_inj q).2.symm
  subst hu
  refine ⟨h2, ?_⟩
  cases hk : K.lookup a with
  | none => exact .inl (.inr ⟨_, by rw [argH_at ha hk e, hoOf_tup]⟩)
  | some o =>
    have e2 := KX a o hk
    rw [e] at e2
    obtain rfl := Option.some.inj e2
    exact .inr ⟨_, us.toArray, _, hk, rfl, rfl, by rw [List.size_toArray]; exact h1, by simpa using vals_toV h2⟩
mutual
theorem dw_one {Pm : Params} (KX : K.In h) (ar : ∀ a ∈ A, ArgOb h A a) : ∀ (d : WData) (v : Value), Well Pm h v d → plW d = true → OkU A v → Dw K (argH K h A) (toV v) d
  | .none, _, x, _, _ => by
    cases x
    exact .non
  | .bool b, _, x, _, _ => by
    cases x
    exact .bl b
  | .int i, _, x, _, _ => by
    cases x
    exact .int i
  | .str s, _, x, _, _ => by
    cases x
    exact .str s
  | .bytes b, _, x, _, _ => by
    cases x
    have z := Dw.byt (K := K) (H := argH K h A) b.toArray
    exact z
  | .list ds, _, x, p, hu => by
    obtain ⟨a, vs, rfl, ho, hall⟩ := well_list x
    obtain ⟨h2, hs⟩ := argL KX ar hu ho
    exact .lst hs (dw_all KX ar ds _ hall p h2)
  | .tuple ds, _, x, p, hu => by
    obtain ⟨a, vs, rfl, ho, hall⟩ := well_tuple x
    obtain ⟨h2, hs⟩ := argT KX ar hu ho
    exact .tup hs (dw_all KX ar ds _ hall p h2)
  | .float _, _, _, p, _ => Bool.noConfusion (show false = true from p)
  | .dict _, _, _, p, _ => Bool.noConfusion (show false = true from p)
  | .bytearray _, _, _, p, _ => Bool.noConfusion (show false = true from p)
  | .set _, _, _, p, _ => Bool.noConfusion (show false = true from p)
  | .frozenset _, _, _, p, _ => Bool.noConfusion (show false = true from p)
  | .obj _ _, _, _, p, _ => Bool.noConfusion (show false = true from p)
theorem dw_all {Pm : Params} (KX : K.In h) (ar : ∀ a ∈ A, ArgOb h A a) : ∀ (ds : List WData) (vs : List Value), WellAll Pm h vs ds → plWs ds = true → (∀ u ∈ vs, OkU A u) → DwAll K (argH K h A) (vs.map toV) ds
  | [], _, x, _, _ => by
    cases x
    exact .nil
  | d :: ds, _, x, p, hu => by
    obtain ⟨v, vs, rfl, x1, x2⟩ := well_cons x
    have q : plW d = true ∧ plWs ds = true := Bool.and_eq_true_iff.mp p
    exact .cons (dw_one KX ar d v x1 q.1 (hu _ (List.mem_cons_self ..))) (dw_all KX ar ds vs x2 q.2 fun u m => hu u (List.mem_cons_of_mem _ m))
end
end
theorem spec_call {P : Program} {w : World} {K : PySem.W.Frag} {mg mb : Str → Option Value} {CX : CXT} {k : Nat} {fa : Addr} {fd : FuncData} {ps : List Str} {sp : Sp} {s₁ : Shared} {vals : List Value} {ds : List WData} {R : PySem.W.WRecords} {cl : Str → Option Addr} {d0 : WData}
    (KX : K.In s₁.heap) (hns : s₁.heap.Ns mainGlobals mg) (hb : s₁.heap.Ns builtinsNs mb) (hbb : ∀ x : Str, x ≠ "__name__" → mb x = bootBuiltins x) (hlim : s₁.heap.NoLimit) (hg : s₁.gens = #[])
    (hwl : WellAll w.params s₁.heap vals ds) (hpl : plWs ds = true) (hwt : ∀ d ∈ ds, d.weight ≤ 1048576) (hr : Room k callerA)
    (F : ∀ base : Heap, K.In base → base.Ns mainGlobals mg → FnOk P w K mg base CX k fa fd ps sp) (hbind : ∀ (s : Shared) (us : List Value), us.length = ps.length → BindsTo s fd ⟨us, []⟩ (ps.zip us)) (hlen : ds.length = ps.length)
    (hsp : ∀ (H : Hp) (xs : List V), OnlyF H → DwAll K H xs ds → sp xs H (fun v H' => Dw K H' v d0) fun _ _ _ => False)
    (hCX : ∀ H e s', CX [] H s₁ (fun _ _ _ => False) e s' → False) :
    codeAny (model P w) callerA (.call (.ref fa) ⟨vals, []⟩) (fun r s' => ∃ u as, r = .ok (.ret u) ∧ ReadsW R cl s'.heap u d0 as ∧ OldK s₁.heap s'.heap ∧ s'.os = s₁.os ∧ AllBare s'.gens) s₁ := by
  obtain ⟨A, ho, ar⟩ := area_all ds vals hwl hpl hwt
  have hO : OnlyF (argH K s₁.heap A) := argH_only ar
  have hok : HOk P w (argH K s₁.heap A) s₁.heap := argH_ok ar
  have hS := dw_all KX ar ds vals hwl hpl ho
  have hV := vals_toV ho
  have hK : ∀ b u, argH K s₁.heap A b = some u → K.lookup b = none := fun b u q => (argH_is ar q).1
  have noA : ∀ {b : Addr} {o : Obj} {es : Array DictEntry} {ep : Nat}, s₁.heap.get? b = some o → o.data = .dict es ep → argH K s₁.heap A b = none := fun {b o es ep} e d => by
    cases q : argH K s₁.heap A b with
    | none => rfl
    | some u =>
      obtain ⟨_, vs, _, _, ⟨e2, _⟩ | ⟨e2, _⟩⟩ := argH_is ar q
      · rw [e2] at e
        cases e
        have d' : Data.seq vs.toArray _ = Data.dict es ep := d
        cases d'
      · rw [e2] at e
        cases e
        have d' : Data.seq vs.toArray _ = Data.dict es ep := d
        cases d'
  generalize argH K s₁.heap A = H at hO hok hS hK noA
  have base_of : ∀ {b : Addr} {o : Obj}, s₁.heap.get? b = some o → H b = none → (hidT s₁.heap H).get? b = some o := fun e n => hidT_get e n
  have nsK : ∀ {b : Addr} {m : Str → Option Value}, s₁.heap.Ns b m → (hidT s₁.heap H).Ns b m := fun {b m} ⟨o, es, ep, e, d, r⟩ => ⟨o, es, ep, base_of e (noA e d), d, r⟩
  have nK : ∀ b o, K.lookup b = some o → H b = none := fun b o e => by
    cases q : H b with
    | none => rfl
    | some u =>
      rw [hK b u q] at e
      cases e
  have hKb : K.In (hidT s₁.heap H) := fun b o e => base_of (KX b o e) (nK b o e)
  have hM : Mod K mg (hidT s₁.heap H) := ⟨hKb, nsK hns, ⟨mb, nsK hb, hbb⟩, let ⟨mc, h1, h2⟩ := hlim; ⟨mc, nsK h1, h2⟩⟩
  have e0 : Env0 P w K mg (hidT s₁.heap H) callerA [] s₁ H := ⟨rfl, hM, fun b o e => of_hidT e, Nat.le_of_eq (hidT_size _ _), trivial, fun b hb => absurd (show b ∈ ([] : List Addr) from hb) (by simp), hok, .of_eq hg⟩
  have hl : vals.length = ps.length := by rw [wellAll_len hwl]; exact hlen
  refine codeAny_mono ((F _ hKb (nsK hns)).run callerA [] s₁ H ⟨vals, []⟩ vals (vals.map toV) _ _ hr e0 (hbind s₁ vals hl) hV (hsp H _ hO hS)) fun r s' x => ?_
  cases r with
  | error e => exact (hCX H e s' x).elim
  | ok fl =>
    cases fl with
    | next => exact False.elim x
    | brk => exact False.elim x
    | cont => exact False.elim x
    | ret u =>
      obtain ⟨v, H', os, bare, un, hok', r', q⟩ := x
      have kept : ∀ b o, s₁.heap.get? b = some o → s'.heap.get? b = some o := fun b o e => by
        cases q2 : H b with
        | none => exact un.keep b o e q2 (by intro z; exact absurd (show b ∈ ([] : List Addr) from z) (by simp)) (by simp)
        | some u2 =>
          rcases hO b with z | ⟨ob, u3, z⟩
          · rw [q2] at z
            cases z
          · have z2 := un.frzs b ob _ z
            obtain ⟨e1, _⟩ := hok b _ z
            obtain ⟨e2, _⟩ := hok' b _ z2
            rw [e] at e1
            cases e1
            exact e2
      have KX' : K.In s'.heap := fun b o e => kept b o (KX b o e)
      obtain ⟨as, hrd⟩ := Dw.reads (R := R) (cl := cl) hok' KX' d0 v u q r'
      exact ⟨u, as, rfl, hrd, OldK.of_keep kept, os, bare⟩
theorem layable_weight {ds : List WData} (h : WData.layableAll ds = true) : ∀ d ∈ ds, d.weight ≤ 1048576 := fun d hd =>
  (PySem.W.layableW_iff.mp (List.all_eq_true.mp h d hd)).2.2
theorem encAll_len : ∀ (cs : List Codec) (a : Codec.denoteAll cs), (Codec.encAll cs a).length = cs.length
  | [], _ => rfl
  | c :: cs, a => by
    show (Codec.encAll cs a.2).length + 1 = cs.length + 1
    rw [encAll_len cs a.2]
/-- the goal that k_headS leaves (case hc), from the promise of the row's def: whatever the arguments that the codecs let and the row asks for, the def gives what stands for enc (f ..) -/
theorem walk_spec {r : OpenSpec} {k : Nat} {q : Program} {loose : List Str} {XP : (Str → Option Value) → Heap → Prop} {YP : World → Heap → Prop} {d : DefRec} {K : Params → PySem.W.Frag} {CX : World → CXT} {ps : List Str} {sp : World → Sp}
    (hwell : r.wellSaid = true) (hdf : d.params.defaults = []) (hlen : r.args.length = ps.length) (hr : Room k callerA)
    (hY : ∀ (w : World) (h : Heap), YP w h → (K w.params).In h)
    (F : ∀ (w : World) (mg : Str → Option Value) (fa : Addr) (h : Heap), YP w h → (K w.params).In h → h.Ns mainGlobals mg → mg d.name = some (.ref fa) →
      ∃ fd : FuncData, (∀ (s : Shared) (us : List Value), us.length = ps.length → BindsTo s fd ⟨us, []⟩ (ps.zip us)) ∧
        ∀ base : Heap, (K w.params).In base → base.Ns mainGlobals mg → FnOk r.prog w (K w.params) mg base (CX w) k fa fd ps (sp w))
    (hsp : ∀ (w : World) (H : Hp) (xs : List V) (a : Codec.denoteAll r.args), OnlyF H → Codec.withinAll r.args a = true → Codec.app r.args r.asked a = true → DwAll (K w.params) H xs (Codec.encAll r.args a) →
      sp w xs H (fun v H' => Dw (K w.params) H' v (r.ret.enc (Codec.app r.args r.f a))) fun _ _ _ => False)
    (hCX : ∀ (w : World) (H : Hp) (s : Shared) (e : Value) (s' : Shared), CX w [] H s (fun _ _ _ => False) e s' → False) :
    PySem.W.WalkOS q loose XP YP r d [] (fun f vs => PySem.call f vs) := by
  intro w s_0 s₁ mg mb G Y fa o pm cd doc dV kV ho hd hcd hD hmg hg args vals as hpre hlay hrd hwl hlo
  obtain ⟨a, e1, e2⟩ := PySem.W.os_pre_some hpre
  obtain ⟨e3, hwi⟩ := Codec.encAll_of_decAll r.args args a e1
  subst e3
  have KX := hY w _ Y
  obtain ⟨fd, hb, hF⟩ := F w mg fa _ Y KX G.T.g hmg
  refine PySem.W.enter_call (codeAny_mono (spec_call (R := []) (cl := classAt s_0.heap) (d0 := r.ret.enc (Codec.app r.args r.f a)) KX G.T.g G.T.b G.T.builtins G.T.nolimit hg hwl (pl_encAll _ _) (layable_weight hlay) hr hF hb (by rw [encAll_len]; exact hlen)
    (fun H xs hO hS => hsp w H xs a hO hwi e2 hS) fun H e s' => hCX w H s₁ e s') fun r' s' hq => ?_)
  obtain ⟨u, as', rfl, h1, h2, h3, h4⟩ := hq
  exact ⟨.inl ⟨u, _, as', rfl, fun _ => rfl, h1, (OpenSpec.post_iff hwell hwi _ _).mpr rfl, fun z => Bool.noConfusion (show false = true from z)⟩, h2, h3, h4⟩
/-- the same where the promise hangs on the written part alone -/
theorem walk_specK {r : OpenSpec} {k : Nat} {q : Program} {loose : List Str} {XP : (Str → Option Value) → Heap → Prop} {YP : World → Heap → Prop} {d : DefRec} {K : Params → PySem.W.Frag} {CX : CXT} {ps : List Str} {sp : PySem.W.Frag → Sp}
    (hwell : r.wellSaid = true) (hdf : d.params.defaults = []) (hlen : r.args.length = ps.length) (hr : Room k callerA)
    (hY : ∀ (w : World) (h : Heap), YP w h → (K w.params).In h)
    (F : ∀ (w : World) (mg : Str → Option Value) (fa : Addr) (h : Heap), YP w h → (K w.params).In h → h.Ns mainGlobals mg → mg d.name = some (.ref fa) →
      ∃ fd : FuncData, (∀ (s : Shared) (us : List Value), us.length = ps.length → BindsTo s fd ⟨us, []⟩ (ps.zip us)) ∧
        ∀ base : Heap, (K w.params).In base → base.Ns mainGlobals mg → FnOk r.prog w (K w.params) mg base CX k fa fd ps (sp (K w.params)))
    (hsp : ∀ (K : PySem.W.Frag) (H : Hp) (xs : List V) (a : Codec.denoteAll r.args), OnlyF H → Codec.withinAll r.args a = true → Codec.app r.args r.asked a = true → DwAll K H xs (Codec.encAll r.args a) →
      sp K xs H (fun v H' => Dw K H' v (r.ret.enc (Codec.app r.args r.f a))) fun _ _ _ => False)
    (hCX : ∀ (H : Hp) (s : Shared) (e : Value) (s' : Shared), CX [] H s (fun _ _ _ => False) e s' → False) :
    PySem.W.WalkOS q loose XP YP r d [] (fun f vs => PySem.call f vs) :=
  walk_spec (K := K) (CX := fun _ => CX) (sp := fun w => sp (K w.params)) hwell hdf hlen hr hY F (fun w H xs a h1 h2 h3 h4 => hsp (K w.params) H xs a h1 h2 h3 h4) fun _ H s e s' => hCX H s e s'
end L2
end
namespace L2
open PySem PySem.Spec PyProof.Rows
def defArgs (s : Stmt) : Arguments := match s with
  | .FunctionDef _ a _ _ _ _ _ _ _ _ => a
  | _ => { posonlyargs := [], args := [], vararg := none, kwonlyargs := [], kw_defaults := [], kwarg := none, defaults := [] }
def defBody (s : Stmt) : List Stmt := match s with
  | .FunctionDef _ _ b _ _ _ _ _ _ _ => b
  | _ => []
def defScope (s : Stmt) : Scope := match s with
  | .FunctionDef _ _ _ _ _ _ sc _ _ _ => sc
  | _ => { kind := .function, names := [], isGenerator := false, isCoroutine := false }
abbrev CX0 : CXT := fun _ _ _ _ _ _ => False
abbrev E0 : XK := fun _ _ _ => False
theorem pass0 {X : Cx} : Passes CX0 X E0 := fun _ _ _ _ _ _ _ h => h.elim
structure Fun (K : PySem.W.Frag) (x qual : Str) (st : Stmt) (f : Addr) (fd : FuncData) : Prop where
  ex : ∃ (oc : Value) (od : Option Addr) (kV doc pm : Value) (an : Option Addr) (cdv ct : Value) (osl : Array (Option Value)),
    fd = PySem.W.fnOf x qual (defArgs st) (defBody st) (defScope st) .none kV doc pm an cdv ct ∧ K.lookup f = some ⟨oc, od, .func fd, osl⟩ ∧ PySem.W.codeIn K cdv qual = true
  kp : PySem.W.keepIn K (.ref f) = true
section
variable {P : Program} {w : World} {K : PySem.W.Frag} {mg : Str → Option Value} {base : Heap}
/-- THE RULE for a def: its body as a term of rules, and the reading of that term -/
theorem Fun.ok {x qual : Str} {st : Stmt} {f : Addr} {fd : FuncData} {N ps : List Str} {k : Nat} {sp : Sp} (F : Fun K x qual st f fd) (S : FnScope N ps (defScope st)) (len : ∀ vs H Q E, sp vs H Q E → vs.length = ps.length)
    (hbody : ∀ (cdv : Value) (A : Around) (outer : List Env) (s : Shared) (H : Hp) (vs : List V) (Q : VK) (E : XK), Room k (A.deeper (envOfC qual (defScope st) s.heap.objs.size f cdv)) → sp vs H Q E →
      ∃ t, PSs (cxOf CX0 P w K mg base N qual (defScope st) f cdv A outer s H E).nox (defBody st) t ∧ t { nx := fun _ H' => Q .non H', rt := Q } (start N vs) H) : FnOk P w K mg base CX0 (k + 1) f fd ps sp := by
  obtain ⟨oc, od, kV, doc, pm, an, cdv, ct, osl, rfl, lk, hcd⟩ := F.ex
  refine fn_of lk hcd S len fun A outer s H vs Q E hr hsp => ?_
  obtain ⟨t, h, q⟩ := hbody cdv A outer s H vs Q E hr hsp
  exact ⟨t, h.nox, q⟩
/-- how its arguments bind (no defaults): h is «fun _ _ _ _ _ _ us hl => match us, hl with | [_, _], _ => rfl», one _ a parameter -/
theorem Fun.binds {x qual : Str} {st : Stmt} {f : Addr} {fd : FuncData} {ps : List Str} (F : Fun K x qual st f fd)
    (h : ∀ (kV doc pm : Value) (an : Option Addr) (cdv ct : Value) (us : List Value), us.length = ps.length → bindArgs (PySem.W.fnOf x qual (defArgs st) (defBody st) (defScope st) .none kV doc pm an cdv ct) ⟨us, []⟩ = pure (ps.zip us)) : Binds K fd ps [] := by
  obtain ⟨oc, od, kV, doc, pm, an, cdv, ct, osl, rfl, lk, hcd⟩ := F.ex
  exact .all (h kV doc pm an cdv ct)
theorem fun_mk {x qual : Str} {st : Stmt} {f : Addr} {oc : Value} {od an : Option Addr} {osl : Array (Option Value)} {kV doc pm cdv ct : Value} (l : K.lookup f = some ⟨oc, od, .func (PySem.W.fnOf x qual (defArgs st) (defBody st) (defScope st) .none kV doc pm an cdv ct), osl⟩)
    (c : PySem.W.codeIn K cdv qual = true) (k : PySem.W.keepIn K (.ref f) = true) : Fun K x qual st f (PySem.W.fnOf x qual (defArgs st) (defBody st) (defScope st) .none kV doc pm an cdv ct) := ⟨⟨oc, od, kV, doc, pm, an, cdv, ct, osl, rfl, l, c⟩, k⟩
end
section
variable {X : Cx}
theorem pv (i : Nat) {x : Str} {pos : Pos} (hN : X.N[i]? = some x := by rfl) (hv : Vis X.env.scope x := by first | exact Or.inl rfl | exact Or.inr (Or.inl rfl) | exact Or.inr (Or.inr rfl)) (hd : (x == ("__debug__" : Str)) = false := by decide)
    (hcd : (x == ("__classdict__" : Str)) = false := by decide) : PE X (.Name x pos) (tVar i) := pe_var hN hv hd hcd
end
theorem iteF {A B : Prop} (h : B) : if false = true then A else B := by
  rw [if_neg Bool.false_ne_true]
  exact h
theorem iteT {A B : Prop} (h : A) : if true = true then A else B := by
  rw [if_pos rfl]
  exact h
theorem ite2 {c A B : Prop} [Decidable c] (h1 : c → A) (h2 : ¬ c → B) : if c then A else B := by
  by_cases h : c
  · rw [if_pos h]
    exact h1 h
  · rw [if_neg h]
    exact h2 h
/-- all that was tracked is as it was -/
def Same (H H' : Hp) : Prop := ∀ b o, H b = some o → H' b = some o
theorem Same.refl (H : Hp) : Same H H := fun _ _ h => h
theorem Same.trans {H H1 H2 : Hp} (a : Same H H1) (b : Same H1 H2) : Same H H2 := fun c o h => b c o (a c o h)
theorem Same.free {H H' : Hp} (e : Same H H') {l : Addr} (h : H' l = Option.none) : H l = Option.none := by
  cases q : H l with
  | none => rfl
  | some o =>
    rw [e l o q] at h
    cases h
theorem Same.seq {K : PySem.W.Frag} {H H' : Hp} {a : Addr} {xs : List V} (e : Same H H') (h : SqL K H a xs) : SqL K H' a xs := by
  rcases h with (h | ⟨o, h⟩) | h
  · exact .inl (.inl (e _ _ h))
  · exact .inl (.inr ⟨o, e _ _ h⟩)
  · exact .inr h
section
variable {κ : Type} [DecidableEq κ]
theorem nd_snoc : ∀ {l : List κ} {k : κ}, l.Nodup → ¬ k ∈ l → (l ++ [k]).Nodup
  | [], k, _, _ => by simp
  | a :: r, k, h, hk => by
    obtain ⟨h1, h2⟩ := List.nodup_cons.mp h
    show (a :: (r ++ [k])).Nodup
    refine List.nodup_cons.mpr ⟨fun m => ?_, nd_snoc h2 fun m => hk (List.mem_cons.mpr (Or.inr m))⟩
    rcases List.mem_append.mp m with q | q
    · exact h1 q
    · exact hk (List.mem_cons.mpr (Or.inl (List.mem_singleton.mp q).symm))
end
theorem at_of {xs : List V} {z : Int} {j : Nat} {v : V} (e : z = (j : Int)) (h : xs[j]? = some v) : atI xs z = some v := by
  rw [e]
  exact atI_nat h
end L2
end
section
set_option linter.unusedSimpArgs false
namespace LS
open Sd58
def Norm (f : Fr) : Prop := 0 < f.den ∧ Nat.gcd f.num.natAbs f.den = 1
theorem gcd_pos_r {n d : Nat} (h : 0 < d) : 0 < Nat.gcd n d := Nat.gcd_pos_of_pos_right n h
theorem fr_pos {n : Int} {d : Nat} (h : 0 < d) : fr n d = ⟨n / (Nat.gcd n.natAbs d : Int), d / Nat.gcd n.natAbs d⟩ := by
  unfold fr
  rw [if_neg (by omega)]
theorem natAbs_div {n : Int} {g : Nat} (h : g ∣ n.natAbs) : (n / (g : Int)).natAbs = n.natAbs / g := by
  have hd : (g : Int) ∣ n := Int.ofNat_dvd_left.mpr h
  have := Int.natAbs_ediv_of_dvd hd
  rw [this]
  rfl
theorem fr_norm {n : Int} {d : Nat} (h : 0 < d) : Norm (fr n d) := by
  rw [fr_pos h]
  have hg : 0 < Nat.gcd n.natAbs d := gcd_pos_r h
  refine ⟨Nat.div_pos (Nat.le_of_dvd h (Nat.gcd_dvd_right _ _)) hg, ?_⟩
  show Nat.gcd (n / (Nat.gcd n.natAbs d : Int)).natAbs (d / Nat.gcd n.natAbs d) = 1
  rw [natAbs_div (Nat.gcd_dvd_left _ _)]
  exact Nat.gcd_div_gcd_div_gcd_of_pos_right h
theorem fr_num_mul {n : Int} {d : Nat} (h : 0 < d) : (fr n d).num * (Nat.gcd n.natAbs d : Int) = n := by
  rw [fr_pos h]
  exact Int.ediv_mul_cancel (Int.ofNat_dvd_left.mpr (Nat.gcd_dvd_left _ _))
theorem fr_den_mul {n : Int} {d : Nat} (h : 0 < d) : (fr n d).den * Nat.gcd n.natAbs d = d := by
  rw [fr_pos h]
  exact Nat.div_mul_cancel (Nat.gcd_dvd_right _ _)
/-- the cross product -/
theorem fr_cross {n : Int} {d : Nat} (h : 0 < d) : (fr n d).num * (d : Int) = n * ((fr n d).den : Int) := by
  have h1 := fr_num_mul (n := n) h
  have h2 := fr_den_mul (n := n) h
  have h3 : ((fr n d).den : Int) * (Nat.gcd n.natAbs d : Int) = (d : Int) := by exact_mod_cast h2
  generalize hg : (Nat.gcd n.natAbs d : Int) = g at h1 h3
  rw [← h3]
  calc (fr n d).num * (((fr n d).den : Int) * g) = ((fr n d).num * g) * ((fr n d).den : Int) := by
        rw [Int.mul_assoc, Int.mul_comm g]
    _ = n * ((fr n d).den : Int) := by rw [h1]
theorem norm_eq {a b : Fr} (ha : Norm a) (hb : Norm b) (h : a.num * (b.den : Int) = b.num * (a.den : Int)) : a = b := by
  obtain ⟨an, ad⟩ := a
  obtain ⟨bn, bd⟩ := b
  obtain ⟨a0, a1⟩ := ha
  obtain ⟨b0, b1⟩ := hb
  simp only at a0 a1 b0 b1 h
  have hn : an.natAbs * bd = bn.natAbs * ad := by
    have := congrArg Int.natAbs h
    rw [Int.natAbs_mul, Int.natAbs_mul, Int.natAbs_natCast, Int.natAbs_natCast] at this
    exact this
  have e1 : ad ∣ bd := by
    have : ad ∣ an.natAbs * bd := ⟨bn.natAbs, by rw [hn, Nat.mul_comm]⟩
    exact (Nat.Coprime.dvd_of_dvd_mul_left (show Nat.Coprime ad an.natAbs from (Nat.gcd_comm _ _).trans a1) this)
  have e2 : bd ∣ ad := by
    have : bd ∣ bn.natAbs * ad := ⟨an.natAbs, by rw [← hn, Nat.mul_comm]⟩
    exact (Nat.Coprime.dvd_of_dvd_mul_left (show Nat.Coprime bd bn.natAbs from (Nat.gcd_comm _ _).trans b1) this)
  have e : ad = bd := Nat.dvd_antisymm e1 e2
  subst e
  have hz : (ad : Int) ≠ 0 := by omega
  have : an = bn := Int.eq_of_mul_eq_mul_right hz h
  rw [this]
theorem fr_eq {n m : Int} {d e : Nat} (hd : 0 < d) (he : 0 < e) (h : n * (e : Int) = m * (d : Int)) : fr n d = fr m e := by
  refine norm_eq (fr_norm hd) (fr_norm he) ?_
  have c1 := fr_cross (n := n) hd
  have c2 := fr_cross (n := m) he
  have hdz : (d : Int) ≠ 0 := by omega
  have hez : (e : Int) ≠ 0 := by omega
  refine Int.eq_of_mul_eq_mul_right hdz (Int.eq_of_mul_eq_mul_right hez ?_)
  generalize (fr n d).num = A at *
  generalize ((fr n d).den : Int) = B at *
  generalize (fr m e).num = C at *
  generalize ((fr m e).den : Int) = D at *
  calc A * D * (d : Int) * (e : Int) = (A * (d : Int)) * D * (e : Int) := by simp only [Int.mul_assoc, Int.mul_comm D, Int.mul_left_comm D]
    _ = (n * B) * D * (e : Int) := by rw [c1]
    _ = (n * (e : Int)) * B * D := by simp only [Int.mul_assoc, Int.mul_comm, Int.mul_left_comm]
    _ = (m * (d : Int)) * B * D := by rw [h]
    _ = (m * D) * B * (d : Int) := by simp only [Int.mul_assoc, Int.mul_comm, Int.mul_left_comm]
    _ = (C * (e : Int)) * B * (d : Int) := by rw [c2]
    _ = C * B * (d : Int) * (e : Int) := by simp only [Int.mul_assoc, Int.mul_comm, Int.mul_left_comm]
theorem fr_self {f : Fr} (h : Norm f) : fr f.num f.den = f := by
  refine norm_eq (fr_norm h.1) h ?_
  exact fr_cross h.1
theorem norm_one : Norm one := ⟨by decide, by decide⟩
theorem norm_zero : Norm zero := ⟨by decide, by decide⟩
theorem norm_ofNat (n : Nat) : Norm (ofNat n) := ⟨Nat.one_pos, Nat.gcd_one_right _⟩
theorem add_norm {a b : Fr} (ha : Norm a) (hb : Norm b) : Norm (add a b) := fr_norm (Nat.mul_pos ha.1 hb.1)
theorem mul_norm {a b : Fr} (ha : Norm a) (hb : Norm b) : Norm (mul a b) := fr_norm (Nat.mul_pos ha.1 hb.1)
/-- the sum, by any terms -/
theorem add_fr {a c : Int} {b d : Nat} (hb : 0 < b) (hd : 0 < d) : add (fr a b) (fr c d) = fr (a * d + c * b) (b * d) := by
  unfold add
  refine fr_eq (Nat.mul_pos (fr_norm hb).1 (fr_norm hd).1) (Nat.mul_pos hb hd) ?_
  have c1 := fr_cross (n := a) hb
  have c2 := fr_cross (n := c) hd
  simp only [Int.natCast_mul]
  generalize (fr a b).num = A at *
  generalize ((fr a b).den : Int) = B at *
  generalize (fr c d).num = C at *
  generalize ((fr c d).den : Int) = D at *
  rw [Int.add_mul, Int.add_mul]
  congr 1
  · calc A * D * ((b : Int) * d) = (A * b) * (D * d) := by simp only [Int.mul_assoc, Int.mul_comm, Int.mul_left_comm]
      _ = (a * B) * (D * d) := by rw [c1]
      _ = a * d * (B * D) := by simp only [Int.mul_assoc, Int.mul_comm, Int.mul_left_comm]
  · calc C * B * ((b : Int) * d) = (C * d) * (B * b) := by simp only [Int.mul_assoc, Int.mul_comm, Int.mul_left_comm]
      _ = (c * D) * (B * b) := by rw [c2]
      _ = c * b * (B * D) := by simp only [Int.mul_assoc, Int.mul_comm, Int.mul_left_comm]
theorem sub_fr {a c : Int} {b d : Nat} (hb : 0 < b) (hd : 0 < d) : sub (fr a b) (fr c d) = fr (a * d - c * b) (b * d) := by
  unfold sub
  refine fr_eq (Nat.mul_pos (fr_norm hb).1 (fr_norm hd).1) (Nat.mul_pos hb hd) ?_
  have c1 := fr_cross (n := a) hb
  have c2 := fr_cross (n := c) hd
  simp only [Int.natCast_mul]
  generalize (fr a b).num = A at *
  generalize ((fr a b).den : Int) = B at *
  generalize (fr c d).num = C at *
  generalize ((fr c d).den : Int) = D at *
  rw [Int.sub_mul, Int.sub_mul]
  congr 1
  · calc A * D * ((b : Int) * d) = (A * b) * (D * d) := by simp only [Int.mul_assoc, Int.mul_comm, Int.mul_left_comm]
      _ = (a * B) * (D * d) := by rw [c1]
      _ = a * d * (B * D) := by simp only [Int.mul_assoc, Int.mul_comm, Int.mul_left_comm]
  · calc C * B * ((b : Int) * d) = (C * d) * (B * b) := by simp only [Int.mul_assoc, Int.mul_comm, Int.mul_left_comm]
      _ = (c * D) * (B * b) := by rw [c2]
      _ = c * b * (B * D) := by simp only [Int.mul_assoc, Int.mul_comm, Int.mul_left_comm]
theorem mul_fr {a c : Int} {b d : Nat} (hb : 0 < b) (hd : 0 < d) : mul (fr a b) (fr c d) = fr (a * c) (b * d) := by
  unfold mul
  refine fr_eq (Nat.mul_pos (fr_norm hb).1 (fr_norm hd).1) (Nat.mul_pos hb hd) ?_
  have c1 := fr_cross (n := a) hb
  have c2 := fr_cross (n := c) hd
  simp only [Int.natCast_mul]
  generalize (fr a b).num = A at *
  generalize ((fr a b).den : Int) = B at *
  generalize (fr c d).num = C at *
  generalize ((fr c d).den : Int) = D at *
  calc A * C * ((b : Int) * d) = (A * b) * (C * d) := by simp only [Int.mul_assoc, Int.mul_comm, Int.mul_left_comm]
    _ = (a * B) * (c * D) := by rw [c1, c2]
    _ = a * c * (B * D) := by simp only [Int.mul_assoc, Int.mul_comm, Int.mul_left_comm]
theorem add_zero {a : Fr} (h : Norm a) : add a zero = a := by
  show fr (a.num * ((1 : Nat) : Int) + 0 * (a.den : Int)) (a.den * 1) = a
  rw [Int.zero_mul, Int.add_zero, Nat.mul_one, Int.natCast_one, Int.mul_one, fr_self h]
theorem mul_one {a : Fr} (h : Norm a) : mul a one = a := by
  show fr (a.num * 1) (a.den * 1) = a
  rw [Int.mul_one, Nat.mul_one, fr_self h]
theorem add_comm (a b : Fr) : add a b = add b a := by
  unfold add
  rw [Int.add_comm, Nat.mul_comm]
theorem mul_comm (a b : Fr) : mul a b = mul b a := by
  unfold mul
  rw [Int.mul_comm, Nat.mul_comm]
theorem add_assoc {a b c : Fr} (ha : Norm a) (hb : Norm b) (hc : Norm c) : add (add a b) c = add a (add b c) := by
  rw [← fr_self ha, ← fr_self hb, ← fr_self hc, add_fr ha.1 hb.1, add_fr hb.1 hc.1, add_fr (Nat.mul_pos ha.1 hb.1) hc.1, add_fr ha.1 (Nat.mul_pos hb.1 hc.1)]
  refine fr_eq (Nat.mul_pos (Nat.mul_pos ha.1 hb.1) hc.1) (Nat.mul_pos ha.1 (Nat.mul_pos hb.1 hc.1)) ?_
  simp only [Int.natCast_mul, Int.add_mul]
  simp only [Int.mul_assoc, Int.mul_comm, Int.mul_left_comm, Int.add_assoc]
theorem mul_assoc {a b c : Fr} (ha : Norm a) (hb : Norm b) (hc : Norm c) : mul (mul a b) c = mul a (mul b c) := by
  rw [← fr_self ha, ← fr_self hb, ← fr_self hc, mul_fr ha.1 hb.1, mul_fr hb.1 hc.1, mul_fr (Nat.mul_pos ha.1 hb.1) hc.1, mul_fr ha.1 (Nat.mul_pos hb.1 hc.1)]
  refine fr_eq (Nat.mul_pos (Nat.mul_pos ha.1 hb.1) hc.1) (Nat.mul_pos ha.1 (Nat.mul_pos hb.1 hc.1)) ?_
  simp only [Int.natCast_mul, Int.mul_assoc, Int.mul_comm, Int.mul_left_comm]
theorem sum_norm : ∀ {l : List Fr}, (∀ f ∈ l, Norm f) → Norm (sum l)
  | [], _ => norm_zero
  | f :: r, h => add_norm (h f (by simp)) (sum_norm fun g hg => h g (by simp [hg]))
theorem product_norm : ∀ {l : List Fr}, (∀ f ∈ l, Norm f) → Norm (product l)
  | [], _ => norm_one
  | f :: r, h => mul_norm (h f (by simp)) (product_norm fun g hg => h g (by simp [hg]))
/-- summed from the left -/
theorem foldl_add : ∀ {l : List Fr} {a : Fr}, Norm a → (∀ f ∈ l, Norm f) → l.foldl add a = add a (sum l)
  | [], a, ha, _ => (add_zero ha).symm
  | f :: r, a, ha, h => by
    have hf := h f (by simp)
    have hr : ∀ g ∈ r, Norm g := fun g hg => h g (by simp [hg])
    show r.foldl add (add a f) = add a (add f (sum r))
    rw [foldl_add (add_norm ha hf) hr, add_assoc ha hf (sum_norm hr)]
theorem foldl_mul : ∀ {l : List Fr} {a : Fr}, Norm a → (∀ f ∈ l, Norm f) → l.foldl mul a = mul a (product l)
  | [], a, ha, _ => (mul_one ha).symm
  | f :: r, a, ha, h => by
    have hf := h f (by simp)
    have hr : ∀ g ∈ r, Norm g := fun g hg => h g (by simp [hg])
    show r.foldl mul (mul a f) = mul a (mul f (product r))
    rw [foldl_mul (mul_norm ha hf) hr, mul_assoc ha hf (product_norm hr)]
theorem zero_add {a : Fr} (h : Norm a) : add zero a = a := by rw [add_comm, add_zero h]
theorem one_mul {a : Fr} (h : Norm a) : mul one a = a := by rw [mul_comm, mul_one h]
theorem sum_left {l : List Fr} (h : ∀ f ∈ l, Norm f) : l.foldl add zero = sum l := by rw [foldl_add norm_zero h, zero_add (sum_norm h)]
theorem product_left {l : List Fr} (h : ∀ f ∈ l, Norm f) : l.foldl mul one = product l := by rw [foldl_mul norm_one h, one_mul (product_norm h)]
end LS
end
section
set_option linter.unusedSimpArgs false
namespace LS
open Sd58
def cutStep (c : Nat) (s : List Bytes × Bytes) (x : Nat) : List Bytes × Bytes := if x = c then (s.1 ++ [s.2], []) else (s.1, s.2 ++ [x])
theorem pieces_ne (c : Nat) : ∀ b : Bytes, ∃ p ps, pieces c b = p :: ps
  | [] => ⟨[], [], rfl⟩
  | x :: r => by
    obtain ⟨p, ps, e⟩ := pieces_ne c r
    by_cases h : x = c
    · exact ⟨[], p :: ps, by simp only [pieces, e]; rw [if_pos h]⟩
    · exact ⟨x :: p, ps, by simp only [pieces, e]; rw [if_neg h]⟩
theorem cut_foldl (c : Nat) : ∀ (b : Bytes) (d : List Bytes) (cur p : Bytes) (ps : List Bytes), pieces c b = p :: ps →
    (b.foldl (cutStep c) (d, cur)).1 ++ [(b.foldl (cutStep c) (d, cur)).2] = d ++ ((cur ++ p) :: ps)
  | [], d, cur, p, ps, h => by
    simp only [pieces] at h
    cases h
    simp
  | x :: r, d, cur, p, ps, h => by
    obtain ⟨q, qs, e⟩ := pieces_ne c r
    by_cases hx : x = c
    · have h' : [] :: q :: qs = p :: ps := by
        have : pieces c (x :: r) = [] :: q :: qs := by simp only [pieces, e]; rw [if_pos hx]
        rw [← this, h]
      cases h'
      rw [List.foldl_cons]
      have es : cutStep c (d, cur) x = (d ++ [cur], []) := by unfold cutStep; rw [if_pos hx]
      rw [es, cut_foldl c r (d ++ [cur]) [] q qs e]
      simp
    · have h' : (x :: q) :: qs = p :: ps := by
        have : pieces c (x :: r) = (x :: q) :: qs := by simp only [pieces, e]; rw [if_neg hx]
        rw [← this, h]
      cases h'
      rw [List.foldl_cons]
      have es : cutStep c (d, cur) x = (d, cur ++ [x]) := by unfold cutStep; rw [if_neg hx]
      rw [es, cut_foldl c r d (cur ++ [x]) q _ e]
      simp
theorem cut_all (c : Nat) (b : Bytes) : (b.foldl (cutStep c) ([], [])).1 ++ [(b.foldl (cutStep c) ([], [])).2] = pieces c b := by
  obtain ⟨p, ps, e⟩ := pieces_ne c b
  rw [cut_foldl c b [] [] p ps e, e]
  simp
def numLoop (G : Nat) : Nat → Bytes → Option Nat
  | v, [] => some v
  | v, c :: r => if c < 48 ∨ 57 < c then none else if G < v * 10 + (c - 48) then none else numLoop G (v * 10 + (c - 48)) r
def numOf (G : Nat) (d : Bytes) : Option Nat := if d = [] ∨ (1 < d.length ∧ d.head? = some 48) then none else numLoop G 0 d
def stepN (v c : Nat) : Nat := 10 * v + (c - 48)
theorem natOf_eq (d : Bytes) : natOf d = d.foldl stepN 0 := rfl
theorem step_ge (v c : Nat) : v ≤ stepN v c := by unfold stepN; omega
theorem fold_ge : ∀ (d : Bytes) (v : Nat), v ≤ d.foldl stepN v
  | [], _ => Nat.le_refl _
  | c :: r, v => Nat.le_trans (step_ge v c) (fold_ge r _)
theorem numLoop_eq (G : Nat) : ∀ (d : Bytes) (v : Nat), v ≤ G → numLoop G v d = if d.all isDigit = true ∧ d.foldl stepN v ≤ G then some (d.foldl stepN v) else none
  | [], v, h => by
    unfold numLoop
    rw [if_pos ⟨rfl, h⟩]
    rfl
  | c :: r, v, h => by
    unfold numLoop
    by_cases hc : c < 48 ∨ 57 < c
    · rw [if_pos hc, if_neg]
      intro ⟨h1, _⟩
      rw [List.all_cons, Bool.and_eq_true] at h1
      have := h1.1
      unfold isDigit at this
      rw [Bool.and_eq_true, decide_eq_true_iff, decide_eq_true_iff] at this
      omega
    · rw [if_neg hc]
      have hd : isDigit c = true := by
        unfold isDigit
        rw [Bool.and_eq_true, decide_eq_true_iff, decide_eq_true_iff]
        omega
      have es : v * 10 + (c - 48) = stepN v c := by unfold stepN; omega
      rw [es, List.foldl_cons, List.all_cons, hd, Bool.true_and]
      by_cases hg : G < stepN v c
      · rw [if_pos hg, if_neg]
        intro ⟨_, h2⟩
        have := fold_ge r (stepN v c)
        omega
      · rw [if_neg hg, numLoop_eq G r _ (by omega)]
theorem fold_long : ∀ (d : Bytes) (v : Nat), v * 10 ^ d.length ≤ d.foldl stepN v
  | [], v => by simp
  | c :: r, v => by
    have h := fold_long r (stepN v c)
    rw [List.foldl_cons, List.length_cons, Nat.pow_succ]
    refine Nat.le_trans ?_ h
    have : 10 * v ≤ stepN v c := by unfold stepN; omega
    calc v * (10 ^ r.length * 10) = (10 * v) * 10 ^ r.length := by rw [Nat.mul_comm (10 ^ r.length), ← Nat.mul_assoc, Nat.mul_comm v]
      _ ≤ stepN v c * 10 ^ r.length := Nat.mul_le_mul_right _ this
theorem numOf_eq {G : Nat} (hG : G ≤ 1000000) (d : Bytes) : numOf G d = (number d).bind fun v => if v ≤ G then some v else none := by
  unfold numOf number
  by_cases h0 : d = []
  · rw [if_pos (Or.inl h0), if_pos (Or.inl h0)]; rfl
  by_cases h1 : 1 < d.length ∧ d.head? = some 48
  · rw [if_pos (Or.inr h1), if_pos (Or.inr (Or.inr (Or.inr h1)))]; rfl
  rw [if_neg (by intro h; rcases h with h | h; exact h0 h; exact h1 h), numLoop_eq G d 0 (Nat.zero_le _)]
  by_cases h2 : d.all isDigit = false
  · rw [if_pos (Or.inr (Or.inr (Or.inl h2))), if_neg (by rw [h2]; simp)]; rfl
  have h2' : d.all isDigit = true := by cases e : d.all isDigit <;> simp_all
  by_cases h3 : 7 < d.length
  · rw [if_pos (Or.inr (Or.inl h3)), if_neg]
    · rfl
    · intro ⟨_, h4⟩
      match d, h0, h1, h2', h3, h4 with
      | c :: r, _, h1, h2', h3, h4 =>
        have hc : c ≠ 48 := fun e => h1 ⟨by omega, by rw [e]; rfl⟩
        rw [List.all_cons, Bool.and_eq_true] at h2'
        have hd := h2'.1
        unfold isDigit at hd
        rw [Bool.and_eq_true, decide_eq_true_iff, decide_eq_true_iff] at hd
        have hl := fold_long r (stepN 0 c)
        rw [List.foldl_cons] at h4
        rw [List.length_cons] at h3
        have h7 : 10 ^ 7 ≤ 10 ^ r.length := Nat.pow_le_pow_right (by decide) (by omega)
        have h1' : 1 ≤ stepN 0 c := by unfold stepN; omega
        have : 10 ^ 7 ≤ stepN 0 c * 10 ^ r.length := Nat.le_trans h7 (Nat.le_mul_of_pos_left _ h1')
        omega
  · have hn : ¬ (d = [] ∨ 7 < d.length ∨ d.all isDigit = false ∨ (1 < d.length ∧ d.head? = some 48)) := fun h => h.elim h0 fun h => h.elim h3 fun h => h.elim h2 h1
    rw [if_neg hn]
    show _ = if natOf d ≤ G then some (natOf d) else none
    rw [natOf_eq]
    by_cases h5 : d.foldl stepN 0 ≤ G
    · rw [if_pos ⟨h2', h5⟩, if_pos h5]
    · rw [if_neg (fun h => h5 h.2), if_neg h5]
def oneOf (b : Bytes) : Option Sd58.One := match pieces 32 b with
  | [w0, w1, w2] => match numOf 1 w0, numOf 1000000 w1, numOf 1 w2 with
    | some g, some t, some e => some ⟨g, t, e == 1⟩
    | _, _, _ => none
  | _ => none
theorem mapM_len {α β : Type} {f : α → Option β} : ∀ {l : List α} {r : List β}, l.mapM f = some r → r.length = l.length
  | [], r, h => by
    simp at h
    subst h; rfl
  | a :: l, r, h => by
    rw [List.mapM_cons] at h
    cases e1 : f a with
    | none => rw [e1] at h; simp at h
    | some x =>
      rw [e1] at h
      cases e2 : l.mapM f with
      | none => rw [e2] at h; simp at h
      | some y =>
        rw [e2] at h
        simp at h
        subst h
        rw [List.length_cons, List.length_cons, mapM_len e2]
theorem oneOf_eq (b : Bytes) : oneOf b = oneRead b := by
  unfold oneOf oneRead
  match e : pieces 32 b with
  | [] =>
    obtain ⟨p, ps, q⟩ := pieces_ne 32 b
    rw [q] at e; cases e
  | [w0] =>
    dsimp only
    cases h : ([w0] : List Bytes).mapM number with
    | none => rfl
    | some r =>
      have := mapM_len h
      match r, this with
      | [x], _ => rfl
  | [w0, w1] =>
    dsimp only
    cases h : ([w0, w1] : List Bytes).mapM number with
    | none => rfl
    | some r =>
      have := mapM_len h
      match r, this with
      | [x, y], _ => rfl
  | w0 :: w1 :: w2 :: w3 :: ws =>
    dsimp only
    cases h : (w0 :: w1 :: w2 :: w3 :: ws : List Bytes).mapM number with
    | none => rfl
    | some r =>
      have := mapM_len h
      match r, this with
      | x :: y :: z :: u :: us, _ => rfl
  | [w0, w1, w2] =>
    dsimp only
    rw [numOf_eq (by decide) w0, numOf_eq (by decide) w1, numOf_eq (by decide) w2]
    simp only [List.mapM_cons, List.mapM_nil]
    cases number w0 with
    | none => rfl
    | some g =>
      cases number w1 with
      | none =>
        show (match (if g ≤ 1 then some g else none : Option Nat), (none : Option Nat), ((number w2).bind fun v => if v ≤ 1 then some v else none : Option Nat) with
          | some g, some t, some e => some (Sd58.One.mk g t (e == 1))
          | _, _, _ => none) = none
        split <;> simp_all
      | some t =>
        cases number w2 with
        | none =>
          show (match (if g ≤ 1 then some g else none : Option Nat), (if t ≤ 1000000 then some t else none : Option Nat), (none : Option Nat) with
            | some g, some t, some e => some (Sd58.One.mk g t (e == 1))
            | _, _, _ => none) = none
          split <;> simp_all
        | some u =>
          show (match (if g ≤ 1 then some g else none : Option Nat), (if t ≤ 1000000 then some t else none : Option Nat), (if u ≤ 1 then some u else none : Option Nat) with
            | some g, some t, some e => some (Sd58.One.mk g t (e == 1))
            | _, _, _ => none) = if g ≤ 1 ∧ t ≤ LONG ∧ u ≤ 1 then some (Sd58.One.mk g t (u == 1)) else none
          by_cases hg : g ≤ 1
          · by_cases ht : t ≤ 1000000
            · by_cases hu : u ≤ 1
              · rw [if_pos hg, if_pos ht, if_pos hu, if_pos ⟨hg, ht, hu⟩]
              · rw [if_pos hg, if_pos ht, if_neg hu, if_neg fun h => hu h.2.2]
            · have hn : ¬ (g ≤ 1 ∧ t ≤ LONG ∧ u ≤ 1) := fun h => ht h.2.1
              rw [if_neg hn, if_neg ht]
              split <;> simp_all
          · have hn : ¬ (g ≤ 1 ∧ t ≤ LONG ∧ u ≤ 1) := fun h => hg h.1
            rw [if_neg hn, if_neg hg]
/-- from line i on: the first that's wrong -/
def wrongAt : Nat → List Bytes → Option Nat
  | _, [] => none
  | i, b :: r => if oneRead b = none ∨ 20 < i then some i else wrongAt (i + 1) r
theorem allRead_eq : ∀ (ls : List Bytes) (i : Nat) (acc : All), acc.length + 1 = i → allRead i acc ls = match wrongAt i ls with
    | some k => .error k
    | none => .ok (acc ++ ls.filterMap oneRead)
  | [], i, acc, _ => by simp [allRead, wrongAt]
  | b :: r, i, acc, h => by
    unfold allRead wrongAt
    cases e : oneRead b with
    | none => rw [if_pos (Or.inl rfl)]
    | some x =>
      dsimp only
      by_cases hl : acc.length < MANY
      · have hi : ¬ (some x = none ∨ 20 < i) := by
          intro q
          rcases q with q | q
          · cases q
          · have : MANY = 20 := rfl
            omega
        rw [if_pos hl, if_neg hi, allRead_eq r (i + 1) (acc ++ [x]) (by simp; omega), List.filterMap_cons, e]
        cases wrongAt (i + 1) r <;> simp
      · have hi : (some x = none ∨ 20 < i) := by
          have : MANY = 20 := rfl
          exact Or.inr (by omega)
        rw [if_neg hl, if_pos hi]
theorem read_eq (b : Bytes) : Sd58.read b = match wrongAt 1 (linesOf b) with
    | some k => .error k
    | none => .ok ((linesOf b).filterMap oneRead) := by
  unfold Sd58.read
  rw [allRead_eq _ 1 [] rfl]
  cases wrongAt 1 (linesOf b) <;> rfl
theorem wrongAt_none : ∀ {ls : List Bytes} {i : Nat}, wrongAt i ls = none → (∀ b ∈ ls, ∃ x, oneRead b = some x) ∧ (ls ≠ [] → i + ls.length ≤ 21)
  | [], _, _ => ⟨by simp, fun h => absurd rfl h⟩
  | b :: r, i, h => by
    unfold wrongAt at h
    by_cases hc : oneRead b = none ∨ 20 < i
    · rw [if_pos hc] at h; cases h
    · rw [if_neg hc] at h
      obtain ⟨h1, h2⟩ := wrongAt_none h
      have hb : oneRead b ≠ none := fun q => hc (Or.inl q)
      have hi : ¬ 20 < i := fun q => hc (Or.inr q)
      refine ⟨fun c hm => ?_, fun _ => ?_⟩
      · rcases List.mem_cons.mp hm with e | hm
        · subst e
          cases e : oneRead c with
          | none => exact absurd e hb
          | some x => exact ⟨x, rfl⟩
        · exact h1 c hm
      · cases r with
        | nil => simp; omega
        | cons a r =>
          have := h2 (by simp)
          rw [List.length_cons]
          omega
theorem oneRead_ok {b : Bytes} {x : Sd58.One} (h : oneRead b = some x) : x.group ≤ 1 ∧ x.time ≤ 1000000 := by
  unfold oneRead at h
  split at h
  · split at h
    · rename_i q
      cases h
      exact ⟨q.1, q.2.1⟩
    · cases h
  · cases h
end LS
end
section
set_option linter.unusedSimpArgs false
set_option linter.unusedVariables false
namespace LS
open Sd58
theorem put_mem {t u : Nat} : ∀ {l : List Nat}, u ∈ put t l ↔ u = t ∨ u ∈ l
  | [] => by simp [put]
  | v :: l => by
    unfold put
    by_cases h1 : t < v
    · rw [if_pos h1]; simp
    · rw [if_neg h1]
      by_cases h2 : t = v
      · rw [if_pos h2]; subst h2; simp
      · rw [if_neg h2, List.mem_cons, put_mem (l := l), List.mem_cons]
        constructor
        · rintro (h | h | h)
          · exact Or.inr (Or.inl h)
          · exact Or.inl h
          · exact Or.inr (Or.inr h)
        · rintro (h | h | h)
          · exact Or.inr (Or.inl h)
          · exact Or.inl h
          · exact Or.inr (Or.inr h)
theorem put_sorted {t : Nat} : ∀ {l : List Nat}, l.Pairwise (· < ·) → (put t l).Pairwise (· < ·)
  | [], _ => by simp [put]
  | v :: l, h => by
    obtain ⟨h1, h2⟩ := List.pairwise_cons.mp h
    unfold put
    by_cases c1 : t < v
    · rw [if_pos c1]
      refine List.pairwise_cons.mpr ⟨fun a ha => ?_, h⟩
      rcases List.mem_cons.mp ha with e | ha
      · omega
      · have := h1 a ha; omega
    · rw [if_neg c1]
      by_cases c2 : t = v
      · rw [if_pos c2]; exact h
      · rw [if_neg c2]
        refine List.pairwise_cons.mpr ⟨fun a ha => ?_, put_sorted h2⟩
        rcases put_mem.mp ha with e | ha
        · omega
        · exact h1 a ha
theorem puts_mem {u : Nat} : ∀ {l : List Nat}, u ∈ l.foldr put [] ↔ u ∈ l
  | [] => by simp
  | t :: l => by rw [List.foldr_cons, put_mem, puts_mem (l := l), List.mem_cons]
theorem puts_sorted : ∀ {l : List Nat}, (l.foldr put []).Pairwise (· < ·)
  | [] => List.Pairwise.nil
  | t :: l => by rw [List.foldr_cons]; exact put_sorted puts_sorted
theorem times_sorted (l : All) : (times l).Pairwise (· < ·) := puts_sorted
theorem mem_times {l : All} {u : Nat} : u ∈ times l ↔ ∃ x ∈ l, x.ended = true ∧ x.time = u := by
  unfold times
  rw [puts_mem, List.mem_map]
  constructor
  · rintro ⟨x, hx, e⟩
    obtain ⟨h1, h2⟩ := List.mem_filter.mp hx
    exact ⟨x, h1, h2, e⟩
  · rintro ⟨x, h1, h2, e⟩
    exact ⟨x, List.mem_filter.mpr ⟨h1, h2⟩, e⟩
theorem strict_unique : ∀ {a b : List Nat}, a.Pairwise (· < ·) → b.Pairwise (· < ·) → (∀ x, x ∈ a ↔ x ∈ b) → a = b
  | [], [], _, _, _ => rfl
  | [], y :: b, _, _, h => absurd ((h y).mpr (by simp)) (by simp)
  | x :: a, [], _, _, h => absurd ((h x).mp (by simp)) (by simp)
  | x :: a, y :: b, ha, hb, h => by
    obtain ⟨a1, a2⟩ := List.pairwise_cons.mp ha
    obtain ⟨b1, b2⟩ := List.pairwise_cons.mp hb
    have hxy : x = y := by
      have h1 := (h x).mp (by simp)
      have h2 := (h y).mpr (by simp)
      rcases List.mem_cons.mp h1 with e | h1
      · exact e
      · rcases List.mem_cons.mp h2 with e | h2
        · exact e.symm
        · have := b1 x h1; have := a1 y h2; omega
    subst hxy
    have : a = b := strict_unique a2 b2 fun z => by
      constructor
      · intro hz
        rcases List.mem_cons.mp ((h z).mp (List.mem_cons_of_mem _ hz)) with e | q
        · have := a1 z hz; omega
        · exact q
      · intro hz
        rcases List.mem_cons.mp ((h z).mpr (List.mem_cons_of_mem _ hz)) with e | q
        · have := b1 z hz; omega
        · exact q
    rw [this]
theorem len_filter_le {α : Type} {p q : α → Bool} : ∀ {l : List α}, (∀ x ∈ l, p x = true → q x = true) → (l.filter p).length ≤ (l.filter q).length
  | [], _ => by simp
  | x :: l, h => by
    have ih := len_filter_le (l := l) fun y hy => h y (by simp [hy])
    rw [List.filter_cons, List.filter_cons]
    by_cases hp : p x = true
    · rw [if_pos hp, if_pos (h x (by simp) hp)]
      simp only [List.length_cons]
      omega
    · rw [if_neg hp]
      by_cases hq : q x = true
      · rw [if_pos hq, List.length_cons]; omega
      · rw [if_neg hq]; exact ih
theorem ends_le_there (l : All) (u : Nat) : ends l u ≤ there l u := by
  unfold ends there
  refine len_filter_le fun x _ h => ?_
  rw [Bool.and_eq_true, beq_iff_eq] at h
  rw [decide_eq_true_iff]
  omega
theorem there_le (l : All) (u : Nat) : there l u ≤ l.length := List.length_filter_le _ _
theorem ends_pos {l : All} {u : Nat} (h : u ∈ times l) : 0 < ends l u := by
  obtain ⟨x, hx, e1, e2⟩ := mem_times.mp h
  unfold ends
  exact List.length_pos_of_mem (List.mem_filter.mpr ⟨hx, by simp [e1, e2]⟩)
theorem there_pos {l : All} {u : Nat} (h : u ∈ times l) : 0 < there l u := Nat.lt_of_lt_of_le (ends_pos h) (ends_le_there l u)
/-- the factor at an end; the term of what has come -/
def facAt (l : All) (u : Nat) : Fr := fr ((there l u : Int) - (ends l u : Int)) (there l u)
def comAt (l : All) (u : Nat) : Fr := fr (ends l u : Int) (there l u)
def varAt (l : All) (u : Nat) : Fr := fr (ends l u : Int) (there l u * (there l u - ends l u))
theorem facAt_norm {l : All} {u : Nat} (h : u ∈ times l) : Norm (facAt l u) := fr_norm (there_pos h)
theorem comAt_norm {l : All} {u : Nat} (h : u ∈ times l) : Norm (comAt l u) := fr_norm (there_pos h)
theorem till_mem {l : All} {t u : Nat} (h : u ∈ till l t) : u ∈ times l := (List.mem_filter.mp h).1
theorem lasts_left (l : All) (t : Nat) : ((till l t).map (facAt l)).foldl mul one = lasts l t :=
  product_left fun f hf => by
    obtain ⟨u, hu, e⟩ := List.mem_map.mp hf
    rw [← e]
    exact facAt_norm (till_mem hu)
theorem come_left (l : All) (t : Nat) : ((till l t).map (comAt l)).foldl add zero = come l t :=
  sum_left fun f hf => by
    obtain ⟨u, hu, e⟩ := List.mem_map.mp hf
    rw [← e]
    exact comAt_norm (till_mem hu)
theorem lasts_norm (l : All) (t : Nat) : Norm (lasts l t) := product_norm fun f hf => by
    obtain ⟨u, hu, e⟩ := List.mem_map.mp hf
    rw [← e]
    exact facAt_norm (till_mem hu)
theorem norm_num_zero {f : Fr} (h : Norm f) : f.num = 0 ↔ f = zero := by
  constructor
  · intro e
    obtain ⟨n, d⟩ := f
    obtain ⟨h1, h2⟩ := h
    simp only at e h1 h2
    subst e
    simp at h2
    subst h2
    rfl
  · intro e
    rw [e]
    rfl
theorem fr_num_zero {n : Int} {d : Nat} (h : 0 < d) : (fr n d).num = 0 ↔ n = 0 := by
  have c := fr_num_mul (n := n) h
  have hg : (Nat.gcd n.natAbs d : Int) ≠ 0 := by have := gcd_pos_r (n := n.natAbs) h; omega
  constructor
  · intro e
    rw [e, Int.zero_mul] at c
    exact c.symm
  · intro e
    rw [e] at c
    rcases Int.mul_eq_zero.mp c with q | q
    · rw [e]; exact q
    · rw [e] at hg; exact absurd q hg
theorem mul_num_zero {a b : Fr} (ha : Norm a) (hb : Norm b) : (mul a b).num = 0 ↔ a.num = 0 ∨ b.num = 0 := by
  unfold mul
  rw [fr_num_zero (Nat.mul_pos ha.1 hb.1)]
  exact Int.mul_eq_zero
theorem product_num_zero : ∀ {l : List Fr}, (∀ f ∈ l, Norm f) → ((product l).num = 0 ↔ ∃ f ∈ l, f.num = 0)
  | [], _ => by
    constructor
    · intro h; exact absurd h (by decide)
    · rintro ⟨f, hf, _⟩; simp at hf
  | f :: r, h => by
    have hf := h f (by simp)
    have hr : ∀ g ∈ r, Norm g := fun g hg => h g (by simp [hg])
    show (mul f (product r)).num = 0 ↔ _
    rw [mul_num_zero hf (product_norm hr), product_num_zero hr]
    constructor
    · rintro (q | ⟨g, hg, q⟩)
      · exact ⟨f, by simp, q⟩
      · exact ⟨g, by simp [hg], q⟩
    · rintro ⟨g, hg, q⟩
      rcases List.mem_cons.mp hg with e | hg
      · subst e; exact Or.inl q
      · exact Or.inr ⟨g, hg, q⟩
/-- where somebody lasts, fewer end than are there -/
theorem ends_lt {l : All} {t u : Nat} (h : ¬ (lasts l t).num = 0) (hu : u ∈ till l t) : ends l u < there l u := by
  rcases Nat.lt_or_ge (ends l u) (there l u) with q | q
  · exact q
  · refine absurd ?_ h
    have e : there l u = ends l u := Nat.le_antisymm q (ends_le_there l u)
    refine (product_num_zero fun f hf => ?_).mpr ⟨facAt l u, List.mem_map.mpr ⟨u, hu, rfl⟩, ?_⟩
    · obtain ⟨v, hv, e⟩ := List.mem_map.mp hf
      rw [← e]
      exact facAt_norm (till_mem hv)
    · unfold facAt
      rw [fr_num_zero (there_pos (till_mem hu)), e]
      omega
theorem varAt_norm {l : All} {t u : Nat} (h : ¬ (lasts l t).num = 0) (hu : u ∈ till l t) : Norm (varAt l u) := by
  have := ends_lt h hu
  exact fr_norm (Nat.mul_pos (there_pos (till_mem hu)) (by omega))
theorem var_left {l : All} {t : Nat} (h : ¬ (lasts l t).num = 0) : ((till l t).map (varAt l)).foldl add zero = sum ((till l t).map (varAt l)) :=
  sum_left fun f hf => by
    obtain ⟨u, hu, e⟩ := List.mem_map.mp hf
    rw [← e]
    exact varAt_norm h hu
theorem spread_zero {l : All} {t : Nat} (h : (lasts l t).num = 0) : spread l t = zero := by
  unfold spread
  rw [if_pos ((norm_num_zero (lasts_norm l t)).mp h)]
theorem spread_some {l : All} {t : Nat} (h : ¬ (lasts l t).num = 0) : spread l t = mul (mul (lasts l t) (lasts l t)) (((till l t).map (varAt l)).foldl add zero) := by
  rw [var_left h]
  unfold spread
  rw [if_neg fun e => h ((norm_num_zero (lasts_norm l t)).mpr e)]
  rfl
theorem till_take {l : All} {i : Nat} {u : Nat} (h : (times l)[i]? = some u) : till l u = (times l).take (i + 1) := by
  have key : ∀ (m : List Nat) (i : Nat), m.Pairwise (· < ·) → m[i]? = some u → m.filter (fun v => decide (v ≤ u)) = m.take (i + 1) := by
    intro m
    induction m with
    | nil => intro i _ h; simp at h
    | cons v m ih =>
      intro i hp h
      obtain ⟨h1, h2⟩ := List.pairwise_cons.mp hp
      cases i with
      | zero =>
        have e : v = u := Option.some.inj h
        subst e
        rw [List.filter_cons, if_pos (by simp)]
        have : m.filter (fun w => decide (w ≤ v)) = [] := by
          rw [List.filter_eq_nil_iff]
          intro a ha
          have := h1 a ha
          simp; omega
        rw [this]
        rfl
      | succ i =>
        have h' : m[i]? = some u := h
        have : v < u := h1 u (List.mem_of_getElem? h')
        rw [List.filter_cons, if_pos (by simp; omega), ih i h2 h']
        rfl
  exact key _ i (times_sorted l) h
/-- the share behind the first i ends -/
def shareAt (l : All) (i : Nat) : Fr := (((times l).take i).map (facAt l)).foldl mul one
theorem shareAt_lasts {l : All} {i u : Nat} (h : (times l)[i]? = some u) : shareAt l (i + 1) = lasts l u := by
  rw [← lasts_left, till_take h]
  rfl
theorem half_test (a : Fr) : atMost a (fr 1 2) = decide (2 * a.num ≤ (a.den : Int)) := by
  have e : fr 1 2 = ⟨1, 2⟩ := by decide
  rw [e]
  unfold atMost
  congr 1
  refine propext ⟨fun h => ?_, fun h => ?_⟩
  · have : a.num * ((2 : Nat) : Int) ≤ 1 * (a.den : Int) := h
    omega
  · show a.num * ((2 : Nat) : Int) ≤ 1 * (a.den : Int)
    omega
/-- no end among the first i -/
def noHalf (l : All) (i : Nat) : Prop := ∀ j u, j < i → (times l)[j]? = some u → ¬ 2 * (shareAt l (j + 1)).num ≤ ((shareAt l (j + 1)).den : Int)
theorem half_some {l : All} {i u : Nat} (hn : noHalf l i) (h : (times l)[i]? = some u) (ht : 2 * (shareAt l (i + 1)).num ≤ ((shareAt l (i + 1)).den : Int)) : half l = some u := by
  unfold half
  rw [List.find?_eq_some_iff_getElem]
  obtain ⟨hi, e⟩ := List.getElem?_eq_some_iff.mp h
  refine ⟨by rw [half_test, ← shareAt_lasts h]; exact decide_eq_true ht, i, hi, e, fun j hj => ?_⟩
  have hj' : (times l)[j]? = some (times l)[j] := List.getElem?_eq_getElem _
  rw [half_test, ← shareAt_lasts hj']
  simp only [Bool.not_eq_true', decide_eq_false_iff_not]
  exact hn j _ hj hj'
theorem half_none {l : All} (hn : noHalf l (times l).length) : half l = none := by
  unfold half
  rw [List.find?_eq_none]
  intro u hu
  obtain ⟨j, hj⟩ := List.getElem?_of_mem hu
  rw [half_test, ← shareAt_lasts hj, decide_eq_true_iff]
  exact hn j u (List.getElem?_eq_some_iff.mp hj).1 hj
end LS
end
section
set_option linter.unusedSimpArgs false
set_option linter.unusedVariables false
namespace LS
open Sd58
def Sz (k : Nat) (f : Fr) : Prop := f.num.natAbs ≤ 2 ^ k ∧ f.den ≤ 2 ^ k
theorem Sz.mono {j k : Nat} {f : Fr} (h : Sz j f) (hk : j ≤ k) : Sz k f :=
  have := Nat.pow_le_pow_right (show 0 < 2 by decide) hk
  ⟨Nat.le_trans h.1 this, Nat.le_trans h.2 this⟩
theorem fr_sz {n : Int} {d k : Nat} (hd : 0 < d) (h1 : n.natAbs ≤ 2 ^ k) (h2 : d ≤ 2 ^ k) : Sz k (fr n d) := by
  rw [fr_pos hd]
  refine ⟨?_, Nat.le_trans (Nat.div_le_self _ _) h2⟩
  show (n / (Nat.gcd n.natAbs d : Int)).natAbs ≤ 2 ^ k
  rw [natAbs_div (Nat.gcd_dvd_left _ _)]
  exact Nat.le_trans (Nat.div_le_self _ _) h1
theorem mul_bd {a b : Int} {j k : Nat} (h1 : a.natAbs ≤ 2 ^ j) (h2 : b.natAbs ≤ 2 ^ k) : (a * b).natAbs ≤ 2 ^ (j + k) := by
  rw [Int.natAbs_mul, Nat.pow_add]
  exact Nat.mul_le_mul h1 h2
theorem add_bd {a b : Int} {k : Nat} (h1 : a.natAbs ≤ 2 ^ k) (h2 : b.natAbs ≤ 2 ^ k) : (a + b).natAbs ≤ 2 ^ (k + 1) := by
  have := Int.natAbs_add_le a b
  rw [Nat.pow_succ]
  omega
theorem den_bd {f : Fr} {k : Nat} (h : Sz k f) : ((f.den : Int)).natAbs ≤ 2 ^ k := by
  rw [Int.natAbs_natCast]
  exact h.2
theorem mul_sz {f g : Fr} {j k : Nat} (hf : Norm f) (hg : Norm g) (h1 : Sz j f) (h2 : Sz k g) : Sz (j + k) (mul f g) := by
  unfold mul
  exact fr_sz (Nat.mul_pos hf.1 hg.1) (mul_bd h1.1 h2.1) (by rw [Nat.pow_add]; exact Nat.mul_le_mul h1.2 h2.2)
theorem add_sz {f g : Fr} {j k : Nat} (hf : Norm f) (hg : Norm g) (h1 : Sz j f) (h2 : Sz k g) : Sz (j + k + 1) (add f g) := by
  unfold add
  refine fr_sz (Nat.mul_pos hf.1 hg.1) (add_bd (mul_bd h1.1 (den_bd h2)) ?_) ?_
  · rw [Nat.add_comm j k]
    exact mul_bd h2.1 (den_bd h1)
  · rw [Nat.pow_succ, Nat.pow_add]
    have := Nat.mul_le_mul h1.2 h2.2
    omega
theorem foldl_add_sz : ∀ {l : List Fr} {a : Fr} {j k : Nat}, Norm a → (∀ f ∈ l, Norm f) → Sz j a → (∀ f ∈ l, Sz k f) → Sz (j + l.length * (k + 1)) (l.foldl add a)
  | [], a, j, k, _, _, h, _ => by simpa using h
  | f :: r, a, j, k, ha, hn, h, hl => by
    have := foldl_add_sz (l := r) (a := add a f) (j := j + k + 1) (k := k) (add_norm ha (hn f (by simp))) (fun g hg => hn g (by simp [hg])) (add_sz ha (hn f (by simp)) h (hl f (by simp))) (fun g hg => hl g (by simp [hg]))
    rw [List.foldl_cons]
    refine this.mono ?_
    rw [List.length_cons, Nat.add_mul]
    omega
theorem foldl_mul_sz : ∀ {l : List Fr} {a : Fr} {j k : Nat}, Norm a → (∀ f ∈ l, Norm f) → Sz j a → (∀ f ∈ l, Sz k f) → Sz (j + l.length * k) (l.foldl mul a)
  | [], a, j, k, _, _, h, _ => by simpa using h
  | f :: r, a, j, k, ha, hn, h, hl => by
    have := foldl_mul_sz (l := r) (a := mul a f) (j := j + k) (k := k) (mul_norm ha (hn f (by simp))) (fun g hg => hn g (by simp [hg])) (mul_sz ha (hn f (by simp)) h (hl f (by simp))) (fun g hg => hl g (by simp [hg]))
    rw [List.foldl_cons]
    refine this.mono ?_
    rw [List.length_cons, Nat.add_mul]
    omega
theorem foldl_add_norm : ∀ {l : List Fr} {a : Fr}, Norm a → (∀ f ∈ l, Norm f) → Norm (l.foldl add a)
  | [], _, h, _ => h
  | f :: r, a, ha, hn => foldl_add_norm (l := r) (add_norm ha (hn f (by simp))) fun g hg => hn g (by simp [hg])
theorem foldl_mul_norm : ∀ {l : List Fr} {a : Fr}, Norm a → (∀ f ∈ l, Norm f) → Norm (l.foldl mul a)
  | [], _, h, _ => h
  | f :: r, a, ha, hn => foldl_mul_norm (l := r) (mul_norm ha (hn f (by simp))) fun g hg => hn g (by simp [hg])
/-- how many numbers stand behind a call's number (all but begin) -/
def sizeOfCall (p : Int) : Option Nat := if p = 1 ∨ p = 2 ∨ p = 3 then some 3 else if p = 4 ∨ p = 5 ∨ p = 6 then some 1 else if p = 7 then some 0 else if p = 8 then some 2 else none
abbrev Cl := Int × List Int
def Cl.ok (q : Cl) : Prop := sizeOfCall q.1 = some q.2.length
def flat (qs : List Cl) : List Int := qs.flatMap fun q => q.1 :: q.2
theorem shape_size {p : Int} (h : p ≠ 0) : PySd58.shape p = (sizeOfCall p).map fun n => (n, 0) := by
  unfold PySd58.shape sizeOfCall
  by_cases h1 : p = 1
  · subst h1; rfl
  by_cases h2 : p = 2
  · subst h2; rfl
  by_cases h3 : p = 3
  · subst h3; rfl
  by_cases h4 : p = 4
  · subst h4; rfl
  by_cases h5 : p = 5
  · subst h5; rfl
  by_cases h6 : p = 6
  · subst h6; rfl
  by_cases h7 : p = 7
  · subst h7; rfl
  by_cases h8 : p = 8
  · subst h8; rfl
  simp [h, h1, h2, h3, h4, h5, h6, h7, h8]
/-- no begin among the decoded -/
def notB (c : List (List Int)) : Bool := match c with
  | [[0, _], _] => false
  | _ => true
theorem calls_flat : ∀ (f : Nat) (l : List Int) (cs : List (List (List Int))), PyFlat.calls PySd58.shape f l = some cs → (∀ c ∈ cs, notB (PySd58.whole c) = true) →
    ∃ qs : List Cl, l = flat qs ∧ (∀ q ∈ qs, Cl.ok q) ∧ cs = qs.map fun q => [q.1 :: q.2]
  | _, [], cs, h, _ => by
    unfold PyFlat.calls at h
    cases h
    exact ⟨[], rfl, by simp, rfl⟩
  | 0, p :: r, cs, h, _ => by unfold PyFlat.calls at h; cases h
  | f + 1, p :: r, cs, h, hb => by
    unfold PyFlat.calls at h
    cases hc : PyFlat.call PySd58.shape (p :: r) with
    | none => rw [hc] at h; cases h
    | some ct =>
      obtain ⟨c, t⟩ := ct
      rw [hc] at h
      dsimp only at h
      cases hr : PyFlat.calls PySd58.shape f t with
      | none => rw [hr] at h; cases h
      | some cs' =>
        rw [hr] at h
        dsimp only at h
        cases h
        unfold PyFlat.call at hc
        have hp : p ≠ 0 := by
          intro e
          have hbc := hb c (by simp)
          subst e
          dsimp only at hc
          have hs : PySd58.shape 0 = some (0, 1) := rfl
          rw [hs] at hc
          dsimp only at hc
          rw [if_neg (by omega)] at hc
          dsimp only [PyFlat.rows] at hc
          cases hrow : PyFlat.row (r.drop 0) with
          | none => rw [hrow] at hc; cases hc
          | some xs =>
            obtain ⟨x, s⟩ := xs
            rw [hrow] at hc
            dsimp only at hc
            cases hc
            cases hbc
        dsimp only at hc
        rw [shape_size hp] at hc
        cases hz : sizeOfCall p with
        | none => rw [hz] at hc; cases hc
        | some n =>
          rw [hz] at hc
          dsimp only [Option.map] at hc
          by_cases hl : r.length < n
          · rw [if_pos hl] at hc; cases hc
          · rw [if_neg hl] at hc
            dsimp only [PyFlat.rows] at hc
            cases hc
            obtain ⟨qs, e1, e2, e3⟩ := calls_flat f _ cs' hr fun c hm => hb c (by simp [hm])
            refine ⟨(p, r.take n) :: qs, ?_, fun q hq => ?_, ?_⟩
            · show p :: r = p :: (r.take n ++ flat qs)
              rw [← e1, List.take_append_drop]
            · rcases List.mem_cons.mp hq with e | hq
              · subst e
                show sizeOfCall p = some (r.take n).length
                rw [hz, List.length_take]
                congr 1
                omega
              · exact e2 q hq
            · rw [e3]; rfl
/-- what a call that is no begin answers -/
def ansOf (l : All) (q : Cl) : List Int := (Sd58Neutral.step (some l) [q.1 :: q.2]).2
theorem callOf_ok {q : Cl} (h : Cl.ok q) : ∃ c, Sd58Neutral.callOf [q.1 :: q.2] = some c ∧ ∀ t n, c ≠ .begin_ t n := by
  obtain ⟨p, as⟩ := q
  unfold Cl.ok sizeOfCall at h
  dsimp only at h ⊢
  by_cases h1 : p = 1 ∨ p = 2 ∨ p = 3
  · rw [if_pos h1] at h
    match as, h with
    | [a, b, c], _ =>
      rcases h1 with e | e | e <;> subst e
      · exact ⟨_, rfl, by intros; simp⟩
      · exact ⟨_, rfl, by intros; simp⟩
      · exact ⟨_, rfl, by intros; simp⟩
  · rw [if_neg h1] at h
    by_cases h2 : p = 4 ∨ p = 5 ∨ p = 6
    · rw [if_pos h2] at h
      match as, h with
      | [a], _ =>
        rcases h2 with e | e | e <;> subst e
        · exact ⟨_, rfl, by intros; simp⟩
        · exact ⟨_, rfl, by intros; simp⟩
        · exact ⟨_, rfl, by intros; simp⟩
    · rw [if_neg h2] at h
      by_cases h3 : p = 7
      · rw [if_pos h3] at h
        match as, h with
        | [], _ => subst h3; exact ⟨_, rfl, by intros; simp⟩
      · rw [if_neg h3] at h
        by_cases h4 : p = 8
        · rw [if_pos h4] at h
          match as, h with
          | [a, b], _ => subst h4; exact ⟨_, rfl, by intros; simp⟩
        · rw [if_neg h4] at h; cases h
theorem step_state {l : All} {q : Cl} (h : Cl.ok q) : (Sd58Neutral.step (some l) [q.1 :: q.2]).1 = some l := by
  obtain ⟨c, e, hn⟩ := callOf_ok h
  unfold Sd58Neutral.step
  rw [e]
  dsimp only
  cases c <;> first | rfl | exact absurd rfl (hn _ _)
theorem whole_call {q : Cl} (h : Cl.ok q) : PySd58.whole [q.1 :: q.2] = [q.1 :: q.2] := by
  obtain ⟨p, as⟩ := q
  unfold PySd58.whole
  split <;> simp_all
theorem played_flat {l : All} : ∀ {qs : List Cl}, (∀ q ∈ qs, Cl.ok q) → PyFlat.told (PyFlat.played Sd58Neutral.step (some l) (qs.map fun q => [q.1 :: q.2])) = qs.flatMap fun q => ((ansOf l q).length : Int) :: ansOf l q
  | [], _ => rfl
  | q :: qs, h => by
    have ih := played_flat (l := l) (qs := qs) fun x hx => h x (by simp [hx])
    rw [List.map_cons, PyFlat.played, step_state (h q (by simp))]
    show PyFlat.told (ansOf l q :: _) = _
    rw [List.flatMap_cons, ← ih]
    rfl
theorem total_flat {l : All} : ∀ {qs : List Cl}, (∀ q ∈ qs, Cl.ok q) → Sd58Neutral.total (some l) (qs.map fun q => [q.1 :: q.2]) = (qs.map fun q => (ansOf l q).length).sum
  | [], _ => rfl
  | q :: qs, h => by
    have ih := total_flat (l := l) (qs := qs) fun x hx => h x (by simp [hx])
    rw [List.map_cons, Sd58Neutral.total]
    rw [step_state (h q (by simp)), ih]
    rfl
theorem step_begin {text : List Int} (hmost : text.length ≤ 4096) : Sd58Neutral.step Sd58Neutral.start [[0, (text.length : Int)], text] = (match Sd58.read (text.map Int.toNat) with
    | .error k => (none, [-100 - (k : Int)])
    | .ok a => (some a, [0])) := by
  have ham : Sd58.among 0 4096 (text.length : Int) = some text.length := by
    unfold Sd58.among
    rw [if_pos ⟨by omega, by omega⟩]
    rfl
  have e : Sd58.does none (.begin_ (Sd58Neutral.nats text) (text.length : Int)) = (match Sd58.read (text.map Int.toNat) with
      | .error k => ((none : Sd58.St), (⟨-100 - (k : Int), []⟩ : Sd58.Ans))
      | .ok a => (some a, ⟨0, []⟩)) := by
    show (if Sd58.among 0 4096 (text.length : Int) = none then ((none : Sd58.St), Sd58.bad) else (match Sd58.read (text.map Int.toNat) with
      | .error k => ((none : Sd58.St), (⟨-100 - (k : Int), []⟩ : Sd58.Ans))
      | .ok a => (some a, ⟨0, []⟩))) = _
    rw [if_neg (by rw [ham]; simp)]
  show ((Sd58.does none (.begin_ (Sd58Neutral.nats text) (text.length : Int))).1, (Sd58.does none (.begin_ (Sd58Neutral.nats text) (text.length : Int))).2.ret :: Sd58Neutral.ints (Sd58.does none (.begin_ (Sd58Neutral.nats text) (text.length : Int))).2.out) = _
  rw [e]
  cases Sd58.read (text.map Int.toNat) <;> rfl
/-- the whole list: begin's text, then the other calls; what is due, and that it's not too long -/
structure Asked (l text : List Int) (qs : List Cl) : Prop where
  eq : l = 0 :: (text.length : Int) :: (text ++ flat qs)
  byte : ∀ x ∈ text, 0 ≤ x ∧ x < 256
  most : text.length ≤ 4096
  oks : ∀ q ∈ qs, Cl.ok q
  many : qs.length ≤ 300
  bad : ∀ k, Sd58.read (text.map Int.toNat) = .error k → qs = [] ∧ PySd58.answers l = [1, -100 - (k : Int)]
  good : ∀ a, Sd58.read (text.map Int.toNat) = .ok a → PySd58.answers l = 1 :: 0 :: (qs.flatMap fun q => ((ansOf a q).length : Int) :: ansOf a q) ∧ (qs.map fun q => (ansOf a q).length).sum < 1000000
theorem asked_of {l : List Int} (h : PySd58.answers_asked l = true) : ∃ text qs, Asked l text qs := by
  unfold PySd58.answers_asked at h
  cases hc : PySd58.calls l with
  | none => rw [hc] at h; cases h
  | some cs =>
    rw [hc] at h
    dsimp only at h
    rw [Bool.and_eq_true] at h
    obtain ⟨h300, has⟩ := h
    have h300 : cs.length ≤ 300 := of_decide_eq_true h300
    have hc' := hc
    unfold PySd58.calls at hc
    cases hp : PyFlat.calls PySd58.shape l.length l with
    | none => rw [hp] at hc; cases hc
    | some cs0 =>
      rw [hp] at hc
      dsimp only at hc
      have hcs : cs0.map PySd58.whole = cs := Option.some.inj hc
      unfold Sd58Neutral.asked at has
      rw [Bool.and_eq_true, Bool.and_eq_true, decide_eq_true_iff] at has
      obtain ⟨⟨hall, htot⟩, hm⟩ := has
      match cs0, hcs, hp with
      | [], hcs, _ =>
        simp at hcs
        subst hcs
        simp at hm
      | c0 :: r0, hcs, hp =>
        match cs, hcs with
        | c :: r, hcs =>
          have e1 : PySd58.whole c0 = c := (List.cons.inj hcs).1
          have e2 : r0.map PySd58.whole = r := (List.cons.inj hcs).2
          dsimp only at hm
          rw [Bool.and_eq_true] at hm
          obtain ⟨hr, hb⟩ := hm
          match l, hp with
          | p :: l', hp =>
            rw [List.length_cons] at hp
            unfold PyFlat.calls at hp
            cases hk : PyFlat.call PySd58.shape (p :: l') with
            | none => rw [hk] at hp; cases hp
            | some ct =>
              obtain ⟨c1, t⟩ := ct
              rw [hk] at hp
              dsimp only at hp
              cases hq : PyFlat.calls PySd58.shape l'.length t with
              | none => rw [hq] at hp; cases hp
              | some r1 =>
                rw [hq] at hp
                dsimp only at hp
                cases hp
                have hrb : ∀ c ∈ r0, notB (PySd58.whole c) = true := fun c hc => by
                  have := List.all_eq_true.mp hr (PySd58.whole c) (by rw [← e2]; exact List.mem_map.mpr ⟨c, hc, rfl⟩)
                  exact this
                obtain ⟨qs, f1, f2, f3⟩ := calls_flat _ _ _ hq hrb
                have hwr : r = qs.map fun q => [q.1 :: q.2] := by
                  rw [← e2, f3, List.map_map]
                  exact List.map_congr_left fun q hq => whole_call (f2 q hq)
                unfold PyFlat.call at hk
                by_cases hp0 : p = 0
                · subst hp0
                  dsimp only at hk
                  have hs : PySd58.shape 0 = some (0, 1) := rfl
                  rw [hs] at hk
                  dsimp only at hk
                  rw [if_neg (by omega)] at hk
                  dsimp only [PyFlat.rows] at hk
                  cases hrow : PyFlat.row (l'.drop 0) with
                  | none => rw [hrow] at hk; cases hk
                  | some xs =>
                    obtain ⟨text, t'⟩ := xs
                    rw [hrow] at hk
                    dsimp only at hk
                    cases hk
                    rw [List.drop_zero] at hrow
                    match l', hrow with
                    | n :: l2, hrow =>
                      unfold PyFlat.row at hrow
                      dsimp only at hrow
                      by_cases hn : 0 ≤ n ∧ n.toNat ≤ l2.length
                      · rw [if_pos hn] at hrow
                        have g1 : l2.take n.toNat = text := (Prod.mk.inj (Option.some.inj hrow)).1
                        have g2 : l2.drop n.toNat = t := (Prod.mk.inj (Option.some.inj hrow)).2
                        have hlen : (text.length : Int) = n := by
                          rw [← g1, List.length_take]
                          omega
                        have hl2 : l2 = text ++ flat qs := by rw [← g1, ← f1, ← g2, List.take_append_drop]
                        have ec : c = [[0, (text.length : Int)], text] := e1.symm
                        subst ec
                        have ha1 := List.all_eq_true.mp hall [[0, (text.length : Int)], text] (by simp)
                        have ha1 : (Sd58Neutral.whole32 (text.length : Int) && ((text.all fun z => Sd58Neutral.natural z 8) && Sd58Neutral.long text (text.length : Int) 0 4096)) = true := ha1
                        rw [Bool.and_eq_true, Bool.and_eq_true] at ha1
                        obtain ⟨_, hby, hlo⟩ := ha1
                        have hbyte : ∀ x ∈ text, 0 ≤ x ∧ x < 256 := fun x hx => by
                          have := List.all_eq_true.mp hby x hx
                          unfold Sd58Neutral.natural at this
                          rw [Bool.and_eq_true, decide_eq_true_iff, decide_eq_true_iff] at this
                          exact ⟨this.1, this.2⟩
                        have hmost : text.length ≤ 4096 := by
                          unfold Sd58Neutral.long at hlo
                          rw [decide_eq_true_iff] at hlo
                          by_cases q : (0 : Int) ≤ (text.length : Int) ∧ (text.length : Int) ≤ 4096
                          · omega
                          · rw [if_neg q] at hlo; omega
                        have hst := step_begin hmost
                        have hans : PySd58.answers (0 :: n :: l2) = PyFlat.told (PyFlat.played Sd58Neutral.step Sd58Neutral.start ([[0, (text.length : Int)], text] :: r)) := by
                          unfold PySd58.answers
                          rw [hc']
                        refine ⟨text, qs, ⟨by rw [hlen, hl2], hbyte, hmost, f2, ?_, fun k hk => ?_, fun a ha => ?_⟩⟩
                        · rw [hwr, List.length_cons, List.length_map] at h300
                          omega
                        · have hb : (r.isEmpty || (Sd58Neutral.step Sd58Neutral.start [[0, (text.length : Int)], text]).2 == [0]) = true := hb
                          rw [hst, hk] at hb
                          have hb : (r.isEmpty || ([-100 - (k : Int)] == [0])) = true := hb
                          have hre : r = [] := by
                            rcases Bool.or_eq_true _ _ |>.mp hb with q | q
                            · exact List.isEmpty_iff.mp q
                            · have q' : [-100 - (k : Int)] = [0] := eq_of_beq q
                              have := (List.cons.inj q').1
                              omega
                          have hqs : qs = [] := by
                            rw [hre] at hwr
                            cases qs with
                            | nil => rfl
                            | cons _ _ => cases hwr
                          refine ⟨hqs, ?_⟩
                          rw [hans, hre]
                          show PyFlat.told [(Sd58Neutral.step Sd58Neutral.start [[0, (text.length : Int)], text]).2] = _
                          rw [hst, hk]
                          rfl
                        · have e : PyFlat.played Sd58Neutral.step Sd58Neutral.start ([[0, (text.length : Int)], text] :: r) = [0] :: PyFlat.played Sd58Neutral.step (some a) r := by
                            rw [PyFlat.played, hst, ha]
                          refine ⟨?_, ?_⟩
                          · rw [hans, e, hwr]
                            have := played_flat (l := a) f2
                            show PyFlat.told ([0] :: _) = _
                            rw [← this]
                            rfl
                          · have ht : Sd58Neutral.total Sd58Neutral.start ([[0, (text.length : Int)], text] :: r) = 1 + Sd58Neutral.total (some a) r := by
                              rw [Sd58Neutral.total, hst, ha]
                              rfl
                            rw [ht, hwr, total_flat f2] at htot
                            omega
                      · rw [if_neg hn] at hrow; cases hrow
                · exfalso
                  dsimp only at hk
                  rw [shape_size hp0] at hk
                  cases hz : sizeOfCall p with
                  | none => rw [hz] at hk; cases hk
                  | some n =>
                    rw [hz] at hk
                    dsimp only [Option.map] at hk
                    by_cases hl : l'.length < n
                    · rw [if_pos hl] at hk; cases hk
                    · rw [if_neg hl] at hk
                      dsimp only [PyFlat.rows] at hk
                      cases hk
                      have hw : PySd58.whole [p :: l'.take n] = [p :: l'.take n] := whole_call (q := (p, l'.take n)) (by
                        show sizeOfCall p = some (l'.take n).length
                        rw [hz, List.length_take]
                        congr 1
                        omega)
                      rw [hw] at e1
                      rw [← e1] at hb
                      simp at hb
end LS
end
section
set_option linter.unusedSimpArgs false
set_option linter.unusedVariables false
namespace LS
open Sd58
def inR (z v : Int) : Prop := 0 ≤ v ∧ v ≤ z
instance (z v : Int) : Decidable (inR z v) := inferInstanceAs (Decidable (_ ∧ _))
def fracAns (m : Int) (f : Fr) : List Int := if m < ((told f).length : Int) then [-1] else ((told f).length : Int) :: (told f).map fun (x : Nat) => (x : Int)
theorem among_some {z : Nat} {v : Int} (h : inR z v) : among 0 z v = some v.toNat := by
  unfold among
  rw [if_pos ⟨h.1, h.2⟩]
theorem among_none {z : Nat} {v : Int} (h : ¬ inR z v) : among 0 z v = none := by
  unfold among
  rw [if_neg fun q => h ⟨q.1, q.2⟩]
def told2 (a : Ans) : List Int := a.ret :: Sd58Neutral.ints a.out
theorem answer_some {m : Int} {f : Fr} (h : inR 4096 m) : told2 (answer m (some f)) = fracAns m f := by
  unfold answer fracAns
  have e : among 0 TEXT m = some m.toNat := among_some (z := 4096) h
  rw [e]
  dsimp only
  obtain ⟨h1, h2⟩ := h
  by_cases hc : m.toNat < (told f).length
  · rw [if_pos hc, if_pos (by omega)]; rfl
  · rw [if_neg hc, if_neg (by omega)]; rfl
theorem answer_bad {m : Int} {f : Option Fr} (h : ¬ inR 4096 m) : told2 (answer m f) = [-2] := by
  unfold answer
  have e : among 0 TEXT m = none := among_none (z := 4096) h
  rw [e]
  rfl
theorem answer_none {m : Int} : told2 (answer m none) = [-2] := by
  unfold answer
  cases among 0 TEXT m <;> rfl
theorem asked_some {l : All} {g t : Int} (hg : inR 2 g) (ht : inR 1000000 t) : asked (some l) g t = some (ofGroup l g.toNat, t.toNat) := by
  unfold asked
  rw [among_some (z := 2) hg, show among 0 LONG t = some t.toNat from among_some (z := 1000000) ht]
  rfl
theorem asked_none {l : All} {g t : Int} (h : ¬ (inR 2 g ∧ inR 1000000 t)) : asked (some l) g t = none := by
  unfold asked
  by_cases hg : inR 2 g
  · have ht : ¬ inR 1000000 t := fun q => h ⟨hg, q⟩
    rw [among_some (z := 2) hg, show among 0 LONG t = none from among_none (z := 1000000) ht]
    rfl
  · rw [among_none (z := 2) hg]
    rfl
theorem ans3 {l : All} {g t m : Int} {f : All → Nat → Fr} : told2 (answer m ((asked (some l) g t).map fun x => f x.1 x.2)) = if inR 2 g ∧ inR 1000000 t ∧ inR 4096 m then fracAns m (f (ofGroup l g.toNat) t.toNat) else [-2] := by
  by_cases hm : inR 4096 m
  · by_cases hgt : inR 2 g ∧ inR 1000000 t
    · rw [if_pos ⟨hgt.1, hgt.2, hm⟩, asked_some hgt.1 hgt.2]
      exact answer_some hm
    · rw [if_neg fun q => hgt ⟨q.1, q.2.1⟩, asked_none hgt]
      exact answer_none
  · rw [if_neg fun q => hm q.2.2]
    exact answer_bad hm
theorem ans_lasts (l : All) (g t m : Int) : ansOf l (1, [g, t, m]) = if inR 2 g ∧ inR 1000000 t ∧ inR 4096 m then fracAns m (lasts (ofGroup l g.toNat) t.toNat) else [-2] := ans3
theorem ans_spread (l : All) (g t m : Int) : ansOf l (2, [g, t, m]) = if inR 2 g ∧ inR 1000000 t ∧ inR 4096 m then fracAns m (spread (ofGroup l g.toNat) t.toNat) else [-2] := ans3
theorem ans_come (l : All) (g t m : Int) : ansOf l (3, [g, t, m]) = if inR 2 g ∧ inR 1000000 t ∧ inR 4096 m then fracAns m (come (ofGroup l g.toNat) t.toNat) else [-2] := ans3
theorem ans_half (l : All) (g : Int) : ansOf l (4, [g]) = if inR 2 g then [match half (ofGroup l g.toNat) with | none => -3 | some t => (t : Int)] else [-2] := by
  show told2 (match asked (some l) g 0 with
    | none => bad
    | some x => (match half x.1 with
      | none => ⟨-3, []⟩
      | some t => ⟨(t : Int), []⟩)) = _
  by_cases hg : inR 2 g
  · rw [if_pos hg, asked_some hg ⟨by omega, by omega⟩]
    dsimp only
    cases half (ofGroup l g.toNat) <;> rfl
  · rw [if_neg hg, asked_none fun q => hg q.1]
    rfl
theorem ans_gap (l : All) (m : Int) : ansOf l (5, [m]) = if inR 4096 m then fracAns m (gap l) else [-2] := by
  show told2 (answer m (some (gap l))) = _
  by_cases hm : inR 4096 m
  · rw [if_pos hm]; exact answer_some hm
  · rw [if_neg hm]; exact answer_bad hm
theorem ans_sway (l : All) (m : Int) : ansOf l (6, [m]) = if inR 4096 m then fracAns m (sway l) else [-2] := by
  show told2 (answer m (some (sway l))) = _
  by_cases hm : inR 4096 m
  · rw [if_pos hm]; exact answer_some hm
  · rw [if_neg hm]; exact answer_bad hm
theorem ans_pairs (l : All) : ansOf l (7, []) = [(pairs l : Int)] := rfl
theorem ans_rare (l : All) (k m : Int) : ansOf l (8, [k, m]) = if inR 2 k ∧ inR 4096 m then fracAns m (rare k.toNat l) else [-2] := by
  show told2 (answer m ((some l).bind fun l => (among 0 2 k).map fun k => rare k l)) = _
  by_cases hm : inR 4096 m
  · by_cases hk : inR 2 k
    · rw [if_pos ⟨hk, hm⟩, among_some (z := 2) hk]
      exact answer_some hm
    · rw [if_neg fun q => hk q.1, among_none (z := 2) hk]
      exact answer_none
  · rw [if_neg fun q => hm q.2]
    exact answer_bad hm
/-- an answer is never empty -/
theorem ofGroup_mem {l : All} {g : Nat} {x : Sd58.One} (h : x ∈ ofGroup l g) : x ∈ l := by
  unfold ofGroup at h
  split at h
  · exact h
  · exact (List.mem_filter.mp h).1
theorem ofGroup_len (l : All) (g : Nat) : (ofGroup l g).length ≤ l.length := by
  unfold ofGroup
  split
  · exact Nat.le_refl _
  · exact List.length_filter_le _ _
/-- all that a program keeps of a text that's read -/
structure Fine (l : All) : Prop where
  len : l.length ≤ 20
  grp : ∀ x ∈ l, x.group ≤ 1
  tim : ∀ x ∈ l, x.time ≤ 1000000
theorem fine_read {b : Bytes} {l : All} (h : Sd58.read b = .ok l) : Fine l := by
  rw [read_eq] at h
  cases e : wrongAt 1 (linesOf b) with
  | some k => rw [e] at h; cases h
  | none =>
    rw [e] at h
    obtain ⟨h1, h2⟩ := wrongAt_none e
    cases h
    have hx : ∀ x ∈ (linesOf b).filterMap oneRead, ∃ c, oneRead c = some x := fun x hx => by
      obtain ⟨c, _, q⟩ := List.mem_filterMap.mp hx
      exact ⟨c, q⟩
    refine ⟨?_, fun x q => ?_, fun x q => ?_⟩
    · refine Nat.le_trans (List.length_filterMap_le _ _) ?_
      by_cases hn : linesOf b = []
      · rw [hn]; simp
      · have := h2 hn; omega
    · obtain ⟨c, hc⟩ := hx x q
      exact (oneRead_ok hc).1
    · obtain ⟨c, hc⟩ := hx x q
      exact (oneRead_ok hc).2
end LS
end
section
set_option linter.unusedSimpArgs false
set_option linter.unusedVariables false
namespace LS
open Sd58
def csum : List Int → Nat → List Int
  | [], 0 => [0]
  | [], _ + 1 => []
  | x :: s, 0 => csum s 0
  | x :: s, k + 1 => csum s (k + 1) ++ (csum s k).map fun b => b + x
theorem csum_long : ∀ {s : List Int} {k : Nat}, s.length < k → csum s k = []
  | [], k + 1, _ => rfl
  | x :: s, k + 1, h => by
    rw [List.length_cons] at h
    unfold csum
    rw [csum_long (by omega), csum_long (by omega)]
    rfl
/-- sums up to n -/
def sumTo : Nat → (Nat → Nat) → Nat
  | 0, _ => 0
  | n + 1, f => sumTo n f + f n
theorem sumTo_congr : ∀ {n : Nat} {f g : Nat → Nat}, (∀ j, j < n → f j = g j) → sumTo n f = sumTo n g
  | 0, _, _, _ => rfl
  | n + 1, f, g, h => by
    unfold sumTo
    rw [sumTo_congr fun j hj => h j (by omega), h n (by omega)]
theorem sumTo_add : ∀ (n : Nat) (f g : Nat → Nat), sumTo n (fun j => f j + g j) = sumTo n f + sumTo n g
  | 0, _, _ => rfl
  | n + 1, f, g => by
    show sumTo n (fun j => f j + g j) + (f n + g n) = sumTo n f + f n + (sumTo n g + g n)
    rw [sumTo_add n f g]
    omega
theorem sumTo_shift : ∀ (n : Nat) (f : Nat → Nat), sumTo (n + 1) f = f 0 + sumTo n fun j => f (j + 1)
  | 0, f => by simp [sumTo]
  | n + 1, f => by
    rw [sumTo, sumTo_shift n f]
    show f 0 + sumTo n (fun j => f (j + 1)) + f (n + 1) = f 0 + (sumTo n (fun j => f (j + 1)) + f (n + 1))
    omega
/-- one part against the other: how many sums keep p -/
def meet (p : Int → Bool) (a b : List Int) : Nat := (a.map fun x => b.countP fun y => p (x + y)).sum
theorem meet_nil_r (p : Int → Bool) (a : List Int) : meet p a [] = 0 := by
  unfold meet
  induction a with
  | nil => rfl
  | cons x a ih => rw [List.map_cons, List.sum_cons, ih]; rfl
theorem meet_append (p : Int → Bool) (a b c : List Int) : meet p (a ++ b) c = meet p a c + meet p b c := by
  unfold meet
  rw [List.map_append, List.sum_append]
theorem meet_perm {p : Int → Bool} {a a' b b' : List Int} (ha : a.Perm a') (hb : b.Perm b') : meet p a b = meet p a' b' := by
  unfold meet
  have e : (fun x => b.countP fun y => p (x + y)) = fun x => b'.countP fun y => p (x + y) := by
    funext x
    exact hb.countP_eq _
  rw [e]
  exact (ha.map _).sum_nat
def part (p : Int → Bool) (s1 s2 : List Int) (k j : Nat) : Nat := if j ≤ k then meet p (csum s1 j) (csum s2 (k - j)) else 0
theorem csum_meet (p : Int → Bool) (s2 : List Int) : ∀ (s1 : List Int) (k : Nat) (p : Int → Bool), (csum (s1 ++ s2) k).countP p = sumTo (s1.length + 1) (part p s1 s2 k)
  | [], k, p => by
    show (csum s2 k).countP p = 0 + part p [] s2 k 0
    unfold part meet
    rw [if_pos (Nat.zero_le _)]
    simp [csum]
  | x :: s, 0, p => by
    have ih := csum_meet p s2 s 0 p
    rw [List.cons_append]
    show (csum (s ++ s2) 0).countP p = _
    rw [ih, List.length_cons, sumTo_shift, sumTo_shift (s.length + 1)]
    have z1 : sumTo s.length (fun j => part p s s2 0 (j + 1)) = sumTo s.length fun _ => 0 := sumTo_congr fun j _ => by
      unfold part; rw [if_neg (by omega)]
    have z2 : sumTo (s.length + 1) (fun j => part p (x :: s) s2 0 (j + 1)) = sumTo (s.length + 1) fun _ => 0 := sumTo_congr fun j _ => by
      unfold part; rw [if_neg (by omega)]
    have z0 : ∀ n, sumTo n (fun _ => 0) = 0 := by
      intro n
      induction n with
      | zero => rfl
      | succ n ih => show sumTo n (fun _ => 0) + 0 = 0; rw [ih]
    rw [z1, z2, z0, z0]
    rfl
  | x :: s, k + 1, p => by
    have ih1 := csum_meet p s2 s (k + 1) p
    have ih2 := csum_meet p s2 s k fun b => p (b + x)
    rw [List.cons_append]
    show (csum (s ++ s2) (k + 1) ++ (csum (s ++ s2) k).map fun b => b + x).countP p = _
    rw [List.countP_append, List.countP_map, ih1]
    have ih2' : (csum (s ++ s2) k).countP (p ∘ fun b => b + x) = _ := ih2
    rw [ih2', List.length_cons]
    have e : ∀ j, part p (x :: s) s2 (k + 1) j = part p s s2 (k + 1) j + (match j with
        | 0 => 0
        | j + 1 => part (fun b => p (b + x)) s s2 k j) := by
      intro j
      cases j with
      | zero => rfl
      | succ j =>
        show part p (x :: s) s2 (k + 1) (j + 1) = part p s s2 (k + 1) (j + 1) + part (fun b => p (b + x)) s s2 k j
        unfold part
        by_cases h : j ≤ k
        · rw [if_pos (by omega), if_pos (by omega), if_pos h]
          show meet p (csum s (j + 1) ++ (csum s j).map fun b => b + x) _ = _
          rw [meet_append]
          congr 1
          unfold meet
          rw [List.map_map, show k + 1 - (j + 1) = k - j by omega]
          congr 1
          refine List.map_congr_left fun a _ => ?_
          show (csum s2 (k - j)).countP (fun y => p (a + x + y)) = _
          congr 1
          funext y
          congr 1
          omega
        · rw [if_neg (by omega), if_neg (by omega), if_neg h]
    rw [sumTo_congr (fun j _ => e j), sumTo_add, sumTo_shift (s.length + 1) (fun j => match j with
        | 0 => 0
        | j + 1 => part (fun b => p (b + x)) s s2 k j)]
    have z : sumTo (s.length + 1 + 1) (part p s s2 (k + 1)) = sumTo (s.length + 1) (part p s s2 (k + 1)) := by
      show sumTo (s.length + 1) (part p s s2 (k + 1)) + part p s s2 (k + 1) (s.length + 1) = _
      have : part p s s2 (k + 1) (s.length + 1) = 0 := by
        unfold part
        rw [csum_long (s := s) (k := s.length + 1) (by omega)]
        split <;> rfl
      rw [this]
      rfl
    rw [z]
    show _ = _ + (0 + sumTo (s.length + 1) (part (fun b => p (b + x)) s s2 k))
    omega
theorem csum_zero : ∀ s : List Int, csum s 0 = [0]
  | [] => rfl
  | _ :: s => csum_zero s
theorem csum_snoc (x : Int) : ∀ (s : List Int) (k : Nat), (csum (s ++ [x]) (k + 1)).Perm (csum s (k + 1) ++ (csum s k).map fun b => b + x)
  | [], 0 => List.Perm.refl _
  | [], k + 1 => List.Perm.refl _
  | y :: s, 0 => by
    show (csum (s ++ [x]) 1 ++ (csum (s ++ [x]) 0).map fun b => b + y).Perm ((csum s 1 ++ (csum s 0).map fun b => b + y) ++ (csum (y :: s) 0).map fun b => b + x)
    have ih := csum_snoc x s 0
    rw [csum_zero (s ++ [x]), csum_zero (y :: s)]
    rw [csum_zero s] at ih ⊢
    refine (ih.append_right _).trans ?_
    rw [List.append_assoc, List.append_assoc]
    exact (List.perm_append_comm).append_left _
  | y :: s, k + 1 => by
    show (csum (s ++ [x]) (k + 2) ++ (csum (s ++ [x]) (k + 1)).map fun b => b + y).Perm ((csum s (k + 2) ++ (csum s (k + 1)).map fun b => b + y) ++ (csum s (k + 1) ++ (csum s k).map fun b => b + y).map fun b => b + x)
    have ih1 := csum_snoc x s (k + 1)
    have ih2 := csum_snoc x s k
    refine (ih1.append (ih2.map _)).trans ?_
    rw [List.map_append, List.map_append, List.map_map, List.map_map]
    have e : ((fun b => b + y) ∘ fun b => b + x) = ((fun b => b + x) ∘ fun b : Int => b + y) := by
      funext b
      show b + x + y = b + y + x
      omega
    rw [e, List.append_assoc, List.append_assoc]
    refine List.Perm.append_left _ ?_
    rw [← List.append_assoc, ← List.append_assoc]
    exact (List.perm_append_comm).append_right _
/-- the program's rows behind a part of the scores -/
structure RowsOf (s : List Int) (rs : List (List Int)) : Prop where
  len : rs.length = s.length + 1
  perm : ∀ (j : Nat) (r : List Int), rs[j]? = some r → r.Perm (csum s j)
theorem rowsOf_nil : RowsOf [] [[0]] := ⟨rfl, fun j r h => by
  cases j with
  | zero => cases h; exact List.Perm.refl _
  | succ j => simp at h⟩
def nextRows (rs : List (List Int)) (x : Int) : List (List Int) := List.zipWith (· ++ ·) (rs ++ [[]]) ([] :: rs.map fun r => r.map fun b => b + x)
theorem RowsOf.next {s : List Int} {rs : List (List Int)} (h : RowsOf s rs) (x : Int) : RowsOf (s ++ [x]) (nextRows rs x) := by
  refine ⟨?_, fun j r hr => ?_⟩
  · unfold nextRows
    have := h.len
    simp; omega
  · unfold nextRows at hr
    rw [List.getElem?_zipWith] at hr
    cases j with
    | zero =>
      have h0 : (rs ++ [[]])[0]? = rs[0]? := List.getElem?_append_left (by have := h.len; omega)
      rw [h0] at hr
      cases hq : rs[0]? with
      | none => rw [hq] at hr; simp at hr
      | some a =>
        rw [hq] at hr
        simp at hr
        subst hr
        have := h.perm 0 a hq
        rw [csum_zero] at this ⊢
        exact this
    | succ j =>
      have e2 : ([] :: rs.map fun r => r.map fun b => b + x)[j + 1]? = (rs[j]?).map fun r => r.map fun b => b + x := by
        rw [List.getElem?_cons_succ, List.getElem?_map]
      rw [e2] at hr
      cases hq : rs[j]? with
      | none => rw [hq] at hr; simp at hr
      | some b =>
        rw [hq] at hr
        have hj : j < rs.length := (List.getElem?_eq_some_iff.mp hq).1
        have hp := h.perm j b hq
        refine List.Perm.trans ?_ (csum_snoc x s j).symm
        by_cases hl : j + 1 < rs.length
        · rw [List.getElem?_append_left hl, List.getElem?_eq_getElem hl] at hr
          simp at hr
          subst hr
          exact (h.perm (j + 1) _ (List.getElem?_eq_getElem hl)).append (hp.map _)
        · have e : j + 1 = rs.length := by omega
          rw [List.getElem?_append_right (by omega), show j + 1 - rs.length = 0 by omega] at hr
          simp at hr
          subst hr
          rw [csum_long (k := j + 1) (by have := h.len; omega)]
          exact hp.map _
theorem csum_len_le : ∀ (s : List Int) (k : Nat), (csum s k).length ≤ 2 ^ s.length
  | [], 0 => by simp [csum]
  | [], k + 1 => by simp [csum]
  | x :: s, 0 => by
    have := csum_len_le s 0
    show (csum s 0).length ≤ _
    rw [List.length_cons, Nat.pow_succ]
    omega
  | x :: s, k + 1 => by
    have h1 := csum_len_le s (k + 1)
    have h2 := csum_len_le s k
    show (csum s (k + 1) ++ (csum s k).map _).length ≤ _
    rw [List.length_append, List.length_map, List.length_cons, Nat.pow_succ]
    omega
theorem csum_pos : ∀ {s : List Int} {k : Nat}, k ≤ s.length → 0 < (csum s k).length
  | [], 0, _ => by simp [csum]
  | x :: s, 0, _ => csum_pos (s := s) (Nat.zero_le _)
  | x :: s, k + 1, h => by
    have := csum_pos (s := s) (k := k) (by simpa using h)
    show 0 < (csum s (k + 1) ++ (csum s k).map _).length
    rw [List.length_append, List.length_map]
    omega
end LS
end
section
set_option linter.unusedSimpArgs false
set_option linter.unusedVariables false
namespace LS
open Sd58
def isum : List Int → Int
  | [] => 0
  | x :: l => x + isum l
theorem isum_add {α : Type} (f g : α → Int) : ∀ l : List α, isum (l.map fun x => f x + g x) = isum (l.map f) + isum (l.map g)
  | [] => rfl
  | x :: l => by
    show f x + g x + isum (l.map fun x => f x + g x) = f x + isum (l.map f) + (g x + isum (l.map g))
    rw [isum_add f g l]; omega
theorem isum_sub {α : Type} (f g : α → Int) : ∀ l : List α, isum (l.map fun x => f x - g x) = isum (l.map f) - isum (l.map g)
  | [] => rfl
  | x :: l => by
    show f x - g x + isum (l.map fun x => f x - g x) = f x + isum (l.map f) - (g x + isum (l.map g))
    rw [isum_sub f g l]; omega
theorem isum_mul {α : Type} (f : α → Int) (c : Int) : ∀ l : List α, isum (l.map fun x => f x * c) = isum (l.map f) * c
  | [] => by simp [isum]
  | x :: l => by
    show f x * c + isum (l.map fun x => f x * c) = (f x + isum (l.map f)) * c
    rw [isum_mul f c l, Int.add_mul]
theorem isum_zero {α : Type} {f : α → Int} : ∀ {l : List α}, (∀ x ∈ l, f x = 0) → isum (l.map f) = 0
  | [], _ => rfl
  | x :: l, h => by
    show f x + isum (l.map f) = 0
    rw [h x (by simp), isum_zero fun y hy => h y (by simp [hy])]; rfl
theorem isum_filter {α : Type} (p : α → Bool) (f : α → Int) : ∀ l : List α, isum ((l.filter p).map f) = isum (l.map fun x => if p x = true then f x else 0)
  | [] => rfl
  | x :: l => by
    rw [List.filter_cons, List.map_cons]
    show _ = (if p x = true then f x else 0) + isum (l.map fun x => if p x = true then f x else 0)
    rw [← isum_filter p f l]
    by_cases h : p x = true
    · rw [if_pos h, if_pos h]; rfl
    · rw [if_neg h, if_neg h]; omega
theorem isum_nat {α : Type} (f : α → Nat) : ∀ l : List α, ((l.map f).sum : Int) = isum (l.map fun x => (f x : Int))
  | [] => rfl
  | x :: l => by
    show (((f x :: l.map f).sum : Nat) : Int) = (f x : Int) + isum (l.map fun x => (f x : Int))
    rw [List.sum_cons, ← isum_nat f l]; omega
def val : All → List Int → Int
  | x :: l, v :: s => (if x.group = 1 then v else 0) + val l s
  | _, _ => 0
theorem val_map (g : Sd58.One → Int) : ∀ m : All, val m (m.map g) = isum ((ofGroup m 1).map g)
  | [] => rfl
  | x :: m => by
    have ih := val_map g m
    have e : ∀ l : All, ofGroup l 1 = l.filter fun x => x.group == 1 := fun l => by unfold ofGroup; rw [if_neg (by decide)]
    rw [e] at ih ⊢
    show (if x.group = 1 then g x else 0) + val m (m.map g) = _
    rw [ih, List.filter_cons]
    by_cases h : x.group = 1
    · rw [if_pos h, if_pos (by simpa using h)]; rfl
    · rw [if_neg h, if_neg (by simpa using h)]; omega
theorem parted_cons (x : Sd58.One) (l : All) (g : Nat) (r : List Nat) : Sd58.parted (x :: l) (g :: r) = { x with group := g } :: Sd58.parted l r := rfl
theorem rows_val : ∀ (l : All) (s : List Int) (k : Nat), l.length = s.length → (rows l.length k).map (fun r => val (Sd58.parted l r) s) = csum s k
  | [], [], 0, _ => rfl
  | [], [], k + 1, _ => rfl
  | x :: l, v :: s, 0, h => by
    have ih := rows_val l s 0 (by simpa using h)
    show ((rows l.length 0).map (fun r => 0 :: r) ++ []).map _ = csum s 0
    rw [List.append_nil, List.map_map, ← ih]
    refine List.map_congr_left fun r _ => ?_
    show (if (0 : Nat) = 1 then v else 0) + val (Sd58.parted l r) s = _
    rw [if_neg (by decide)]; omega
  | x :: l, v :: s, k + 1, h => by
    have ih1 := rows_val l s (k + 1) (by simpa using h)
    have ih2 := rows_val l s k (by simpa using h)
    show ((rows l.length (k + 1)).map (fun r => 0 :: r) ++ (rows l.length k).map fun r => 1 :: r).map _ = csum s (k + 1) ++ (csum s k).map fun b => b + v
    rw [List.map_append, List.map_map, List.map_map, ← ih1, ← ih2, List.map_map]
    congr 1
    · refine List.map_congr_left fun r _ => ?_
      show (if (0 : Nat) = 1 then v else 0) + val (Sd58.parted l r) s = _
      rw [if_neg (by decide)]; omega
    · refine List.map_congr_left fun r _ => ?_
      show (if (1 : Nat) = 1 then v else 0) + val (Sd58.parted l r) s = val (Sd58.parted l r) s + v
      rw [if_pos rfl]; omega
/-- the same in other groups, as many of each -/
structure Twin (l m : All) : Prop where
  core : m.map (fun x => (x.time, x.ended)) = l.map fun x => (x.time, x.ended)
  grp : ∀ x ∈ m, x.group ≤ 1
  cnt : (ofGroup m 1).length = (ofGroup l 1).length
theorem ofGroup_one (l : All) : ofGroup l 1 = l.filter fun x => x.group == 1 := by unfold ofGroup; rw [if_neg (by decide)]
theorem ofGroup_zero (l : All) : ofGroup l 0 = l.filter fun x => x.group == 0 := by unfold ofGroup; rw [if_neg (by decide)]
theorem rows_twin : ∀ (l : All) (k : Nat) (r : List Nat), r ∈ rows l.length k → (Sd58.parted l r).map (fun x => (x.time, x.ended)) = l.map (fun x => (x.time, x.ended)) ∧ (∀ x ∈ Sd58.parted l r, x.group ≤ 1) ∧ (ofGroup (Sd58.parted l r) 1).length = k
  | [], 0, r, h => by
    have : r = [] := by simpa [rows] using h
    subst this
    exact ⟨rfl, by simp [Sd58.parted], rfl⟩
  | [], k + 1, r, h => by simp [rows] at h
  | x :: l, k, r, h => by
    rw [List.length_cons] at h
    unfold rows at h
    rcases List.mem_append.mp h with h' | h'
    · obtain ⟨r', hr, rfl⟩ := List.mem_map.mp h'
      obtain ⟨i1, i2, i3⟩ := rows_twin l k r' hr
      rw [parted_cons]
      refine ⟨by rw [List.map_cons, i1]; rfl, fun y hy => ?_, ?_⟩
      · rcases List.mem_cons.mp hy with e | hy
        · rw [e]; exact Nat.zero_le _
        · exact i2 y hy
      · rw [ofGroup_one] at i3 ⊢
        rw [List.filter_cons, if_neg (by simp)]
        exact i3
    · cases k with
      | zero => simp at h'
      | succ k =>
        obtain ⟨r', hr, rfl⟩ := List.mem_map.mp h'
        obtain ⟨i1, i2, i3⟩ := rows_twin l k r' hr
        rw [parted_cons]
        refine ⟨by rw [List.map_cons, i1]; rfl, fun y hy => ?_, ?_⟩
        · rcases List.mem_cons.mp hy with e | hy
          · rw [e]; exact Nat.le_refl _
          · exact i2 y hy
        · rw [ofGroup_one] at i3 ⊢
          rw [List.filter_cons, if_pos (by simp), List.length_cons, i3]
theorem ways_twin {l m : All} (h : m ∈ ways l) : Twin l m := by
  obtain ⟨r, hr, rfl⟩ := List.mem_map.mp h
  obtain ⟨i1, i2, i3⟩ := rows_twin l _ r hr
  exact ⟨i1, i2, i3⟩
theorem Twin.self {l : All} (h : ∀ x ∈ l, x.group ≤ 1) : Twin l l := ⟨rfl, h, rfl⟩
/-- how rare, by the choices' values -/
theorem rare_by {k : Nat} {l : All} {s : List Int} (hs : l.length = s.length) (h : ∀ m, Twin l m → atMost (measure k l) (measure k m) = decide (val l s ≤ val m s)) :
    rare k l = fr ((csum s (ofGroup l 1).length).countP (fun b => decide (val l s ≤ b)) : Nat) (csum s (ofGroup l 1).length).length := by
  have e := rows_val l s (ofGroup l 1).length hs
  have e1 : (ways l).map (fun m => val m s) = csum s (ofGroup l 1).length := by
    rw [← e]
    unfold ways
    rw [List.map_map]
    rfl
  unfold rare
  have e2 : (ways l).length = (csum s (ofGroup l 1).length).length := by rw [← e1, List.length_map]
  have e3 : ((ways l).filter fun m => atMost (measure k l) (measure k m)).length = (csum s (ofGroup l 1).length).countP (fun b => decide (val l s ≤ b)) := by
    rw [← e1, List.countP_map, ← List.countP_eq_length_filter]
    refine List.countP_congr fun m hm => ?_
    rw [h m (ways_twin hm)]
    rfl
  rw [e2, e3]
theorem core_map {β : Type} {l m : All} (h : m.map (fun x => (x.time, x.ended)) = l.map fun x => (x.time, x.ended)) (g : Nat × Bool → β) : m.map (fun x => g (x.time, x.ended)) = l.map fun x => g (x.time, x.ended) := by
  have := congrArg (List.map g) h
  rw [List.map_map, List.map_map] at this
  exact this
theorem core_filter {l m : All} (h : m.map (fun x => (x.time, x.ended)) = l.map fun x => (x.time, x.ended)) (p : Nat × Bool → Bool) : (m.filter fun x => p (x.time, x.ended)).map (fun x => (x.time, x.ended)) = (l.filter fun x => p (x.time, x.ended)).map fun x => (x.time, x.ended) := by
  have := congrArg (List.filter p) h
  rw [List.filter_map, List.filter_map] at this
  exact this
theorem core_len {l m : All} (h : m.map (fun x => (x.time, x.ended)) = l.map fun x => (x.time, x.ended)) : m.length = l.length := by
  have := congrArg List.length h
  rwa [List.length_map, List.length_map] at this
theorem core_there {l m : All} (h : m.map (fun x => (x.time, x.ended)) = l.map fun x => (x.time, x.ended)) (u : Nat) : there m u = there l u :=
  core_len (core_filter h fun x => decide (u ≤ x.1))
theorem core_ends {l m : All} (h : m.map (fun x => (x.time, x.ended)) = l.map fun x => (x.time, x.ended)) (u : Nat) : ends m u = ends l u :=
  core_len (core_filter h fun x => x.2 && x.1 == u)
theorem core_times {l m : All} (h : m.map (fun x => (x.time, x.ended)) = l.map fun x => (x.time, x.ended)) : times m = times l := by
  unfold times
  rw [core_map (core_filter h fun x => x.2) fun x => x.1]
theorem Twin.val_of {l m : All} (h : Twin l m) (g : Nat × Bool → Int) : val m (l.map fun x => g (x.time, x.ended)) = isum ((ofGroup m 1).map fun x => g (x.time, x.ended)) := by
  rw [← core_map h.core g]
  exact val_map (fun x => g (x.time, x.ended)) m
def sc0 (l : All) : List Int := l.map fun x => (x.time : Int)
theorem atMost_nat (a b : Nat) : atMost (ofNat a) (ofNat b) = decide ((a : Int) ≤ (b : Int)) := by
  unfold atMost ofNat
  simp
theorem sc0_val {l m : All} (h : Twin l m) : (total m : Int) = val m (sc0 l) := by
  have := h.val_of fun x => (x.1 : Int)
  unfold sc0
  rw [this]
  exact isum_nat (fun x : Sd58.One => x.time) _
theorem rare0 {l : All} (hg : ∀ x ∈ l, x.group ≤ 1) (m : All) (h : Twin l m) : atMost (measure 0 l) (measure 0 m) = decide (val l (sc0 l) ≤ val m (sc0 l)) := by
  show atMost (ofNat (total l)) (ofNat (total m)) = _
  rw [atMost_nat, sc0_val h, sc0_val (Twin.self hg)]
def worth (t u : Nat) : Nat := if u < t then 2 else if u = t then 1 else 0
def sc1 (l : All) : List Int := l.map fun x => (((l.map fun y => worth x.time y.time).sum : Nat) : Int)
theorem worth_two (t u : Nat) : worth t u + worth u t = 2 := by
  unfold worth
  by_cases h1 : u < t
  · rw [if_pos h1, if_neg (by omega), if_neg (by omega)]
  · rw [if_neg h1]
    by_cases h2 : u = t
    · rw [if_pos h2, if_neg (by omega), if_pos h2.symm]
    · rw [if_neg h2, if_pos (by omega)]
theorem worth_self (t : Nat) : worth t t = 1 := by unfold worth; rw [if_neg (by omega), if_pos rfl]
theorem sum_add {α : Type} (f g : α → Nat) : ∀ l : List α, (l.map fun x => f x + g x).sum = (l.map f).sum + (l.map g).sum
  | [] => rfl
  | x :: l => by
    rw [List.map_cons, List.map_cons, List.map_cons, List.sum_cons, List.sum_cons, List.sum_cons, sum_add f g l]; omega
theorem sum_const {α : Type} (c : Nat) : ∀ l : List α, (l.map fun _ => c).sum = l.length * c
  | [] => by simp
  | x :: l => by
    rw [List.map_cons, List.sum_cons, sum_const c l, List.length_cons, Nat.add_mul]; omega
theorem among_square : ∀ g : All, (g.map fun x => (g.map fun y => worth x.time y.time).sum).sum = g.length * g.length
  | [] => rfl
  | a :: g => by
    have ih := among_square g
    rw [List.map_cons, List.sum_cons, List.map_cons, List.sum_cons, worth_self]
    have e1 : (g.map fun x => ((a :: g).map fun y => worth x.time y.time).sum) = g.map fun x => worth x.time a.time + (g.map fun y => worth x.time y.time).sum := by
      refine List.map_congr_left fun x _ => ?_
      rw [List.map_cons, List.sum_cons]
    rw [e1, sum_add, ih]
    have e2 : (g.map fun y => worth a.time y.time).sum + (g.map fun x => worth x.time a.time).sum = g.length * 2 := by
      rw [← sum_add, ← sum_const 2 g]
      congr 1
      exact List.map_congr_left fun x _ => worth_two _ _
    rw [List.length_cons, Nat.add_mul, Nat.mul_add]
    omega
theorem split_sum (f : Sd58.One → Nat) : ∀ {m : All}, (∀ x ∈ m, x.group ≤ 1) → (m.map f).sum = ((ofGroup m 1).map f).sum + ((ofGroup m 0).map f).sum
  | [], _ => rfl
  | x :: m, h => by
    have ih := split_sum f (m := m) fun y hy => h y (by simp [hy])
    have hx := h x (by simp)
    rw [ofGroup_one, ofGroup_zero] at ih ⊢
    rw [List.filter_cons, List.filter_cons, List.map_cons, List.sum_cons, ih]
    by_cases h1 : x.group = 1
    · rw [if_pos (by simpa using h1), if_neg (by simp [h1]), List.map_cons, List.sum_cons]; omega
    · have h0 : x.group = 0 := by omega
      rw [if_neg (by simpa using h1), if_pos (by simpa using h0), List.map_cons, List.sum_cons]; omega
theorem pairs_eq (m : All) : pairs m = ((ofGroup m 1).map fun x => ((ofGroup m 0).map fun y => worth x.time y.time).sum).sum := rfl
theorem sc1_val {l m : All} (h : Twin l m) : (pairs m : Int) + ((ofGroup l 1).length : Int) * ((ofGroup l 1).length : Int) = val m (sc1 l) := by
  have e := h.val_of fun x => (((l.map fun y => worth x.1 y.time).sum : Nat) : Int)
  unfold sc1
  rw [e, ← isum_nat (fun x : Sd58.One => (l.map fun y => worth x.time y.time).sum)]
  have e1 : ((ofGroup m 1).map fun x => (l.map fun y => worth x.time y.time).sum) = (ofGroup m 1).map fun x => ((ofGroup m 0).map fun y => worth x.time y.time).sum + ((ofGroup m 1).map fun y => worth x.time y.time).sum := by
    refine List.map_congr_left fun x _ => ?_
    have q := core_map h.core fun y => worth x.time y.1
    have q' : m.map (fun y => worth x.time y.time) = l.map fun y => worth x.time y.time := q
    rw [← q', split_sum _ h.grp]
    omega
  rw [e1, sum_add, among_square, h.cnt, ← pairs_eq]
  rw [Int.natCast_add, Int.natCast_mul]
theorem rare1 {l : All} (hg : ∀ x ∈ l, x.group ≤ 1) (m : All) (h : Twin l m) : atMost (measure 1 l) (measure 1 m) = decide (val l (sc1 l) ≤ val m (sc1 l)) := by
  show atMost (ofNat (pairs l)) (ofNat (pairs m)) = _
  rw [atMost_nat, ← sc1_val h, ← sc1_val (Twin.self hg)]
  congr 1
  exact propext ⟨fun q => by omega, fun q => by omega⟩
def whole (l : All) : Nat := ((times l).map (there l)).foldl (· * ·) 1
theorem foldl_mul_dvd : ∀ {l : List Nat} {a : Nat}, a ∣ l.foldl (· * ·) a ∧ ∀ x ∈ l, x ∣ l.foldl (· * ·) a
  | [], a => ⟨Nat.dvd_refl _, by simp⟩
  | y :: l, a => by
    obtain ⟨i1, i2⟩ := foldl_mul_dvd (l := l) (a := a * y)
    rw [List.foldl_cons]
    refine ⟨Nat.dvd_trans (Nat.dvd_mul_right a y) i1, fun x hx => ?_⟩
    rcases List.mem_cons.mp hx with e | hx
    · rw [e]; exact Nat.dvd_trans (Nat.dvd_mul_left y a) i1
    · exact i2 x hx
theorem foldl_mul_pos : ∀ {l : List Nat} {a : Nat}, 0 < a → (∀ x ∈ l, 0 < x) → 0 < l.foldl (· * ·) a
  | [], a, h, _ => h
  | y :: l, a, h, hl => by
    rw [List.foldl_cons]
    exact foldl_mul_pos (Nat.mul_pos h (hl y (by simp))) fun x hx => hl x (by simp [hx])
theorem whole_dvd {l : All} {u : Nat} (h : u ∈ times l) : there l u ∣ whole l := (foldl_mul_dvd (a := 1)).2 _ (List.mem_map.mpr ⟨u, h, rfl⟩)
theorem whole_pos (l : All) : 0 < whole l := foldl_mul_pos (by decide) fun x hx => by
  obtain ⟨u, hu, rfl⟩ := List.mem_map.mp hx
  exact there_pos hu
theorem sum_fr {W : Nat} (hW : 0 < W) (n : Nat → Int) (d : Nat → Nat) : ∀ {us : List Nat}, (∀ u ∈ us, 0 < d u ∧ d u ∣ W) → Sd58.sum (us.map fun u => fr (n u) (d u)) = fr (isum (us.map fun u => n u * ((W / d u : Nat) : Int))) W
  | [], _ => by
    show zero = fr 0 W
    have : zero = fr 0 1 := by decide
    rw [this]
    exact fr_eq (by decide) hW (by simp)
  | u :: us, h => by
    have ih := sum_fr hW n d (us := us) fun v hv => h v (by simp [hv])
    obtain ⟨hd, q, hq⟩ := h u (by simp)
    show add (fr (n u) (d u)) (Sd58.sum (us.map fun u => fr (n u) (d u))) = fr (n u * ((W / d u : Nat) : Int) + isum (us.map fun u => n u * ((W / d u : Nat) : Int))) W
    rw [ih, add_fr hd hW]
    refine fr_eq (Nat.mul_pos hd hW) hW ?_
    generalize isum (us.map fun u => n u * ((W / d u : Nat) : Int)) = S
    have e : W / d u = q := by rw [hq]; exact Nat.mul_div_cancel_left q hd
    rw [e, Int.natCast_mul]
    have hW' : (W : Int) = (d u : Int) * (q : Int) := by rw [hq, Int.natCast_mul]
    rw [hW']
    generalize (d u : Int) = D
    generalize (q : Int) = Q
    generalize n u = N
    grind
theorem atMost_fr {A B : Int} {W : Nat} (hW : 0 < W) : atMost (fr A W) (fr B W) = decide (A ≤ B) := by
  unfold atMost
  have c1 := fr_cross (n := A) hW
  have c2 := fr_cross (n := B) hW
  have p1 : (0 : Int) < (fr A W).den := by have := (fr_norm (n := A) hW).1; omega
  have p2 : (0 : Int) < (fr B W).den := by have := (fr_norm (n := B) hW).1; omega
  have pW : (0 : Int) < (W : Int) := by omega
  congr 1
  generalize (fr A W).num = a at *
  generalize ((fr A W).den : Int) = d at *
  generalize (fr B W).num = b at *
  generalize ((fr B W).den : Int) = e at *
  generalize (W : Int) = w at *
  have k1 : a * e * w = A * (d * e) := by
    calc a * e * w = (a * w) * e := by grind
      _ = _ := by rw [c1]; grind
  have k2 : b * d * w = B * (d * e) := by
    calc b * d * w = (b * w) * d := by grind
      _ = _ := by rw [c2]; grind
  have pde : 0 < d * e := Int.mul_pos p1 p2
  refine propext ⟨fun h => ?_, fun h => ?_⟩
  · have := Int.mul_le_mul_of_nonneg_right h (Int.le_of_lt pW)
    rw [k1, k2] at this
    exact Int.le_of_mul_le_mul_right this pde
  · have := Int.mul_le_mul_of_nonneg_right h (Int.le_of_lt pde)
    rw [← k1, ← k2] at this
    exact Int.le_of_mul_le_mul_right this pW
/-- the part of an end in a gap's score -/
def perEnd (l : All) (u : Nat) : Int := (ends l u : Int) * ((whole l / there l u : Nat) : Int)
def gapScore (l : All) (x : Sd58.One) : Int := (if x.ended = true then 1 else 0) * (whole l : Int) - isum (((times l).filter fun u => decide (u ≤ x.time)).map (perEnd l))
def sc2 (l : All) : List Int := l.map (gapScore l)
theorem isum_congr {α : Type} {f g : α → Int} {l : List α} (h : ∀ x ∈ l, f x = g x) : isum (l.map f) = isum (l.map g) := by rw [List.map_congr_left h]
theorem ofNat_fr (n : Nat) : ofNat n = fr (n : Int) 1 := (fr_self (norm_ofNat n)).symm
/-- a gap's term at an end -/
def gapAt (l g : All) (u : Nat) : Fr := fr ((ends g u : Int) * (there l u : Int) - (there g u : Int) * (ends l u : Int)) (there l u)
theorem gap_term {l : All} {u : Nat} (h : u ∈ times l) (g : All) : sub (ofNat (ends g u)) (fr ((there g u * ends l u : Nat) : Int) (there l u)) = gapAt l g u := by
  have hp := there_pos h
  rw [ofNat_fr, sub_fr (by decide) hp]
  unfold gapAt
  refine fr_eq (by omega) hp ?_
  rw [Int.natCast_mul, Int.natCast_mul]
  grind
theorem gap_sum (l : All) : gap l = Sd58.sum ((times l).map (gapAt l (ofGroup l 1))) := by
  unfold gap
  congr 1
  exact List.map_congr_left fun u hu => gap_term hu _
theorem gap_fr (l : All) : gap l = fr (isum ((times l).map fun u => ((ends (ofGroup l 1) u : Int) * (there l u : Int) - (there (ofGroup l 1) u : Int) * (ends l u : Int)) * ((whole l / there l u : Nat) : Int))) (whole l) := by
  rw [gap_sum]
  exact sum_fr (whole_pos l) (fun u => (ends (ofGroup l 1) u : Int) * (there l u : Int) - (there (ofGroup l 1) u : Int) * (ends l u : Int)) (there l) fun u hu => ⟨there_pos hu, whole_dvd hu⟩
theorem core_whole {l m : All} (h : m.map (fun x => (x.time, x.ended)) = l.map fun x => (x.time, x.ended)) : whole m = whole l := by
  unfold whole
  rw [core_times h]
  congr 1
  exact List.map_congr_left fun u _ => core_there h u
theorem twice (c : Nat → Int) (ts : List Nat) : ∀ g : All, isum (g.map fun x => isum ((ts.filter fun u => decide (u ≤ x.time)).map c)) = isum (ts.map fun u => (there g u : Int) * c u)
  | [] => by
    show 0 = _
    refine (isum_zero fun u _ => ?_).symm
    show ((0 : Nat) : Int) * c u = 0
    simp
  | x :: g => by
    have ih := twice c ts g
    show isum ((ts.filter fun u => decide (u ≤ x.time)).map c) + isum (g.map fun x => isum ((ts.filter fun u => decide (u ≤ x.time)).map c)) = _
    rw [ih, isum_filter, ← isum_add]
    refine isum_congr fun u _ => ?_
    unfold there
    rw [List.filter_cons]
    by_cases h : u ≤ x.time
    · rw [if_pos (decide_eq_true h), if_pos (decide_eq_true h), List.length_cons, Int.natCast_add, Int.add_mul]
      simp only [Int.natCast_one, Int.one_mul]
      omega
    · have h' : ¬ decide (u ≤ x.time) = true := fun q => h (of_decide_eq_true q)
      rw [if_neg h', if_neg h']
      omega
theorem once {t : Nat} : ∀ {ts : List Nat}, ts.Pairwise (· < ·) → t ∈ ts → isum (ts.map fun u => if t = u then (1 : Int) else 0) = 1
  | u :: ts, hp, h => by
    obtain ⟨h1, h2⟩ := List.pairwise_cons.mp hp
    show (if t = u then (1 : Int) else 0) + isum (ts.map fun u => if t = u then (1 : Int) else 0) = 1
    by_cases e : t = u
    · rw [if_pos e, isum_zero fun v hv => ?_]
      · rfl
      · have := h1 v hv
        show (if t = v then (1 : Int) else 0) = 0
        rw [if_neg (by omega)]
    · rw [if_neg e, once h2 ((List.mem_cons.mp h).resolve_left e)]; rfl
theorem ends_all {ts : List Nat} (hp : ts.Pairwise (· < ·)) : ∀ {g : All}, (∀ x ∈ g, x.ended = true → x.time ∈ ts) → isum (ts.map fun u => (ends g u : Int)) = isum (g.map fun x => if x.ended = true then (1 : Int) else 0)
  | [], _ => isum_zero fun u _ => rfl
  | x :: g, h => by
    have ih := ends_all hp (g := g) fun y hy => h y (by simp [hy])
    show _ = (if x.ended = true then (1 : Int) else 0) + isum (g.map fun x => if x.ended = true then (1 : Int) else 0)
    rw [← ih]
    by_cases he : x.ended = true
    · rw [if_pos he, ← once hp (h x (by simp) he), ← isum_add]
      refine isum_congr fun u _ => ?_
      unfold ends
      rw [List.filter_cons]
      by_cases ht : x.time = u
      · rw [if_pos (by simp [he, ht]), if_pos ht, List.length_cons]; omega
      · rw [if_neg (by simp [he, ht]), if_neg ht]; omega
    · rw [if_neg he, Int.zero_add]
      refine isum_congr fun u _ => ?_
      unfold ends
      rw [List.filter_cons, if_neg (by simp [he])]
theorem sc2_val {l m : All} (h : Twin l m) : gap m = fr (val m (sc2 l)) (whole l) := by
  rw [gap_fr, core_whole h.core]
  congr 1
  have e := h.val_of fun x => (if x.2 = true then 1 else 0) * (whole l : Int) - isum (((times l).filter fun u => decide (u ≤ x.1)).map (perEnd l))
  have e' : val m (sc2 l) = isum ((ofGroup m 1).map fun x => (if x.ended = true then (1 : Int) else 0) * (whole l : Int) - isum (((times l).filter fun u => decide (u ≤ x.time)).map (perEnd l))) := e
  rw [e', isum_sub, isum_mul, twice, core_times h.core]
  rw [← ends_all (times_sorted l) fun x hx he => ?_]
  · rw [← isum_mul, ← isum_sub]
    refine isum_congr fun u hu => ?_
    rw [core_there h.core, core_ends h.core]
    unfold perEnd
    obtain ⟨q, hq⟩ := whole_dvd hu
    have hp := there_pos hu
    have e1 : whole l / there l u = q := by rw [hq]; exact Nat.mul_div_cancel_left q hp
    rw [e1, hq, Int.natCast_mul]
    grind
  · rw [← core_times h.core]
    exact mem_times.mpr ⟨x, ofGroup_mem hx, he, rfl⟩
theorem rare2 {l : All} (hg : ∀ x ∈ l, x.group ≤ 1) (m : All) (h : Twin l m) : atMost (measure 2 l) (measure 2 m) = decide (val l (sc2 l) ≤ val m (sc2 l)) := by
  show atMost (gap l) (gap m) = _
  rw [sc2_val h, sc2_val (Twin.self hg), atMost_fr (whole_pos l)]
end LS
end
section
set_option linter.unusedSimpArgs false
set_option linter.unusedVariables false
namespace LS
open Sd58
theorem count_split {xs : List Int} {p : Int → Bool} {n : Nat} (h1 : ∀ (j : Nat) (y : Int), xs[j]? = some y → j < n → p y = false) (h2 : ∀ (j : Nat) (y : Int), xs[j]? = some y → n ≤ j → p y = true) : xs.countP p = xs.length - n := by
  have e : xs = xs.take n ++ xs.drop n := (List.take_append_drop n xs).symm
  have c1 : (xs.take n).countP p = 0 := by
    rw [List.countP_eq_zero]
    intro a ha
    obtain ⟨j, hj⟩ := List.getElem?_of_mem ha
    rw [List.getElem?_take] at hj
    split at hj
    · rw [h1 j a hj (by assumption)]; simp
    · cases hj
  have c2 : (xs.drop n).countP p = (xs.drop n).length := by
    rw [List.countP_eq_length]
    intro a ha
    obtain ⟨j, hj⟩ := List.getElem?_of_mem ha
    rw [List.getElem?_drop] at hj
    exact h2 (n + j) a hj (by omega)
  calc xs.countP p = (xs.take n ++ xs.drop n).countP p := by rw [← e]
    _ = xs.length - n := by rw [List.countP_append, c1, c2, List.length_drop]; omega
theorem sorted_at {xs : List Int} (h : xs.Pairwise (· ≤ ·)) {i j : Nat} {a b : Int} (hi : xs[i]? = some a) (hj : xs[j]? = some b) (hij : i ≤ j) : a ≤ b := by
  obtain ⟨h1, e1⟩ := List.getElem?_eq_some_iff.mp hi
  obtain ⟨h2, e2⟩ := List.getElem?_eq_some_iff.mp hj
  rcases Nat.lt_or_ge i j with q | q
  · have := List.pairwise_iff_getElem.mp h i j h1 h2 q
    omega
  · have : i = j := by omega
    subst this
    omega
def reach (least : Int) (b : Int) : Bool := decide (least ≤ b)
/-- behind the walk down -/
theorem reach_count {others : List Int} {least one : Int} {n : Nat} (hs : others.Pairwise (· ≤ ·)) (h : ∀ (j : Nat) (y : Int), others[j]? = some y → n ≤ j → least ≤ one + y)
    (hz : n = 0 ∨ ∃ y, others[n - 1]? = some y ∧ one + y < least) : others.countP (fun y => reach least (one + y)) = others.length - n := by
  refine count_split (fun j y hj hn => ?_) fun j y hj hn => decide_eq_true (h j y hj hn)
  rcases hz with e | ⟨z, hz, hl⟩
  · omega
  · have := sorted_at hs hj hz (by omega)
    exact decide_eq_false (by omega)
theorem meet_take {p : Int → Bool} {a b : List Int} {i : Nat} {x : Int} (h : a[i]? = some x) : meet p (a.take (i + 1)) b = meet p (a.take i) b + b.countP fun y => p (x + y) := by
  have e : a.take (i + 1) = a.take i ++ [x] := by
    rw [List.take_add_one, h]
    rfl
  rw [e, meet_append]
  congr 1
theorem meet_true (a b : List Int) : meet (fun _ => true) a b = a.length * b.length := by
  unfold meet
  have e : (fun x : Int => b.countP fun y => (fun _ => true : Int → Bool) (x + y)) = fun _ => b.length := by
    funext x
    exact congrFun List.countP_true b
  rw [e, sum_const]
def scM (k : Nat) (l : All) : List Int := if k = 0 then sc0 l else if k = 1 then sc1 l else sc2 l
theorem scM_len (k : Nat) (l : All) : (scM k l).length = l.length := by
  unfold scM sc0 sc1 sc2
  split
  · simp
  · split <;> simp
theorem rareM {k : Nat} {l : All} (hg : ∀ x ∈ l, x.group ≤ 1) (hk : k ≤ 2) (m : All) (h : Twin l m) : atMost (measure k l) (measure k m) = decide (val l (scM k l) ≤ val m (scM k l)) := by
  match k, hk with
  | 0, _ => exact rare0 hg m h
  | 1, _ => exact rare1 hg m h
  | 2, _ => exact rare2 hg m h
theorem rare_halves {k : Nat} {l : All} (hg : ∀ x ∈ l, x.group ≤ 1) (hk : k ≤ 2) {s1 s2 : List Int} (e : scM k l = s1 ++ s2) :
    rare k l = fr (sumTo (s1.length + 1) (part (reach (val l (scM k l))) s1 s2 (ofGroup l 1).length) : Nat) (sumTo (s1.length + 1) (part (fun _ => true) s1 s2 (ofGroup l 1).length)) := by
  rw [rare_by (scM_len k l).symm (rareM hg hk)]
  rw [← csum_meet (fun _ => true) s2 s1 _ _, ← csum_meet (fun _ => true) s2 s1 _ (fun _ => true), ← e]
  have : List.countP (fun _ => true) (csum (scM k l) (ofGroup l 1).length) = (csum (scM k l) (ofGroup l 1).length).length := congrFun List.countP_true _
  rw [this]
  rfl
theorem ways_pos {k : Nat} {l : All} {s1 s2 : List Int} (e : scM k l = s1 ++ s2) : 0 < sumTo (s1.length + 1) (part (fun _ => true) s1 s2 (ofGroup l 1).length) := by
  rw [← csum_meet (fun _ => true) s2 s1 _ (fun _ => true), ← e]
  have : List.countP (fun _ => true) (csum (scM k l) (ofGroup l 1).length) = (csum (scM k l) (ofGroup l 1).length).length := congrFun List.countP_true _
  rw [this]
  refine csum_pos ?_
  rw [scM_len]
  exact ofGroup_len l 1
theorem ways_le {k : Nat} {l : All} (hl : l.length ≤ 20) {s1 s2 : List Int} (e : scM k l = s1 ++ s2) (p : Int → Bool) : sumTo (s1.length + 1) (part p s1 s2 (ofGroup l 1).length) ≤ 2 ^ 20 := by
  rw [← csum_meet (fun _ => true) s2 s1 _ p, ← e]
  refine Nat.le_trans List.countP_le_length (Nat.le_trans (csum_len_le _ _) ?_)
  rw [scM_len]
  exact Nat.pow_le_pow_right (by decide) hl
theorem part_in {p : Int → Bool} {s1 s2 : List Int} {k j : Nat} {a b : List Int} (ha : a.Perm (csum s1 j)) (hj : j ≤ k) (hb : b.Perm (csum s2 (k - j))) : part p s1 s2 k j = meet p a b := by
  unfold part
  rw [if_pos hj]
  exact (meet_perm ha hb).symm
theorem part_out {p : Int → Bool} {s1 s2 : List Int} {k j : Nat} (h : ¬ (j ≤ k ∧ k - j ≤ s2.length)) : part p s1 s2 k j = 0 := by
  unfold part
  by_cases hj : j ≤ k
  · rw [if_pos hj, csum_long (s := s2) (k := k - j) (by omega)]
    exact meet_nil_r _ _
  · rw [if_neg hj]
/-- the least that is to be reached -/
theorem val_zip : ∀ (l : All) (s : List Int), isum (((l.zip s).filter fun p => decide (p.1.group = 1)).map fun p => p.2) = val l s
  | [], s => by cases s <;> rfl
  | x :: l, [] => rfl
  | x :: l, v :: s => by
    have ih := val_zip l s
    rw [List.zip_cons_cons, List.filter_cons]
    show _ = (if x.group = 1 then v else 0) + val l s
    by_cases h : x.group = 1
    · rw [if_pos (by simpa using h), if_pos h, ← ih]; rfl
    · rw [if_neg (by simpa using h), if_neg h, ← ih]; omega
theorem whole_le {l : All} (hl : l.length ≤ 20) : whole l ≤ 2 ^ 200 := by
  have key : ∀ (ts : List Nat) (a : Nat), (∀ x ∈ ts, x ≤ 2 ^ 5) → ts.foldl (· * ·) a ≤ a * 2 ^ (5 * ts.length) := by
    intro ts
    induction ts with
    | nil => intro a _; simp
    | cons x ts ih =>
      intro a h
      rw [List.foldl_cons, List.length_cons]
      refine Nat.le_trans (ih (a * x) fun y hy => h y (by simp [hy])) ?_
      have hx := h x (by simp)
      rw [Nat.mul_add, Nat.pow_add, Nat.mul_one, Nat.mul_comm (2 ^ (5 * ts.length)), ← Nat.mul_assoc]
      exact Nat.mul_le_mul_right _ (Nat.mul_le_mul_left _ hx)
  have hlen : (times l).length ≤ 40 := by
    have key2 : ∀ (m : All), ((m.filter fun x => x.ended).map fun x => x.time).length ≤ m.length := fun m => by
      rw [List.length_map]; exact List.length_filter_le _ _
    have key3 : ∀ (m : List Nat), (m.foldr put []).length ≤ m.length := by
      intro m
      induction m with
      | nil => simp
      | cons t m ih =>
        have hp : ∀ (u : Nat) (q : List Nat), (put u q).length ≤ q.length + 1 := by
          intro u q
          induction q with
          | nil => simp [put]
          | cons v q ih =>
            unfold put
            split
            · simp
            · split
              · simp
              · simp; exact ih
        have := hp t (m.foldr put [])
        rw [List.foldr_cons, List.length_cons]
        omega
    have := key3 ((l.filter fun x => x.ended).map fun x => x.time)
    have := key2 l
    show (((l.filter fun x => x.ended).map fun x => x.time).foldr put []).length ≤ 40
    omega
  unfold whole
  refine Nat.le_trans (key _ 1 fun x hx => ?_) ?_
  · obtain ⟨u, _, rfl⟩ := List.mem_map.mp hx
    have := there_le l u
    exact Nat.le_trans this (by have : (2 : Nat) ^ 5 = 32 := by decide
                                omega)
  · rw [Nat.one_mul, List.length_map]
    exact Nat.pow_le_pow_right (by decide) (by omega)
end LS
end
section
set_option linter.unusedSimpArgs false
set_option linter.unusedVariables false
namespace LS
open Sd58
abbrev Stp := Nat × Nat × Nat
structure StOk (st : List Stp) : Prop where
  len : st.length ≤ 20
  all : ∀ x ∈ st, 0 < x.2.1 ∧ x.2.2 ≤ x.2.1 ∧ x.2.1 ≤ 20
def facS (x : Stp) : Fr := fr ((x.2.1 : Int) - (x.2.2 : Int)) x.2.1
def comS (x : Stp) : Fr := fr (x.2.2 : Int) x.2.1
def varS (x : Stp) : Fr := fr (x.2.2 : Int) (x.2.1 * (x.2.1 - x.2.2))
def lastS (st : List Stp) : Fr := (st.map facS).foldl mul one
def comeS (st : List Stp) : Fr := (st.map comS).foldl add zero
def varsS (st : List Stp) : Fr := (st.map varS).foldl add zero
def spreadS (st : List Stp) : Fr := if (lastS st).num = 0 then lastS st else mul (mul (lastS st) (lastS st)) (varsS st)
theorem StOk.take {st : List Stp} (h : StOk st) (i : Nat) : StOk (st.take i) :=
  ⟨Nat.le_trans (by rw [List.length_take]; exact Nat.min_le_right _ _) h.len, fun x hx => h.all x (List.mem_of_mem_take hx)⟩
theorem le32 {n : Nat} (h : n ≤ 20) : n ≤ 2 ^ 5 := by
  have : (2 : Nat) ^ 5 = 32 := by decide
  omega
theorem facS_norm {x : Stp} (h : 0 < x.2.1) : Norm (facS x) := fr_norm h
theorem facS_sz {x : Stp} (h : 0 < x.2.1 ∧ x.2.2 ≤ x.2.1 ∧ x.2.1 ≤ 20) : Sz 5 (facS x) := fr_sz h.1 (le32 (by omega)) (le32 h.2.2)
theorem comS_norm {x : Stp} (h : 0 < x.2.1) : Norm (comS x) := fr_norm h
theorem comS_sz {x : Stp} (h : 0 < x.2.1 ∧ x.2.2 ≤ x.2.1 ∧ x.2.1 ≤ 20) : Sz 5 (comS x) := fr_sz h.1 (le32 (by omega)) (le32 h.2.2)
theorem varS_norm {x : Stp} (h : x.2.2 < x.2.1) : Norm (varS x) := fr_norm (Nat.mul_pos (by omega) (by omega))
theorem le512 {a b : Nat} (h1 : a ≤ 20) (h2 : b ≤ 20) : a * b ≤ 2 ^ 9 := by
  have := Nat.mul_le_mul h1 h2
  have : (2 : Nat) ^ 9 = 512 := by decide
  omega
theorem varS_sz {x : Stp} (h : 0 < x.2.1 ∧ x.2.2 ≤ x.2.1 ∧ x.2.1 ≤ 20) (hl : x.2.2 < x.2.1) : Sz 9 (varS x) :=
  fr_sz (Nat.mul_pos (by omega) (by omega)) (Nat.le_trans (le32 (by omega)) (by decide)) (le512 h.2.2 (by omega))
theorem lastS_norm {st : List Stp} (h : StOk st) : Norm (lastS st) := foldl_mul_norm norm_one fun f hf => by
  obtain ⟨x, hx, e⟩ := List.mem_map.mp hf
  rw [← e]; exact facS_norm (h.all x hx).1
theorem sz_one : Sz 0 one := ⟨by decide, by decide⟩
theorem sz_zero : Sz 0 zero := ⟨by decide, by decide⟩
theorem lastS_sz {st : List Stp} (h : StOk st) : Sz 100 (lastS st) := by
  have := foldl_mul_sz (l := st.map facS) (a := one) (j := 0) (k := 5) norm_one (fun f hf => by
    obtain ⟨x, hx, e⟩ := List.mem_map.mp hf
    rw [← e]; exact facS_norm (h.all x hx).1) sz_one fun f hf => by
    obtain ⟨x, hx, e⟩ := List.mem_map.mp hf
    rw [← e]; exact facS_sz (h.all x hx)
  refine this.mono ?_
  rw [List.length_map]
  have := h.len
  omega
theorem comeS_norm {st : List Stp} (h : StOk st) : Norm (comeS st) := foldl_add_norm norm_zero fun f hf => by
  obtain ⟨x, hx, e⟩ := List.mem_map.mp hf
  rw [← e]; exact comS_norm (h.all x hx).1
theorem comeS_sz {st : List Stp} (h : StOk st) : Sz 120 (comeS st) := by
  have := foldl_add_sz (l := st.map comS) (a := zero) (j := 0) (k := 5) norm_zero (fun f hf => by
    obtain ⟨x, hx, e⟩ := List.mem_map.mp hf
    rw [← e]; exact comS_norm (h.all x hx).1) sz_zero fun f hf => by
    obtain ⟨x, hx, e⟩ := List.mem_map.mp hf
    rw [← e]; exact comS_sz (h.all x hx)
  refine this.mono ?_
  rw [List.length_map]
  have := h.len
  omega
/-- where somebody lasts, fewer end than are there -/
theorem lastS_lt {st : List Stp} (h : StOk st) (hz : ¬ (lastS st).num = 0) : ∀ x ∈ st, x.2.2 < x.2.1 := fun x hx => by
  rcases Nat.lt_or_ge x.2.2 x.2.1 with q | q
  · exact q
  · refine absurd ?_ hz
    have hn : ∀ f ∈ st.map facS, Norm f := fun f hf => by
      obtain ⟨x, hx, e⟩ := List.mem_map.mp hf
      rw [← e]; exact facS_norm (h.all x hx).1
    unfold lastS
    rw [product_left hn]
    refine (product_num_zero hn).mpr ⟨facS x, List.mem_map.mpr ⟨x, hx, rfl⟩, ?_⟩
    unfold facS
    rw [fr_num_zero (h.all x hx).1]
    have := (h.all x hx).2.1
    omega
theorem varsS_norm {st : List Stp} (h : ∀ x ∈ st, x.2.2 < x.2.1) : Norm (varsS st) := foldl_add_norm norm_zero fun f hf => by
  obtain ⟨x, hx, e⟩ := List.mem_map.mp hf
  rw [← e]; exact varS_norm (h x hx)
theorem varsS_sz {st : List Stp} (h : StOk st) (hl : ∀ x ∈ st, x.2.2 < x.2.1) : Sz 200 (varsS st) := by
  have := foldl_add_sz (l := st.map varS) (a := zero) (j := 0) (k := 9) norm_zero (fun f hf => by
    obtain ⟨x, hx, e⟩ := List.mem_map.mp hf
    rw [← e]; exact varS_norm (hl x hx)) sz_zero fun f hf => by
    obtain ⟨x, hx, e⟩ := List.mem_map.mp hf
    rw [← e]; exact varS_sz (h.all x hx) (hl x hx)
  refine this.mono ?_
  rw [List.length_map]
  have := h.len
  omega
theorem spreadS_sz {st : List Stp} (h : StOk st) : Sz 400 (spreadS st) := by
  unfold spreadS
  split
  · exact (lastS_sz h).mono (by decide)
  · have hl := lastS_lt h (by assumption)
    exact (mul_sz (mul_norm (lastS_norm h) (lastS_norm h)) (varsS_norm hl) (mul_sz (lastS_norm h) (lastS_norm h) (lastS_sz h) (lastS_sz h)) (varsS_sz h hl)).mono (by decide)
theorem foldl_snoc {α : Type} {st : List α} {f : α → Fr} {op : Fr → Fr → Fr} {z : Fr} {i : Nat} {x : α} (h : st[i]? = some x) : ((st.take (i + 1)).map f).foldl op z = op (((st.take i).map f).foldl op z) (f x) := by
  rw [List.take_add_one, h, List.map_append, List.foldl_append]
  rfl
def stepsL (l : All) : List Stp := (times l).map fun u => (u, there l u, ends l u)
theorem puts_len : ∀ (m : List Nat), (m.foldr put []).length ≤ m.length := by
  intro m
  induction m with
  | nil => simp
  | cons t m ih =>
    have hp : ∀ (u : Nat) (q : List Nat), (put u q).length ≤ q.length + 1 := by
      intro u q
      induction q with
      | nil => simp [put]
      | cons v q ih =>
        unfold put
        split
        · simp
        · split
          · simp
          · simp; exact ih
    have := hp t (m.foldr put [])
    rw [List.foldr_cons, List.length_cons]
    omega
theorem times_len (l : All) : (times l).length ≤ l.length := by
  refine Nat.le_trans (puts_len _) ?_
  rw [List.length_map]
  exact List.length_filter_le _ _
theorem steps_ok {l : All} (h : l.length ≤ 20) : StOk (stepsL l) := by
  refine ⟨by unfold stepsL; rw [List.length_map]; exact Nat.le_trans (times_len l) h, fun x hx => ?_⟩
  obtain ⟨u, hu, rfl⟩ := List.mem_map.mp hx
  exact ⟨there_pos hu, ends_le_there l u, Nat.le_trans (there_le l u) h⟩
/-- the steps up to a time -/
def tillL (l : All) (t : Nat) : List Stp := (stepsL l).filter fun x => decide (x.1 ≤ t)
theorem tillL_eq (l : All) (t : Nat) : tillL l t = (till l t).map fun u => (u, there l u, ends l u) := by
  unfold tillL stepsL till
  rw [List.filter_map]
  rfl
theorem till_ok {l : All} (h : l.length ≤ 20) (t : Nat) : StOk (tillL l t) := by
  have := steps_ok h
  refine ⟨Nat.le_trans (List.length_filter_le _ _) this.len, fun x hx => this.all x (List.mem_filter.mp hx).1⟩
theorem lastS_till (l : All) (t : Nat) : lastS (tillL l t) = lasts l t := by
  rw [← lasts_left]
  unfold lastS
  rw [tillL_eq, List.map_map]
  rfl
theorem comeS_till (l : All) (t : Nat) : comeS (tillL l t) = come l t := by
  rw [← come_left]
  unfold comeS
  rw [tillL_eq, List.map_map]
  rfl
theorem spreadS_till (l : All) (t : Nat) : spreadS (tillL l t) = spread l t := by
  unfold spreadS
  rw [lastS_till]
  by_cases h : (lasts l t).num = 0
  · rw [if_pos h, spread_zero h]
    exact (norm_num_zero (lasts_norm l t)).mp h
  · rw [if_neg h, spread_some h]
    unfold varsS
    rw [tillL_eq, List.map_map]
    rfl
theorem steps_at {l : All} {i : Nat} {x : Stp} (h : (stepsL l)[i]? = some x) : ∃ u, (times l)[i]? = some u ∧ x = (u, there l u, ends l u) := by
  unfold stepsL at h
  rw [List.getElem?_map] at h
  cases e : (times l)[i]? with
  | none => rw [e] at h; cases h
  | some u => rw [e] at h; exact ⟨u, rfl, (Option.some.inj h).symm⟩
theorem lastS_share (l : All) (i : Nat) : lastS ((stepsL l).take i) = shareAt l i := by
  unfold lastS shareAt stepsL
  rw [← List.map_take, List.map_map]
  rfl
theorem gap_left (l : All) : ((times l).map (gapAt l (ofGroup l 1))).foldl add zero = gap l := by
  rw [gap_sum]
  exact sum_left fun f hf => by
    obtain ⟨u, hu, e⟩ := List.mem_map.mp hf
    rw [← e]
    exact fr_norm (there_pos hu)
theorem gapAt_bd {l : All} (hl : l.length ≤ 20) {g : All} (hg : g.length ≤ 20) (u : Nat) : ((ends g u : Int) * (there l u : Int) - (there g u : Int) * (ends l u : Int)).natAbs ≤ 2 ^ 9 := by
  have h1 := Nat.le_trans (ends_le_there g u) (Nat.le_trans (there_le g u) hg)
  have h2 := Nat.le_trans (there_le l u) hl
  have h3 := Nat.le_trans (there_le g u) hg
  have h4 := Nat.le_trans (ends_le_there l u) h2
  have e1 := le512 h1 h2
  have e2 := le512 h3 h4
  rw [← Int.natCast_mul, ← Int.natCast_mul]
  omega
theorem gapAt_norm {l : All} {u : Nat} (h : u ∈ times l) (g : All) : Norm (gapAt l g u) := fr_norm (there_pos h)
theorem gapAt_sz {l : All} (hl : l.length ≤ 20) {g : All} (hg : g.length ≤ 20) {u : Nat} (h : u ∈ times l) : Sz 9 (gapAt l g u) :=
  fr_sz (there_pos h) (gapAt_bd hl hg u) (Nat.le_trans (le32 (Nat.le_trans (there_le l u) hl)) (by decide))
def gapTo (l : All) (i : Nat) : Fr := (((times l).take i).map (gapAt l (ofGroup l 1))).foldl add zero
theorem gapTo_norm (l : All) (i : Nat) : Norm (gapTo l i) := foldl_add_norm norm_zero fun f hf => by
  obtain ⟨u, hu, e⟩ := List.mem_map.mp hf
  rw [← e]; exact gapAt_norm (List.mem_of_mem_take hu) _
theorem gapTo_sz {l : All} (hl : l.length ≤ 20) (i : Nat) : Sz 200 (gapTo l i) := by
  have := foldl_add_sz (l := ((times l).take i).map (gapAt l (ofGroup l 1))) (a := zero) (j := 0) (k := 9) norm_zero (fun f hf => by
    obtain ⟨u, hu, e⟩ := List.mem_map.mp hf
    rw [← e]; exact gapAt_norm (List.mem_of_mem_take hu) _) sz_zero fun f hf => by
    obtain ⟨u, hu, e⟩ := List.mem_map.mp hf
    rw [← e]; exact gapAt_sz hl (Nat.le_trans (ofGroup_len l 1) hl) (List.mem_of_mem_take hu)
  refine this.mono ?_
  rw [List.length_map, List.length_take]
  have := times_len l
  omega
theorem gapTo_all (l : All) : gapTo l (times l).length = gap l := by
  unfold gapTo
  rw [List.take_length, gap_left]
theorem there_split {l : All} (h : ∀ x ∈ l, x.group ≤ 1) (u : Nat) : there l u = there (ofGroup l 1) u + there (ofGroup l 0) u := by
  have key := split_sum (fun x => if u ≤ x.time then 1 else 0) h
  have e : ∀ m : All, (m.map fun x => if u ≤ x.time then 1 else 0).sum = there m u := by
    intro m
    induction m with
    | nil => rfl
    | cons x m ih =>
      rw [List.map_cons, List.sum_cons, ih]
      unfold there
      rw [List.filter_cons]
      by_cases q : u ≤ x.time
      · rw [if_pos q, if_pos (decide_eq_true q), List.length_cons]; omega
      · rw [if_neg q, if_neg (by simpa using q)]; omega
  rw [e, e, e] at key
  exact key
def swayFr (l : All) (u : Nat) : Fr := fr ((there (ofGroup l 1) u * there (ofGroup l 0) u * ends l u * (there l u - ends l u) : Nat) : Int) (there l u * there l u * (there l u - 1))
def swayAt (l : All) (u : Nat) : Fr := if there l u ≤ 1 then zero else swayFr l u
theorem swayFr_norm {l : All} {u : Nat} (h : ¬ there l u ≤ 1) : Norm (swayFr l u) := fr_norm (Nat.mul_pos (Nat.mul_pos (by omega) (by omega)) (by omega))
theorem swayAt_norm (l : All) (u : Nat) : Norm (swayAt l u) := by
  unfold swayAt
  split
  · exact norm_zero
  · exact swayFr_norm (by assumption)
theorem sway_bd {l : All} (hl : l.length ≤ 20) (u : Nat) : there (ofGroup l 1) u * there (ofGroup l 0) u * ends l u * (there l u - ends l u) ≤ 2 ^ 18 ∧ there l u * there l u * (there l u - 1) ≤ 2 ^ 18 := by
  have h1 := Nat.le_trans (there_le (ofGroup l 1) u) (Nat.le_trans (ofGroup_len l 1) hl)
  have h2 := Nat.le_trans (there_le (ofGroup l 0) u) (Nat.le_trans (ofGroup_len l 0) hl)
  have h3 := Nat.le_trans (there_le l u) hl
  have h4 := Nat.le_trans (ends_le_there l u) h3
  have h5 : there l u - ends l u ≤ 20 := by omega
  have a := Nat.mul_le_mul (Nat.mul_le_mul (Nat.mul_le_mul h1 h2) h4) h5
  have b := Nat.mul_le_mul (Nat.mul_le_mul h3 h3) (show there l u - 1 ≤ 20 by omega)
  have e : (2 : Nat) ^ 18 = 262144 := by decide
  omega
theorem swayAt_sz {l : All} (hl : l.length ≤ 20) (u : Nat) : Sz 18 (swayAt l u) := by
  unfold swayAt
  split
  · exact sz_zero.mono (by decide)
  · have := sway_bd hl u
    exact fr_sz (Nat.mul_pos (Nat.mul_pos (by omega) (by omega)) (by omega)) (by rw [Int.natAbs_natCast]; exact this.1) this.2
def swayTo (l : All) (i : Nat) : Fr := (((times l).take i).map (swayAt l)).foldl add zero
theorem swayTo_norm (l : All) (i : Nat) : Norm (swayTo l i) := foldl_add_norm norm_zero fun f hf => by
  obtain ⟨u, hu, e⟩ := List.mem_map.mp hf
  rw [← e]; exact swayAt_norm l u
theorem swayTo_sz {l : All} (hl : l.length ≤ 20) (i : Nat) : Sz 380 (swayTo l i) := by
  have := foldl_add_sz (l := ((times l).take i).map (swayAt l)) (a := zero) (j := 0) (k := 18) norm_zero (fun f hf => by
    obtain ⟨u, hu, e⟩ := List.mem_map.mp hf
    rw [← e]; exact swayAt_norm l u) sz_zero fun f hf => by
    obtain ⟨u, hu, e⟩ := List.mem_map.mp hf
    rw [← e]; exact swayAt_sz hl u
  refine this.mono ?_
  rw [List.length_map, List.length_take]
  have := times_len l
  omega
theorem swayTo_all (l : All) : swayTo l (times l).length = sway l := by
  unfold swayTo
  rw [List.take_length]
  exact sum_left fun f hf => by
    obtain ⟨u, hu, e⟩ := List.mem_map.mp hf
    rw [← e]; exact swayAt_norm l u
end LS
end
section
set_option linter.unusedSimpArgs false
set_option linter.unusedVariables false
namespace LS
open Sd58
theorem isum_sum : ∀ l : List Int, l.sum = isum l
  | [] => rfl
  | x :: l => by rw [List.sum_cons, isum_sum l]; rfl
theorem if_cast (c : Bool) : (((if c = true then 1 else 0 : Nat)) : Int) = if c = true then 1 else 0 := by cases c <;> rfl
/-- the whole, step by step -/
def wholeTo (l : All) (i : Nat) : Nat := (((times l).take i).map (there l)).foldl (· * ·) 1
theorem wholeTo_succ {l : All} {i u : Nat} (h : (times l)[i]? = some u) : wholeTo l (i + 1) = wholeTo l i * there l u := by
  unfold wholeTo
  rw [List.take_add_one, h, List.map_append, List.foldl_append]
  rfl
theorem wholeTo_all (l : All) : wholeTo l (times l).length = whole l := by
  unfold wholeTo whole
  rw [List.take_length]
theorem gapScore_steps (l : All) (x : Sd58.One) : ((((stepsL l).filter fun y => decide (y.1 ≤ x.time)).map fun y => (y.2.2 : Int) * ((whole l / y.2.1 : Nat) : Int))).sum = isum (((times l).filter fun u => decide (u ≤ x.time)).map (perEnd l)) := by
  rw [isum_sum]
  unfold stepsL
  rw [List.filter_map, List.map_map]
  rfl
theorem rows_len {s : List Int} {rs : List (List Int)} (h : RowsOf s rs) (hs : s.length ≤ 20) : ∀ r ∈ rs, r.length ≤ 2 ^ 20 := fun r hr => by
  obtain ⟨j, hj⟩ := List.getElem?_of_mem hr
  rw [(h.perm j r hj).length_eq]
  exact Nat.le_trans (csum_len_le s j) (Nat.pow_le_pow_right (by decide) hs)
theorem zip_next (rs : List (List Int)) (x : Int) : (((rs ++ [[]]).zip ([] :: rs.map fun (r : List Int) => r.map fun b => b + x)).map fun (p : List Int × List Int) => p.1 ++ p.2) = nextRows rs x := by
  unfold nextRows
  rw [List.zip, List.map_zipWith]
end LS
end
section
set_option linter.unusedSimpArgs false
set_option linter.unusedVariables false
namespace LS
open Sd58
def off (text : List Int) (qs : List Cl) (i : Nat) : Nat := 2 + text.length + (flat (qs.take i)).length
theorem flat_append (a b : List Cl) : flat (a ++ b) = flat a ++ flat b := by unfold flat; rw [List.flatMap_append]
theorem flat_cons (q : Cl) (r : List Cl) : flat (q :: r) = q.1 :: (q.2 ++ flat r) := rfl
theorem drop_off {l text : List Int} {qs : List Cl} (h : l = 0 :: (text.length : Int) :: (text ++ flat qs)) (i : Nat) : l.drop (off text qs i) = flat (qs.drop i) := by
  have e : l = (0 :: (text.length : Int) :: (text ++ flat (qs.take i))) ++ flat (qs.drop i) := by
    rw [h]
    conv => lhs; rw [← List.take_append_drop i qs, flat_append]
    simp
  rw [e]
  refine List.drop_left' ?_
  unfold off
  simp
  omega
theorem len_off {l text : List Int} {qs : List Cl} (h : l = 0 :: (text.length : Int) :: (text ++ flat qs)) : l.length = off text qs qs.length := by
  rw [h]
  unfold off
  rw [List.take_length]
  simp
  omega
theorem at_off {l text : List Int} {qs : List Cl} (h : l = 0 :: (text.length : Int) :: (text ++ flat qs)) {i : Nat} {q : Cl} (hq : qs[i]? = some q) :
    l[off text qs i]? = some q.1 ∧ (l.drop (off text qs i + 1)).take q.2.length = q.2 ∧ off text qs (i + 1) = off text qs i + 1 + q.2.length := by
  have hi := (List.getElem?_eq_some_iff.mp hq).1
  have e : qs.drop i = q :: qs.drop (i + 1) := by
    rw [List.drop_eq_getElem_cons hi]
    congr 1
    exact (List.getElem?_eq_some_iff.mp hq).2
  have d := drop_off h i
  rw [e, flat_cons] at d
  refine ⟨?_, ?_, ?_⟩
  · have := congrArg (fun z => z[0]?) d
    rw [List.getElem?_drop] at this
    simpa using this
  · rw [← List.drop_drop, d]
    show (q.2 ++ flat (qs.drop (i + 1))).take q.2.length = q.2
    exact List.take_left' rfl
  · unfold off
    rw [List.take_add_one, hq, flat_append]
    show 2 + text.length + (flat (qs.take i) ++ flat [q]).length = _
    rw [List.length_append]
    have : (flat [q]).length = 1 + q.2.length := by
      rw [flat_cons]
      simp [flat]
      omega
    omega
theorem off_mono {text : List Int} {qs : List Cl} {i j : Nat} (h : i ≤ j) : off text qs i ≤ off text qs j := by
  unfold off
  have : qs.take j = qs.take i ++ (qs.take j).drop i := by
    conv => lhs; rw [← List.take_append_drop i (qs.take j), List.take_take, Nat.min_eq_left h]
  rw [this, flat_append, List.length_append]
  omega
theorem off_lt {l text : List Int} {qs : List Cl} (h : l = 0 :: (text.length : Int) :: (text ++ flat qs)) {i : Nat} (hi : i ≤ qs.length) : off text qs i < l.length ↔ i < qs.length := by
  constructor
  · intro q
    rcases Nat.lt_or_ge i qs.length with z | z
    · exact z
    · have : i = qs.length := by omega
      rw [this, ← len_off h] at q
      omega
  · intro q
    have hq : qs[i]? = some (qs[i]'q) := List.getElem?_eq_getElem _
    have := (at_off h hq).2.2
    have m := off_mono (text := text) (qs := qs) (show i + 1 ≤ qs.length by omega)
    rw [len_off h]
    omega
theorem off_zero (text : List Int) (qs : List Cl) : off text qs 0 = 2 + text.length := by
  unfold off
  simp [flat]
theorem off_size {l text : List Int} {qs : List Cl} (h : l = 0 :: (text.length : Int) :: (text ++ flat qs)) {i : Nat} {q : Cl} (hq : qs[i]? = some q) : off text qs i + 1 + q.2.length ≤ l.length := by
  rw [← (at_off h hq).2.2, len_off h]
  exact off_mono (by have := (List.getElem?_eq_some_iff.mp hq).1; omega)
theorem text_of {l text : List Int} {qs : List Cl} (h : l = 0 :: (text.length : Int) :: (text ++ flat qs)) : l[1]? = some (text.length : Int) ∧ (l.drop 2).take text.length = text ∧ 2 + text.length ≤ l.length := by
  subst h
  refine ⟨rfl, ?_, by simp; omega⟩
  show (text ++ flat qs).take text.length = text
  exact List.take_left' rfl
def accA (a : All) (qs : List Cl) (i : Nat) : List Int := 1 :: 0 :: ((qs.take i).flatMap fun q => ((ansOf a q).length : Int) :: ansOf a q)
theorem accA_succ {a : All} {qs : List Cl} {i : Nat} {q : Cl} (hq : qs[i]? = some q) : accA a qs (i + 1) = (accA a qs i ++ [((ansOf a q).length : Int)]) ++ ansOf a q := by
  unfold accA
  rw [List.take_add_one, hq, List.flatMap_append]
  simp
theorem accA_len {a : All} {qs : List Cl} (hm : qs.length ≤ 300) (hs : (qs.map fun q => (ansOf a q).length).sum < 1000000) {i : Nat} (hi : i ≤ qs.length) : (accA a qs i).length + ((qs.drop i).map fun q => (ansOf a q).length).sum ≤ 1000302 := by
  have key : ∀ r : List Cl, (r.flatMap fun q => ((ansOf a q).length : Int) :: ansOf a q).length = r.length + (r.map fun q => (ansOf a q).length).sum := by
    intro r
    induction r with
    | nil => rfl
    | cons q r ih =>
      rw [List.flatMap_cons, List.length_append, ih, List.map_cons, List.sum_cons, List.length_cons, List.length_cons]
      omega
  have e : (qs.map fun q => (ansOf a q).length).sum = ((qs.take i).map fun q => (ansOf a q).length).sum + ((qs.drop i).map fun q => (ansOf a q).length).sum := by
    conv => lhs; rw [← List.take_append_drop i qs, List.map_append, List.sum_append]
  unfold accA
  rw [List.length_cons, List.length_cons, key, List.length_take]
  omega
theorem accA_step {a : All} {qs : List Cl} (hm : qs.length ≤ 300) (hs : (qs.map fun q => (ansOf a q).length).sum < 1000000) {i : Nat} {q : Cl} (hq : qs[i]? = some q) : (accA a qs i).length + (ansOf a q).length ≤ 1000302 := by
  have hi := (List.getElem?_eq_some_iff.mp hq).1
  have := accA_len (a := a) hm hs (i := i) (by omega)
  have e : qs.drop i = q :: qs.drop (i + 1) := by
    rw [List.drop_eq_getElem_cons hi]
    congr 1
    exact (List.getElem?_eq_some_iff.mp hq).2
  rw [e, List.map_cons, List.sum_cons] at this
  omega
/-- all lines right: everyone -/
theorem read_all {b : Bytes} {l : All} (h : Sd58.read b = .ok l) : (linesOf b).map oneRead = l.map some := by
  rw [read_eq] at h
  cases e : wrongAt 1 (linesOf b) with
  | some k => rw [e] at h; cases h
  | none =>
    rw [e] at h
    obtain ⟨h1, _⟩ := wrongAt_none e
    cases h
    have key : ∀ ls : List Bytes, (∀ b ∈ ls, ∃ x, oneRead b = some x) → ls.map oneRead = (ls.filterMap oneRead).map some := by
      intro ls
      induction ls with
      | nil => intro _; rfl
      | cons c r ih =>
        intro hc
        obtain ⟨x, hx⟩ := hc c (by simp)
        rw [List.map_cons, List.filterMap_cons, hx, ih fun d hd => hc d (by simp [hd])]
        rfl
    exact key _ h1
end LS
end
section
set_option linter.unusedSimpArgs false
set_option linter.unusedVariables false
namespace LSet
open PySem
def Ris (xs : Array Nat) : Prop := xs.toList.Pairwise (· < ·)
theorem Ris.lt {xs : Array Nat} (h : Ris xs) {i j : Nat} {a b : Nat} (hi : xs[i]? = some a) (hj : xs[j]? = some b) (hij : i < j) : a < b := by
  have h1 : xs.toList[i]? = some a := by rw [Array.getElem?_toList]; exact hi
  have h2 : xs.toList[j]? = some b := by rw [Array.getElem?_toList]; exact hj
  obtain ⟨l1, e1⟩ := List.getElem?_eq_some_iff.mp h1
  obtain ⟨l2, e2⟩ := List.getElem?_eq_some_iff.mp h2
  have := List.pairwise_iff_getElem.mp h i j l1 l2 hij
  rw [e1, e2] at this
  exact this
theorem below_go {xs : Array Nat} (j : Nat) : ∀ (fuel lo hi : Nat), hi ≤ xs.size → lo ≤ hi → hi - lo ≤ fuel → Ris xs → (∀ (k a : Nat), k < lo → xs[k]? = some a → a < j) → (∀ (k a : Nat), hi ≤ k → xs[k]? = some a → j ≤ a) →
    SetTable.below.go xs j fuel lo hi ≤ xs.size ∧ (∀ (k a : Nat), k < SetTable.below.go xs j fuel lo hi → xs[k]? = some a → a < j) ∧ ∀ (k a : Nat), SetTable.below.go xs j fuel lo hi ≤ k → xs[k]? = some a → j ≤ a
  | 0, lo, hi, h1, h2, h3, _, h4, h5 => by
    have e : lo = hi := by omega
    subst e
    unfold SetTable.below.go
    exact ⟨h1, h4, h5⟩
  | fuel + 1, lo, hi, h1, h2, h3, hr, h4, h5 => by
    unfold SetTable.below.go
    by_cases hlt : lo < hi
    · rw [if_pos hlt]
      dsimp only
      have hm1 : lo ≤ (lo + hi) / 2 := by omega
      have hm2 : (lo + hi) / 2 < hi := by omega
      have hm : (lo + hi) / 2 < xs.size := by omega
      have eg : xs[(lo + hi) / 2]? = some xs[(lo + hi) / 2] := Array.getElem?_eq_getElem hm
      have ed : xs.getD ((lo + hi) / 2) j = xs[(lo + hi) / 2] := by simp [Array.getD, hm]
      rw [ed]
      by_cases hc : xs[(lo + hi) / 2] < j
      · rw [if_pos hc]
        refine below_go j fuel _ hi h1 (by omega) (by omega) hr (fun k a hk e => ?_) h5
        rcases Nat.lt_or_ge k ((lo + hi) / 2) with q | q
        · exact Nat.lt_trans (hr.lt e eg q) hc
        · have : k = (lo + hi) / 2 := by omega
          subst this
          rw [eg] at e
          cases e
          exact hc
      · rw [if_neg hc]
        refine below_go j fuel lo _ (by omega) (by omega) (by omega) hr h4 (fun k a hk e => ?_)
        rcases Nat.lt_or_ge ((lo + hi) / 2) k with q | q
        · have := hr.lt eg e q; omega
        · have : k = (lo + hi) / 2 := by omega
          subst this
          rw [eg] at e
          cases e
          omega
    · rw [if_neg hlt]
      have e : lo = hi := by omega
      subst e
      exact ⟨h1, h4, h5⟩
theorem below_ok {xs : Array Nat} (h : Ris xs) (j : Nat) : SetTable.below xs j ≤ xs.size ∧ (∀ (k a : Nat), k < SetTable.below xs j → xs[k]? = some a → a < j) ∧ ∀ (k a : Nat), SetTable.below xs j ≤ k → xs[k]? = some a → j ≤ a := by
  unfold SetTable.below
  exact below_go j xs.size 0 xs.size (Nat.le_refl _) (Nat.zero_le _) (Nat.le_refl _) h (fun k a hk => by omega) (fun k a hk e => by
    have := Array.getElem?_eq_none (xs := xs) hk
    rw [this] at e; cases e)
/-- behind the i-th place comes the next -/
theorem below_next {xs : Array Nat} (h : Ris xs) {i a : Nat} (e : xs[i]? = some a) : SetTable.below xs (a + 1) = i + 1 := by
  obtain ⟨h1, h2, h3⟩ := below_ok h (a + 1)
  have hi : i < xs.size := by
    rcases Nat.lt_or_ge i xs.size with q | q
    · exact q
    · rw [Array.getElem?_eq_none q] at e; cases e
  rcases Nat.lt_trichotomy (SetTable.below xs (a + 1)) (i + 1) with q | q | q
  · have := h3 i a (by omega) e; omega
  · exact q
  · have hi1 : i + 1 < xs.size := by omega
    have e1 : xs[i + 1]? = some xs[i + 1] := Array.getElem?_eq_getElem hi1
    have := h2 (i + 1) _ q e1
    have := h.lt e e1 (Nat.lt_succ_self i)
    omega
theorem below_zero {xs : Array Nat} (h : Ris xs) : SetTable.below xs 0 = 0 := by
  obtain ⟨h1, h2, h3⟩ := below_ok h 0
  rcases Nat.eq_zero_or_pos (SetTable.below xs 0) with q | q
  · exact q
  · have hi : 0 < xs.size := by omega
    have e : xs[0]? = some xs[0] := Array.getElem?_eq_getElem hi
    have := h2 0 _ q e
    omega
/-- what every table here is like -/
structure Tab (t : SetTable) (n : Nat) (led : Bool) : Prop where
  fits : t.fits n = true
  ris : Ris t.place
  dum : t.dummies = #[]
  led : t.led = led
theorem ris_range (n : Nat) : Ris (Array.range n) := by
  unfold Ris
  rw [Array.toList_range]
  exact List.pairwise_lt_range
theorem Tab.standIn {t : SetTable} {led : Bool} (hl : t.led = led) (n : Nat) : Tab (t.standIn n) n led := ⟨SetTable.standIn_fits t n, ris_range n, rfl, hl⟩
theorem has_nil (j : Nat) : SetTable.has #[] j = false := by
  unfold SetTable.has
  simp
theorem slot_empty {t : SetTable} {j : Nat} (hr : Ris t.place) (h : t.slot j = .empty) : ∀ (k : Nat), t.place[k]? ≠ some j := by
  intro k e
  unfold SetTable.slot at h
  dsimp only at h
  obtain ⟨h1, h2, h3⟩ := below_ok hr j
  have hb : t.place[SetTable.below t.place j]? = some j := by
    rcases Nat.lt_trichotomy (SetTable.below t.place j) k with q | q | q
    · have hk : k < t.place.size := by
        rcases Nat.lt_or_ge k t.place.size with z | z
        · exact z
        · rw [Array.getElem?_eq_none z] at e; cases e
      have e1 : t.place[SetTable.below t.place j]? = some t.place[SetTable.below t.place j] := Array.getElem?_eq_getElem (by omega)
      have := hr.lt e1 e q
      have := h3 _ _ (Nat.le_refl _) e1
      omega
    · rw [q]; exact e
    · have := h2 k j q e; omega
  rw [hb] at h
  simp at h
theorem slot_dummy {t : SetTable} {j : Nat} (hd : t.dummies = #[]) : t.slot j ≠ .dummy := by
  intro h
  unfold SetTable.slot at h
  dsimp only at h
  rw [hd, has_nil] at h
  split at h
  · cases h
  · simp at h
theorem advance_dummy (t : SetTable) (p : SetTable.Probe) : (t.advance p).dummy = p.dummy := by
  unfold SetTable.advance
  split <;> rfl
theorem probe_empty {t : SetTable} (hd : t.dummies = #[]) {hashAt : Nat → Int} {h : Int} : ∀ (fuel : Nat) (p : SetTable.Probe) (j : Nat) (d : Option Nat), p.dummy = none → SetTable.probe.go t hashAt h fuel p = some (.empty j d) → d = none ∧ t.slot j = .empty
  | 0, p, j, d, _, e => by unfold SetTable.probe.go at e; cases e
  | fuel + 1, p, j, d, hp, e => by
    unfold SetTable.probe.go at e
    cases hs : t.slot p.j with
    | empty =>
      rw [hs] at e
      simp only [Option.some.injEq, SetTable.Met.empty.injEq] at e
      obtain ⟨e1, e2⟩ := e
      subst e1
      exact ⟨by rw [← e2, hp], hs⟩
    | dummy => exact absurd hs (slot_dummy hd)
    | live i =>
      rw [hs] at e
      dsimp only at e
      split at e
      · cases e
      · exact probe_empty hd fuel _ j d (by rw [advance_dummy]; exact hp) e
theorem freeSlot_ok {t : SetTable} {n : Nat} {led : Bool} (T : Tab t n led) {h : Int} {j : Nat} {b : Bool} (e : t.freeSlot h = some (j, b)) : b = false ∧ ∀ (k : Nat), t.place[k]? ≠ some j := by
  unfold SetTable.freeSlot at e
  split at e
  · rename_i j' d' hp
    obtain ⟨hd, hs⟩ := probe_empty T.dum _ _ _ _ rfl hp
    subst hd
    simp at e
    obtain ⟨e1, e2⟩ := e
    subst e1
    exact ⟨e2, slot_empty T.ris hs⟩
  · cases e
theorem ris_insert {xs : Array Nat} (h : Ris xs) {j : Nat} (hn : ∀ (k : Nat), xs[k]? ≠ some j) : Ris (SetTable.insertAt xs (SetTable.below xs j) j) := by
  obtain ⟨h1, h2, h3⟩ := below_ok h j
  unfold Ris
  rw [SetTable.toList_insertAt]
  refine List.pairwise_append.mpr ⟨List.Pairwise.sublist (List.take_sublist _ _) h, List.pairwise_cons.mpr ⟨fun b hb => ?_, List.Pairwise.sublist (List.drop_sublist _ _) h⟩, fun a ha b hb => ?_⟩
  · obtain ⟨k, hk⟩ := List.getElem?_of_mem hb
    rw [List.getElem?_drop, Array.getElem?_toList] at hk
    have q := h3 _ _ (Nat.le_add_right _ _) hk
    have : b ≠ j := fun e => hn _ (by rw [← e]; exact hk)
    omega
  · obtain ⟨k, hk⟩ := List.getElem?_of_mem ha
    have hkl : k < SetTable.below xs j := by
      rcases Nat.lt_or_ge k (SetTable.below xs j) with q | q
      · exact q
      · rw [List.getElem?_take, if_neg (by omega)] at hk; cases hk
    have hk' : xs[k]? = some a := by
      rw [List.getElem?_take, if_pos hkl, Array.getElem?_toList] at hk
      exact hk
    have haj := h2 k a hkl hk'
    rcases List.mem_cons.mp hb with e | hb
    · omega
    · obtain ⟨m, hm⟩ := List.getElem?_of_mem hb
      rw [List.getElem?_drop, Array.getElem?_toList] at hm
      have := h3 _ _ (Nat.le_add_right _ _) hm
      omega
theorem layNew_tab {t : SetTable} {es : Array (Int × Value)} {led : Bool} (T : Tab t es.size led) (h : Int) (x : Value) :
    Tab (layNew t es h x).2.1 (layNew t es h x).1.size led ∧ (layNew t es h x).2.2.1 = false := by
  unfold layNew
  cases e : t.freeSlot h with
  | none =>
    dsimp only
    refine ⟨?_, rfl⟩
    have := Tab.standIn T.led (es.size + 1)
    rwa [show (es.push (h, x)).size = es.size + 1 from Array.size_push _]
  | some p =>
    obtain ⟨j, b⟩ := p
    obtain ⟨hb, hn⟩ := freeSlot_ok T e
    dsimp only
    refine ⟨?_, hb⟩
    unfold SetTable.orStandIn
    split
    · rename_i hf
      refine ⟨hf, ?_, ?_, T.led⟩
      · exact ris_insert T.ris hn
      · show (if SetTable.has t.dummies j then _ else t.dummies) = #[]
        rw [T.dum, has_nil]
        simp
    · exact Tab.standIn (t := (t.put j).1) T.led _
theorem ris_laid (mask : Nat) (owner : Array (Option Nat)) : Ris (((List.range (mask + 1)).filterMap fun j => (owner.getD j none).map (j, ·)).map (·.1)).toArray := by
  unfold Ris
  show List.Pairwise _ (((List.range (mask + 1)).filterMap fun j => (owner.getD j none).map (j, ·)).map (·.1))
  rw [List.map_filterMap]
  have sub : List.Sublist ((List.range (mask + 1)).filterMap fun x => Option.map (fun x => x.fst) ((owner.getD x none).map (x, ·))) (List.range (mask + 1)) := by
    have : ∀ l : List Nat, List.Sublist (l.filterMap fun x => Option.map (fun x => x.fst) ((owner.getD x none).map (x, ·))) l := by
      intro l
      induction l with
      | nil => exact List.Sublist.slnil
      | cons a l ih =>
        rw [List.filterMap_cons]
        cases owner.getD a none with
        | none => exact ih.cons a
        | some b => exact ih.cons_cons a
    exact this _
  exact List.Pairwise.sublist sub List.pairwise_lt_range
theorem relayAll_tab {t : SetTable} {es : Array (Int × Value)} {led : Bool} (hl : t.led = led) (wanted : Nat) : Tab (relayAll t es wanted).2.1 (relayAll t es wanted).1.size led := by
  unfold relayAll
  cases e : t.relaid (es.map (·.1)) wanted with
  | none => exact Tab.standIn hl _
  | some p =>
    obtain ⟨t', order⟩ := p
    dsimp only
    split
    · rename_i hc
      rw [Bool.and_eq_true] at hc
      unfold SetTable.relaid SetTable.laid at e
      dsimp only [bind, Option.bind] at e
      split at e
      · cases e
      · rename_i owner ho
        simp only [pure, Option.some.injEq, Prod.mk.injEq] at e
        obtain ⟨e1, e2⟩ := e
        refine ⟨hc.2, ?_, ?_, ?_⟩
        · rw [← e1]; exact ris_laid _ _
        · rw [← e1]
        · rw [← e1]; exact hl
    · exact Tab.standIn hl _
end LSet
end
section
set_option linter.unusedSimpArgs false
set_option linter.unusedVariables false
namespace LSet
open PySem
def byT (w : World) : Bool := w.params.followText "set-order"
def numV : Value → Int
  | .int k _ => k
  | _ => 0
def keysOf (es : List (Int × Value)) : List Int := es.map fun e => numV e.2
/-- a set of ints at a: the members ks, at most n of them -/
def SetG (prog : Program) (w : World) (h : Heap) (a : Addr) (ks : List Int) (n : Nat) : Prop :=
  ∃ o es ep t, h.get? a = some o ∧ o.ExactSet ∧ o.data = .set es ep t ∧ ElemsOf (intKind prog w) es.toList ∧ (keysOf es.toList).Nodup ∧ (∀ k, k ∈ keysOf es.toList ↔ k ∈ ks) ∧ es.size ≤ n ∧ Tab t es.size (!byT w)
theorem SetG.at {prog : Program} {w : World} {h h' : Heap} {a : Addr} {ks : List Int} {n : Nat} (x : SetG prog w h a ks n) (e : ∀ o, h.get? a = some o → h'.get? a = some o) : SetG prog w h' a ks n :=
  let ⟨o, es, ep, t, ho, r⟩ := x
  ⟨o, es, ep, t, e _ ho, r⟩
theorem ElemsOf.int {prog : Program} {w : World} {l : List (Int × Value)} (h : ElemsOf (intKind prog w) l) {e : Int × Value} (he : e ∈ l) : ∃ k t, e.2 = .int k t := by
  obtain ⟨⟨k, hk, _⟩, _⟩ := h e he
  obtain ⟨t, q⟩ := Value.isInt_shape hk
  exact ⟨k, t, q⟩
theorem mem_keys {prog : Program} {w : World} {l : List (Int × Value)} (h : ElemsOf (intKind prog w) l) {k : Int} : k ∈ keysOf l ↔ ∃ e ∈ l, (intKind prog w).is k e.2 = true := by
  unfold keysOf
  rw [List.mem_map]
  constructor
  · rintro ⟨e, he, q⟩
    obtain ⟨k', t, e2⟩ := ElemsOf.int h he
    rw [e2] at q
    have q' : k' = k := q
    subst q'
    exact ⟨e, he, by rw [e2]; exact intKind_is _ _ _ _⟩
  · rintro ⟨e, he, q⟩
    obtain ⟨t, e2⟩ := Value.isInt_shape q
    exact ⟨e, he, by rw [e2]; rfl⟩
section
variable {prog : Program} {w : World} {A : Around} {E : Value → Shared → Prop} {s : Shared}
theorem SetG_store {h : Heap} {a : Addr} {o : Obj} {es : Array (Int × Value)} {ep : Nat} {t : SetTable} (ho : h.get? a = some o) (hex : o.ExactSet) (hd : o.data = .set es ep t)
    {es' : Array (Int × Value)} {t' : SetTable} {ks : List Int} {n : Nat} (hel : ElemsOf (intKind prog w) es'.toList) (hnd : (keysOf es'.toList).Nodup) (hmem : ∀ k, k ∈ keysOf es'.toList ↔ k ∈ ks) (hb : es'.size ≤ n) (T : Tab t' es'.size (!byT w)) :
    (h.update a (Obj.putSet es' t')).get? a = some { o with data := .set es' (ep + 1) t' } ∧ SetG prog w (h.update a (Obj.putSet es' t')) a ks n := by
  have hg : (h.update a (Obj.putSet es' t')).get? a = some { o with data := .set es' (ep + 1) t' } := by
    have := Heap.get?_update_self (Obj.putSet es' t') ho (by rw [putSet_of es' t' hd]; rfl)
    rw [putSet_of es' t' hd] at this; exact this
  exact ⟨hg, _, es', ep + 1, t', hg, hex, rfl, hel, hnd, hmem, hb, T⟩
theorem keys_perm {l l' : List (Int × Value)} (p : List.Perm l' l) : List.Perm (keysOf l') (keysOf l) := p.map _
theorem addTail {g : Bool → Sem Unit} (hg : ∀ (b : Bool) (s₁ : Shared) (Q' : Unit → Shared → Prop), Q' () s₁ → wpAny (model prog w) A (g b) Q' E s₁)
    {a : Addr} {o : Obj} {es : Array (Int × Value)} {ep : Nat} {t : SetTable} (ho : s.heap.get? a = some o) (hex : o.ExactSet) (hd : o.data = .set es ep t)
    {es1 : Array (Int × Value)} {t2 : SetTable} {ks : List Int} {n : Nat} (hel1 : ElemsOf (intKind prog w) es1.toList) (hnd1 : (keysOf es1.toList).Nodup) (hmem1 : ∀ k, k ∈ keysOf es1.toList ↔ k ∈ ks)
    (hn : es1.size ≤ n) (hb1 : n < scanBound) (T2 : Tab t2 es1.size (!byT w)) {wasDummy : Bool} {R : Option Bool → Shared → Prop}
    (h : ∀ h', Heap.SameBut a s.heap h' → SetG prog w h' a ks n → R (some true) { s with heap := h' }) :
    wpAny (model prog w) A (do
        storeSet a es1 t2
        if (!wasDummy && t2.tooFull) = true then do
            g (relayAll t2 es1 (SetTable.grown es1.size)).2.2
            storeSet a (relayAll t2 es1 (SetTable.grown es1.size)).1 (relayAll t2 es1 (SetTable.grown es1.size)).2.1
            pure (some true)
          else pure (some true)) R E s := by
  refine wpAny_bind (wpAny_storeSet_of ho hd ?_ (fits_of_scanBound (Nat.lt_of_le_of_lt hn hb1)))
  obtain ⟨ho1, hS1⟩ := SetG_store (prog := prog) (w := w) ho hex hd hel1 hnd1 hmem1 hn T2
  have hsb1 := Heap.SameBut.update s.heap a (Obj.putSet es1 t2)
  split
  · have hp := relayAll_perm t2 es1 (SetTable.grown es1.size)
    have hT := relayAll_tab (es := es1) T2.led (SetTable.grown es1.size)
    generalize hRl : relayAll t2 es1 (SetTable.grown es1.size) = Rl at hp hT ⊢
    obtain ⟨es2, t3, gave2⟩ := Rl
    dsimp only at hp hT ⊢
    have hel2 : ElemsOf (intKind prog w) es2.toList := hel1.perm hp
    have hnd2 : (keysOf es2.toList).Nodup := (keys_perm hp).nodup_iff.mpr hnd1
    have hmem2 : ∀ k', k' ∈ keysOf es2.toList ↔ k' ∈ ks := fun k' => (keys_perm hp).mem_iff.trans (hmem1 k')
    have hsz : es2.size = es1.size := by rw [← Array.length_toList, hp.length_eq, Array.length_toList]
    have hn2 : es2.size ≤ n := by omega
    refine wpAny_bind (hg _ _ _ ?_)
    refine wpAny_bind (wpAny_storeSet_of ho1 rfl ?_ (fits_of_scanBound (Nat.lt_of_le_of_lt hn2 hb1)))
    obtain ⟨_, hS2⟩ := SetG_store (prog := prog) (w := w) ho1 hex rfl hel2 hnd2 hmem2 hn2 hT
    exact wpAny_pure (h _ (hsb1.trans (Heap.SameBut.update _ a _)) hS2)
  · exact wpAny_pure (h _ hsb1 hS1)
theorem Tab.plain_off {t : SetTable} {n : Nat} {led : Bool} (T : Tab t n led) : Tab { t with plain := false } n led := ⟨SetTable.fits_plain_off T.fits, T.ris, T.dum, T.led⟩
theorem setAdd_ok {a : Addr} {ks : List Int} {n : Nat} {k : Int} {tk : Tok} {Q : Bool → Shared → Prop} (hS : SetG prog w s.heap a ks n) (hroom : n + 1 < scanBound)
    (h : ∀ h' b, Heap.SameBut a s.heap h' → SetG prog w h' a (ks ++ [k]) (n + 1) → Q b { s with heap := h' }) :
    wpAny (model prog w) A (setAddHashed a (.int k tk) ((intKind prog w).hash k)) Q E s := by
  have hkey : (intKind prog w).is k (.int k tk) = true := intKind_is _ _ _ _
  have hsc : (Value.int k tk).scannable = true := rfl
  generalize hx : Value.int k tk = x at hkey hsc ⊢
  obtain ⟨o, es, ep, t, ho, hex, hd, hel, hnd, hmem, hn, T⟩ := hS
  have hb : es.size < scanBound := by omega
  have hf := T.fits
  unfold setAddHashed setAddHashedIn
  refine wpAny_holding (wpAny_bind (wpAny_setState_of ho hd hf ?_))
  dsimp only
  rw [byScan_of hsc hb hel]
  simp only [↓reduceIte]
  unfold setAddByScan
  refine wpAny_bind ?_
  refine wpAny_bind (wpAny_rule ?_)
  refine wpAny_bind (wpAny_setScan_of hkey ho hd hf hel ?_)
  cases hr : List.findIdx? (fun e => (intKind prog w).is k e.2) es.toList with
  | some j =>
    dsimp only
    obtain ⟨hj, hpj, _⟩ := List.findIdx?_eq_some_iff_getElem.mp hr
    have hk : k ∈ ks := (hmem k).mp ((mem_keys hel).mpr ⟨es.toList[j], List.getElem_mem hj, hpj⟩)
    refine wpAny_pure (wpAny_pure ?_)
    have e : s = { s with heap := s.heap } := by cases s; rfl
    have := h s.heap false (Heap.SameBut.refl a s.heap) ⟨o, es, ep, t, ho, hex, hd, hel, hnd, fun k' => by
      rw [hmem k', List.mem_append, List.mem_singleton]
      exact ⟨.inl, fun q => q.elim id fun z => z ▸ hk⟩, by omega, T⟩
    rw [e]; exact this
  | none =>
    dsimp only
    have hk : ¬ k ∈ keysOf es.toList := fun q => by
      obtain ⟨e, he, hp⟩ := (mem_keys hel).mp q
      have := List.findIdx?_eq_none_iff.mp hr e he
      rw [hp] at this; exact Bool.noConfusion this
    have hgw : ∀ (b : Bool) {s₁ : Shared} {Q' : Unit → Shared → Prop}, Q' () s₁ → wpAny (model prog w) A (match b with | true => rule "set.scan.the-table-gave-way" | false => pure ()) Q' E s₁ :=
      fun b s₁ Q' hq => by cases b <;> first | exact wpAny_pure hq | exact wpAny_rule hq
    have hperm := layNew_perm t es ((intKind prog w).hash k) x
    have hT := (layNew_tab T ((intKind prog w).hash k) x).1
    generalize hL : layNew t es ((intKind prog w).hash k) x = L at hperm hT ⊢
    obtain ⟨es1, t1, wasDummy, gave⟩ := L
    dsimp only at hperm hT ⊢
    rw [Array.toList_push] at hperm
    have hel1 : ElemsOf (intKind prog w) es1.toList := (hel.push hkey hsc).perm hperm
    have hkp : List.Perm (keysOf es1.toList) (keysOf es.toList ++ [k]) := by
      have := keys_perm hperm
      have e2 : keysOf (es.toList ++ [((intKind prog w).hash k, x)]) = keysOf es.toList ++ [k] := by
        unfold keysOf
        rw [List.map_append, ← hx]
        rfl
      rwa [e2] at this
    have hnd1 : (keysOf es1.toList).Nodup := hkp.nodup_iff.mpr (List.nodup_append.mpr ⟨hnd, by simp, fun a ha b hb => by
      rw [List.mem_singleton] at hb
      subst hb
      exact fun z => hk (z ▸ ha)⟩)
    have hmem1 : ∀ k', k' ∈ keysOf es1.toList ↔ k' ∈ ks ++ [k] := fun k' => by
      rw [hkp.mem_iff, List.mem_append, List.mem_append, hmem k']
    have hsz1 : es1.size = es.size + 1 := by rw [← Array.length_toList, hperm.length_eq, List.length_append, Array.length_toList]; rfl
    refine wpAny_bind (hgw _ ?_)
    split
    · refine wpAny_bind ?_
      rw [hashByValue_scannable 8 hsc]
      refine wpAny_pure ?_
      refine addTail ?_ ho hex hd hel1 hnd1 hmem1 (by omega : es1.size ≤ n + 1) hroom ?_ ?_
      · intro b s₁ Q' hq; cases b <;> first | exact wpAny_pure hq | exact wpAny_rule hq
      · split
        · exact hT
        · exact hT.plain_off
      · intro h' hsb hS'; dsimp only; exact wpAny_pure (h h' true hsb hS')
    · refine wpAny_bind (wpAny_pure ?_)
      simp only [↓reduceIte]
      refine addTail ?_ ho hex hd hel1 hnd1 hmem1 (by omega : es1.size ≤ n + 1) hroom hT ?_
      · intro b s₁ Q' hq; cases b <;> first | exact wpAny_pure hq | exact wpAny_rule hq
      · intro h' hsb hS'; dsimp only; exact wpAny_pure (h h' true hsb hS')
end
end LSet
end
section
set_option linter.unusedSimpArgs false
set_option linter.unusedVariables false
set_option maxRecDepth 100000
namespace LSet
open PySem
theorem entry_set_iter : entryFor table "set.__iter__" = some Builtin.«frozenset.__iter__» :=
  entryFor_alias (id' := "frozenset.__iter__") (by kernel_rfl) rfl (by decide +kernel) (by kernel_rfl)
theorem slot_si_next : Slot "set_iterator" "__next__" "set_iterator.__next__" :=
  .of (owner := "set_iterator") (n := "__next__") (by rw [typeLookup_type, builtinLookup_eq_fast]; kernel_rfl) (by decide +kernel) (by decide +kernel) (by decide +kernel)
    (by first | exact .inl (by decide +kernel) | exact .inr (by decide +kernel)) (by rw [isSubtype_type]; kernel_rfl)
theorem entry_si_next : entryFor table "set_iterator.__next__" = some Builtin.«set_iterator.__next__» := entryFor_of_tree (by kernel_rfl)
theorem owner_si : Manifest.owners.lookup (String.ofList ['r', 'o', 't', 'a', 'r', 'e', 't', 'i', '_', 't', 'e', 's'].reverse) = some Manifest.sig_set_iterator := by kernel_rfl
theorem args_si_next (a : Value) : argsOk "set_iterator.__next__" ⟨[a], []⟩ := by
  unfold argsOk; rw [signature?_of (id := "set_iterator.__next__") (n := ['_', '_', 't', 'x', 'e', 'n', '_', '_']) (o := ['r', 'o', 't', 'a', 'r', 'e', 't', 'i', '_', 't', 'e', 's']) (by kernel_rfl) owner_si]; kernel_rfl
theorem erase_perm {α : Type} : ∀ {l : List α} {i : Nat} (h : i < l.length), List.Perm (l[i] :: l.eraseIdx i) l
  | a :: l, 0, _ => List.Perm.refl _
  | a :: l, i + 1, h => by
    have h' : i < l.length := by simpa using h
    have e1 : (a :: l)[i + 1] = l[i] := rfl
    have e2 : (a :: l).eraseIdx (i + 1) = a :: l.eraseIdx i := rfl
    rw [e1, e2]
    exact (List.Perm.swap _ _ _).trans ((erase_perm h').cons a)
theorem pick_go {α : Type} (next : Nat → Nat) : ∀ (fuel k : Nat) (left : List α) (out : Array α), fuel = left.length → List.Perm (pickOrder.go next fuel k left out).toList (out.toList ++ left)
  | 0, k, left, out, h => by
    have : left = [] := List.eq_nil_of_length_eq_zero h.symm
    subst this
    unfold pickOrder.go
    simp
  | fuel + 1, k, left, out, h => by
    unfold pickOrder.go
    have hlt : next k % left.length < left.length := Nat.mod_lt _ (by omega)
    rw [List.getElem?_eq_getElem hlt]
    dsimp only
    refine (pick_go next fuel (k + 1) _ _ (by rw [List.length_eraseIdx, if_pos hlt]; omega)).trans ?_
    rw [Array.toList_push, List.append_assoc]
    refine List.Perm.append_left _ ?_
    exact (erase_perm hlt)
theorem pick_perm {α : Type} (next : Nat → Nat) (xs : Array α) : List.Perm (pickOrder next xs).toList xs.toList := by
  unfold pickOrder
  have := pick_go next xs.size 0 xs.toList #[] (by simp)
  simpa using this
section
variable {prog : Program} {w : World} {A : Around} {E : Value → Shared → Prop} {s : Shared}
theorem wpAny_choose {src : Source} {n : Nat} {Q : Nat → Shared → Prop} (hn : n ≠ 0) (h : ∀ i d, i < n → Q i { s with drawn := d }) : wpAny (model prog w) A (choose src n) Q E s := fun Γ p _ => by
  show Sem.wp _ _ (.choose src n .pure) _ _ _ _
  rw [Sem.wp_choose]
  exact ⟨hn, h _ _ (Nat.mod_lt _ (by omega))⟩
theorem draw_ok {α : Type} : ∀ (n : Nat) (xs : List α) (s : Shared) (Q : List α → Shared → Prop), n = xs.length → (∀ ys d, List.Perm ys xs → Q ys { s with drawn := d }) → wpAny (model prog w) A (drawOrder n xs) Q E s
  | 0, xs, s, Q, hn, h => by
    have : xs = [] := List.eq_nil_of_length_eq_zero hn.symm
    subst this
    unfold drawOrder
    exact wpAny_pure (h [] s.drawn (List.Perm.refl _))
  | n + 1, [], s, Q, hn, h => by simp at hn
  | n + 1, x :: xs, s, Q, hn, h => by
    unfold drawOrder
    refine wpAny_bind (wpAny_choose (by simp) fun i d hi => ?_)
    rw [List.getElem?_eq_getElem hi]
    dsimp only
    refine wpAny_bind (draw_ok n _ _ _ (by rw [List.length_eraseIdx, if_pos hi]; omega) fun ys d' hp => ?_)
    refine wpAny_pure (h _ d' ?_)
    exact (hp.cons _).trans (erase_perm hi)
/-- the set, its data spelled out -/
structure SA (w : World) (h : Heap) (a : Addr) (es : Array (Int × Value)) (ep : Nat) (t : SetTable) : Prop where
  obj : ∃ o, h.get? a = some o ∧ o.ExactSet ∧ o.data = .set es ep t
  tab : Tab t es.size (!byT w)
theorem SA.at {h h' : Heap} {a : Addr} {es : Array (Int × Value)} {ep : Nat} {t : SetTable} (x : SA w h a es ep t) (e : ∀ o, h.get? a = some o → h'.get? a = some o) : SA w h' a es ep t :=
  let ⟨o, ho, r⟩ := x.obj
  ⟨⟨o, e _ ho, r⟩, x.tab⟩
theorem SA.typeIs {a : Addr} {es : Array (Int × Value)} {ep : Nat} {t : SetTable} (x : SA w s.heap a es ep t) : s.TypeIs (.ref a) "set" :=
  let ⟨o, ho, hx, _⟩ := x.obj
  ⟨o, ho, hx.1⟩
def drB (es : Array (Int × Value)) (t : SetTable) : Bool := !t.plain && decide (es.size > 1)
/-- an iterator over the set at a, ahead of the i-th of ord -/
def IA (w : World) (es : Array (Int × Value)) (ep : Nat) (t : SetTable) (a it T : Addr) (ord : List Value) (i : Nat) (h : Heap) : Prop :=
  ∃ first : Value, h.get? it = some { cls := .type "set_iterator", data := .fields #[first, .int (i : Nat) 0, .ref a, .int (es.size : Nat) 0, .int (ep : Nat) 0] } ∧
    ((∃ slot : Nat, first = .int (slot : Nat) 0 ∧ byT w = true ∧ ord = (pickOrder (w.params.setOrder a ep) es).toList.map (·.2)) ∨
     (∃ slot : Nat, first = .int (slot : Nat) 0 ∧ byT w = false ∧ drB es t = false ∧ ord = es.toList.map (·.2) ∧ SetTable.below t.place slot = i) ∨
     (∃ ps : List Nat, first = .ref T ∧ T ≠ it ∧ h.get? T = some { cls := .type "tuple", data := .seq (ps.map fun (p : Nat) => Value.int (p : Nat) 0).toArray } ∧ ord.length = ps.length ∧ ∀ (j p : Nat), ps[j]? = some p → ∃ e : Int × Value, es[p]? = some e ∧ ord[j]? = some e.2))
theorem IA.typeIs {es : Array (Int × Value)} {ep : Nat} {t : SetTable} {a it T : Addr} {ord : List Value} {i : Nat} (x : IA w es ep t a it T ord i s.heap) : s.TypeIs (.ref it) "set_iterator" :=
  let ⟨_, ho, _⟩ := x
  ⟨_, ho, rfl⟩
theorem wp_setsByText {Q : Bool → Shared → Prop} (h : Q (byT w) s) : wpAny (model prog w) A setsByText Q E s := by
  unfold setsByText
  exact wpAny_bind (wpAny_askSetting (wpAny_pure h))
theorem wp_setState {a : Addr} {es : Array (Int × Value)} {ep : Nat} {t : SetTable} {Q : (Array (Int × Value) × Nat × SetTable) → Shared → Prop} (x : SA w s.heap a es ep t) (h : Q (es, ep, t) s) : wpAny (model prog w) A (setState a) Q E s :=
  let ⟨_, ho, _, hd⟩ := x.obj
  wpAny_setState_of ho hd x.tab.fits h
theorem wp_setEntries {a : Addr} {es : Array (Int × Value)} {ep : Nat} {t : SetTable} {Q : Array (Int × Value) → Shared → Prop} (x : SA w s.heap a es ep t) (h : Q es s) : wpAny (model prog w) A (setEntries a) Q E s := by
  unfold setEntries
  exact wpAny_bind (wp_setState x (wpAny_pure h))
theorem wp_setWalk_text {a : Addr} {es : Array (Int × Value)} {ep : Nat} {t : SetTable} {Q : Array (Int × Value) → Shared → Prop} (x : SA w s.heap a es ep t) (hb : byT w = true) (h : Q (pickOrder (w.params.setOrder a ep) es) s) :
    wpAny (model prog w) A (setWalk a) Q E s := by
  unfold setWalk
  refine wpAny_bind (wp_setState x ?_)
  dsimp only
  refine wpAny_bind (wp_setsByText ?_)
  rw [if_pos hb]
  exact wpAny_bind (wpAny_askSetting (wpAny_pure h))
/-- the next one, by its slot -/
theorem wp_setNext {a : Addr} {es : Array (Int × Value)} {ep : Nat} {t : SetTable} {slot i : Nat} {Q : Option (Value × Nat) → Shared → Prop} (x : SA w s.heap a es ep t)
    (h : (byT w = true → Q (((pickOrder (w.params.setOrder a ep) es)[i]?).map fun e => (e.2, slot)) s) ∧
      (byT w = false → drB es t = false ∧ Q (match es[SetTable.below t.place slot]?, t.place[SetTable.below t.place slot]? with | some (_, x), some j => some (x, j + 1) | _, _ => none) s)) :
    wpAny (model prog w) A (setNext a slot i ep) Q E s := by
  unfold setNext
  refine wpAny_bind (wp_setState x ?_)
  dsimp only
  refine wpAny_bind (wp_setsByText ?_)
  cases hb : byT w with
  | true =>
    rw [if_pos rfl, if_neg (by simp)]
    exact wpAny_bind (wp_setWalk_text x hb (wpAny_pure (h.1 hb)))
  | false =>
    obtain ⟨hd, q⟩ := h.2 hb
    rw [if_neg (by simp)]
    refine wpAny_ite_split (fun z => absurd (show drB es t = true from z) (by rw [hd]; simp)) fun _ => ?_
    have hl : t.led = true := by rw [x.tab.led, hb]; rfl
    refine wpAny_bind (m := if (!t.led && !es.isEmpty) = true then unsupported "set:maker-not-led" else pure ()) ?_
    rw [if_neg (by rw [hl]; simp)]
    exact wpAny_pure (wpAny_pure q)
end
end LSet
end
section
set_option linter.unusedSimpArgs false
set_option linter.unusedVariables false
set_option maxRecDepth 100000
namespace LSet
open PySem
section
variable {prog : Program} {w : World} {A : Around} {E : Value → Shared → Prop} {s : Shared}
theorem upd_it {h : Heap} {it : Addr} {vs : Array Value} {k : Nat} {z : Value} (ho : h.get? it = some { cls := .type "set_iterator", data := .fields vs }) :
    (h.update it (Obj.mapFields (·.setIfInBounds k z))).get? it = some { cls := .type "set_iterator", data := .fields (vs.setIfInBounds k z) } := Heap.get?_update_self _ ho rfl
/-- the slot and the count are set anew -/
theorem turn_slot {it a : Addr} {first : Value} {i n ep next : Nat} {v : Value} {Q : Option Value → Shared → Prop} {E' : Value → Shared → Prop}
    (ho : s.heap.get? it = some { cls := .type "set_iterator", data := .fields #[first, .int (i : Nat) 0, .ref a, .int (n : Nat) 0, .int (ep : Nat) 0] })
    (h : ∀ h', h'.get? it = some { cls := .type "set_iterator", data := .fields #[.int (next : Nat) 0, .int ((i + 1 : Nat)) 0, .ref a, .int (n : Nat) 0, .int (ep : Nat) 0] } → Heap.SameBut it s.heap h' → Q (some v) { s with heap := h' }) :
    wpAny (model prog w) A.in1 (do
      setField (Value.ref it) 0 (rawInt next)
      setField (Value.ref it) 1 (rawInt ((i : Int) + 1))
      ret v) (fun fin s' => ∃ v, fin = Fin.done (Flow.ret v) ∧ Q (some v) s') E' s := by
  refine wpAny_bind (wpAny_setField ho rfl (by simp) ?_)
  have h1 := upd_it (k := 0) (z := rawInt next) ho
  refine wpAny_bind (wpAny_setField h1 rfl (by simp) ?_)
  have h2 := upd_it (k := 1) (z := rawInt ((i : Int) + 1)) h1
  refine wpAny_pure ⟨v, rfl, ?_⟩
  refine h _ (h2.trans ?_) ((Heap.SameBut.update ..).trans (Heap.SameBut.update ..))
  simp [rawInt]
theorem next_item {es : Array (Int × Value)} {ep : Nat} {t : SetTable} {a it T : Addr} {ord : List Value} {i : Nat} {v : Value} {Q : Option Value → Shared → Prop} (x : SA w s.heap a es ep t) (y : IA w es ep t a it T ord i s.heap) (hv : ord[i]? = some v)
    (hne : a ≠ it) (h : ∀ h', IA w es ep t a it T ord (i + 1) h' → Heap.SameBut it s.heap h' → Q (some v) { s with heap := h' }) : wpAny (model prog w) A (pyNext (.ref it)) Q E s := by
  obtain ⟨first, ho, hm⟩ := id y
  unfold pyNext
  refine wpAny_bind (wpAny_attempt (wpAny_callSpecial?_slot (name := Str.ofString "__next__") y.typeIs slot_si_next (wpAny_call_entry slot_si_next y.typeIs entry_si_next ?_ (args_si_next _))))
  unfold Builtin.«set_iterator.__next__»
  refine wpAny_bind (wpAny_pure ?_)
  refine wpAny_bind (wpAny_fieldsOf ho rfl ?_)
  show wpAny _ _ (setEntries a >>= _) _ _ _
  refine wpAny_bind (wp_setEntries x ?_)
  rw [if_neg (by simp)]
  rcases hm with ⟨slot, rfl, hb, rfl⟩ | ⟨slot, rfl, hb, hd, rfl, hsl⟩ | ⟨ps, rfl, hT, hTo, hl, hps⟩
  · show wpAny _ _ (setNext a slot i ep >>= _) _ _ _
    refine wpAny_bind (wp_setNext x ⟨fun _ => ?_, fun q => absurd q (by rw [hb]; simp)⟩)
    rw [List.getElem?_map] at hv
    have e1 : (pickOrder (w.params.setOrder a ep) es)[i]? = (pickOrder (w.params.setOrder a ep) es).toList[i]? := (Array.getElem?_toList).symm
    rw [e1]
    cases e : (pickOrder (w.params.setOrder a ep) es).toList[i]? with
    | none => rw [e] at hv; cases hv
    | some q =>
      rw [e] at hv
      have hv' : q.2 = v := Option.some.inj hv
      subst hv'
      refine wpAny_mono (turn_slot (A := A) (Q := fun v s' => Q v s') ho fun h' h1 h2 => ?_) (fun fin s' ⟨u, e, z⟩ => ⟨u, e, wpAny_pure z⟩) fun _ _ e => e
      exact h h' ⟨_, h1, .inl ⟨slot, rfl, hb, rfl⟩⟩ h2
  · show wpAny _ _ (setNext a slot i ep >>= _) _ _ _
    refine wpAny_bind (wp_setNext x ⟨fun q => absurd q (by rw [hb]; simp), fun _ => ⟨hd, ?_⟩⟩)
    rw [hsl]
    rw [List.getElem?_map, Array.getElem?_toList] at hv
    cases e : es[i]? with
    | none => rw [e] at hv; cases hv
    | some q =>
      rw [e] at hv
      have hv' : q.2 = v := Option.some.inj hv
      subst hv'
      have hi : i < es.size := by
        rcases Nat.lt_or_ge i es.size with z | z
        · exact z
        · rw [Array.getElem?_eq_none z] at e; cases e
      have hpl : t.place.size = es.size := by
        have := x.tab.fits
        unfold SetTable.fits at this
        rw [Bool.and_eq_true, beq_iff_eq] at this
        exact this.1
      have ep' : t.place[i]? = some t.place[i] := Array.getElem?_eq_getElem (by omega)
      rw [ep']
      obtain ⟨q1, q2⟩ := q
      refine wpAny_mono (turn_slot (A := A) (Q := fun v s' => Q v s') ho fun h' h1 h2 => ?_) (fun fin s' ⟨u, e, z⟩ => ⟨u, e, wpAny_pure z⟩) fun _ _ e => e
      exact h h' ⟨_, h1, .inr (.inl ⟨t.place[i] + 1, rfl, hb, hd, rfl, below_next x.tab.ris ep'⟩)⟩ h2
  · show wpAny _ _ (seqItems? (.ref T) >>= _) _ _ _
    refine wpAny_bind (wpAny_bind (wpAny_load hTo (wpAny_pure ?_)))
    have hi : i < ps.length := by
      rw [← hl]
      exact (List.getElem?_eq_some_iff.mp hv).1
    obtain ⟨e, he, hoe⟩ := hps i ps[i] (List.getElem?_eq_getElem hi)
    rw [hv] at hoe
    have hv' : v = e.2 := Option.some.inj hoe
    subst hv'
    have hpi : ((ps.map fun (p : Nat) => Value.int (p : Nat) 0).toArray)[(i : Int).toNat]? = some (.int (ps[i] : Nat) 0) := by
      show ((ps.map fun (p : Nat) => Value.int (p : Nat) 0).toArray)[i]? = _
      simp [hi]
    dsimp only
    rw [hpi]
    dsimp only
    show wpAny _ _ (setNextDrawn a ps[i] ep >>= _) _ _ _
    unfold setNextDrawn
    refine wpAny_bind (wpAny_bind (wp_setState x ?_))
    dsimp only
    rw [if_neg (by simp), he]
    refine wpAny_pure ?_
    refine wpAny_bind (wpAny_setField ho rfl (by simp) ?_)
    have h1 := upd_it (k := 1) (z := rawInt ((i : Int) + 1)) ho
    refine wpAny_pure ⟨_, rfl, wpAny_pure (h _ ⟨.ref T, h1.trans (by simp [rawInt]), .inr (.inr ⟨ps, rfl, hT, ?_, hl, hps⟩)⟩ (Heap.SameBut.update ..))⟩
    exact (Heap.get?_update_other _ _ (Ne.symm hT)).trans hTo
theorem stop_tail {it : Addr} {o : Obj} {vs : Array Value} {k : Nat} {Q : Option Value → Shared → Prop} (hh : A.handled = none) (ho : s.heap.get? it = some o) (hd : o.data = .fields vs) (hk : k < vs.size) (hQ : ∀ h', Heap.ExtBut it s.heap h' → Q none { s with heap := h' }) :
    wpAny (model prog w) A.in1 (do
      setField (Value.ref it) k Value.none
      let e ← newExc (Value.type "StopIteration") []
      raiseNew e) (fun (fin : Fin) s' => ∃ v, fin = Fin.done (Flow.ret v) ∧ wpAny (model prog w) A
            (match Except.ok (some v) with
            | Except.ok (some v) => pure (some v)
            | Except.ok none => unsupported "iter:the-iterator's-class-has-lost-its-__next__-amid-the-walk"
            | Except.error e => do
              let __do_lift ← isInstance e (Value.type "StopIteration")
              if __do_lift = true then pure none else throw e)
            Q E s') (fun e s' => wpAny (model prog w) A
        (match Except.error e with
        | Except.ok (some v) => pure (some v)
        | Except.ok none => unsupported "iter:the-iterator's-class-has-lost-its-__next__-amid-the-walk"
        | Except.error e => do
          let __do_lift ← isInstance e (Value.type "StopIteration")
          if __do_lift = true then pure none else throw e)
        Q E s') s := by
  refine wpAny_bind (wpAny_setField ho hd hk ?_)
  refine wpAny_bind ?_
  simp only [newExc, newTuple]
  refine wpAny_bind (wpAny_newObj_type ?_ (by size_fits))
  refine wpAny_bind (m := firstArgMember _ _) (wpAny_of_eq (a := Value.none) (by first | rfl | (simp only [firstArgMember]; rfl)) ?_)
  refine wpAny_newObj_type ?_ (by size_fits)
  simp only [raiseNew]
  refine wpAny_bind (wpAny_handled ?_)
  rw [show A.in1.handled = none from hh]
  refine wpAny_bind (wpAny_pure (wpAny_throw ?_))
  refine wpAny_bind (wpAny_isInstance (T := "StopIteration") (b := true) ⟨_, Heap.get?_push_size _ rfl, rfl⟩ isSubtype_stop ?_)
  exact wpAny_pure (hQ _ (((Heap.SameBut.update ..).extBut.push _).push _))
theorem next_end {es : Array (Int × Value)} {ep : Nat} {t : SetTable} {a it T : Addr} {ord : List Value} {i : Nat} {Q : Option Value → Shared → Prop} (hh : A.handled = none) (x : SA w s.heap a es ep t) (y : IA w es ep t a it T ord i s.heap) (hv : ord[i]? = none)
    (h : ∀ h', Heap.ExtBut it s.heap h' → Q none { s with heap := h' }) : wpAny (model prog w) A (pyNext (.ref it)) Q E s := by
  obtain ⟨first, ho, hm⟩ := id y
  unfold pyNext
  refine wpAny_bind (wpAny_attempt (wpAny_callSpecial?_slot (name := Str.ofString "__next__") y.typeIs slot_si_next (wpAny_call_entry slot_si_next y.typeIs entry_si_next ?_ (args_si_next _))))
  unfold Builtin.«set_iterator.__next__»
  refine wpAny_bind (wpAny_pure ?_)
  refine wpAny_bind (wpAny_fieldsOf ho rfl ?_)
  show wpAny _ _ (setEntries a >>= _) _ _ _
  refine wpAny_bind (wp_setEntries x ?_)
  rw [if_neg (by simp)]
  rcases hm with ⟨slot, rfl, hb, rfl⟩ | ⟨slot, rfl, hb, hd, rfl, hsl⟩ | ⟨ps, rfl, hT, hTo, hl, hps⟩
  · show wpAny _ _ (setNext a slot i ep >>= _) _ _ _
    refine wpAny_bind (wp_setNext x ⟨fun _ => ?_, fun q => absurd q (by rw [hb]; simp)⟩)
    rw [List.getElem?_map] at hv
    have e1 : (pickOrder (w.params.setOrder a ep) es)[i]? = (pickOrder (w.params.setOrder a ep) es).toList[i]? := (Array.getElem?_toList).symm
    rw [e1]
    cases e : (pickOrder (w.params.setOrder a ep) es).toList[i]? with
    | none => exact stop_tail hh ho rfl (by simp) h
    | some q => rw [e] at hv; cases hv
  · show wpAny _ _ (setNext a slot i ep >>= _) _ _ _
    refine wpAny_bind (wp_setNext x ⟨fun q => absurd q (by rw [hb]; simp), fun _ => ⟨hd, ?_⟩⟩)
    rw [hsl]
    rw [List.getElem?_map, Array.getElem?_toList] at hv
    cases e : es[i]? with
    | none => exact stop_tail hh ho rfl (by simp) h
    | some q => rw [e] at hv; cases hv
  · show wpAny _ _ (seqItems? (.ref T) >>= _) _ _ _
    refine wpAny_bind (wpAny_bind (wpAny_load hTo (wpAny_pure ?_)))
    have hi : ps.length ≤ i := by
      rw [← hl]
      exact List.getElem?_eq_none_iff.mp hv
    have hpi : ((ps.map fun (p : Nat) => Value.int (p : Nat) 0).toArray)[(i : Int).toNat]? = none := by
      show ((ps.map fun (p : Nat) => Value.int (p : Nat) 0).toArray)[i]? = _
      simp [hi]
    dsimp only
    rw [hpi]
    dsimp only
    refine wpAny_bind (wpAny_setField ho rfl (by simp) ?_)
    have h1 := upd_it (k := 0) (z := rawInt 0) ho
    refine stop_tail (s := { s with heap := s.heap.update it (Obj.mapFields (·.setIfInBounds 0 (rawInt 0))) }) hh h1 rfl (by simp) fun h' hx => ?_
    exact h h' fun b o hb e => hx b o hb ((Heap.get?_update_other _ _ (Ne.symm hb)).trans e)
/-- iter(set) -/
theorem iter_set {es : Array (Int × Value)} {ep : Nat} {t : SetTable} {a : Addr} {Q : Value → Shared → Prop} (x : SA w s.heap a es ep t) (hz : es.size ≤ sizeLine)
    (h : ∀ h' d it T ord, s.heap.objs.size ≤ it → (T = it ∨ s.heap.objs.size ≤ T) → T < h'.objs.size → it < h'.objs.size → (∀ b o, s.heap.get? b = some o → h'.get? b = some o) → List.Perm ord (es.toList.map (·.2)) → IA w es ep t a it T ord 0 h' → Q (.ref it) { s with heap := h', drawn := d }) :
    wpAny (model prog w) A (pyIter (.ref a)) Q E s := by
  refine wpAny_pyIter_slot x.typeIs PySem.F.slot_set_iter (wpAny_call_entry PySem.F.slot_set_iter x.typeIs entry_set_iter ?_ (PySem.F.args_set_iter_1 _))
  unfold Builtin.«frozenset.__iter__»
  show wpAny _ _ (Builtin.Frozenset.sizeOf a >>= _) _ _ _
  unfold Builtin.Frozenset.sizeOf
  refine wpAny_bind (wpAny_bind (wp_setEntries x (wpAny_pure ?_)))
  unfold setDrawn
  refine wpAny_bind (wpAny_bind (wp_setState x ?_))
  dsimp only
  refine wpAny_bind (wp_setsByText (wpAny_pure ?_))
  refine wpAny_ite_split (fun hc => ?_) fun hc => ?_
  · refine wpAny_bind (draw_ok es.size (List.range es.size) _ _ (by simp) fun ys d hp => ?_)
    simp only [newTuple]
    have hyl : ys.length = es.size := by rw [hp.length_eq]; simp
    have hyr : ∀ p ∈ ys, p < es.size := fun p hq => List.mem_range.mp (hp.mem_iff.mp hq)
    refine wpAny_bind (wpAny_newObj_type ?_ (by show (List.map (fun (i : Nat) => rawInt i) ys).toArray.size ≤ _; simp; omega))
    unfold setEpoch
    have x1 : SA w (s.heap.push { cls := .type "tuple", data := .seq (List.map (fun (i : Nat) => rawInt i) ys).toArray }) a es ep t := x.at fun o e => Heap.get?_push_of_some _ e
    refine wpAny_bind (wpAny_bind (wp_setState x1 (wpAny_pure ?_)))
    refine wpAny_bind (wpAny_newObj_type (wpAny_pure ⟨_, rfl, "set_iterator", _, ⟨_, Heap.get?_push_size _ rfl, rfl⟩, slot_si_next.lookup, ?_⟩))
    have hs1 : (s.heap.push { cls := .type "tuple", data := .seq (List.map (fun (i : Nat) => rawInt i) ys).toArray }).objs.size = s.heap.objs.size + 1 := Heap.size_push ..
    refine h _ d _ s.heap.objs.size (ys.map fun p => ((es[p]?).map (·.2)).getD .none) (by simp only [Heap.size_push]; omega) (.inr (Nat.le_refl _)) (by simp only [Heap.size_push]; omega) (by simp only [Heap.size_push]; omega) (fun b o e => Heap.get?_push_of_some _ (Heap.get?_push_of_some _ e)) ?_
      ⟨_, Heap.get?_push_size _ rfl,   .inr (.inr ⟨ys, rfl, Nat.ne_of_lt (by simp only [Heap.size_push]; exact Nat.lt_succ_self _), Heap.get?_push_of_some _ (Heap.get?_push_size _ rfl), by simp, fun j p hj => ?_⟩)⟩
    · have e1 : (List.range es.size).map (fun p => ((es[p]?).map (·.2)).getD .none) = es.toList.map (·.2) := by
        refine List.ext_getElem (by simp) fun n h1 h2 => ?_
        have hn : n < es.size := by simpa using h1
        simp [hn]
      rw [← e1]
      exact hp.map _
    · have hm := hyr p (List.mem_of_getElem? hj)
      refine ⟨es[p], Array.getElem?_eq_getElem hm, ?_⟩
      rw [List.getElem?_map, hj]
      simp [hm]
  · refine wpAny_bind (wpAny_pure ?_)
    unfold setEpoch
    refine wpAny_bind (wpAny_bind (wp_setState x (wpAny_pure ?_)))
    refine wpAny_bind (wpAny_newObj_type (wpAny_pure ⟨_, rfl, "set_iterator", _, ⟨_, Heap.get?_push_size _ rfl, rfl⟩, slot_si_next.lookup, ?_⟩))
    cases hb : byT w with
    | true =>
      exact h _ s.drawn _ s.heap.objs.size _ (Nat.le_refl _) (.inl rfl) (by rw [Heap.size_push]; omega) (by rw [Heap.size_push]; omega) (fun b o e => Heap.get?_push_of_some _ e) ((pick_perm (w.params.setOrder a ep) es).map _)
        ⟨_, Heap.get?_push_size _ rfl, .inl ⟨0, rfl, hb, rfl⟩⟩
    | false =>
      have hd : drB es t = false := by
        have hc' : ¬ (!byT w && drB es t) = true := hc
        rw [hb] at hc'
        simpa using hc'
      exact h _ s.drawn _ s.heap.objs.size _ (Nat.le_refl _) (.inl rfl) (by rw [Heap.size_push]; omega) (by rw [Heap.size_push]; omega) (fun b o e => Heap.get?_push_of_some _ e) (List.Perm.refl _)
        ⟨_, Heap.get?_push_size _ rfl, .inr (.inl ⟨0, rfl, hb, hd, rfl, below_zero x.tab.ris⟩)⟩
theorem IA.at {es : Array (Int × Value)} {ep : Nat} {t : SetTable} {a it T : Addr} {ord : List Value} {i : Nat} {h h' : Heap} (x : IA w es ep t a it T ord i h) (e1 : ∀ o, h.get? it = some o → h'.get? it = some o) (e2 : ∀ o, h.get? T = some o → h'.get? T = some o) : IA w es ep t a it T ord i h' := by
  obtain ⟨first, ho, hm⟩ := x
  refine ⟨first, e1 _ ho, ?_⟩
  rcases hm with q | q | ⟨ps, q1, q2, q3, q4⟩
  · exact .inl q
  · exact .inr (.inl q)
  · exact .inr (.inr ⟨ps, q1, q2, e2 _ q3, q4⟩)
theorem walks {es : Array (Int × Value)} {ep : Nat} {t : SetTable} {a it T : Addr} {ord : List Value} (hh : A.handled = none) (hne : a ≠ it) (hself : ∀ i (s : Shared) (Q : Value → Shared → Prop) (E : Value → Shared → Prop), IA w es ep t a it T ord i s.heap → Q (.ref it) s → wpAny (model prog w) A (pyIter (.ref it)) Q E s) :
    Walks prog w A it [it, a, T] [it] ord.length (fun i v => ord[i]? = some v) (fun i h => SA w h a es ep t ∧ IA w es ep t a it T ord i h) where
  sub := fun b hb => by simp at hb; simp [hb]
  frame := fun i h h' st hk => ⟨st.1.at fun o e => hk a (by simp) o e, st.2.at (fun o e => hk it (by simp) o e) fun o e => hk T (by simp) o e⟩
  item := fun i s Q E hi st hQ => by
    refine next_item st.1 st.2 (List.getElem?_eq_getElem hi) hne fun h' y' hs => ?_
    exact hQ _ h' s.toks (List.getElem?_eq_getElem hi) ⟨st.1.at fun o e => hs.extBut a o hne e, y'⟩ fun b o hb e => hs.extBut b o (fun h => hb (by simp [h])) e
  done := fun s Q E st hQ => next_end hh st.1 st.2 (List.getElem?_eq_none (Nat.le_refl _)) fun h' he => hQ h' s.toks fun b o hb e => he b o (fun h => hb (by simp [h])) e
  self := fun i s Q E st hQ => hself i s Q E st.2 hQ
theorem slot_si_iter : Slot "set_iterator" "__iter__" "set_iterator.__iter__" :=
  .of (owner := "set_iterator") (n := "__iter__") (by rw [typeLookup_type, builtinLookup_eq_fast]; kernel_rfl) (by decide +kernel) (by decide +kernel) (by decide +kernel)
    (by first | exact .inl (by decide +kernel) | exact .inr (by decide +kernel)) (by rw [isSubtype_type]; kernel_rfl)
theorem entry_si_iter : entryFor table "set_iterator.__iter__" = some Builtin.«dict_keyiterator.__iter__» :=
  entryFor_alias (id' := "dict_keyiterator.__iter__") (by kernel_rfl) rfl (by decide +kernel) (by kernel_rfl)
theorem args_si_iter (a : Value) : argsOk "set_iterator.__iter__" ⟨[a], []⟩ := by
  unfold argsOk; rw [signature?_of (id := "set_iterator.__iter__") (n := ['_', '_', 'r', 'e', 't', 'i', '_', '_']) (o := ['r', 'o', 't', 'a', 'r', 'e', 't', 'i', '_', 't', 'e', 's']) (by kernel_rfl) owner_si]; kernel_rfl
theorem self_ok {es : Array (Int × Value)} {ep : Nat} {t : SetTable} {a it T : Addr} {ord : List Value} (i : Nat) (s : Shared) (Q : Value → Shared → Prop) (E : Value → Shared → Prop) (y : IA w es ep t a it T ord i s.heap) (h : Q (.ref it) s) : wpAny (model prog w) A (pyIter (.ref it)) Q E s := by
  refine wpAny_pyIter_slot y.typeIs slot_si_iter (wpAny_call_entry slot_si_iter y.typeIs entry_si_iter ?_ (args_si_iter _))
  show wpAny _ _ (ret (.ref it)) _ _ s
  exact wpAny_pure ⟨_, rfl, "set_iterator", _, y.typeIs, slot_si_next.lookup, h⟩
end
end LSet
end
section
set_option linter.unusedSimpArgs false
set_option linter.unusedVariables false
set_option maxRecDepth 100000
namespace LSet
open PySem PyProof.Rows
section
variable {prog : Program} {w : World} {A : Around} {E : Value → Shared → Prop} {s : Shared}
theorem hint_set {a : Addr} {Q : Bool → Shared → Prop} (hT : s.TypeIs (.ref a) "set") (h : Q false s) : wpAny (model prog w) A (Builtin.List.listLengthHint (.ref a)) Q E s := by
  unfold Builtin.List.listLengthHint
  refine wpAny_bind (wpAny_specialOf hT PySem.F.slot_set_len.lookup ?_)
  generalize hid : ("set.__len__" : String) = id0
  wp_delta
  rw [show splitId id0 = some ("set", "__len__") from by subst hid; decide +kernel]
  subst hid
  refine wpAny_bind (wpAny_isInstance (T := "set") (b := true) hT (by rw [isSubtype_type]; kernel_rfl) ?_)
  refine wpAny_ite_split (fun hab => absurd hab (by decide)) (fun _ => ?_)
  refine wpAny_ite_split (fun _ => ?_) (fun hab => absurd (by decide +kernel) hab)
  refine wpAny_bind (wpAny_typeOf hT ?_)
  exact wpAny_pure h
/-- the members of a set, collected -/
theorem collect_set {a : Addr} {es : Array (Int × Value)} {ep : Nat} {t : SetTable} {Q : List Value → Shared → Prop} (hh : A.handled = none) (x : SA w s.heap a es ep t) (hz : es.size ≤ sizeLine)
    (h : ∀ h' d tk vs, (∀ b o, s.heap.get? b = some o → h'.get? b = some o) → s.heap.objs.size < h'.objs.size → List.Perm vs (es.toList.map (·.2)) → Q vs { s with heap := h', drawn := d, toks := tk }) : wpAny (model prog w) A (collect (.ref a)) Q E s := by
  unfold collect
  refine wpAny_bind (wpAny_runValue (codeAny_builtin F.entry_proto_collect ?_))
  rw [Around.under_plainId F.plain_proto_collect _]
  show wpAny _ A.in1 (newList [] >>= fun l => again (.builtin "list.__iadd__" ⟨[l, .ref a], []⟩)) _ _ s
  refine wpAny_bind (wpAny_newObj_type ?_)
  refine wpAny_pure ⟨plainId_quiet F.plain_list_iadd _, codeAny_builtin F.entry_list_iadd ?_⟩
  rw [Around.under_plainId F.plain_list_iadd _]
  obtain ⟨oa, hoa, _⟩ := x.obj
  have hSa : s.heap.objs.size ≠ a := Nat.ne_of_gt (Heap.lt_size hoa)
  have x1 : SA w (s.heap.push { cls := .type "list", data := .seq ([] : List Value).toArray }) a es ep t := x.at fun o e => Heap.get?_push_of_some _ e
  show wpAny _ A.in1 (Builtin.List.listExtendWith (.ref s.heap.objs.size) (.ref a) (.ref s.heap.objs.size)) _ _ _
  unfold Builtin.List.listExtendWith
  refine wpAny_bind (wpAny_typeOf (T := "set") (SA.typeIs (s := { s with heap := s.heap.push { cls := .type "list", data := .seq ([] : List Value).toArray } }) x1) ?_)
  have h1 : Builtin.List.listSameRef (.ref s.heap.objs.size) (.ref a) = false := by simp [Builtin.List.listSameRef, hSa]
  have h2 : (Value.type "set" == Value.type "list") = false := by decide
  have h3 : (Value.type "set" == Value.type "tuple") = false := by decide
  simp only [h1, h2, h3, Bool.or_false, Bool.false_eq_true, if_false]
  refine wpAny_bind (iter_set (s := { s with heap := s.heap.push { cls := .type "list", data := .seq ([] : List Value).toArray } }) x1 hz fun h' d it T ord g1 g2 g3 g4 hk hp y => ?_)
  have x2 : SA w h' a es ep t := x1.at fun o e => hk _ _ e
  refine wpAny_bind (wpAny_holding (hint_set (SA.typeIs (s := { s with heap := h', drawn := d }) x2) ?_))
  have g1' : s.heap.objs.size < it := by have := g1; simp only [Heap.size_push] at this; exact this
  have hSit : s.heap.objs.size ≠ it := Nat.ne_of_lt g1'
  have hST : s.heap.objs.size ≠ T := by
    rcases g2 with q | q
    · rw [q]; exact hSit
    · have := q; simp only [Heap.size_push] at this; exact Nat.ne_of_lt this
  have hait : a ≠ it := Nat.ne_of_lt (Nat.lt_trans (Heap.lt_size hoa) g1')
  have hS₁ : h'.get? s.heap.objs.size = some { cls := .type "list", data := .seq ([] : List Value).toArray } := hk _ _ (Heap.get?_push_size _ rfl)
  refine wpAny_ite_split (fun _ => ?_) (fun hc => absurd (by decide) hc)
  refine wpAny_bind (wpAny_rule ?_)
  refine wpAny_bind ?_
  show wpAny _ _ (updateSeq s.heap.objs.size (·.push .none) >>= fun _ => updateSeq s.heap.objs.size (·.pop)) _ _ _
  refine wpAny_bind (wpAny_updateSeq hS₁ rfl ?_)
  have hS₂ := Heap.get?_update_self (Obj.mapSeq (·.push Value.none)) hS₁ rfl
  refine wpAny_updateSeq hS₂ rfl ?_
  have hS₃ := Heap.get?_update_self (Obj.mapSeq (·.pop)) hS₂ rfl
  have oth : ∀ b o, b ≠ s.heap.objs.size → h'.get? b = some o → ((h'.update s.heap.objs.size (Obj.mapSeq (·.push Value.none))).update s.heap.objs.size (Obj.mapSeq (·.pop))).get? b = some o :=
    fun b o hb e => (Heap.get?_update_other _ _ (Ne.symm hb)).trans ((Heap.get?_update_other _ _ (Ne.symm hb)).trans e)
  have W := walks (prog := prog) (w := w) (A := A.in1) (es := es) (ep := ep) (t := t) (T := T) (ord := ord) (show A.in1.handled = none from hh) hait self_ok
  have hol : ord.length ≤ sizeLine := by rw [hp.length_eq]; simp; exact hz
  have hSf : s.heap.objs.size ∉ [it, a, T] := by
    simp only [List.mem_cons, List.not_mem_nil, or_false, not_or]
    exact ⟨hSit, hSa, hST⟩
  refine wpAny_pure ⟨plainId_quiet F.plain_extend_loop _, codeAny_extend_loopS W.toS hol _ hSf _ ord.length 0 _ _ _ rfl (Nat.zero_le _) ?_ hS₃ (ItemsOf.nil _) fun s' acc' c' hm hS' hacc => ?_⟩
  · exact ⟨x2.at fun o e => oth a o (Ne.symm hSa) e, y.at (fun o e => oth it o (Ne.symm hSit) e) fun o e => oth T o (Ne.symm hST) e⟩
  · show wpAny _ A (load s.heap.objs.size >>= _) _ _ s'
    refine wpAny_bind (wpAny_load hS' ?_)
    rw [Moved.eq_with hm]
    refine wpAny_pure (h s'.heap d s'.toks acc'.toList (fun b o e => ?_) (Heap.lt_size hS') ?_)
    · have hlt := Heap.lt_size e
      have hb1 : b ≠ s.heap.objs.size := Nat.ne_of_lt hlt
      have hb2 : b ≠ it := Nat.ne_of_lt (Nat.lt_trans hlt g1')
      refine hm.heap b o (by simp [hb1, hb2]) (oth b o hb1 (hk b o (Heap.get?_push_of_some _ e)))
    · have : acc'.toList = ord := by
        refine List.ext_getElem? fun j => ?_
        rcases Nat.lt_or_ge j ord.length with q | q
        · have hq : j < acc'.size := by rw [hacc.1]; exact q
          have hj : acc'[j]? = some acc'[j] := Array.getElem?_eq_getElem hq
          rw [Array.getElem?_toList, hj]
          exact (hacc.2 j _ hj).symm
        · rw [Array.getElem?_toList, Array.getElem?_eq_none (by rw [hacc.1]; exact q), List.getElem?_eq_none q]
      rw [this]
      exact hp
/-- sorted(set) -/
theorem sorted_set {a : Addr} {ks : List Int} {n : Nat} {Q : Value → Shared → Prop} (hh : A.handled = none) (hS : SetG prog w s.heap a ks n) (hn : n < 64)
    (h : ∀ h' d tk p out ns' c, (∀ b o, s.heap.get? b = some o → h'.get? b = some o) → s.heap.objs.size ≤ p → h'.get? p = some { cls := .type "list", data := .seq out c } → IntsAre out.toList ns' → (∀ k, k ∈ ns' ↔ k ∈ ks) → ns'.Pairwise (· < ·) → ns'.length ≤ n →
      Q (.ref p) { s with heap := h', drawn := d, toks := tk }) : wpAny (model prog w) A (call (.builtin "sorted") [.ref a]) Q E s := by
  obtain ⟨o, es, ep, t, ho, hex, hd, hel, hnd, hmem, hb, T⟩ := hS
  have x : SA w s.heap a es ep t := ⟨⟨o, ho, hex, hd⟩, T⟩
  have hsz : es.size ≤ sizeLine := by rw [sizeLine_eq]; omega
  refine Calls.call_function_entry kind_sorted plain_sorted entry_sorted (args_sorted1 _) ?_
  unfold Builtin.«sorted»
  refine wpAny_bind (m := checkCount "sorted" 1 1 _) (wpAny_pure ?_)
  refine wpAny_bind (collect_set (A := A.in1) hh x hsz fun h' d tk vs hk hgt hp => ?_)
  have hvl : vs.length = es.size := by rw [hp.length_eq]; simp
  have hint : ∀ v ∈ vs, ∃ k t, v = Value.int k t := fun v hv => by
    obtain ⟨e, he, q⟩ := List.mem_map.mp (hp.mem_iff.mp hv)
    obtain ⟨k, t, z⟩ := ElemsOf.int hel he
    exact ⟨k, t, by rw [← q, z]⟩
  have hI : IntsAre vs (vs.map numV) := by
    have : ∀ l : List Value, (∀ v ∈ l, ∃ k t, v = Value.int k t) → IntsAre l (l.map numV) := by
      intro l
      induction l with
      | nil => intro _; exact .nil
      | cons v l ih =>
        intro hl
        obtain ⟨k, t, e⟩ := hl v (by simp)
        subst e
        exact .cons k t (ih fun u hu => hl u (by simp [hu]))
    exact this vs hint
  have hkp : List.Perm (vs.map numV) (keysOf es.toList) := by
    have := hp.map numV
    rw [List.map_map] at this
    exact this
  refine wpAny_bind (wpAny_newList ?_ )
  have hoL : (h'.push (seqObj "list" vs.toArray 0)).get? h'.objs.size = some (seqObj "list" vs.toArray 0) := Heap.get?_push_size _ rfl
  refine wpAny_bind (wpAny_holding (wpAny_call_entry slot_list_sort ⟨_, hoL, rfl⟩ entry_list_sort (list_sort_tree hoL hI (by omega) fun out ns' a1 a2 a3 => ⟨_, rfl, ?_⟩) (args_list_sort _)))
  obtain ⟨c, hc⟩ := sortedHeap_at (vs := vs) (out := out) hoL
  have hkn : List.Perm ns' (keysOf es.toList) := a2.trans hkp
  have hnd' : ns'.Nodup := hkn.nodup_iff.mpr hnd
  have hlt : ns'.Pairwise (· < ·) := by
    have : ∀ l : List Int, l.Nodup → l.Pairwise (· ≤ ·) → l.Pairwise (· < ·) := by
      intro l
      induction l with
      | nil => intro _ _; exact .nil
      | cons z l ih =>
        intro q1 q2
        obtain ⟨q3, q4⟩ := List.nodup_cons.mp q1
        obtain ⟨q5, q6⟩ := List.pairwise_cons.mp q2
        refine List.pairwise_cons.mpr ⟨fun y hy => ?_, ih q4 q6⟩
        have := q5 y hy
        have : z ≠ y := fun q => q3 (q ▸ hy)
        omega
    exact this ns' hnd' a3
  have hle : s.heap.objs.size ≤ h'.objs.size := Nat.le_of_lt hgt
  refine wpAny_pure ⟨_, rfl, h _ d tk h'.objs.size out ns' c (fun b o e => ?_) hle hc a1 (fun k => hkn.mem_iff.trans (hmem k)) hlt ?_⟩
  · have hlt := Heap.lt_size (hk b o e)
    rw [sortedHeap_old (Nat.ne_of_lt hlt) (by rw [Heap.size_push]; exact Nat.lt_succ_of_lt hlt)]
    exact Heap.get?_push_of_some _ (hk b o e)
  · rw [hkn.length_eq]
    unfold keysOf
    simp
    exact hb
end
end LSet
end
section
set_option linter.unusedSimpArgs false
set_option linter.unusedVariables false
set_option maxRecDepth 100000
namespace LSet
open PySem PyProof.Rows
section
variable {prog : Program} {w : World} {A : Around} {E : Value → Shared → Prop} {s : Shared}
theorem set_fresh (w : World) : ({ cls := .type "set", dict := none, data := .set #[] 0 (.fresh 0 0 (!byT w)) } : Obj).ExactSet := ⟨rfl, rfl, rfl⟩
theorem setG_fresh {h : Heap} {a : Addr} (ho : h.get? a = some { cls := .type "set", dict := none, data := .set #[] 0 (.fresh 0 0 (!byT w)) }) : SetG prog w h a [] 0 :=
  ⟨_, #[], 0, _, ho, set_fresh w, rfl, fun e he => by simp at he, by simp [keysOf], fun k => by simp [keysOf], Nat.le_refl _, ⟨by rfl, List.Pairwise.nil, rfl, rfl⟩⟩
/-- set.__new__: the maker is led where no text orders sets -/
theorem new_led (a : Value) {Q₁ : Value → Shared → Prop} (h : Q₁ (.ref s.heap.objs.size) { s with heap := s.heap.push { cls := .type "set", dict := none, data := .set #[] 0 (.fresh 0 0 (!byT w)) } }) :
    codeAny (model prog w) A (.call (.builtin "set.__new__") ⟨[.type "set", a], []⟩) (wants Q₁ E) s := by
  refine codeAny_of_tree (wpAny_bind (wpAny_of_eq (F.newCall_set_1 a) (wpAny_pure ⟨plainId_quiet F.plain_set_new _, codeAny_builtin F.entry_set_new ?_⟩)))
  rw [Around.under_plainId F.plain_set_new _]
  have hself := sub_set_self
  unfold Builtin.«set.__new__» Builtin.Frozenset.newClass
  obtain ⟨hp, g, d, tk, os⟩ := s
  dsimp only
  wp_walk
  refine wpAny_askSetting (wpAny_pure ?_)
  dsimp only
  simp only [newObj]
  exact wpAny_bind (wpAny_alloc (wpAny_pure (wpAny_pure h)))
/-- the loop that puts ints into the set at S -/
theorem fill_loop {I : Addr} {fp wr : List Addr} {n : Nat} {items : List Value} {St : Nat → Heap → Prop} {R : Result → Shared → Prop} (W : Walks prog w A.in1 I fp wr n (fun i v => items[i]? = some v) St) (S : Addr) (hSf : S ∉ fp)
    {ns : List Int} (hI : IntsAre items ns) (hlen : items.length = n) (hb : n + 1 < scanBound) : ∀ (k i : Nat) (s : Shared), n - i = k → i ≤ n → St i s.heap → SetG prog w s.heap S (ns.take i) i →
      (∀ h' tk, (∀ b o, b ∉ S :: wr → s.heap.get? b = some o → h'.get? b = some o) → SetG prog w h' S ns n → R (.ok (.ret .none)) { s with heap := h', toks := tk }) →
      codeAny (model prog w) A (.builtin "set.update.loop" ⟨[.ref S, .ref I], []⟩) R s := by
  have hnl : ns.length = n := by rw [← hI.length]; exact hlen
  have hSw : S ∉ wr := fun h => hSf (W.sub _ h)
  intro k
  induction k with
  | zero =>
    intro i s hk hi hst hS hR
    have e : i = n := by omega
    subst e
    refine codeAny_builtin F.entry_set_update_loop ?_
    rw [Around.under_plainId F.plain_set_update_loop _]
    refine wpAny_bind (m := pyNext (.ref I)) (W.done s _ _ hst fun h' tk hm => wpAny_pure (hR h' tk (fun b o hb e => hm b o (fun z => hb (List.mem_cons_of_mem _ z)) e) ?_))
    have := hS.at fun o e => hm S o hSw e
    rwa [← hnl, List.take_length, hnl] at this
  | succ k ih =>
    intro i s hk hi hst hS hR
    have hlt : i < n := by omega
    refine codeAny_builtin F.entry_set_update_loop ?_
    rw [Around.under_plainId F.plain_set_update_loop _]
    refine wpAny_bind (m := pyNext (.ref I)) (W.item i s _ _ hlt hst fun v h1 tk1 hP hst1 hm => ?_)
    obtain ⟨t, rfl⟩ := IntsAre.int_at hI i v hP
    have hS1 : SetG prog w h1 S (ns.take i) i := hS.at fun o e => hm S o hSw e
    refine wpAny_bind (m := holding [Value.int (ns.getD i 0) t] (setAdd S (.int (ns.getD i 0) t))) (wpAny_holding ?_)
    unfold setAdd
    refine wpAny_holding (wpAny_bind ((intKind prog w).pyHash (k := ns.getD i 0) (intKind_is _ _ _ _) ?_))
    refine setAdd_ok (s := { s with heap := h1, toks := tk1 + 1 }) hS1 (by omega) fun h2 bb hsb hS2 => ?_
    have hS3 : SetG prog w h2 S (ns.take (i + 1)) (i + 1) := by
      have e : ns.take (i + 1) = ns.take i ++ [ns.getD i 0] := by
        have hin : i < ns.length := by omega
        rw [List.take_add_one, List.getElem?_eq_getElem hin]
        simp [List.getD, List.getElem?_eq_getElem hin]
      rw [e]
      exact hS2
    refine wpAny_pure ⟨plainId_quiet F.plain_set_update_loop _, ih (i + 1) { s with heap := h2, toks := tk1 + 1 } (by omega) hlt (W.frame _ _ _ hst1 fun b hb o e => ?_) hS3 fun h3 tk3 hm3 hS4 => hR h3 tk3 (fun b o hb e => ?_) hS4⟩
    · exact (hsb.2 b fun z => hSf (z ▸ hb)).trans e
    · refine hm3 b o hb ((hsb.2 b fun z => hb (z ▸ List.mem_cons_self)).trans (hm b o (fun z => hb (List.mem_cons_of_mem _ z)) e))
set_option maxHeartbeats 3200000 in
/-- set(xs) of a list of ints -/
theorem set_list {l : Addr} {items : List Value} {ns : List Int} {Q : Value → Shared → Prop} (hh : A.handled = none) (hl : s.heap.IsList l items.toArray) (hI : IntsAre items ns) (hb : items.length + 1 < scanBound)
    (h : ∀ (h' : Heap) (tk : Nat), SetG prog w h' s.heap.objs.size ns items.length → (∀ b o, s.heap.get? b = some o → h'.get? b = some o) → Q (.ref s.heap.objs.size) { s with heap := h', toks := tk }) :
    wpAny (model prog w) A (call (.type "set") [.ref l]) Q E s := by
  obtain ⟨c, tl, hmro⟩ := F.called_set.mro
  have hmade := F.called_set.made
  have hsub := F.called_set.sub
  refine wpAny_call (codeAny_of_tree (wpAny_pure ⟨Code.quiet_builtin _ (by decide +kernel), codeAny_builtin F.entry_type_call ?_⟩))
  rw [Around.under_plain (weight_type_call_type "set" [.ref l] []) rfl]
  have k1 := F.called_set.notType
  have k2 := F.called_set.canCreate
  have k3 := F.typeCall_set_1 (.ref l)
  repeat (any_goals (first | assumption | wp_step))
  let o0 : Obj := { cls := .type "set", dict := none, data := .set #[] 0 (.fresh 0 0 (!byT w)) }
  refine codeAny_mono (new_led (.ref l) (E := E) (Q₁ := fun obj s₁ => obj = .ref s.heap.objs.size ∧ s₁ = { s with heap := s.heap.push o0 }) ⟨rfl, rfl⟩) fun r s₁ hr => ?_
  cases r with
  | error e => exact hr
  | ok fl =>
    cases fl with
    | ret obj =>
      obtain ⟨rfl, rfl⟩ := hr
      have hS : (s.heap.push o0).get? s.heap.objs.size = some o0 := Heap.get?_push_size _ rfl
      have hT : Shared.TypeIs { s with heap := s.heap.push o0 } (.ref s.heap.objs.size) "set" := ⟨_, hS, rfl⟩
      have hli := F.called_set.init.lookup
      have hbi := F.called_set.init.bind (.ref s.heap.objs.size)
      repeat (any_goals (first | assumption | wp_step))
      refine codeAny_mono (codeAny_call_builtin (R := wants (fun r s₂ => r = .none ∧ ∃ h' tk, s₂ = { s with heap := h', toks := tk } ∧ SetG prog w h' s.heap.objs.size ns items.length ∧ (∀ b o, s.heap.get? b = some o → h'.get? b = some o)) E)
        F.called_set.init.plain F.entry_set_init (check_set_init_1 hT ?_)) fun r₂ s₂ hr₂ => ?_
      · obtain ⟨ol, hol, hcl, nl, hdl⟩ := hl
        obtain ⟨ocls, odict, odata, oslots⟩ := ol
        simp only at hcl hdl
        subst hcl; subst hdl
        have hol' : (s.heap.push o0).get? l = some { cls := .type "list", dict := odict, data := .seq items.toArray nl, slots := oslots } := Heap.get?_push_of_some _ hol
        have hsls := F.sub_list_set
        have hslf := F.sub_list_frozenset
        have hne : (Value.type "list" == Value.type "dict") = false := by decide
        have hl1 : (s.heap.push o0).IsList l items.toArray := ⟨_, hol', rfl, nl, rfl⟩
        unfold Builtin.«set.__init__» noKeywords Builtin.Frozenset.updateFrom
        generalize hPI : pyIter = PI
        wp_walk
        subst hPI
        refine wpAny_pyIter_list hl1 ?_
        refine wpAny_bind (wpAny_runValue ?_)
        have hlS : l < s.heap.objs.size := Heap.lt_size hol
        have hs1 : (s.heap.push o0).objs.size = s.heap.objs.size + 1 := Heap.size_push ..
        have hneI : l ≠ (s.heap.push o0).objs.size := by rw [hs1]; exact Nat.ne_of_lt (Nat.lt_succ_of_lt hlS)
        have hSf : s.heap.objs.size ∉ [(s.heap.push o0).objs.size, l] := by
          rw [hs1]
          simp only [List.mem_cons, List.not_mem_nil, or_false, not_or]
          exact ⟨Nat.ne_of_lt (Nat.lt_succ_self _), Nat.ne_of_gt hlS⟩
        have hW := Walks.list (prog := prog) (w := w) (A := A.in1.in1.in1) (by simp [hh]) (s.heap.push o0).objs.size l hneI items.toArray
        have hW' : Walks prog w A.in1.in1.in1 (s.heap.push o0).objs.size [(s.heap.push o0).objs.size, l] [(s.heap.push o0).objs.size] items.length (fun i v => items[i]? = some v) (fun i h => h.IsListIter (s.heap.push o0).objs.size l i ∧ h.IsList l items.toArray) := by
          simp only [List.size_toArray, List.getElem?_toArray] at hW
          exact hW
        refine fill_loop hW' s.heap.objs.size hSf hI rfl hb (items.length - 0) 0 _ rfl (Nat.zero_le _) ⟨⟨_, Heap.get?_push_size _ rfl, rfl, rfl⟩, hl1.push _⟩ (setG_fresh (Heap.get?_push_of_some _ hS)) fun h' tk hm hS' => ?_
        refine wpAny_pure (wpAny_pure ⟨rfl, h', tk, rfl, hS', fun b o e => ?_⟩)
        have hlt := Heap.lt_size e
        refine hm b o ?_ (Heap.get?_push_of_some _ (Heap.get?_push_of_some _ e))
        simp only [List.mem_cons, List.not_mem_nil, or_false, not_or]
        exact ⟨Nat.ne_of_lt hlt, by rw [hs1]; exact Nat.ne_of_lt (Nat.lt_succ_of_lt hlt)⟩
      · cases r₂ with
        | error e => exact hr₂
        | ok fl₂ =>
          cases fl₂ with
          | ret r =>
            obtain ⟨rfl, h', tk, rfl, hS', hk'⟩ := hr₂
            repeat (any_goals (first | assumption | wp_step))
            exact h _ _ hS' hk'
          | _ => exact hr₂.elim
    | _ => exact hr.elim
end
end LSet
end
section
set_option linter.unusedSimpArgs false
set_option linter.unusedVariables false
set_option maxRecDepth 100000
namespace LEn
open PySem
open AutoSeq1 (wpAny_loadPart')
section
variable {prog : Program} {w : World} {A : Around} {E : Value → Shared → Prop} {s : Shared}
theorem ct_start (l v : Value) : checkTypeCall "enumerate" ⟨[l], [(Str.ofString "start", v)]⟩ = pure () := by kernel_rfl
theorem cn_start (l v : Value) : checkBuiltinCall "enumerate.__new__" ⟨[.type "enumerate", l], [(Str.ofString "start", v)]⟩ = pure () := by kernel_rfl
theorem ai_start (o l v : Value) : argsOk "object.__init__" ⟨[o, l], [(Str.ofString "start", v)]⟩ := by unfold argsOk; kernel_rfl
set_option maxHeartbeats 2000000 in
theorem new_start (l : Addr) (items : Array Value) (n : Nat) (dct : Option Addr) (sl : Array (Option Value)) (t : Tok) :
    Meets (Builtin.«enumerate.__new__» ⟨[.type "enumerate", .ref l], [(Str.ofString "start", .int 1 t)]⟩) (fun _ R s => s.heap.get? l = some { cls := .type "list", dict := dct, data := .seq items n, slots := sl } ∧
      R (.ok (.ret (.ref (s.heap.push { cls := .type "list_iterator", data := .fields #[.ref l, .int 0 0] }).objs.size)))
        { s with heap := (s.heap.push { cls := .type "list_iterator", data := .fields #[.ref l, .int 0 0] }).push { cls := .type "enumerate", data := .fields #[.none, .bool false, .ref s.heap.objs.size, rawInt 1, .none, .none] } }) :=
  .of_wp fun prog w A R s h => by
    obtain ⟨hp, g, d, tk, os⟩ := s; obtain ⟨hl, h⟩ := h
    have hsub := sub_enumerate
    have hL : Heap.IsList (Shared.heap ⟨hp, g, d, tk, os⟩) l items := ⟨_, hl, rfl, n, rfl⟩
    wp_walk using wpAny_loadPart' hl
    refine wpAny_stack_any fun st => wpAny_pure ?_
    refine wpAny_ite_split (fun _ => ?_) (fun _ => ?_)
    · refine wpAny_bind (wpAny_of_eq (a := (Value.ref l, some (Value.int 1 t))) (by kernel_rfl) ?_)
      refine wpAny_bind (m := Builtin.SmallTypes.indexObject "enumerate.__new__" (Value.int 1 t)) (wpAny_of_eq (a := Value.int 1 t) (by kernel_rfl) ?_)
      refine wpAny_bind (m := asInt? (Value.int 1 t)) (wpAny_of_eq (a := some 1) (by kernel_rfl) ?_)
      refine wpAny_ite_split (fun hc => absurd hc (by decide)) fun _ => ?_
      refine wpAny_bind (wpAny_pyIter_list hL ?_)
      unfold Builtin.SmallTypes.newRecord
      dsimp only
      refine wpAny_bind (wpAny_newObj_type ?_ (by show 6 ≤ sizeLine + 2; decide))
      exact wpAny_pure ⟨_, rfl, h⟩
    · refine wpAny_bind (wpAny_of_eq (a := (Value.ref l, some (Value.int 1 t))) (by kernel_rfl) ?_)
      refine wpAny_bind (m := Builtin.SmallTypes.indexObject "enumerate.__new__" (Value.int 1 t)) (wpAny_of_eq (a := Value.int 1 t) (by kernel_rfl) ?_)
      refine wpAny_bind (m := asInt? (Value.int 1 t)) (wpAny_of_eq (a := some 1) (by kernel_rfl) ?_)
      refine wpAny_ite_split (fun hc => absurd hc (by decide)) fun _ => ?_
      refine wpAny_bind (wpAny_pyIter_list hL ?_)
      unfold Builtin.SmallTypes.newRecord
      dsimp only
      refine wpAny_bind (wpAny_newObj_type ?_ (by show 6 ≤ sizeLine + 2; decide))
      exact wpAny_pure ⟨_, rfl, h⟩
theorem init_start {self : Value} (a v : Value) : Meets (Builtin.«object.__init__» ⟨[self, a], [(Str.ofString "start", v)]⟩) (fun _ R s => s.TypeIs self "enumerate" ∧ R (.ok (.ret .none)) s) := by
  have hl := F.called_enumerate.init.lookup
  have hm := F.called_enumerate.made
  have hne : (some "enumerate.__new__" != some "object.__new__") = true := by decide
  refine Meets.of_wp fun prog w A R s hs => ?_
  obtain ⟨hT, hq⟩ := hs
  repeat (any_goals (first | assumption | wp_step))
  exact ⟨_, rfl, hq⟩
/-- enumerate(xs, start=1) -/
theorem call_start {l : Addr} {items : Array Value} {t : Tok} {Q : Value → Shared → Prop} (hL : s.heap.IsList l items)
    (h : ∀ h', IsEnum h' (s.heap.objs.size + 1) s.heap.objs.size 1 .none → h'.IsListIter s.heap.objs.size l 0 → h'.objs.size = s.heap.objs.size + 2 →
      (∀ b o, s.heap.get? b = some o → h'.get? b = some o) → Q (.ref (s.heap.objs.size + 1)) { s with heap := h' }) :
    wpAny (model prog w) A (call (.type "enumerate") [.ref l] [(Str.ofString "start", .int 1 t)]) Q E s := by
  obtain ⟨⟨c, dct, dt, sl⟩, hl, hc, n, hd⟩ := hL
  replace hc : c = .type "list" := hc
  replace hd : dt = .seq items n := hd
  subst hc hd
  have ft := F.called_enumerate
  obtain ⟨c, tl, hmro⟩ := ft.mro
  have hmade := ft.made
  have hsub := ft.sub
  refine wpAny_call (codeAny_of_tree (wpAny_pure ⟨Code.quiet_builtin _ (by decide +kernel), codeAny_builtin F.entry_type_call ?_⟩))
  rw [Around.under_plain (weight_type_call_type _ _ _) (units_type_call_type _ _ _)]
  have h1 := ft.notType
  have h2 := ft.canCreate
  have hct := ct_start (.ref l) (.int 1 t)
  repeat (any_goals (first | assumption | wp_step))
  have hz : (s.heap.push { cls := .type "list_iterator", data := .fields #[.ref l, .int 0 0] }).objs.size = s.heap.objs.size + 1 := Heap.size_push ..
  refine codeAny_mono (codeAny_call_builtin ft.plain F.entry_enumerate_new (wpAny_of_eq (cn_start _ _) (new_start l items n dct sl t prog w A.in1 (wants (fun obj s₁ => s₁.TypeIs obj "enumerate" ∧ Q obj s₁) E) s ⟨hl, ?_⟩))) fun r s₁ hr => ?_
  · refine ⟨⟨_, Heap.get?_push_size _ rfl, rfl⟩, ?_⟩
    rw [hz]
    refine h _ ?_ ?_ (by rw [Heap.size_push, hz]) fun b o e => Heap.get?_push_of_some _ (Heap.get?_push_of_some _ e)
    · have := Heap.get?_push_size (s.heap.push { cls := .type "list_iterator", data := .fields #[.ref l, .int 0 0] }) (o := { cls := .type "enumerate", data := .fields #[.none, .bool false, .ref s.heap.objs.size, rawInt 1, .none, .none] }) rfl
      rw [hz] at this
      exact this
    · exact ⟨_, Heap.get?_push_of_some _ (Heap.get?_push_size _ rfl), rfl, rfl⟩
  · cases r with
    | error e => exact hr
    | ok fl =>
      cases fl with
      | ret obj =>
        obtain ⟨hT, hq⟩ := hr
        have hli := ft.init.lookup
        have hbi := ft.init.bind obj
        repeat (any_goals (first | assumption | wp_step))
        refine codeAny_mono (codeAny_call_builtin ft.init.plain F.entry_object_init (ft.init.check _ _ _ _ _ _ _ _ hT (ai_start _ _ _) (init_start (.ref l) (.int 1 t) prog w A.in1 (wants (fun r s₂ => r = .none ∧ Q obj s₂) E) s₁ ⟨hT, rfl, hq⟩))) fun r₂ s₂ hr₂ => ?_
        cases r₂ with
        | error e => exact hr₂
        | ok fl₂ =>
          cases fl₂ with
          | ret r =>
            obtain ⟨rfl, hq⟩ := hr₂
            repeat (any_goals (first | assumption | wp_step))
          | _ => exact hr₂.elim
      | _ => exact hr.elim
/-- a turn of it, the count apart from the place -/
theorem next_start {e it l : Addr} {i : Nat} {c : Int} {items : Array Value} {x old : Value} {Q : Value → Shared → Prop}
    (he : IsEnum s.heap e it c old) (hit : s.heap.IsListIter it l i) (hl : s.heap.IsList l items) (hx : items[i]? = some x) (hne : e ≠ it)
    (hQ : ∀ h', IsEnumOut h' e it (c + 1) x s.heap.objs.size → h'.IsListIter it l (i + 1) →
      h'.get? s.heap.objs.size = some { cls := .type "tuple", data := .seq #[.int c s.toks, x] } → h'.objs.size = s.heap.objs.size + 1 →
      (∀ b o, b ≠ e → b ≠ it → s.heap.get? b = some o → h'.get? b = some o) → Q (.ref s.heap.objs.size) { s with heap := h', toks := s.toks + 1 }) :
    wpAny (model prog w) A (Builtin.«enumerate.__next__» ⟨[.ref e], []⟩) (fun fin s' => ∃ v, fin = .done (.ret v) ∧ Q v s') E s := by
  obtain ⟨hp, g, d, tk, os⟩ := s
  have hel : e < hp.objs.size := Heap.lt_size he
  refine wpAny_bind (wpAny_pure ?_)
  refine wpAny_bind (wpAny_field he rfl (x := .ref it) rfl ?_)
  refine wpAny_bind (wpAny_nextOf_list_item hit hl hx fun h1 hit1 sb1 => ?_)
  replace sb1 : Heap.SameBut it hp h1 := sb1
  have he1 : IsEnum h1 e it c old := (sb1.2 e hne).trans he
  refine wpAny_bind (wpAny_field (s := ⟨h1, g, d, tk, os⟩) he1 rfl (x := rawInt c) rfl ?_)
  refine wpAny_bind (m := field (.ref e) 4) (wpAny_field (s := ⟨h1, g, d, tk, os⟩) he1 rfl (x := .none) rfl ?_)
  refine wpAny_bind (m := mkInt c) (wpAny_mkInt (s := ⟨h1, g, d, tk, os⟩) ?_)
  refine wpAny_bind (wpAny_setField_rec (s := ⟨h1, g, d, tk + 1, os⟩) he1 (by simp) fun h2 he2 sb2 => ?_)
  replace sb2 : Heap.SameBut e h1 h2 := sb2
  refine wpAny_bind (wpAny_setField_rec (s := ⟨h2, g, d, tk + 1, os⟩) he2 (by simp) fun h3 he3 sb3 => ?_)
  replace sb3 : Heap.SameBut e h2 h3 := sb3
  replace he3 : IsEnum h3 e it (c + 1) old := he3
  refine wpAny_bind (wpAny_newTuple (s := ⟨h3, g, d, tk + 1, os⟩) ?_)
  have hsz : h3.objs.size = hp.objs.size := by rw [sb3.1, sb2.1, sb1.1]
  let h4 : Heap := h3.push { cls := .type "tuple", data := .seq #[.int c tk, x] }
  have he4 : IsEnum h4 e it (c + 1) old := Heap.get?_push_of_some _ he3
  have ht4 : h4.get? hp.objs.size = some { cls := .type "tuple", data := .seq #[.int c tk, x] } := by rw [← hsz]; exact Heap.get?_push_size _ rfl
  have hz4 : h4.objs.size = hp.objs.size + 1 := by rw [← hsz]; exact Heap.size_push ..
  have hk4 : ∀ b o, b ≠ e → b ≠ it → hp.get? b = some o → h4.get? b = some o := fun b o hbe hbi hb => Heap.get?_push_of_some _ (sb3.extBut b o hbe (sb2.extBut b o hbe (sb1.extBut b o hbi hb)))
  have hit4 : h4.IsListIter it l (i + 1) := by
    obtain ⟨o, ho, r⟩ := (hit1.extBut sb2.extBut (Ne.symm hne)).extBut sb3.extBut (Ne.symm hne)
    exact ⟨o, Heap.get?_push_of_some _ ho, r⟩
  show wpAny _ _ _ _ _ ⟨h4, g, d, tk + 1, os⟩
  refine wpAny_bind ?_
  unfold Builtin.SmallTypes.ownedTupleIsFree
  refine wpAny_bind (wpAny_field (s := ⟨h4, g, d, tk + 1, os⟩) he4 rfl (x := .none) rfl (wpAny_pure ?_))
  refine wpAny_ite_split (fun _ => ?_) fun hc => absurd rfl hc
  refine wpAny_bind (wpAny_rule ?_)
  refine wpAny_bind (wpAny_field (s := ⟨h4, g, d, tk + 1, os⟩) he4 rfl (x := old) rfl ?_)
  refine wpAny_bind (wpAny_setField_rec (s := ⟨h4, g, d, tk + 1, os⟩) he4 (by simp) fun h5 he5 sb5 => ?_)
  replace sb5 : Heap.SameBut e h4 h5 := sb5
  show wpAny _ _ (Builtin.SmallTypes.ownedTupleHandOut (.ref e) (.ref h3.objs.size) >>= _) _ _ ⟨h5, g, d, tk + 1, os⟩
  rw [hsz]
  unfold Builtin.SmallTypes.ownedTupleHandOut
  refine wpAny_bind (wpAny_bind (wpAny_setField_rec (s := ⟨h5, g, d, tk + 1, os⟩) he5 (by simp) fun h6 he6 sb6 => ?_))
  replace sb6 : Heap.SameBut e h5 h6 := sb6
  refine wpAny_setField_rec (s := ⟨h6, g, d, tk + 1, os⟩) he6 (by simp) fun h7 he7 sb7 => ?_
  replace sb7 : Heap.SameBut e h6 h7 := sb7
  replace he7 : IsEnumOut h7 e it (c + 1) x hp.objs.size := he7
  refine wpAny_bind (wpAny_letGo (wpAny_pure ⟨_, rfl, hQ h7 he7 ?_ ?_ ?_ ?_⟩))
  · exact ((hit4.extBut sb5.extBut (Ne.symm hne)).extBut sb6.extBut (Ne.symm hne)).extBut sb7.extBut (Ne.symm hne)
  · exact sb7.extBut _ _ (Nat.ne_of_gt hel) (sb6.extBut _ _ (Nat.ne_of_gt hel) (sb5.extBut _ _ (Nat.ne_of_gt hel) ht4))
  · rw [sb7.1, sb6.1, sb5.1, hz4]
  · exact fun b o hbe hbi hb => sb7.extBut b o hbe (sb6.extBut b o hbe (sb5.extBut b o hbe (hk4 b o hbe hbi hb)))
theorem pyNext_start {e it l : Addr} {i : Nat} {c : Int} {items : Array Value} {x old : Value} {Q : Option Value → Shared → Prop}
    (he : IsEnum s.heap e it c old) (hit : s.heap.IsListIter it l i) (hl : s.heap.IsList l items) (hx : items[i]? = some x) (hne : e ≠ it)
    (hQ : ∀ h', IsEnumOut h' e it (c + 1) x s.heap.objs.size → h'.IsListIter it l (i + 1) →
      h'.get? s.heap.objs.size = some { cls := .type "tuple", data := .seq #[.int c s.toks, x] } → h'.objs.size = s.heap.objs.size + 1 →
      (∀ b o, b ≠ e → b ≠ it → s.heap.get? b = some o → h'.get? b = some o) → Q (some (.ref s.heap.objs.size)) { s with heap := h', toks := s.toks + 1 }) :
    wpAny (model prog w) A (pyNext (.ref e)) Q E s := by
  have hT : s.TypeIs (.ref e) "enumerate" := ⟨_, he, rfl⟩
  unfold pyNext
  exact wpAny_bind (wpAny_attempt (wpAny_callSpecial?_slot (name := Str.ofString "__next__") hT F.slot_enumerate_next
    (wpAny_call_entry F.slot_enumerate_next hT F.entry_enumerate_next (next_start he hit hl hx hne fun h' a b c d k => wpAny_pure (hQ h' a b c d k)) (F.args_enumerate_next_1 _))))
theorem pyNext_end {e it l : Addr} {i : Nat} {c : Int} {items : Array Value} {old : Value} {Q : Option Value → Shared → Prop} (hh : A.handled = none)
    (he : IsEnum s.heap e it c old) (hit : s.heap.IsListIter it l i) (hl : s.heap.IsList l items) (hx : items[i]? = none)
    (hQ : ∀ h', Heap.ExtBut it s.heap h' → Q none { s with heap := h' }) : wpAny (model prog w) A (pyNext (.ref e)) Q E s := by
  have hT : s.TypeIs (.ref e) "enumerate" := ⟨_, he, rfl⟩
  unfold pyNext
  refine wpAny_bind (wpAny_attempt (wpAny_callSpecial?_slot (name := Str.ofString "__next__") hT F.slot_enumerate_next (wpAny_call_entry F.slot_enumerate_next hT F.entry_enumerate_next ?_ (F.args_enumerate_next_1 _))))
  refine wpAny_bind (wpAny_pure ?_)
  refine wpAny_bind (wpAny_field he rfl (x := .ref it) rfl ?_)
  refine wpAny_bind (wpAny_nextOf_list_end hh hit hl hx fun h' x he' ⟨o, ho, hc⟩ => ?_)
  refine wpAny_bind (wpAny_isInstance (T := "StopIteration") (b := true) ⟨o, ho, hc⟩ isSubtype_stop ?_)
  exact wpAny_pure (hQ _ he')
end
end LEn
end
section
set_option Elab.async false
set_option linter.all false
set_option maxRecDepth 100000
namespace L2
open PySem PySem.Spec PyProof.Rows
theorem bits_le {i : Int} {k : Nat} (h : i.natAbs ≤ 2 ^ k) : Builtin.Int.intBits i ≤ k + 1 := by
  unfold Builtin.Int.intBits
  split
  · omega
  · have : i.natAbs.log2 ≤ k := by
      by_cases hz : i.natAbs = 0
      · rw [hz]; simp
      · have h1 : i.natAbs.log2 < k + 1 := (Nat.log2_lt hz).mpr (Nat.lt_of_le_of_lt h (Nat.pow_lt_pow_right (by decide) (by omega)))
        omega
    omega
theorem log_le {i : Int} {k : Nat} (h : i.natAbs ≤ 2 ^ k) : i.natAbs.log2 < k + 1 := by
  by_cases hz : i.natAbs = 0
  · rw [hz]; simp
  · exact (Nat.log2_lt hz).mpr (Nat.lt_of_le_of_lt h (Nat.pow_lt_pow_right (by decide) (by omega)))
/-- below 2^4000 -/
def Big (i : Int) : Prop := i.natAbs ≤ 2 ^ 4000
def CBig (i j : Int) : Prop := Big i ∧ Big j
theorem CBig.ok {i j : Int} (h : CBig i j) : IntMulOk i j := by
  unfold IntMulOk
  have h1 := bits_le h.1
  have h2 := bits_le h.2
  have : Builtin.Int.intTooBig ((Builtin.Int.intBits i : Int) + (Builtin.Int.intBits j : Int)) = false := by
    unfold Builtin.Int.intTooBig
    have hb : bitsLine = 134217728 := by decide
    rw [decide_eq_false_iff_not, hb]
    omega
  intro h
  rw [Bool.and_eq_true] at h
  have h3 := h.2
  rw [this] at h3
  cases h3
section
variable {X : Cx} {a b : Expr} {ta tb : TE} {pos : Pos}
theorem op_mulB : OpR X (binaryOp .Mult) (rI CBig fun i j => .int (i * j)) := opI fun _ _ _ _ _ _ _ hc q => mul_int q hc.ok
/-- // by a positive divisor that may be great -/
theorem op_fdivB : OpR X (binaryOp .FloorDiv) (rI (fun _ j => 0 < j ∧ Big j) fun i j => .int (i / j)) := opI fun i j _ _ _ _ _ hc q => by
  have h1 : (0 : Int) < j := hc.1
  refine floordiv_int (by omega) (by rw [Int.fdiv_eq_ediv_of_nonneg i (by omega)]; exact q) (.inl (PyProof.noPylong_of_log2 ?_))
  have := log_le hc.2
  omega
def fsOf (i : Int) (x : Str) (j : Int) : Str := ((Str.empty ++ Str.ofString (toString i)) ++ x) ++ Str.ofString (toString j)
def tFs (x : Str) (ta tb : TE) : TE := fun σ H Q => ta σ H fun v H1 => ∃ i : Int, v = .int i ∧ i.natAbs.log2 < 1920 ∧ tb σ H1 fun u H2 => ∃ j : Int, u = .int j ∧ j.natAbs.log2 < 1920 ∧ Q (.str (fsOf i x j)) H2
theorem pe_fstr {x : Str} {k : Nat} {p1 p2 p3 : Pos} (ha : PE X a ta) (hb : PE X b tb) (hx : x.length ≤ 100 := by decide) : PE X (.JoinedStr [.FormattedValue a (-1) none p1, .Constant (.str x) k p2, .FormattedValue b (-1) none p3] pos) (tFs x ta tb) := by
  intro pins s σ H Q I h
  have hL : sizeLine = 16777216 := by decide
  have l0 : (Str.empty : Str).length = 0 := rfl
  refine JoinedStr_many (joinParts_cons (FormattedValue_plain (thn (ha pins s σ H _ I h) fun v s1 hv => ?_)))
  obtain ⟨v', H1, I1, r1, i, rfl, hi, q1⟩ := hv
  obtain ⟨t1, rfl⟩ := r1
  have li : (Str.ofString (toString i)).length ≤ 1921 := by
    have e := int_text_length_le (k := 1920) (by decide) hi
    rw [PySem.ofString_length]; omega
  refine formatField_int_small hi ⟨by rw [strLen_append]; omega, ?_⟩
  refine joinParts_cons (Calls.Constant_str ⟨by rw [strLen_append, strLen_append]; omega, ?_⟩)
  refine joinParts_cons (FormattedValue_plain (thn (hb pins _ σ H1 _ (I1.tok _) q1) fun u s2 hu => ?_))
  obtain ⟨u', H2, I2, r2, j, rfl, hj, q2⟩ := hu
  obtain ⟨t2, rfl⟩ := r2
  have lj : (Str.ofString (toString j)).length ≤ 1921 := by
    have e := int_text_length_le (k := 1920) (by decide) hj
    rw [PySem.ofString_length]; omega
  have lall : (fsOf i x j).length ≤ sizeLine := by
    unfold fsOf
    rw [strLen_append, strLen_append, strLen_append]
    omega
  exact formatField_int_small hj ⟨lall, joinParts_nil ⟨.str (fsOf i x j), H2, I2.tok _, ⟨_, rfl⟩, q2⟩ lall⟩
theorem Inv.drawn {pins : List (Addr × Obj)} {σ : St} {H : Hp} {s : Shared} (I : Inv X pins σ H s) (d : Drawn) : Inv X pins σ H { s with drawn := d } := ⟨I.ok, I.os, I.bare, I.base, I.loc, I.cell, I.free, I.freeC, I.pin, I.hok, I.len⟩
/-- a set of ints at a -/
def SetO (P : Program) (w : World) (a : Addr) (ns : List Int) (n : Nat) : HO := .ext fun h => LSet.SetG P w h a ns n
def rSetI (P : Program) (w : World) (K : PySem.W.Frag) : List V → Hp → VK → Prop := fun vs H Q => ∃ (a : Addr) (ns : List Int), vs = [V.ref a] ∧ SqL K H a (ns.map V.int) ∧ ns.length + 1 < 4096 ∧ ∀ p, H p = none → Q (.ref p) (upd H p (SetO P w p ns ns.length))
theorem cr_setI (hc : X.calm = true) : CallR X (.type "set") (rSetI X.prog X.w X.K) := by
  intro pins s σ H xs us Q I r h
  obtain ⟨a, ns, rfl, hq, hz, q⟩ := h
  have e := Vals.ref1 r
  subst e
  obtain ⟨its, rv, p', _⟩ := I.list hq
  have hi := Vals.ints rv
  have hl : its.length = ns.length := hi.length
  refine LSet.set_list (A := X.A) (I.ok.hd hc) p'.isList hi (by unfold scanBound; omega) fun h' tk hS hk => ?_
  rw [hl] at hS
  refine ⟨.ref s.heap.objs.size, upd H s.heap.objs.size (SetO X.prog X.w s.heap.objs.size ns ns.length), I.laid (t' := tk) hk (Nat.le_refl _) ?_, rfl, q _ (I.hok.fresh (Nat.le_refl _))⟩
  obtain ⟨o, es, ep, t, ho, rest⟩ := id hS
  exact ⟨hS, ⟨o, ho⟩, fun h1 h2 x e => LSet.SetG.at x e⟩
def rSortedI (P : Program) (w : World) : List V → Hp → VK → Prop := fun vs H Q => ∃ (a : Addr) (ns : List Int) (n : Nat), vs = [V.ref a] ∧ H a = some (SetO P w a ns n) ∧ n < 64 ∧
  ∀ (ns' : List Int) (p : Addr), (∀ k, k ∈ ns' ↔ k ∈ ns) → ns'.Pairwise (· < ·) → ns'.length ≤ n → H p = none → Q (.ref p) (upd H p (.lst (ns'.map V.int)))
theorem cr_sortedI (hc : X.calm = true) : CallR X (.builtin "sorted") (rSortedI X.prog X.w) := by
  intro pins s σ H xs us Q I r h
  obtain ⟨a, ns, n, rfl, hq, hz, q⟩ := h
  have e := Vals.ref1 r
  subst e
  obtain ⟨hS, _, _⟩ := I.hok a _ hq
  refine LSet.sorted_set (A := X.A) (I.ok.hd hc) hS hz fun h' d tk p out ns' c hk hp ho hi hm hs hl => ?_
  have new : ObjOk X.prog X.w (upd H p (.lst (ns'.map V.int))) h' p (.lst (ns'.map V.int)) :=
    ⟨by rw [List.length_map]; exact Nat.le_trans hl (small64 hz), out.toList, c, vals_of_ints hi, by simpa using ho⟩
  have I1 : Inv X pins σ (upd H p (.lst (ns'.map V.int))) { s with heap := h', toks := tk, drawn := d } := by
    have := I.laid (t' := tk) hk hp new
    exact this.drawn d
  exact ⟨.ref p, _, I1, rfl, q ns' p hm hs hl (I.hok.fresh hp)⟩
end
end L2
end
section
set_option Elab.async false
set_option linter.all false
set_option maxRecDepth 100000
namespace L2
open PySem PySem.Spec PyProof.Rows
def Ite1 (K : PySem.W.Frag) (a : Addr) : It :=
  ⟨fun i H => ∃ (xs : List V) (x : V), SqL K H a xs ∧ xs[i]? = some x, fun i H v H' => ∃ T x, v = .ref T ∧ H T = none ∧ H' = upd H T (.tup [.int ((i : Nat) + 1), x]) ∧ ∀ xs, SqL K H a xs → xs[i]? = some x, fun i H => ∃ xs : List V, SqL K H a xs ∧ xs.length ≤ i⟩
theorem turn_enum1 {P : Program} {w : World} {K : PySem.W.Frag} {elts : List Expr} {kk : Nat} {tpos : Pos} (a e it : Addr) :
    Turn P w K (.Tuple elts kk tpos) (Ite1 K a) [e, it] e (fun i h => (∃ old, IsEnum h e it (((i : Nat) : Int) + 1) old) ∧ h.IsListIter it a i ∧ e ≠ it) where
  mem := by simp
  obj := fun i h st b hb => by
    obtain ⟨⟨old, he⟩, ⟨o, ho, hc, hd⟩, _⟩ := st
    have e' : b = e ∨ b = it := by simpa using hb
    rcases e' with z | z
    · rw [z]; exact ⟨_, he, fun v q => nomatch q⟩
    · rw [z]; exact ⟨o, ho, fun v q => by rw [hd] at q; cases q⟩
  keep := fun i h h' st k => let ⟨⟨old, he⟩, hi, hne⟩ := st; ⟨⟨old, k e (by simp) _ he⟩, hi.at fun o q => k it (by simp) o q, hne⟩
  item := by
    intro X hP hw hK hc i pins s σ H E I hf st hg
    subst hP hw hK
    obtain ⟨⟨old, he⟩, hit, hne⟩ := st
    obtain ⟨xs, x, hq, hx⟩ := hg
    obtain ⟨its, rv, p, hz⟩ := I.list hq
    obtain ⟨u, hu, ru⟩ := rv.get hx
    have hel : e < s.heap.objs.size := Heap.lt_size he
    have hil : it < s.heap.objs.size := by obtain ⟨_, q, _⟩ := hit; exact Heap.lt_size q
    refine LEn.pyNext_start he hit p.isList (x := u) (by simpa using hu) hne fun h' ho hit' hT hsz hk => ?_
    refine ⟨_, rfl, wpAny_letOwnedTupleGo_enum (s := { s with heap := h', toks := s.toks + 1 }) ho fun h'' he' sb => ?_⟩
    have hT2 : h''.get? s.heap.objs.size = some { cls := .type "tuple", data := .seq #[.int ((i : Nat) + 1) s.toks, u] } := (sb.2 _ (Nat.ne_of_gt hel)).trans hT
    have new : ObjOk X.prog X.w (upd H s.heap.objs.size (.tup [.int ((i : Nat) + 1), x])) h'' s.heap.objs.size (.tup [.int ((i : Nat) + 1), x]) :=
      ⟨by show 2 ≤ sizeLine; decide, [.int ((i : Nat) + 1) s.toks, u], .cons ⟨_, rfl⟩ (.cons ru .nil), ⟨_, hT2, rfl, _, rfl⟩⟩
    have I1 : Inv X pins σ (upd H s.heap.objs.size (.tup [.int ((i : Nat) + 1), x])) { s with heap := h'', toks := s.toks + 1 } :=
      I.turnedNew (ch := [e, it]) (fun b ob hb q => (sb.2 b (fun z => hb (by simp [z]))).trans (hk b ob (fun z => hb (by simp [z])) (fun z => hb (by simp [z])) q)) hf (Nat.le_refl _) new
    refine ⟨.ref s.heap.objs.size, _, I1, rfl, ⟨_, x, rfl, I.hok.fresh (Nat.le_refl _), rfl, fun ys hy => by rw [I.list_inj hy hq]; exact hx⟩, ⟨⟨u, ?_⟩, hit'.at fun o q => (sb.2 it (Ne.symm hne)).trans q, hne⟩, fun b hb => ?_⟩
    · have e1 : ((i + 1 : Nat) : Int) + 1 = ((i : Nat) : Int) + 1 + 1 := by omega
      rw [e1]; exact he'
    · have hb' : b < s.heap.objs.size := by
        have e' : b = e ∨ b = it := by simpa using hb
        rcases e' with z | z
        · rw [z]; exact hel
        · rw [z]; exact hil
      rw [upd_ne (Nat.ne_of_lt hb')]
      exact (hf b hb).1
  done := by
    intro X hP hw hK hc i pins s σ H E I hf st hg
    subst hP hw hK
    obtain ⟨⟨old, he⟩, hit, hne⟩ := st
    obtain ⟨xs, hq, hx⟩ := hg
    obtain ⟨its, rv, p, hz⟩ := I.list hq
    obtain ⟨f0, f1, f2, f3, f4, f5⟩ := hf it (by simp)
    have hl := rv.length
    exact LEn.pyNext_end (I.ok.hd hc) he hit p.isList (by simp; omega) fun h' eb => ⟨rfl, I.turned (t' := s.toks) (fun b o hb q => eb b o hb q) f0 f1 f3 f4 f5⟩
  self := fun A i s Q E st h => let ⟨⟨_, he⟩, _⟩ := st; wpAny_pyIter_enum he h
def iEnum1 (K : PySem.W.Frag) (ta : TA) : TI := fun σ H R => ta σ H fun vs H1 => ∃ a xs, vs = [.ref a] ∧ SqL K H1 a xs ∧ R (Ite1 K a) H1
theorem callWith_typeK {M : Model} {A : Around} {E : Value → Shared → Prop} {s : Shared} {pos : Pos} {T : String} {first : List Value} {args : List (Bool × Sem Value)} {keywords : List (Option Str × Sem Value)} {Q : Value → Shared → Prop}
    (hplain : args.any (·.1) = false) (hkw : keywords.any (·.1.isNone) = false)
    (h : wpAny M A (evalArgs (.type T) true args keywords) (fun a s₁ => wpAny M A (call (.type T) (first ++ a.pos) a.kw) Q E s₁) E s) : wpAny M A (callWith pos (.type T) first args keywords) Q E s := by
  unfold callWith
  refine wpAny_bind (wpAny_holding (wpAny_mono h (fun a s₁ h₁ => wpAny_bind (wpAny_standAt ?_)) fun _ _ x => x))
  rw [hplain, hkw]
  refine wpAny_bind (wpAny_pure ?_)
  exact wpAny_bind (wpAny_mono h₁ (fun r s₂ hr => wpAny_bind (wpAny_holding (wpAny_point (wpAny_pure hr)))) fun _ _ x => x)
theorem pi_enum1 {X : Cx} {e : Expr} {ta : TA} {p pos tpos kp vp : Pos} {elts : List Expr} {kk vk : Nat} (hg : Gl X "enumerate") (hm : X.mg "enumerate" = none) (ha : PA X [e] ta) (hs : starEach [e] X.env = [(false, eval e X.env)] := by rfl) :
    PI X (.Tuple elts kk tpos) (.Call (.Name "enumerate" p) [e] [⟨some "start", .Constant (.int 1) vk vp, kp⟩] pos) (iEnum1 X.K ta) := by
  intro pins s σ H R I h
  refine wpAny_Call_Name_kw (ld_blt I hg hm boot_enumerate ?_)
  refine callWith_typeK (by rw [hs]; rfl) rfl ?_
  have he : backTo pos (starEach [e] X.env) = [(false, eval e X.env)] := by rw [hs]; rfl
  have hp := ha pos pins s σ H _ I h
  rw [he] at hp ⊢
  refine evalArgs_kwB (by rfl) (thn hp fun us s1 hu => ?_)
  obtain ⟨vs, H1, I1, r1, a, xs, rfl, hq, q⟩ := hu
  have e1 := Vals.ref1 r1
  subst e1
  refine kws_cons (wpAny_Constant_int (kws_nil ?_))
  obtain ⟨its, rv, p', hz⟩ := I1.list hq
  refine LEn.call_start (s := { s1 with toks := s1.toks + 1 }) p'.isList fun h' he hit hsz hk => wpAny_pyIter_enum (s := { s1 with toks := s1.toks + 1, heap := h' }) he ?_
  have I2 : Inv X pins σ H1 { s1 with heap := h', toks := s1.toks + 1 } := I1.kept (t' := s1.toks + 1) hk
  refine ⟨s1.heap.objs.size + 1, [s1.heap.objs.size + 1, s1.heap.objs.size], _, _, H1, rfl, I2, turn_enum1 a (s1.heap.objs.size + 1) s1.heap.objs.size, ⟨⟨.none, he⟩, hit, Nat.succ_ne_self _⟩, fun b hb => ?_, q⟩
  have e' : b = s1.heap.objs.size + 1 ∨ b = s1.heap.objs.size := by simpa using hb
  have hle : s1.heap.objs.size ≤ b := by
    rcases e' with z | z
    · rw [z]; exact Nat.le_add_right _ _
    · rw [z]; exact Nat.le_refl _
  exact I1.fpOk hle (I1.hok.fresh hle)
end L2
end
section
set_option Elab.async false
set_option linter.all false
set_option maxRecDepth 100000
namespace L2
open PySem PySem.Spec PyProof.Rows
theorem bt_sorted : bootBuiltins "sorted" = some (.builtin "sorted") := by decide +kernel
theorem bt_sum : bootBuiltins "sum" = some (.builtin "sum") := by decide +kernel
theorem bt_ord : bootBuiltins "ord" = some (.builtin "ord") := by decide +kernel
theorem bt_set : bootBuiltins "set" = some (.type "set") := by decide +kernel
abbrev VR (α : Type) := Hp → V → α → Prop
structure Mono {α : Type} (R : VR α) : Prop where
  up : ∀ {H H' : Hp} {v : V} {x : α}, Same H H' → R H v x → R H' v x
def Rels {α : Type} (R : VR α) (H : Hp) (vs : List V) (xs : List α) : Prop := vs.length = xs.length ∧ ∀ (i : Nat) (v : V) (x : α), vs[i]? = some v → xs[i]? = some x → R H v x
theorem Rels.nil {α : Type} {R : VR α} {H : Hp} : Rels R H [] [] := ⟨rfl, fun i v x h => by simp at h⟩
theorem Rels.up {α : Type} {R : VR α} (m : Mono R) {H H' : Hp} {vs : List V} {xs : List α} (s : Same H H') (h : Rels R H vs xs) : Rels R H' vs xs := ⟨h.1, fun i v x h1 h2 => m.up s (h.2 i v x h1 h2)⟩
theorem Rels.snoc {α : Type} {R : VR α} {H : Hp} {vs : List V} {xs : List α} {v : V} {x : α} (h : Rels R H vs xs) (hx : R H v x) : Rels R H (vs ++ [v]) (xs ++ [x]) := by
  refine ⟨by rw [List.length_append, List.length_append, h.1]; rfl, fun i v' x' h1 h2 => ?_⟩
  rcases Nat.lt_or_ge i vs.length with q | q
  · rw [List.getElem?_append_left q] at h1
    rw [List.getElem?_append_left (by rw [← h.1]; exact q)] at h2
    exact h.2 i v' x' h1 h2
  · rw [List.getElem?_append_right q] at h1
    rw [List.getElem?_append_right (by rw [← h.1]; exact q), ← h.1] at h2
    have e : i - vs.length = 0 := by
      have := (List.getElem?_eq_some_iff.mp h1).1
      simp at this
      omega
    rw [e] at h1 h2
    have h1' : v = v' := Option.some.inj h1
    have h2' : x = x' := Option.some.inj h2
    subst h1' h2'
    exact hx
theorem Rels.get {α : Type} {R : VR α} {H : Hp} {vs : List V} {xs : List α} {i : Nat} {x : α} (h : Rels R H vs xs) (hx : xs[i]? = some x) : ∃ v, vs[i]? = some v ∧ R H v x := by
  have hi := (List.getElem?_eq_some_iff.mp hx).1
  have hv : vs[i]? = some (vs[i]'(by rw [h.1]; exact hi)) := List.getElem?_eq_getElem _
  exact ⟨_, hv, h.2 i _ x hv hx⟩
theorem Rels.item {α : Type} {R : VR α} {H : Hp} {vs : List V} {xs : List α} {i : Nat} {v : V} (h : Rels R H vs xs) (hv : vs[i]? = some v) : ∃ x, xs[i]? = some x ∧ R H v x := by
  have hi := (List.getElem?_eq_some_iff.mp hv).1
  have hx : xs[i]? = some (xs[i]'(by rw [← h.1]; exact hi)) := List.getElem?_eq_getElem _
  exact ⟨_, hx, h.2 i v _ hv hx⟩
/-- an int; a list of ints -/
def RI : VR Int := fun _ v i => v = .int i
theorem mono_RI : Mono RI := ⟨fun _ h => h⟩
def RL : VR (List Int) := fun H v r => ∃ p, v = .ref p ∧ H p = some (.lst (r.map V.int))
theorem mono_RL : Mono RL := ⟨fun s h => let ⟨p, e, q⟩ := h; ⟨p, e, s _ _ q⟩⟩
theorem Rels.ints : ∀ {H : Hp} {vs : List V} {xs : List Int}, Rels RI H vs xs → vs = xs.map V.int := fun {H vs xs} h => by
  refine List.ext_getElem? fun i => ?_
  rw [List.getElem?_map]
  rcases Nat.lt_or_ge i vs.length with q | q
  · have hv : vs[i]? = some (vs[i]'q) := List.getElem?_eq_getElem _
    obtain ⟨x, hx, e⟩ := h.item hv
    rw [hv, hx]
    exact congrArg some e
  · rw [List.getElem?_eq_none q, List.getElem?_eq_none (by rw [← h.1]; exact q)]
    rfl
theorem ints_rels {H : Hp} (xs : List Int) : Rels RI H (xs.map V.int) xs := ⟨by rw [List.length_map], fun i v x h1 h2 => by
  rw [List.getElem?_map, h2] at h1
  exact (Option.some.inj h1).symm⟩
/-- the list at a stands for xs -/
def LAt {α : Type} (K : PySem.W.Frag) (R : VR α) (H : Hp) (a : Addr) (xs : List α) : Prop := ∃ vs, SqL K H a vs ∧ Rels R H vs xs
theorem LAt.up {α : Type} {K : PySem.W.Frag} {R : VR α} (m : Mono R) {H H' : Hp} {a : Addr} {xs : List α} (s : Same H H') (h : LAt K R H a xs) : LAt K R H' a xs :=
  let ⟨vs, h1, h2⟩ := h
  ⟨vs, s.seq h1, h2.up m s⟩
/-- a new list of one's own -/
def LNew {α : Type} (R : VR α) (H : Hp) (a : Addr) (xs : List α) : Prop := ∃ vs, H a = some (.lst vs) ∧ Rels R H vs xs
theorem LNew.at {α : Type} {K : PySem.W.Frag} {R : VR α} {H : Hp} {a : Addr} {xs : List α} (h : LNew R H a xs) : LAt K R H a xs :=
  let ⟨vs, h1, h2⟩ := h
  ⟨vs, SqL.of h1, h2⟩
theorem LNew.ints {H : Hp} {a : Addr} {xs : List Int} (h : LNew RI H a xs) : H a = some (.lst (xs.map V.int)) := by
  obtain ⟨vs, h1, h2⟩ := h
  rw [h2.ints] at h1
  exact h1
theorem LNew.up {α : Type} {R : VR α} (m : Mono R) {H H' : Hp} {a : Addr} {xs : List α} (s : Same H H') (h : LNew R H a xs) : LNew R H' a xs :=
  let ⟨vs, h1, h2⟩ := h
  ⟨vs, s _ _ h1, h2.up m s⟩
theorem Same.new {H H1 : Hp} {p : Addr} {o : HO} (s : Same H H1) (hp : H1 p = none) : Same H (upd H1 p o) := fun b u e => by
  rw [upd_ne (ne_of_none (s b u e) hp)]
  exact s b u e
theorem Same.newH {H : Hp} {p : Addr} {o : HO} (hp : H p = none) : Same H (upd H p o) := (Same.refl H).new hp
def hide (D : Addr) (H : Hp) : Hp := fun b => if b = D then none else H b
theorem hide_ne {D b : Addr} {H : Hp} (h : b ≠ D) : hide D H b = H b := by unfold hide; rw [if_neg h]
theorem hide_at {D : Addr} {H : Hp} : hide D H D = none := by unfold hide; rw [if_pos rfl]
theorem hide_same {D : Addr} {H : Hp} : Same (hide D H) H := fun b o e => by
  by_cases q : b = D
  · rw [q, hide_at] at e; cases e
  · rw [hide_ne q] at e; exact e
theorem hide_mono {D : Addr} {H H' : Hp} (s : Same H H') : Same (hide D H) (hide D H') := fun b o e => by
  by_cases q : b = D
  · rw [q, hide_at] at e; cases e
  · rw [hide_ne q] at e ⊢; exact s b o e
theorem hide_upd {D : Addr} {H : Hp} {o : HO} : hide D (upd H D o) = hide D H := by
  funext b
  by_cases q : b = D
  · rw [q, hide_at, hide_at]
  · rw [hide_ne q, hide_ne q, upd_ne q]
theorem hide_new {D p : Addr} {H : Hp} {o : HO} (h : p ≠ D) : hide D (upd H p o) p = some o := by rw [hide_ne h, upd_same]
theorem blkOk_of {X : Cx} {N ps : List Str} {sc scope : Scope} {own : List (Str × Nat)} (S : FnScope N ps sc) (h : blkC N sc scope own = true) (hN : X.N = N := by rfl) (hs : X.env.scope = sc := by rfl) : BlkOk X.N X.env.scope scope own := by
  rw [hN, hs]
  exact blkOk_by h
theorem yes {σ : St} {H : Hp} {A B : Hp → Prop} (h : A H) : tYes σ H (fun b H3 => if b = true then A H3 else B H3) := by
  show if true = true then A H else B H
  rw [if_pos rfl]
  exact h
section
variable {α β : Type} {K : PySem.W.Frag} {a : Addr} {g : TG} {tt : TT} {te : TE} {vs : List Nat} {σ : St} {H1 : Hp}
/-- what holds of the new list at D behind some turns -/
def LcInv (R' : VR β) (H1 : Hp) (D : Addr) (ys : List β) (H : Hp) : Prop := Same H1 H ∧ ∃ us, H D = some (.lst us) ∧ Rels R' (hide D H) us ys
theorem LcInv.start {R' : VR β} {D : Addr} (hD : H1 D = none) : LcInv R' H1 D [] (upd H1 D (.lst [])) := ⟨Same.newH hD, [], upd_same, Rels.nil⟩
theorem LcInv.go {R' : VR β} (m : Mono R') {D : Addr} {ys : List β} {H H4 : Hp} {v : V} {y : β} (hD : H1 D = none) (h : LcInv R' H1 D ys H) (hl : ys.length < sizeLine) (s : Same H H4) (hy : R' (hide D H4) v y) :
    ∃ acc, H4 D = some (.lst acc) ∧ acc.length < sizeLine ∧ LcInv R' H1 D (ys ++ [y]) (upd H4 D (.lst (acc ++ [v]))) := by
  obtain ⟨h1, us, h2, h3⟩ := h
  refine ⟨us, s _ _ h2, by rw [h3.1]; exact hl, fun b o e => ?_, us ++ [v], upd_same, ?_⟩
  · rw [upd_ne (ne_of_none e hD)]
    exact s _ _ (h1 b o e)
  · rw [hide_upd]
    exact (h3.up m (hide_mono s)).snoc hy
theorem LcInv.end {R' : VR β} (m : Mono R') {D : Addr} {ys : List β} {H : Hp} (h : LcInv R' H1 D ys H) : LNew R' H D ys :=
  let ⟨_, us, h2, h3⟩ := h
  ⟨us, h2, h3.up m hide_same⟩
theorem take_f {xs : List α} {i : Nat} {x : α} (p : α → Bool) (f : α → β) (h : xs[i]? = some x) : (((xs.take (i + 1)).filter p).map f) = ((xs.take i).filter p).map f ++ (if p x = true then [f x] else []) := by
  rw [List.take_add_one, h, List.filter_append, List.map_append]
  congr 1
  show ((([x] : List α).filter p).map f) = _
  by_cases hp : p x = true
  · rw [List.filter_cons, if_pos hp, if_pos hp]; rfl
  · rw [List.filter_cons, if_neg hp, if_neg hp]; rfl
theorem take_f_len (xs : List α) (i : Nat) (p : α → Bool) (f : α → β) : (((xs.take i).filter p).map f).length ≤ xs.length := by
  rw [List.length_map]
  exact Nat.le_trans (List.length_filter_le _ _) (by rw [List.length_take]; exact Nat.min_le_right _ _)
/-- a turn of a comprehension: the target is set, the test told, the item made -/
def LcTurn (R : VR α) (R' : VR β) (H1 : Hp) (g : TG) (tt : TT) (te : TE) (vs : List Nat) (σ : St) (p : α → Bool) (f : α → β) (xs : List α) : Prop :=
  ∀ (D : Addr) (H' : Hp) (v : V) (x : α) (C : Hp → Prop) (Y : V → Hp → Prop), x ∈ xs → H1 D = none → (∃ us, H' D = some (.lst us)) → Same H1 H' → R H' v x → (p x = false → C H') →
    (p x = true → ∀ y H4, Same H' H4 → R' (hide D H4) y (f x) → Y y H4) →
    g v (wipe σ vs) H' fun σ2 H2 => wipe σ2 vs = wipe σ vs ∧ tt σ2 H2 fun b H3 => if b = true then te σ2 H3 Y else C H3
theorem lc_gen {R : VR α} {R' : VR β} (mR : Mono R) (mR' : Mono R') {xs : List α} {p : α → Bool} {f : α → β} {Q : Addr → Hp → Prop} (hA : LAt K R H1 a xs) (hlen : xs.length < sizeLine) (turn : LcTurn R R' H1 g tt te vs σ p f xs)
    (fin : ∀ (D : Addr) (H' : Hp), H1 D = none → Same H1 H' → LNew R' H' D ((xs.filter p).map f) → Q D H') :
    ∀ D, H1 D = none → ∃ W : Nat → Nat → Hp → Prop, (∃ m, W 0 m (upd H1 D (.lst []))) ∧ ∀ i m H, W i m H →
      ((Itl K a).stop i H ∧ Q D H) ∨ ((Itl K a).go i H ∧ ∃ Nx : Hp → Prop, (∀ H', Nx H' → ∃ m', m' < m ∧ W (i + 1) m' H') ∧ ∀ x H', (Itl K a).yld i H x H' → g x (wipe σ vs) H' fun σ2 H2 => wipe σ2 vs = wipe σ vs ∧ tt σ2 H2 fun b H3 =>
        if b = true then te σ2 H3 fun y H4 => ∃ acc, H4 D = some (.lst acc) ∧ acc.length < sizeLine ∧ Nx (upd H4 D (.lst (acc ++ [y]))) else Nx H3) := by
  intro D hD
  obtain ⟨ws, hS, hR⟩ := hA
  refine lc_list (K := K) (a := a) (xs := ws) (Qd := fun H' => Q D H') (fun i H' => LcInv R' H1 D (((xs.take i).filter p).map f) H') ?_ (fun i H' _ h => h.1.seq hS) ?_ ?_
  · exact LcInv.start hD
  · intro i v H' hv h
    obtain ⟨x, hx, hr⟩ := hR.item hv
    have hi := (List.getElem?_eq_some_iff.mp hx).1
    have e := take_f p f hx
    refine turn D H' v x _ _ (List.mem_of_getElem? hx) hD (let ⟨_, us, h2, _⟩ := h; ⟨us, h2⟩) h.1 (mR.up h.1 hr) (fun hp => ?_) fun hp y H4 s hy => ?_
    · rw [e, hp, if_neg Bool.false_ne_true, List.append_nil]
      exact h
    · rw [e, if_pos hp]
      exact h.go mR' hD (Nat.lt_of_le_of_lt (take_f_len xs i p f) hlen) s hy
  · intro H' h
    rw [hR.1, List.take_length] at h
    exact fin D H' hD h.1 (h.end mR')
/-- over the pairs of two lists -/
theorem lc_zip {γ : Type} {b : Addr} {R : VR α} {R2 : VR γ} {R' : VR β} (mR : Mono R) (mR2 : Mono R2) (mR' : Mono R') {xs : List α} {zs : List γ} {p : α × γ → Bool} {f : α × γ → β} {Q : Addr → Hp → Prop} (hA : LAt K R H1 a xs) (hB : LAt K R2 H1 b zs) (hlen : xs.length < sizeLine)
    (turn : ∀ (D : Addr) (H' : Hp) (T : Addr) (v w : V) (x : α) (z : γ) (C : Hp → Prop) (Y : V → Hp → Prop), (x, z) ∈ xs.zip zs → H1 D = none → (∃ us, H' D = some (.lst us)) → Same H1 H' → H' T = some (.tup [v, w]) → R H' v x → R2 H' w z → (p (x, z) = false → C H') →
      (p (x, z) = true → ∀ y H4, Same H' H4 → R' (hide D H4) y (f (x, z)) → Y y H4) →
      g (.ref T) (wipe σ vs) H' fun σ2 H2 => wipe σ2 vs = wipe σ vs ∧ tt σ2 H2 fun b H3 => if b = true then te σ2 H3 Y else C H3)
    (fin : ∀ (D : Addr) (H' : Hp), H1 D = none → Same H1 H' → LNew R' H' D (((xs.zip zs).filter p).map f) → Q D H') :
    ∀ D, H1 D = none → ∃ W : Nat → Nat → Hp → Prop, (∃ m, W 0 m (upd H1 D (.lst []))) ∧ ∀ i m H, W i m H →
      ((Itz K a b).stop i H ∧ Q D H) ∨ ((Itz K a b).go i H ∧ ∃ Nx : Hp → Prop, (∀ H', Nx H' → ∃ m', m' < m ∧ W (i + 1) m' H') ∧ ∀ x H', (Itz K a b).yld i H x H' → g x (wipe σ vs) H' fun σ2 H2 => wipe σ2 vs = wipe σ vs ∧ tt σ2 H2 fun b H3 =>
        if b = true then te σ2 H3 fun y H4 => ∃ acc, H4 D = some (.lst acc) ∧ acc.length < sizeLine ∧ Nx (upd H4 D (.lst (acc ++ [y]))) else Nx H3) := by
  intro D hD
  obtain ⟨us, hS, hR⟩ := hA
  obtain ⟨ws, hS2, hR2⟩ := hB
  have hzl : (xs.zip zs).length = min xs.length zs.length := List.length_zip
  have hzl' : (xs.zip zs).length < sizeLine := by rw [hzl]; exact Nat.lt_of_le_of_lt (Nat.min_le_left _ _) hlen
  refine ⟨fun i m H => m = (xs.zip zs).length - i ∧ i ≤ (xs.zip zs).length ∧ LcInv R' H1 D ((((xs.zip zs).take i).filter p).map f) H, ⟨_, rfl, Nat.zero_le _, LcInv.start hD⟩, ?_⟩
  rintro i m H ⟨rfl, hi, h⟩
  by_cases hlt : i < (xs.zip zs).length
  · have h1 : i < xs.length := by rw [hzl] at hlt; omega
    have h2 : i < zs.length := by rw [hzl] at hlt; omega
    obtain ⟨v, hv, rv⟩ := hR.get (List.getElem?_eq_getElem h1)
    obtain ⟨w, hw, rw'⟩ := hR2.get (List.getElem?_eq_getElem h2)
    have hx : (xs.zip zs)[i]? = some (xs[i], zs[i]) := by
      rw [List.getElem?_eq_getElem hlt, List.getElem_zip]
    have e := take_f p f hx
    refine .inr ⟨⟨us, ws, v, w, h.1.seq hS, h.1.seq hS2, hv, hw⟩, fun H' => LcInv R' H1 D ((((xs.zip zs).take (i + 1)).filter p).map f) H', fun H' p' => ⟨_, by omega, rfl, hlt, p'⟩, fun y H' yl => ?_⟩
    obtain ⟨T, v', w', rfl, hT, rfl, hv', hw'⟩ := yl
    have ev : v = v' := Option.some.inj (hv.symm.trans (hv' us (h.1.seq hS)))
    have ew : w = w' := Option.some.inj (hw.symm.trans (hw' ws (h.1.seq hS2)))
    subst ev ew
    have sT : Same H (upd H T (.tup [v, w])) := Same.newH hT
    have hD' : ∃ us, H D = some (.lst us) := let ⟨_, us, h2, _⟩ := h; ⟨us, h2⟩
    have hDT : T ≠ D := fun q => by
      obtain ⟨us, z⟩ := hD'
      rw [q, z] at hT; cases hT
    have h' : LcInv R' H1 D ((((xs.zip zs).take i).filter p).map f) (upd H T (.tup [v, w])) := by
      obtain ⟨q1, us', q2, q3⟩ := h
      exact ⟨q1.trans sT, us', sT _ _ q2, q3.up mR' (hide_mono sT)⟩
    refine turn D _ T v w _ _ _ _ (List.mem_of_getElem? hx) hD (let ⟨us, z⟩ := hD'; ⟨us, sT _ _ z⟩) h'.1 upd_same (mR.up h'.1 rv) (mR2.up h'.1 rw') (fun hp => ?_) fun hp y H4 s hy => ?_
    · rw [e, hp, if_neg Bool.false_ne_true, List.append_nil]
      exact h'
    · rw [e, if_pos hp]
      exact h'.go mR' hD (Nat.lt_of_le_of_lt (take_f_len (xs.zip zs) i p f) hzl') s hy
  · have e : i = (xs.zip zs).length := by omega
    subst e
    rw [List.take_length] at h
    refine .inl ⟨⟨us, ws, h.1.seq hS, h.1.seq hS2, ?_⟩, fin D H hD h.1 (h.end mR')⟩
    rw [hR.1, hR2.1, hzl]
    omega
/-- over the signs of a text -/
theorem lc_str {x : Str} {R' : VR β} (mR' : Mono R') {f : Nat → β} {Q : Addr → Hp → Prop} (hlen : x.cps.size < sizeLine)
    (turn : ∀ (D : Addr) (H' : Hp) (c : Nat) (Y : V → Hp → Prop), c ∈ x.cps.toList → H1 D = none → Same H1 H' → (∀ y H4, Same H' H4 → R' (hide D H4) y (f c) → Y y H4) →
      g (.str ⟨#[c]⟩) (wipe σ vs) H' fun σ2 H2 => wipe σ2 vs = wipe σ vs ∧ te σ2 H2 Y)
    (fin : ∀ (D : Addr) (H' : Hp), H1 D = none → Same H1 H' → LNew R' H' D (x.cps.toList.map f) → Q D H') (gm : ∀ v σ H (Q Q' : St → Hp → Prop), (∀ σ' H', Q σ' H' → Q' σ' H') → g v σ H Q → g v σ H Q') :
    ∀ D, H1 D = none → ∃ W : Nat → Nat → Hp → Prop, (∃ m, W 0 m (upd H1 D (.lst []))) ∧ ∀ i m H, W i m H →
      ((Its x).stop i H ∧ Q D H) ∨ ((Its x).go i H ∧ ∃ Nx : Hp → Prop, (∀ H', Nx H' → ∃ m', m' < m ∧ W (i + 1) m' H') ∧ ∀ y H', (Its x).yld i H y H' → g y (wipe σ vs) H' fun σ2 H2 => wipe σ2 vs = wipe σ vs ∧ tYes σ2 H2 fun b H3 =>
        if b = true then te σ2 H3 fun y H4 => ∃ acc, H4 D = some (.lst acc) ∧ acc.length < sizeLine ∧ Nx (upd H4 D (.lst (acc ++ [y]))) else Nx H3) := by
  intro D hD
  refine ⟨fun i m H => m = x.cps.size - i ∧ i ≤ x.cps.size ∧ LcInv R' H1 D ((x.cps.toList.take i).map f) H, ⟨_, rfl, Nat.zero_le _, LcInv.start hD⟩, ?_⟩
  rintro i m H ⟨rfl, hi, h⟩
  by_cases hlt : i < x.cps.size
  · refine .inr ⟨hlt, fun H' => LcInv R' H1 D ((x.cps.toList.take (i + 1)).map f) H', fun H' p' => ⟨_, by omega, rfl, hlt, p'⟩, fun y H' yl => ?_⟩
    obtain ⟨rfl, c, hc, rfl⟩ := yl
    have hc' : x.cps.toList[i]? = some c := by rw [Array.getElem?_toList]; exact hc
    have e : (x.cps.toList.take (i + 1)).map f = (x.cps.toList.take i).map f ++ [f c] := by
      rw [List.take_add_one, hc', List.map_append]; rfl
    refine gm _ _ _ _ _ (fun σ' H' q => ?_) (turn D _ c (fun y H4 => ∃ acc, H4 D = some (.lst acc) ∧ acc.length < sizeLine ∧ LcInv R' H1 D ((x.cps.toList.take (i + 1)).map f) (upd H4 D (.lst (acc ++ [y])))) (List.mem_of_getElem? hc') hD h.1 fun y H4 s hy => ?_)
    · exact ⟨q.1, yes q.2⟩
    · rw [e]
      refine h.go mR' hD ?_ s hy
      rw [List.length_map, List.length_take]
      exact Nat.lt_of_le_of_lt (Nat.min_le_right _ _) (by rw [Array.length_toList]; exact hlen)
  · have e : i = x.cps.size := by omega
    subst e
    rw [← Array.length_toList, List.take_length] at h
    exact .inl ⟨Nat.le_refl _, fin D H hD h.1 (h.end mR')⟩
end
section
variable {α : Type} {K : PySem.W.Frag} {a : Addr} {g : TG} {tb : TS} {D : Ends} {σ : St} {H : Hp}
theorem for_gen {R : VR α} (mR : Mono R) {xs : List α} (hA : LAt K R H a xs) (Pv : Nat → St → Hp → Prop) (h0 : Pv 0 σ H) (hS : ∀ i σ' H', Pv i σ' H' → Same H H')
    (hs : ∀ i v x σ' H', xs[i]? = some x → R H' v x → Pv i σ' H' → g v σ' H' fun σ2 H2 => tb { D with nx := Pv (i + 1), ct := Pv (i + 1), bk := D.nx } σ2 H2) (hd : ∀ σ' H', Pv xs.length σ' H' → D.nx σ' H') :
    ∃ W : Nat → Nat → St → Hp → Prop, (∃ m, W 0 m σ H) ∧ ∀ i m σ H, W i m σ H →
      ((Itl K a).stop i H ∧ D.nx σ H) ∨ ((Itl K a).go i H ∧ ∃ N : St → Hp → Prop, (∀ σ' H', N σ' H' → ∃ m', m' < m ∧ W (i + 1) m' σ' H') ∧ ∀ x H', (Itl K a).yld i H x H' → g x σ H' fun σ2 H2 => tb { D with nx := N, ct := N, bk := D.nx } σ2 H2) := by
  obtain ⟨vs, h1, h2⟩ := hA
  refine for_list (K := K) (a := a) (xs := vs) Pv h0 (fun i σ' H' _ p => (hS i σ' H' p).seq h1) (fun i v σ' H' hv p => ?_) fun σ' H' p => hd σ' H' (by rw [← h2.1]; exact p)
  obtain ⟨x, hx, hr⟩ := h2.item hv
  exact hs i v x σ' H' hx (mR.up (hS i σ' H' p) hr) p
/-- over enumerate, from 0 or from 1 -/
theorem for_enumN {R : VR α} (mR : Mono R) {xs : List α} (hA : LAt K R H a xs) (J : It) (z : Int) (hgo : ∀ i H' vs v, SqL K H' a vs → vs[i]? = some v → J.go i H') (hst : ∀ i H' vs, SqL K H' a vs → vs.length ≤ i → J.stop i H')
    (hy : ∀ i H' u H2, J.yld i H' u H2 → ∃ T x, u = .ref T ∧ H' T = none ∧ H2 = upd H' T (.tup [.int ((i : Nat) + z), x]) ∧ ∀ ws, SqL K H' a ws → ws[i]? = some x)
    (Pv : Nat → St → Hp → Prop) (h0 : Pv 0 σ H) (hS : ∀ i σ' H', Pv i σ' H' → Same H H')
    (hs : ∀ i T v x σ' H', xs[i]? = some x → H' T = none → R H' v x → Pv i σ' H' → g (.ref T) σ' (upd H' T (.tup [.int ((i : Nat) + z), v])) fun σ2 H2 => tb { D with nx := Pv (i + 1), ct := Pv (i + 1), bk := D.nx } σ2 H2) (hd : ∀ σ' H', Pv xs.length σ' H' → D.nx σ' H') :
    ∃ W : Nat → Nat → St → Hp → Prop, (∃ m, W 0 m σ H) ∧ ∀ i m σ H, W i m σ H →
      (J.stop i H ∧ D.nx σ H) ∨ (J.go i H ∧ ∃ N : St → Hp → Prop, (∀ σ' H', N σ' H' → ∃ m', m' < m ∧ W (i + 1) m' σ' H') ∧ ∀ x H', J.yld i H x H' → g x σ H' fun σ2 H2 => tb { D with nx := N, ct := N, bk := D.nx } σ2 H2) := by
  obtain ⟨vs, h1, h2⟩ := hA
  refine ⟨fun i m σ H => m = xs.length - i ∧ i ≤ xs.length ∧ Pv i σ H, ⟨_, rfl, Nat.zero_le _, h0⟩, ?_⟩
  rintro i m σ' H' ⟨rfl, hi, p⟩
  have q := (hS i σ' H' p).seq (K := K) h1
  by_cases hlt : i < xs.length
  · obtain ⟨v, hv, hr⟩ := h2.get (List.getElem?_eq_getElem hlt)
    refine .inr ⟨hgo i H' vs v q hv, Pv (i + 1), fun σ' H' p' => ⟨_, by omega, rfl, hlt, p'⟩, fun y H2 yl => ?_⟩
    obtain ⟨T, v', rfl, hT, rfl, hv'⟩ := hy i H' y H2 yl
    have ev : v = v' := Option.some.inj (hv.symm.trans (hv' vs q))
    subst ev
    exact hs i T v _ σ' H' (List.getElem?_eq_getElem hlt) hT (mR.up (hS i σ' H' p) hr) p
  · have e : i = xs.length := by omega
    subst e
    exact .inl ⟨hst _ H' vs q (by rw [h2.1]; exact Nat.le_refl _), hd σ' H' p⟩
end
section
variable {X : Cx}
def rSortedN (K : PySem.W.Frag) : List V → Hp → VK → Prop := fun vs H Q => ∃ (a : Addr) (ns : List Int), vs = [V.ref a] ∧ SqL K H a (ns.map V.int) ∧
  ∀ (ns' : List Int) (p : Addr), ns'.Perm ns → ns'.Pairwise (· ≤ ·) → H p = none → Q (.ref p) (upd H p (.lst (ns'.map V.int)))
theorem cr_sortedN : CallR X (.builtin "sorted") (rSortedN X.K) := by
  intro pins s σ H vs us Q I r h
  obtain ⟨a, ns, rfl, hs, q⟩ := h
  obtain ⟨its, rv, hl, hz⟩ := I.list hs
  rw [Vals.ref1 r]
  have hi := rv.ints
  have hL : ns.length ≤ sizeLine := by simpa using hz
  refine PyProof.Rows.sorted_intsAny hl.isList hi (by rw [hi.length]; exact hL) fun out ns' h1 h2 h3 => ?_
  obtain ⟨ep, he'⟩ := PyProof.Rows.sortedAll_at s.heap its out
  have hlen : (ns'.map V.int).length ≤ sizeLine := by rw [List.length_map, h2.length_eq]; exact hL
  exact ⟨.ref _, upd H (s.heap.objs.size + 1) (.lst (ns'.map V.int)), I.laid (t' := s.toks) (fun _ _ => PyProof.Rows.sortedAll_old) (Nat.le_succ _) ⟨hlen, out.toList, ep, vals_of_ints h1, he'⟩, rfl, q ns' _ h2 h3 (I.hok.fresh (Nat.le_succ _))⟩
theorem ixT {X : Cx} {K : PySem.W.Frag} (h : X.K = K) : IxR X (rIxT K) := h ▸ ix_tup
theorem srtN {X : Cx} {K : PySem.W.Frag} (h : X.K = K) : CallR X (.builtin "sorted") (rSortedN K) := h ▸ cr_sortedN
theorem pgT {X : Cx} {K : PySem.W.Frag} {es : List Expr} {k : Nat} {t : TGs} {n : Nat} {pos : Pos} (hK : X.K = K) (hc : X.calm = true) (h : PGs X es t)
    (hn : (assignEach es X.env).length = n := by rfl) (hst : (assignEach es X.env).findIdx? (·.1) = none := by rfl) : PG X (.Tuple es k pos) (gTup K n t) := hK ▸ pg_tup hc h hn hst
def ModD (P : Program) (w : World) (K : PySem.W.Frag) (a : Addr) (kvs : List (Key × Value)) : Prop := ∀ h : Heap, K.In h → h.DictOf (mixKind P w) a kvs
def tDGetK (P : Program) (w : World) (K : PySem.W.Frag) (td ty : TE) : TE := fun σ H Q => td σ H fun x H1 => ty σ H1 fun y H2 => ∃ (a : Addr) (kvs : List (Key × Value)) (k : Key) (v : V) (u : Value), x = .ref a ∧ ModD P w K a kvs ∧ y = kV k ∧ valueAt kvs k = some u ∧ RelV v u ∧ Q v H2
theorem pe_dgetK {o i : Expr} {td ty : TE} {pos : Pos} (ho : PE X o td) (hi : PE X i ty) (hs : NoSl i) : PE X (.Subscript o i pos) (tDGetK X.prog X.w X.K td ty) := by
  intro pins s σ H Q I h
  refine subD_of PySem.F.slot_dict_getitem.lookup hs (thn (ho pins s σ H _ I h) fun u s1 ⟨x, H1, I1, rx, q1⟩ => thn (hi pins s1 σ H1 _ I1 q1) fun iv s2 ⟨y, H2, I2, ry, a, kvs, k, v, u', ex, g, ey, hv, rv, q2⟩ => ?_)
  subst ex ey
  obtain rfl : u = Value.ref a := rx
  have dd := g _ I2.kIn
  exact ⟨dd.typeIs, wpAny_getItem_of (kV_is ry) dd.mapOf hv ⟨v, H2, I2.tok _, rv, q2⟩⟩
end
end L2
end
section
set_option Elab.async false
set_option linter.all false
set_option maxRecDepth 100000
namespace LP
open PySem PySem.Spec PyProof.Rows L2
open LS
def top (i : Nat) : Stmt := PySem.Challenge.pw_lastingshares_s01_answers.main.body.getD i (.Pass ⟨0, 0, 0, 0⟩)
abbrev sWithin : Stmt := top 24
abbrev sParted : Stmt := top 25
structure Txt (K : PySem.W.Frag) (mg : Str → Option Value) : Prop where
  NEWLINE : ∃ t, mg "NEWLINE" = some (.int 10 t)
  BLANK : ∃ t, mg "BLANK" = some (.int 32 t)
  DIGIT_ZERO : ∃ t, mg "DIGIT_ZERO" = some (.int 48 t)
  DIGIT_NINE : ∃ t, mg "DIGIT_NINE" = some (.int 57 t)
  MOST_BYTES : ∃ t, mg "MOST_BYTES" = some (.int 4096 t)
  MOST_PEOPLE : ∃ t, mg "MOST_PEOPLE" = some (.int 20 t)
  LATEST : ∃ t, mg "LATEST" = some (.int 1000000 t)
  ALL : ∃ t, mg "ALL" = some (.int 2 t)
  TOO_LONG : ∃ t, mg "TOO_LONG" = some (.int (-1) t)
  OUT_OF_RANGE : ∃ t, mg "OUT_OF_RANGE" = some (.int (-2) t)
  NO_HALF : ∃ t, mg "NO_HALF" = some (.int (-3) t)
  WRONG_LINE : ∃ t, mg "WRONG_LINE" = some (.int (-100) t)
  LASTS : ∃ t, mg "LASTS" = some (.int 1 t)
  SPREAD : ∃ t, mg "SPREAD" = some (.int 2 t)
  HALF : ∃ t, mg "HALF" = some (.int 4 t)
  GAP : ∃ t, mg "GAP" = some (.int 5 t)
  SWAY : ∃ t, mg "SWAY" = some (.int 6 t)
  PAIRS : ∃ t, mg "PAIRS" = some (.int 7 t)
  RARE : ∃ t, mg "RARE" = some (.int 8 t)
  TIMES_TOGETHER : ∃ t, mg "TIMES_TOGETHER" = some (.int 0 t)
  PAIRS_TOGETHER : ∃ t, mg "PAIRS_TOGETHER" = some (.int 1 t)
  LAST_MEASURE : ∃ t, mg "LAST_MEASURE" = some (.int 2 t)
  len : mg "len" = none
  ord : mg "ord" = none
  set : mg "set" = none
  sorted : mg "sorted" = none
  enumerate : mg "enumerate" = none
  sum : mg "sum" = none
  zip : mg "zip" = none
def vN (n : Nat) : V := .int (n : Int)
def vB (b : List Nat) : List V := b.map vN
section
variable {P : Program} {w : World} {K : PySem.W.Frag} {mg : Str → Option Value} {base : Heap}
theorem pk {X : Cx} {x : Str} {i : Int} {pos : Pos} (h : ∃ t, X.mg x = some (.int i t)) (hg : Gl X x := by rfl) (hd : (x == ("__debug__" : Str)) = false := by decide) : PE X (.Name x pos) (tC (.int i)) := by
  obtain ⟨t, h⟩ := h
  exact pe_glob hg h ⟨t, rfl⟩ hd
def spWithin : Sp := fun vs H Q _ => ∃ (n g : Int), vs = [.int n, .int g] ∧ Q (.bl (decide (inR g n))) H
theorem scWithin : FnScope ["number", "greatest"] ["number", "greatest"] (defScope sWithin) := ⟨rfl, rfl, rfl, by decide +kernel, rfl, by decide +kernel, by decide +kernel⟩
theorem ok_within {f : Addr} {fd : FuncData} (F : Fun K "within" "within" sWithin f fd) : FnOk P w K mg base CX0 1 f fd ["number", "greatest"] spWithin := by
  refine F.ok scWithin (fun vs H Q E h => ?_) (fun cdv A outer s H vs Q E hr h => ?_)
  · obtain ⟨n, g, rfl, _⟩ := h
    rfl
  · obtain ⟨n, g, rfl, k⟩ := h
    refine ⟨_, pss_one (ps_ret (pe_and (pe_cmpR op_le pe_int (pv 0) (nomark _)) (pe_one (pe_cmpR op_le (pv 0) (pv 1) (nomark _))))), ?_⟩
    refine ⟨_, rfl, _, _, rfl, rfl, _, rfl, ite2 (fun h1 => ?_) fun h1 => ?_⟩
    · refine ⟨_, rfl, _, rfl, _, _, rfl, rfl, ?_⟩
      have h1 := of_decide_eq_true h1
      have e : decide (inR g n) = decide (n ≤ g) := by
        by_cases h2 : n ≤ g
        · rw [decide_eq_true h2, decide_eq_true (show inR g n from ⟨h1, h2⟩)]
        · rw [decide_eq_false h2, decide_eq_false (show ¬ inR g n from fun q => h2 q.2)]
      rw [e] at k
      exact k
    · have e : decide (inR g n) = false := decide_eq_false fun q => h1 (decide_eq_true q.1)
      rw [e] at k
      exact k
/-- lists of numbers at rs, none of them twice -/
structure RunsAt (H : Hp) (rs : List Addr) (ps : List (List Nat)) : Prop where
  len : rs.length = ps.length
  nd : rs.Nodup
  at_ : ∀ (j : Nat) (r : Addr) (p : List Nat), rs[j]? = some r → ps[j]? = some p → H r = some (.lst (vB p))
theorem RunsAt.nil (H : Hp) : RunsAt H [] [] := ⟨rfl, List.nodup_nil, fun j r p h => by simp at h⟩
theorem RunsAt.mono {H H' : Hp} {rs : List Addr} {ps : List (List Nat)} (R : RunsAt H rs ps) (h : ∀ r ∈ rs, H' r = H r) : RunsAt H' rs ps :=
  ⟨R.len, R.nd, fun j r p h1 h2 => (h r (List.mem_of_getElem? h1)).trans (R.at_ j r p h1 h2)⟩
theorem RunsAt.has {H : Hp} {rs : List Addr} {ps : List (List Nat)} (R : RunsAt H rs ps) {r : Addr} (h : r ∈ rs) : ∃ p, H r = some (.lst (vB p)) := by
  obtain ⟨j, hj⟩ := List.getElem?_of_mem h
  obtain ⟨hl, _⟩ := List.getElem?_eq_some_iff.mp hj
  exact ⟨_, R.at_ j r _ hj (List.getElem?_eq_getElem (by rw [← R.len]; exact hl))⟩
theorem RunsAt.snoc {H : Hp} {rs : List Addr} {ps : List (List Nat)} {r : Addr} {p : List Nat} (R : RunsAt H rs ps) (hr : r ∉ rs) (hp : H r = some (.lst (vB p))) : RunsAt H (rs ++ [r]) (ps ++ [p]) := by
  refine ⟨by rw [List.length_append, List.length_append, R.len]; rfl, nd_snoc R.nd hr, fun j r' p' h1 h2 => ?_⟩
  rcases Nat.lt_or_ge j rs.length with q | q
  · rw [List.getElem?_append_left q] at h1
    rw [List.getElem?_append_left (by rw [← R.len]; exact q)] at h2
    exact R.at_ j r' p' h1 h2
  · rw [List.getElem?_append_right q] at h1
    rw [List.getElem?_append_right (by rw [← R.len]; exact q)] at h2
    have e : j - rs.length = 0 := by
      have := (List.getElem?_eq_some_iff.mp h1).1
      simp at this
      omega
    have e2 : j - ps.length = 0 := by rw [← R.len]; exact e
    rw [e] at h1
    rw [e2] at h2
    have h1' : r = r' := Option.some.inj h1
    have h2' : p = p' := Option.some.inj h2
    subst h1' h2'
    exact hp
/-- what was tracked is as it was, rs are new -/
def Fresh (H : Hp) (rs : List Addr) : Prop := ∀ r ∈ rs, H r = none
def spParted (K : PySem.W.Frag) : Sp := fun vs H Q _ => ∃ (a : Addr) (b : List Nat) (c : Nat), vs = [.ref a, vN c] ∧ SqL K H a (vB b) ∧ b.length ≤ 4096 ∧
  ∀ (H' : Hp) (p : Addr) (rs : List Addr), Same H H' → H p = none → H' p = some (.lst (rs.map V.ref)) → RunsAt H' rs (Sd58.pieces c b) → Fresh H rs → p ∉ rs → Q (.ref p) H'
theorem scParted : FnScope ["numbers", "mark", "runs", "number"] ["numbers", "mark"] (defScope sParted) := ⟨rfl, rfl, rfl, by decide +kernel, rfl, by decide +kernel, by decide +kernel⟩
theorem vB_at {b : List Nat} {i : Nat} {x : V} (h : (vB b)[i]? = some x) : ∃ n, b[i]? = some n ∧ x = vN n := by
  unfold vB at h
  rw [List.getElem?_map] at h
  cases e : b[i]? with
  | none => rw [e] at h; cases h
  | some n => rw [e] at h; exact ⟨n, rfl, (Option.some.inj h).symm⟩
theorem take_snoc {α : Type} {l : List α} {i : Nat} {x : α} (h : l[i]? = some x) : l.take (i + 1) = l.take i ++ [x] := by
  rw [List.take_add_one, h]
  rfl
theorem cut_len (c : Nat) : ∀ (b : List Nat) (s : List (List Nat) × List Nat), (b.foldl (cutStep c) s).1.length + (b.foldl (cutStep c) s).2.length ≤ s.1.length + s.2.length + b.length
  | [], s => by simp
  | x :: r, s => by
    have ih := cut_len c r (cutStep c s x)
    have h1 : (cutStep c s x).1.length + (cutStep c s x).2.length ≤ s.1.length + s.2.length + 1 := by
      unfold cutStep
      split
      · simp
      · simp; omega
    rw [List.foldl_cons, List.length_cons]
    omega
theorem ok_parted {f : Addr} {fd : FuncData} (F : Fun K "parted" "parted" sParted f fd) : FnOk P w K mg base CX0 1 f fd ["numbers", "mark"] (spParted K) := by
  refine F.ok scParted (fun vs H Q E h => ?_) (fun cdv A outer s H vs Q E hr h => ?_)
  · obtain ⟨a, b, c, rfl, _⟩ := h
    rfl
  · obtain ⟨a, b, c, rfl, hS, hlen, k⟩ := h
    have hL : sizeLine = 16777216 := by decide
    refine ⟨_, pss_cons (ps_set (i := 2) scParted.nd rfl (Or.inl rfl) (pe_lst (pa_cons (pe_lst pa_nil) pa_nil)))
      (pss_cons (ps_for PassesOwn.never rfl (pi_list (pv 0)) (pg_name (i := 3) scParted.nd rfl (Or.inl rfl))
        (pss_one (ps_if (pt_cmpR op_eq (pv 3) (pv 1) (nomark _))
          (pss_one (ps_expr (pe_bm PySem.F.plainAttrs_list PySem.F.slot_list_append PySem.F.type_list_append mt_append (pv 2) (pa_cons (pe_lst pa_nil) pa_nil))))
          (pss_one (ps_expr (pe_bm PySem.F.plainAttrs_list PySem.F.slot_list_append PySem.F.type_list_append mt_append (pe_ix ix_list (pv 2) (pe_un un_neg pe_int) (fun _ _ => rfl)) (pa_cons (pv 3) pa_nil)))))))
      (pss_one (ps_ret (pv 2)))), ?_⟩
    refine ⟨Nat.zero_le _, fun r0 hr0 => ⟨(by show 1 ≤ sizeLine; decide), fun l hl => ?_⟩⟩
    have hlr : l ≠ r0 := fun q => by rw [q, upd_same] at hl; cases hl
    have hl0 : H l = none := by rw [upd_ne hlr] at hl; exact hl
    have s0 : Same H (upd (upd H r0 (.lst [])) l (.lst [.ref r0])) := fun z o e => by
      rw [upd_ne (ne_of_none e hl0), upd_ne (ne_of_none e hr0)]
      exact e
    refine ⟨_, rfl, a, rfl, ⟨_, s0.seq hS⟩, for_list (K := K) (a := a) (xs := vB b) (fun i σ H' => ∃ (v : Option V) (rs : List Addr) (r : Addr), σ = [some (.ref a), some (vN c), some (.ref l), v] ∧ Same H H' ∧
        H' l = some (.lst ((rs ++ [r]).map V.ref)) ∧ RunsAt H' rs ((b.take i).foldl (cutStep c) ([], [])).1 ∧ H' r = some (.lst (vB ((b.take i).foldl (cutStep c) ([], [])).2)) ∧ r ∉ rs ∧ Fresh H (rs ++ [r]) ∧ l ∉ rs ++ [r])
      ⟨none, [], r0, rfl, s0, upd_same, RunsAt.nil _, by rw [upd_ne (Ne.symm hlr), upd_same]; rfl, by simp, fun r hr => by
        have e : r = r0 := by simpa using hr
        rw [e]; exact hr0, by simpa using hlr⟩ (fun i σ H' _ ⟨_, _, _, _, s1, _⟩ => s1.seq hS) ?_ ?_⟩
    · rintro i y σ H' hi ⟨v, rs, r, rfl, s1, h1, h2, h3, h4, h5, h6⟩
      obtain ⟨n, hn, rfl⟩ := vB_at hi
      have eF : (b.take (i + 1)).foldl (cutStep c) ([], []) = cutStep c ((b.take i).foldl (cutStep c) ([], [])) n := by
        rw [take_snoc hn, List.foldl_append]
        rfl
      have hsz := cut_len c (b.take i) ([], [])
      have hti : (b.take i).length ≤ 4096 := Nat.le_trans (by rw [List.length_take]; exact Nat.min_le_right _ _) hlen
      generalize hst : (b.take i).foldl (cutStep c) ([], []) = st at eF h2 h3 hsz
      obtain ⟨d, cur⟩ := st
      dsimp only at h2 h3 hsz
      have hld : d.length + cur.length ≤ 4096 := by simp at hsz; omega
      refine ⟨_, rfl, _, rfl, rfl, _, rfl, ite2 (fun hc => ?_) fun hc => ?_⟩
      · -- the mark: a new run
        have hnc : n = c := by
          have := of_decide_eq_true hc
          have := V.int.inj this
          omega
        refine ⟨_, rfl, .inl ⟨rfl, _, SqL.of h1⟩, Nat.zero_le _, fun q hq => ?_⟩
        have hql : q ≠ l := fun z => by rw [z, h1] at hq; cases hq
        refine ⟨l, _, _, rfl, rfl, (by rw [upd_ne (Ne.symm hql)]; exact h1), (by rw [List.length_map, List.length_append]; have := h2.len; simp; omega), ?_⟩
        have hqr : q ≠ r := fun z => by rw [z, h3] at hq; cases hq
        have hqs : q ∉ rs := fun z => by
          obtain ⟨p, e⟩ := h2.has z
          rw [hq] at e; cases e
        have e1 : cutStep c (d, cur) n = (d ++ [cur], []) := by unfold cutStep; rw [if_pos hnc]
        have keep : ∀ z ∈ rs ++ [r], upd (upd H' q (.lst [])) l (.lst ((rs ++ [r]).map V.ref ++ [V.ref q])) z = H' z := fun z hz => by
          have hzq : z ≠ q := fun e => by
            rw [e] at hz
            rcases List.mem_append.mp hz with m | m
            · exact hqs m
            · exact hqr (List.mem_singleton.mp m)
          have hzl : z ≠ l := fun e => h6 (by rw [← e]; exact hz)
          rw [upd_ne hzl, upd_ne hzq]
        refine ⟨_, rs ++ [r], q, rfl, fun z o e => ?_, by rw [upd_same]; simp, ?_, by rw [eF, e1, upd_ne hql, upd_same]; rfl, ?_, ?_, ?_⟩
        · have e' := s1 z o e
          rw [upd_ne (ne_of_none e hl0), upd_ne (ne_of_none e' hq)]
          exact e'
        · rw [eF, e1]
          refine RunsAt.snoc (h2.mono fun z hz => keep z (List.mem_append_left _ hz)) h4 ?_
          rw [keep r (List.mem_append_right _ (List.mem_singleton.mpr rfl))]
          exact h3
        · intro m
          rcases List.mem_append.mp m with m | m
          · exact hqs m
          · exact hqr (List.mem_singleton.mp m)
        · intro z hz
          rcases List.mem_append.mp hz with m | m
          · exact h5 z m
          · rw [List.mem_singleton.mp m]
            exact s1.free hq
        · intro m
          rcases List.mem_append.mp m with m | m
          · exact h6 m
          · exact hql (List.mem_singleton.mp m).symm
      · -- the run grows
        have hnc : ¬ n = c := fun q => hc (decide_eq_true (by rw [q]))
        have e1 : cutStep c (d, cur) n = (d, cur ++ [n]) := by unfold cutStep; rw [if_neg hnc]
        have hrl : r ≠ l := fun e => h6 (by rw [← e]; exact List.mem_append_right _ (List.mem_singleton.mpr rfl))
        refine ⟨_, rfl, _, rfl, l, _, _, V.ref r, rfl, rfl, SqL.of h1, (by rw [List.map_append]; exact atI_last _ _), .inl ⟨rfl, _, SqL.of h3⟩, _, rfl, r, _, _, rfl, rfl, h3, (by unfold vB; rw [List.length_map]; omega), ?_⟩
        refine ⟨_, rs, r, rfl, fun z o e => ?_, by rw [upd_ne (Ne.symm hrl)]; exact h1, ?_, ?_, h4, h5, h6⟩
        · rw [upd_ne (fun q => by rw [q, h5 r (List.mem_append_right _ (List.mem_singleton.mpr rfl))] at e; cases e)]
          exact s1 z o e
        · rw [eF, e1]
          exact h2.mono fun z hz => upd_ne fun q => h4 (q ▸ hz)
        · rw [eF, e1, upd_same]
          unfold vB
          rw [List.map_append]
          rfl
    · rintro σ H' ⟨v, rs, r, rfl, s1, h1, h2, h3, h4, h5, h6⟩
      have hbl : (vB b).length = b.length := by unfold vB; rw [List.length_map]
      rw [hbl, List.take_length] at h2 h3
      refine ⟨_, rfl, ?_⟩
      have R := RunsAt.snoc h2 h4 h3
      rw [cut_all] at R
      exact k H' l (rs ++ [r]) s1 hl0 h1 R h5 h6
end
end LP
end
section
set_option Elab.async false
set_option linter.all false
set_option maxRecDepth 100000
namespace LP
open PySem PySem.Spec PyProof.Rows L2
open LS
abbrev sLines : Stmt := top 26
abbrev sNumber : Stmt := top 27
abbrev sPerson : Stmt := top 28
structure DefAt (K : PySem.W.Frag) (mg : Str → Option Value) (x : Str) (st : Stmt) (ps : List Str) (f : Addr) (fd : FuncData) : Prop where
  F : Fun K x x st f fd
  mg : mg x = some (.ref f)
  b : Binds K fd ps []
section
variable {X : Cx} {x : Str} {st : Stmt} {ps : List Str} {f : Addr} {fd : FuncData} {j k : Nat} {sp : Sp} {e : Expr} {es : List Expr} {t : TA} {p pos : Pos}
theorem pcall (G : FnOk X.prog X.w X.K X.mg X.base CX0 j f fd ps sp) (D : DefAt X.K X.mg x st ps f fd) (hr : Room k X.A) (hj : j ≤ k) (ha : PA X (e :: es) t) (hg : Gl X x := by rfl) (hdb : (x == ("__debug__" : Str)) = false := by decide)
    (he : starEach (e :: es) X.env = (false, eval e X.env) :: starEach es X.env := by rfl) (hpl : (backTo pos (starEach es X.env)).any (·.1) = false := by rfl) : PE X (.Call (.Name x p) (e :: es) [] pos) (tCall sp [] E0 t) :=
  pe_call G (hr.mono hj) hg D.mg D.F.kp D.b .nil pass0 ha hdb he hpl
end
section
variable {P : Program} {w : World} {K : PySem.W.Frag} {mg : Str → Option Value} {base : Heap}
def spLines (K : PySem.W.Frag) : Sp := fun vs H Q _ => ∃ (a : Addr) (b : List Nat), vs = [.ref a] ∧ SqL K H a (vB b) ∧ b.length ≤ 4096 ∧
  ∀ (H' : Hp) (p : Addr) (rs : List Addr), Same H H' → H p = none → H' p = some (.lst (rs.map V.ref)) → RunsAt H' rs (Sd58.linesOf b) → Fresh H rs → Q (.ref p) H'
theorem scLines : FnScope ["text", "lines"] ["text"] (defScope sLines) := ⟨rfl, rfl, rfl, by decide +kernel, rfl, by decide +kernel, by decide +kernel⟩
theorem RunsAt.dropLast {H : Hp} {rs : List Addr} {ps : List (List Nat)} (R : RunsAt H rs ps) : RunsAt H rs.dropLast ps.dropLast := by
  refine ⟨by rw [List.length_dropLast, List.length_dropLast, R.len], List.Pairwise.sublist (List.dropLast_sublist _) R.nd, fun j r p h1 h2 => ?_⟩
  rw [List.getElem?_dropLast] at h1 h2
  split at h1
  · split at h2
    · exact R.at_ j r p h1 h2
    · cases h2
  · cases h1
theorem linesOf_eq (b : List Nat) : Sd58.linesOf b = if (Sd58.pieces 10 b).getLast? = some [] then (Sd58.pieces 10 b).dropLast else Sd58.pieces 10 b := rfl
theorem last_split {α : Type} {l : List α} (h : l ≠ []) : ∃ i x, l = i ++ [x] := ⟨l.dropLast, l.getLast h, (List.dropLast_concat_getLast h).symm⟩
theorem ok_lines {f fP : Addr} {fd fdP : FuncData} (T : Txt K mg) (F : Fun K "lines_of" "lines_of" sLines f fd) (DP : DefAt K mg "parted" sParted ["numbers", "mark"] fP fdP) : FnOk P w K mg base CX0 2 f fd ["text"] (spLines K) := by
  have GP : FnOk P w K mg base CX0 1 fP fdP ["numbers", "mark"] (spParted K) := ok_parted DP.F
  refine F.ok scLines (fun vs H Q E h => ?_) (fun cdv A outer s H vs Q E hr h => ?_)
  · obtain ⟨a, b, rfl, _⟩ := h
    rfl
  · obtain ⟨a, b, rfl, hS, hlen, k⟩ := h
    refine ⟨_, pss_cons (ps_set (i := 1) scLines.nd rfl (Or.inl rfl) (pcall GP DP hr (by decide) (pa_cons (pv 0) (pa_cons (pk T.NEWLINE) pa_nil))))
      (pss_cons (ps_if (pt_cmpR op_eq (pe_callB call_len_seq (by rfl) T.len PySem.boot_len (pa_cons (pe_ix ix_list (pv 1) (pe_un un_neg pe_int) (fun _ _ => rfl)) pa_nil)) pe_int (nomark _))
        (pss_one (ps_expr (pe_bm0 PySem.F.plainAttrs_list PySem.F.slot_list_pop PySem.F.type_list_pop mt_pop (pv 1)))) pss_nil)
      (pss_one (ps_ret (pv 1)))), ?_⟩
    refine ⟨_, rfl, a, b, 10, rfl, hS, hlen, fun H1 p rs s1 hp hl R hf hpr => ?_⟩
    have hne : rs ≠ [] := by
      intro q
      have := R.len
      obtain ⟨y, ys, e⟩ := pieces_ne 10 b
      rw [q, e] at this
      cases this
    obtain ⟨rs0, r, rfl⟩ := last_split hne
    have hpn : Sd58.pieces 10 b ≠ [] := by
      obtain ⟨y, ys, e⟩ := pieces_ne 10 b
      rw [e]; simp
    obtain ⟨p0, pl, hpl⟩ := last_split hpn
    have hrl : rs0.length = p0.length := by
      have := R.len
      rw [hpl] at this
      simpa using this
    have hr1 : H1 r = some (.lst (vB pl)) := by
      refine R.at_ rs0.length r pl ?_ ?_
      · simp
      · rw [hpl, hrl]; simp
    have hlast : (Sd58.pieces 10 b).getLast? = some pl := by rw [hpl]; simp
    refine ⟨_, rfl, _, rfl, p, _, _, V.ref r, rfl, rfl, SqL.of hl, (by rw [List.map_append]; exact atI_last _ _), r, _, rfl, .inl (SqL.of hr1), rfl, _, rfl, ite2 (fun hc => ?_) fun hc => ?_⟩
    · have hz : pl = [] := by
        have := V.int.inj (of_decide_eq_true hc)
        unfold vB at this
        rw [List.length_map] at this
        exact List.eq_nil_of_length_eq_zero (by omega)
      refine ⟨_, rfl, .inl ⟨rfl, _, SqL.of hl⟩, p, _, V.ref r, rfl, rfl, hl, (by rw [List.map_append]; simp), ?_⟩
      refine ⟨_, rfl, ?_⟩
      have e1 : Sd58.linesOf b = (Sd58.pieces 10 b).dropLast := by rw [linesOf_eq, if_pos (by rw [hlast, hz])]
      refine k _ p rs0 (fun z o e => ?_) hp (by rw [upd_same]; simp) ?_ (fun z hz => hf z (List.mem_append_left _ hz))
      · rw [upd_ne (ne_of_none e hp)]
        exact s1 z o e
      · rw [e1]
        have := R.dropLast
        rw [List.dropLast_concat] at this
        exact this.mono fun z hz => upd_ne fun q => hpr (by rw [← q]; exact List.mem_append_left _ hz)
    · have hz : pl ≠ [] := fun q => hc (decide_eq_true (by rw [q]; rfl))
      refine ⟨_, rfl, ?_⟩
      have e1 : Sd58.linesOf b = Sd58.pieces 10 b := by rw [linesOf_eq, if_neg (by rw [hlast]; simpa using hz)]
      refine k _ p (rs0 ++ [r]) s1 hp hl ?_ hf
      rw [e1]; exact R
def vO : Option Nat → V
  | none => .non
  | some v => vN v
def spNumber (K : PySem.W.Frag) : Sp := fun vs H Q _ => ∃ (a : Addr) (d : List Nat) (G : Nat), vs = [.ref a, vN G] ∧ SqL K H a (vB d) ∧ G ≤ 1000000 ∧ Q (vO (LS.numOf G d)) H
theorem scNumber : FnScope ["digits", "greatest", "number", "digit"] ["digits", "greatest"] (defScope sNumber) := ⟨rfl, rfl, rfl, by decide +kernel, rfl, by decide +kernel, by decide +kernel⟩
theorem ok_number {f : Addr} {fd : FuncData} (T : Txt K mg) (F : Fun K "number_of" "number_of" sNumber f fd) : FnOk P w K mg base CX0 1 f fd ["digits", "greatest"] (spNumber K) := by
  refine F.ok scNumber (fun vs H Q E h => ?_) (fun cdv A outer s H vs Q E hr h => ?_)
  · obtain ⟨a, d, G, rfl, _⟩ := h
    rfl
  · obtain ⟨a, d, G, rfl, hS, hG, k⟩ := h
    refine ⟨_, pss_cons (ps_if (pw_or (pt_cmpR op_eq (pe_callB call_len_seq (by rfl) T.len PySem.boot_len (pa_cons (pv 0) pa_nil)) pe_int (nomark _))
        (pw_or1 (pw_and (pt_cmpR op_gt (pe_callB call_len_seq (by rfl) T.len PySem.boot_len (pa_cons (pv 0) pa_nil)) pe_int (nomark _)) (pw_and1 (pt_cmpR op_eq (pe_ix ix_list (pv 0) pe_int (fun _ _ => rfl)) (pk T.DIGIT_ZERO) (nomark _)))).pt)).pt
        (pss_one (ps_ret pe_non)) pss_nil)
      (pss_cons (ps_set (i := 2) scNumber.nd rfl (Or.inl rfl) pe_int)
      (pss_cons (ps_for PassesOwn.never rfl (pi_list (pv 0)) (pg_name (i := 3) scNumber.nd rfl (Or.inl rfl))
        (pss_cons (ps_if (pw_or (pt_cmpR op_lt (pv 3) (pk T.DIGIT_ZERO) (nomark _)) (pw_or1 (pt_cmpR op_gt (pv 3) (pk T.DIGIT_NINE) (nomark _)))).pt (pss_one (ps_ret pe_non)) pss_nil)
        (pss_cons (ps_set (i := 2) scNumber.nd rfl (Or.inl rfl) (pe_op op_sub (pe_op op_add (pe_op op_mul (pv 2) pe_int) (pv 3)) (pk T.DIGIT_ZERO)))
        (pss_one (ps_if (pt_cmpR op_gt (pv 2) (pv 1) (nomark _)) (pss_one (ps_ret pe_non)) pss_nil)))))
      (pss_one (ps_ret (pv 2))))), ?_⟩
    have hlen : (vB d).length = d.length := by unfold vB; rw [List.length_map]
    have loopT : ∀ {v n i : Nat}, d[i]? = some n → numLoop G 0 d = numLoop G v (d.drop i) → numLoop G 0 d = if n < 48 ∨ 57 < n then none else if G < v * 10 + (n - 48) then none else numLoop G (v * 10 + (n - 48)) (d.drop (i + 1)) := fun {v n i} hn he => by
      have hi := (List.getElem?_eq_some_iff.mp hn).1
      have e : d.drop i = n :: d.drop (i + 1) := by
        rw [List.drop_eq_getElem_cons hi]
        congr 1
        exact (List.getElem?_eq_some_iff.mp hn).2
      rw [he, e]
      rfl
    by_cases hq : d = [] ∨ (1 < d.length ∧ d.head? = some 48)
    · have hk : LS.numOf G d = none := by unfold LS.numOf; rw [if_pos hq]
      rw [hk] at k
      refine ⟨_, rfl, a, _, rfl, .inl hS, rfl, _, rfl, ite2 (fun h0 => iteT k) fun h0 => ?_⟩
      have hd : ¬ d = [] := fun q => h0 (decide_eq_true (by rw [hlen, q]; rfl))
      have hq2 := hq.resolve_left hd
      match d, hq2 with
      | 48 :: r, hq2 =>
        refine ⟨_, rfl, a, _, rfl, .inl hS, _, _, rfl, rfl, _, rfl, ite2 (fun h1 => ?_) fun h1 => absurd (decide_eq_true (by rw [hlen]; have := hq2.1; omega)) h1⟩
        refine ⟨_, rfl, a, _, 0, vN 48, rfl, rfl, hS, at_of (j := 0) rfl rfl, rfl, _, rfl, ?_⟩
        exact ite2 (fun _ => k) fun h2 => absurd (decide_eq_true rfl) h2
    · have hk : LS.numOf G d = numLoop G 0 d := by unfold LS.numOf; rw [if_neg hq]
      rw [hk] at k
      have hd : ¬ d = [] := fun q => hq (Or.inl q)
      refine ⟨_, rfl, a, _, rfl, .inl hS, rfl, _, rfl, ite2 (fun h0 => absurd (List.eq_nil_of_length_eq_zero (by have := V.int.inj (of_decide_eq_true h0); rw [hlen] at this; omega)) hd) fun h0 => ?_⟩
      have hx : ∃ n r, d = n :: r := by
        cases d with
        | nil => exact absurd rfl hd
        | cons n r => exact ⟨n, r, rfl⟩
      obtain ⟨n0, r0, hd0⟩ := hx
      refine ⟨_, rfl, a, _, rfl, .inl hS, _, _, rfl, rfl, _, rfl, ite2 (fun h1 => ⟨_, rfl, a, _, 0, vN n0, rfl, rfl, hS, (by rw [hd0]; exact at_of (j := 0) rfl rfl), rfl, _, rfl, ite2 (fun h2 => ?_) fun h2 => ?_⟩) fun h1 => iteF ?_⟩
      · exfalso
        refine hq (Or.inr ⟨?_, ?_⟩)
        · have := of_decide_eq_true h1
          rw [hlen] at this
          omega
        · have := V.int.inj (of_decide_eq_true h2)
          rw [hd0]
          show some n0 = some 48
          congr 1
          omega
      all_goals
        refine ⟨_, rfl, a, rfl, ⟨_, hS⟩, for_list (K := K) (a := a) (xs := vB d) (fun i σ H' => ∃ (v : Nat) (z : Option V), σ = [some (.ref a), some (vN G), some (vN v), z] ∧ H' = H ∧ v ≤ G ∧ numLoop G 0 d = numLoop G v (d.drop i))
          ⟨0, none, rfl, rfl, Nat.zero_le _, rfl⟩ (fun i σ H' _ ⟨_, _, _, e, _⟩ => by rw [e]; exact hS) ?_ ?_⟩
        · rintro i y σ H' hi ⟨v, z, rfl, rfl, hv, he⟩
          obtain ⟨n, hn, rfl⟩ := vB_at hi
          have hT := loopT hn he
          refine ⟨_, rfl, _, _, rfl, rfl, _, rfl, ite2 (fun h3 => iteT ?_) fun h3 => ⟨_, rfl, _, _, rfl, rfl, _, rfl, ite2 (fun h4 => ?_) fun h4 => ?_⟩⟩
          · have hc : n < 48 ∨ 57 < n := Or.inl (by have := of_decide_eq_true h3; omega)
            rw [if_pos hc] at hT
            rw [hT] at k
            exact k
          · have hc : n < 48 ∨ 57 < n := Or.inr (by have := of_decide_eq_true h4; omega)
            rw [if_pos hc] at hT
            rw [hT] at k
            exact k
          · have h3' : ¬ n < 48 := fun q => h3 (decide_eq_true (by omega))
            have h4' : ¬ 57 < n := fun q => h4 (decide_eq_true (by omega))
            rw [if_neg (fun q => q.elim h3' h4')] at hT
            have ev : ((v : Int) * 10 + (n : Int) - 48) = ((v * 10 + (n - 48) : Nat) : Int) := by omega
            refine ⟨_, rfl, _, _, rfl, rfl, .inl ⟨by omega, by omega⟩, _, rfl, _, _, rfl, rfl, _, _, rfl, rfl, ?_⟩
            show gName 2 (V.int ((v : Int) * 10 + (n : Int) - 48)) _ _ _
            rw [ev]
            refine ⟨_, rfl, _, rfl, _, _, rfl, rfl, _, rfl, ite2 (fun h5 => ?_) fun h5 => ?_⟩
            · have hc : G < v * 10 + (n - 48) := by have := of_decide_eq_true h5; omega
              rw [if_pos hc] at hT
              rw [hT] at k
              exact k
            · have hc : ¬ G < v * 10 + (n - 48) := fun q => h5 (decide_eq_true (by omega))
              rw [if_neg hc] at hT
              exact ⟨_, _, rfl, rfl, by omega, hT⟩
        · rintro σ H' ⟨v, z, rfl, rfl, hv, he⟩
          rw [hlen, List.drop_length] at he
          rw [he] at k
          exact ⟨_, rfl, k⟩
end
end LP
end
section
set_option Elab.async false
set_option linter.all false
set_option maxRecDepth 100000
namespace LP
open PySem PySem.Spec PyProof.Rows L2
open LS
section
variable {P : Program} {w : World} {K : PySem.W.Frag} {mg : Str → Option Value} {base : Heap}
def vP (x : Sd58.One) : List V := [vN x.group, vN x.time, vN (if x.ended = true then 1 else 0)]
/-- a line's somebody at v, or None -/
def PersAt (H : Hp) (v : V) (o : Option Sd58.One) : Prop := match o with
  | none => v = .non
  | some x => ∃ p, v = .ref p ∧ H p = some (.tup (vP x))
theorem PersAt.same {H H' : Hp} {v : V} {o : Option Sd58.One} (s : Same H H') (h : PersAt H v o) : PersAt H' v o := by
  cases o with
  | none => exact h
  | some x =>
    obtain ⟨p, e, q⟩ := h
    exact ⟨p, e, s _ _ q⟩
def spPerson (K : PySem.W.Frag) : Sp := fun vs H Q _ => ∃ (a : Addr) (b : List Nat), vs = [.ref a] ∧ SqL K H a (vB b) ∧ b.length ≤ 4096 ∧ ∀ (H' : Hp) (v : V), Same H H' → PersAt H' v (Sd58.oneRead b) → Q v H'
theorem scPerson : FnScope ["line", "words", "group", "time", "ended"] ["line"] (defScope sPerson) := ⟨rfl, rfl, rfl, by decide +kernel, rfl, by decide +kernel, by decide +kernel⟩
theorem numOf_le {G v : Nat} (hG : G ≤ 1000000) {d : List Nat} (h : LS.numOf G d = some v) : v ≤ G := by
  rw [numOf_eq hG] at h
  cases e : Sd58.number d with
  | none => rw [e] at h; cases h
  | some u =>
    rw [e] at h
    have h : (if u ≤ G then some u else none) = some v := h
    split at h
    · cases h; assumption
    · cases h
theorem oneRead_len {b : List Nat} (h : (Sd58.pieces 32 b).length ≠ 3) : Sd58.oneRead b = none := by
  rw [← oneOf_eq]
  unfold oneOf
  split
  · rename_i e
    rw [e] at h
    exact absurd rfl h
  · rfl
theorem pieces_le (c : Nat) : ∀ (b : List Nat) (p : List Nat), p ∈ Sd58.pieces c b → p.length ≤ b.length := by
  intro b
  induction b with
  | nil =>
    intro p h
    have : p = [] := by simpa [Sd58.pieces] using h
    rw [this]; simp
  | cons x r ih =>
    intro p h
    obtain ⟨q, qs, e⟩ := pieces_ne c r
    unfold Sd58.pieces at h
    rw [e] at h
    dsimp only at h
    by_cases hx : x = c
    · rw [if_pos hx] at h
      rcases List.mem_cons.mp h with z | z
      · rw [z]; simp
      · have := ih p (by rw [e]; exact z)
        rw [List.length_cons]; omega
    · rw [if_neg hx] at h
      rcases List.mem_cons.mp h with z | z
      · have := ih q (by rw [e]; simp)
        rw [z, List.length_cons, List.length_cons]; omega
      · have := ih p (by rw [e]; simp [z])
        rw [List.length_cons]; omega
theorem oneOf_three {b w0 w1 w2 : List Nat} (h : Sd58.pieces 32 b = [w0, w1, w2]) : Sd58.oneRead b = (match LS.numOf 1 w0, LS.numOf 1000000 w1, LS.numOf 1 w2 with
    | some g, some t, some e => some ⟨g, t, e == 1⟩
    | _, _, _ => none) := by
  rw [← oneOf_eq]
  unfold oneOf
  rw [h]
  all_goals rfl
theorem vO_non {o : Option Nat} : (vO o = V.non) ↔ o = none := by
  cases o with
  | none => exact ⟨fun _ => rfl, fun _ => rfl⟩
  | some v => exact ⟨fun h => (nomatch h), fun h => (nomatch h)⟩
theorem ok_person {f fP fN : Addr} {fd fdP fdN : FuncData} (T : Txt K mg) (F : Fun K "person_of" "person_of" sPerson f fd) (DP : DefAt K mg "parted" sParted ["numbers", "mark"] fP fdP)
    (DN : DefAt K mg "number_of" sNumber ["digits", "greatest"] fN fdN) : FnOk P w K mg base CX0 2 f fd ["line"] (spPerson K) := by
  have GP : FnOk P w K mg base CX0 1 fP fdP ["numbers", "mark"] (spParted K) := ok_parted DP.F
  have GN : FnOk P w K mg base CX0 1 fN fdN ["digits", "greatest"] (spNumber K) := ok_number T DN.F
  refine F.ok scPerson (fun vs H Q E h => ?_) (fun cdv A outer s H vs Q E hr h => ?_)
  · obtain ⟨a, b, rfl, _⟩ := h
    rfl
  · obtain ⟨a, b, rfl, hS, hlen, k⟩ := h
    refine ⟨_, pss_cons (ps_set (i := 1) scPerson.nd rfl (Or.inl rfl) (pcall GP DP hr (by decide) (pa_cons (pv 0) (pa_cons (pk T.BLANK) pa_nil))))
      (pss_cons (ps_if (pt_cmpR op_ne (pe_callB call_len_seq (by rfl) T.len PySem.boot_len (pa_cons (pv 1) pa_nil)) pe_int (nomark _)) (pss_one (ps_ret pe_non)) pss_nil)
      (pss_cons (ps_set (i := 2) scPerson.nd rfl (Or.inl rfl) (pcall GN DN hr (by decide) (pa_cons (pe_ix ix_list (pv 1) pe_int (fun _ _ => rfl)) (pa_cons pe_int pa_nil))))
      (pss_cons (ps_set (i := 3) scPerson.nd rfl (Or.inl rfl) (pcall GN DN hr (by decide) (pa_cons (pe_ix ix_list (pv 1) pe_int (fun _ _ => rfl)) (pa_cons (pk T.LATEST) pa_nil))))
      (pss_cons (ps_set (i := 4) scPerson.nd rfl (Or.inl rfl) (pcall GN DN hr (by decide) (pa_cons (pe_ix ix_list (pv 1) pe_int (fun _ _ => rfl)) (pa_cons pe_int pa_nil))))
      (pss_cons (ps_if (pw_or (pt_cmpR op_isN (pv 2) pe_non (nomark _)) (pw_or (pt_cmpR op_isN (pv 3) pe_non (nomark _)) (pw_or1 (pt_cmpR op_isN (pv 4) pe_non (nomark _))))).pt (pss_one (ps_ret pe_non)) pss_nil)
      (pss_one (ps_ret (pe_tup (pa_cons (pv 2) (pa_cons (pv 3) (pa_cons (pv 4) pa_nil))))))))))), ?_⟩
    refine ⟨_, rfl, a, b, 32, rfl, hS, hlen, fun H1 p rs s1 hp hl R hf hpr => ?_⟩
    refine ⟨_, rfl, p, _, rfl, .inl (SqL.of hl), rfl, _, rfl, ite2 (fun hc => ?_) fun hc => ?_⟩
    · -- not three words
      have hn : (Sd58.pieces 32 b).length ≠ 3 := fun q => by
        rw [← R.len] at q
        have : (rs.map V.ref).length = 3 := by rw [List.length_map]; exact q
        rw [this] at hc
        exact absurd hc (by decide)
      refine k H1 .non s1 ?_
      rw [oneRead_len hn]
      rfl
    · have hn : rs.length = 3 := by
        have : ¬ (!decide (V.int ((rs.map V.ref).length : Int) = V.int 3)) = true := hc
        rw [Bool.not_eq_true, Bool.not_eq_false'] at this
        have := V.int.inj (of_decide_eq_true this)
        rw [List.length_map] at this
        omega
      have hpl : (Sd58.pieces 32 b).length = 3 := by rw [← R.len]; exact hn
      obtain ⟨w0, w1, w2, hw⟩ : ∃ w0 w1 w2, Sd58.pieces 32 b = [w0, w1, w2] := by
        match hq : Sd58.pieces 32 b, hpl with
        | [x, y, z], _ => exact ⟨x, y, z, rfl⟩
      obtain ⟨r0, r1, r2, hrs⟩ : ∃ r0 r1 r2, rs = [r0, r1, r2] := by
        match rs, hn with
        | [x, y, z], _ => exact ⟨x, y, z, rfl⟩
      subst hrs
      rw [hw] at R
      have q0 : SqL K H1 r0 (vB w0) := SqL.of (R.at_ 0 r0 w0 rfl rfl)
      have q1 : SqL K H1 r1 (vB w1) := SqL.of (R.at_ 1 r1 w1 rfl rfl)
      have q2 : SqL K H1 r2 (vB w2) := SqL.of (R.at_ 2 r2 w2 rfl rfl)
      have ho := oneOf_three hw
      refine ⟨_, rfl, p, _, _, V.ref r0, rfl, rfl, SqL.of hl, at_of (j := 0) rfl rfl, r0, w0, 1, rfl, q0, by decide, ?_⟩
      refine ⟨_, rfl, p, _, _, V.ref r1, rfl, rfl, SqL.of hl, at_of (j := 1) rfl rfl, r1, w1, 1000000, rfl, q1, by decide, ?_⟩
      refine ⟨_, rfl, p, _, _, V.ref r2, rfl, rfl, SqL.of hl, at_of (j := 2) rfl rfl, r2, w2, 1, rfl, q2, by decide, ?_⟩
      have none_ : Sd58.oneRead b = none → Q .non H1 := fun e => k H1 .non s1 (by rw [e]; rfl)
      refine ⟨_, rfl, rfl, _, rfl, ite2 (fun h1 => iteT ?_) fun h1 => ⟨_, rfl, rfl, _, rfl, ite2 (fun h2 => iteT ?_) fun h2 => ⟨_, rfl, rfl, _, rfl, ite2 (fun h3 => ?_) fun h3 => ?_⟩⟩⟩
      · refine none_ ?_
        rw [ho, vO_non.mp (of_decide_eq_true h1)]
      · refine none_ ?_
        rw [ho, vO_non.mp (of_decide_eq_true h2)]
        cases LS.numOf 1 w0 <;> rfl
      · refine none_ ?_
        rw [ho, vO_non.mp (of_decide_eq_true h3)]
        cases LS.numOf 1 w0 <;> cases LS.numOf 1000000 w1 <;> rfl
      · obtain ⟨g, hg⟩ : ∃ g, LS.numOf 1 w0 = some g := Option.ne_none_iff_exists'.mp fun q => h1 (decide_eq_true (vO_non.mpr q))
        obtain ⟨t, ht⟩ : ∃ g, LS.numOf 1000000 w1 = some g := Option.ne_none_iff_exists'.mp fun q => h2 (decide_eq_true (vO_non.mpr q))
        obtain ⟨u, hu⟩ : ∃ g, LS.numOf 1 w2 = some g := Option.ne_none_iff_exists'.mp fun q => h3 (decide_eq_true (vO_non.mpr q))
        have hu1 := numOf_le (by decide) hu
        rw [hg, ht, hu] at ho ⊢
        refine ⟨_, rfl, _, rfl, _, rfl, (by show 3 ≤ sizeLine; decide), fun q hq => ?_⟩
        refine k _ _ (fun z o e => ?_) ?_
        · have e' := s1 z o e
          rw [upd_ne (ne_of_none e' hq)]
          exact e'
        · rw [ho]
          refine ⟨q, rfl, ?_⟩
          rw [upd_same]
          have e3 : (if (u == 1) = true then 1 else 0) = u := by
            match u, hu1 with
            | 0, _ => rfl
            | 1, _ => rfl
          show some (HO.tup [vN g, vN t, vN u]) = some (HO.tup [vN g, vN t, vN (if (u == 1) = true then 1 else 0)])
          rw [e3]
end
end LP
end
section
set_option Elab.async false
set_option linter.all false
set_option maxRecDepth 100000
namespace LP
open PySem PySem.Spec PyProof.Rows L2
open LS
abbrev sLowest : Stmt := top 29
abbrev sPlus : Stmt := top 30
abbrev sTimes : Stmt := top 31
abbrev sFracBytes : Stmt := top 32
def Has (P : Program) (w : World) (K : PySem.W.Frag) (mg : Str → Option Value) (base : Heap) (x : Str) (st : Stmt) (ps : List Str) (k : Nat) (sp : Sp) : Prop := ∃ f fd, DefAt K mg x st ps f fd ∧ FnOk P w K mg base CX0 k f fd ps sp
/-- a fraction at v -/
def RF : VR Sd58.Fr := fun H v f => ∃ p, v = .ref p ∧ H p = some (.tup [.int f.num, vN f.den])
theorem mono_RF : Mono RF := ⟨fun s h => let ⟨p, e, q⟩ := h; ⟨p, e, s _ _ q⟩⟩
section
variable {P : Program} {w : World} {K : PySem.W.Frag} {mg : Str → Option Value} {base : Heap}
theorem pow_le {a b : Nat} {n : Nat} (h : n ≤ 2 ^ a) (hab : a ≤ b) : n ≤ 2 ^ b := Nat.le_trans h (Nat.pow_le_pow_right (by decide) hab)
def spLowest : Sp := fun vs H Q _ => ∃ (a : Int) (d : Nat), vs = [.int a, vN d] ∧ 0 < d ∧ a.natAbs ≤ 2 ^ 3000 ∧ d ≤ 2 ^ 3000 ∧ ∀ (H' : Hp) (v : V), Same H H' → RF H' v (Sd58.fr a d) → Q v H'
theorem scLowest : FnScope ["above", "below", "divisor", "rest", "smaller"] ["above", "below"] (defScope sLowest) := ⟨rfl, rfl, rfl, by decide +kernel, rfl, by decide +kernel, by decide +kernel⟩
theorem gcd_step (x : Int) {r : Nat} (hr : 0 < r) : ∃ c : Nat, x % (r : Int) = (c : Int) ∧ c < r ∧ Nat.gcd r c = Nat.gcd x.natAbs r := by
  have hz : (r : Int) ≠ 0 := by omega
  have h1 := Int.emod_nonneg x hz
  have h2 := Int.emod_lt_of_pos x (show (0 : Int) < r by omega)
  refine ⟨(x % (r : Int)).toNat, by omega, by omega, ?_⟩
  have e : ((x % (r : Int)).toNat : Int) = x % (r : Int) := by omega
  have q := Int.gcd_add_mul_right_right (r : Int) (x % r) (x / r)
  rw [Int.mul_comm (x / r), Int.emod_add_mul_ediv] at q
  have q2 : Int.gcd x r = Int.gcd (r : Int) (x % r) := by rw [Int.gcd_comm, q]
  rw [← e] at q2
  exact q2.symm
theorem ok_lowest {f : Addr} {fd : FuncData} (F : Fun K "lowest" "lowest" sLowest f fd) : FnOk P w K mg base CX0 1 f fd ["above", "below"] spLowest := by
  refine F.ok scLowest (fun vs H Q E h => ?_) (fun cdv A outer s H vs Q E hr h => ?_)
  · obtain ⟨a, d, rfl, _⟩ := h
    rfl
  · obtain ⟨a, d, rfl, hd, ha, hd2, k⟩ := h
    refine ⟨_, pss_cons (ps_set (i := 2) scLowest.nd rfl (Or.inl rfl) (pv 0))
      (pss_cons (ps_set (i := 3) scLowest.nd rfl (Or.inl rfl) (pv 1))
      (pss_cons (ps_while PassesOwn.never (pt_cmpR op_ne (pv 3) pe_int (nomark _))
        (pss_cons (ps_set (i := 4) scLowest.nd rfl (Or.inl rfl) (pe_op op_mod (pv 2) (pv 3)))
        (pss_cons (ps_set (i := 2) scLowest.nd rfl (Or.inl rfl) (pv 3))
        (pss_one (ps_set (i := 3) scLowest.nd rfl (Or.inl rfl) (pv 4))))))
      (pss_one (ps_ret (pe_tup (pa_cons (pe_op op_fdivB (pv 0) (pv 2)) (pa_cons (pe_op op_fdivB (pv 1) (pv 2)) pa_nil))))))), ?_⟩
    refine ⟨_, rfl, _, rfl, ?_⟩
    refine while_by (fun σ H' => ∃ (x : Int) (r : Nat) (z : Option V), σ = [some (.int a), some (vN d), some (.int x), some (vN r), z] ∧ H' = H ∧ Nat.gcd x.natAbs r = Nat.gcd a.natAbs d ∧ (r = 0 → 0 < x))
      (fun (σ : L2.St) (_ : Hp) => match σ[3]? with | some (some (V.int y)) => y.toNat | _ => 0) ⟨a, d, none, rfl, rfl, rfl, fun q => by omega⟩ ?_ ?_
    · rintro σ H' ⟨x, r, z, rfl, rfl, hg, hx⟩
      refine ⟨_, rfl, rfl, _, rfl, ite2 (fun h0 => ?_) fun h0 => ?_⟩
      · have hr0 : 0 < r := by
          rcases Nat.eq_zero_or_pos r with q | q
          · subst q
            exact absurd h0 (by decide)
          · exact q
        obtain ⟨c, hc, hcr, hcg⟩ := gcd_step x hr0
        refine ⟨_, rfl, _, rfl, _, _, rfl, rfl, (by show (0 : Int) < (r : Int); omega), ?_⟩
        show gName 4 (V.int (x % (r : Int))) _ _ _
        rw [hc]
        refine ⟨_, rfl, _, rfl, ⟨(r : Int), c, _, rfl, rfl, ?_, fun q => by omega⟩, ?_⟩
        · rw [Int.natAbs_natCast, hcg, hg]
        · show ((c : Int)).toNat < ((r : Int)).toNat
          omega
      · have hr0 : r = 0 := by
          have : ¬ (!decide (vN r = V.int 0)) = true := h0
          rw [Bool.not_eq_true, Bool.not_eq_false'] at this
          have := V.int.inj (of_decide_eq_true this)
          omega
        subst hr0
        have hx0 := hx rfl
        have hxg : x = ((Nat.gcd a.natAbs d : Nat) : Int) := by
          rw [← hg, Nat.gcd_zero_right]
          omega
        have hgd : Nat.gcd a.natAbs d ≤ d := Nat.le_of_dvd hd (Nat.gcd_dvd_right _ _)
        have hB : Big x := by
          unfold Big
          rw [hxg, Int.natAbs_natCast]
          exact Nat.le_trans hgd (pow_le hd2 (by decide))
        refine ⟨_, rfl, _, rfl, _, _, rfl, rfl, ⟨hx0, hB⟩, _, rfl, _, rfl, _, _, rfl, rfl, ⟨hx0, hB⟩, (by show 2 ≤ sizeLine; decide), fun p hp => ?_⟩
        refine k _ _ (Same.newH hp) ⟨p, rfl, ?_⟩
        rw [upd_same, hxg, fr_pos hd]
        show some (HO.tup [V.int (a / ((Nat.gcd a.natAbs d : Nat) : Int)), V.int ((d : Int) / ((Nat.gcd a.natAbs d : Nat) : Int))]) = some (HO.tup [V.int (a / ((Nat.gcd a.natAbs d : Nat) : Int)), V.int ((d / Nat.gcd a.natAbs d : Nat) : Int)])
        rw [Int.natCast_ediv]
    · rintro σ H' Q1 Q2 m ⟨v, e, h1, c, e2, q⟩
      exact ⟨v, e, h1, c, e2, m _ _ q⟩
def sp2F (op : Sd58.Fr → Sd58.Fr → Sd58.Fr) : Sp := fun vs H Q _ => ∃ (v1 v2 : V) (f g : Sd58.Fr), vs = [v1, v2] ∧ RF H v1 f ∧ RF H v2 g ∧ Norm f ∧ Norm g ∧ Sz 1400 f ∧ Sz 1400 g ∧ ∀ (H' : Hp) (v : V), Same H H' → RF H' v (op f g) → Q v H'
theorem scPlus : FnScope ["one", "other"] ["one", "other"] (defScope sPlus) := ⟨rfl, rfl, rfl, by decide +kernel, rfl, by decide +kernel, by decide +kernel⟩
theorem scTimes : FnScope ["one", "other"] ["one", "other"] (defScope sTimes) := ⟨rfl, rfl, rfl, by decide +kernel, rfl, by decide +kernel, by decide +kernel⟩
theorem big_num {f : Sd58.Fr} (h : Sz 1400 f) : Big f.num := pow_le h.1 (by decide)
theorem big_den {f : Sd58.Fr} (h : Sz 1400 f) : Big (f.den : Int) := by
  unfold Big
  rw [Int.natAbs_natCast]
  exact pow_le h.2 (by decide)
theorem den_le {f g : Sd58.Fr} (h1 : Sz 1400 f) (h2 : Sz 1400 g) : f.den * g.den ≤ 2 ^ 3000 := by
  have := Nat.mul_le_mul h1.2 h2.2
  rw [← Nat.pow_add] at this
  exact pow_le this (by decide)
theorem ok_plus {f : Addr} {fd : FuncData} (F : Fun K "plus" "plus" sPlus f fd) (hL : Has P w K mg base "lowest" sLowest ["above", "below"] 1 spLowest) : FnOk P w K mg base CX0 2 f fd ["one", "other"] (sp2F Sd58.add) := by
  obtain ⟨fL, fdL, DL, GL⟩ := hL
  refine F.ok scPlus (fun vs H Q E h => ?_) (fun cdv A outer s H vs Q E hr h => ?_)
  · obtain ⟨v1, v2, f, g, rfl, _⟩ := h
    rfl
  · obtain ⟨v1, v2, f, g, rfl, ⟨p, rfl, hp⟩, ⟨q, rfl, hq⟩, nf, ng, sf, sg, k⟩ := h
    refine ⟨_, pss_one (ps_ret (pcall GL DL hr (by decide) (pa_cons (pe_op op_add (pe_op op_mulB (pe_ix ix_tup (pv 0) pe_int (fun _ _ => rfl)) (pe_ix ix_tup (pv 1) pe_int (fun _ _ => rfl))) (pe_op op_mulB (pe_ix ix_tup (pv 1) pe_int (fun _ _ => rfl)) (pe_ix ix_tup (pv 0) pe_int (fun _ _ => rfl))))
      (pa_cons (pe_op op_mulB (pe_ix ix_tup (pv 0) pe_int (fun _ _ => rfl)) (pe_ix ix_tup (pv 1) pe_int (fun _ _ => rfl))) pa_nil)))), ?_⟩
    refine ⟨_, rfl, p, _, _, _, rfl, rfl, SqT.of hp, at_of (j := 0) rfl rfl, _, rfl, q, _, _, _, rfl, rfl, SqT.of hq, at_of (j := 1) rfl rfl, _, _, rfl, rfl, ⟨big_num sf, big_den sg⟩, ?_⟩
    refine ⟨_, rfl, q, _, _, _, rfl, rfl, SqT.of hq, at_of (j := 0) rfl rfl, _, rfl, p, _, _, _, rfl, rfl, SqT.of hp, at_of (j := 1) rfl rfl, _, _, rfl, rfl, ⟨big_num sg, big_den sf⟩, _, _, rfl, rfl, ?_⟩
    refine ⟨_, rfl, p, _, _, _, rfl, rfl, SqT.of hp, at_of (j := 1) rfl rfl, _, rfl, q, _, _, _, rfl, rfl, SqT.of hq, at_of (j := 1) rfl rfl, _, _, rfl, rfl, ⟨big_den sf, big_den sg⟩, ?_⟩
    refine ⟨f.num * (g.den : Int) + g.num * (f.den : Int), f.den * g.den, ?_, Nat.mul_pos nf.1 ng.1, ?_, den_le sf sg, k⟩
    · show [V.int _, V.int ((f.den : Int) * (g.den : Int))] = [V.int _, V.int ((f.den * g.den : Nat) : Int)]
      rw [Int.natCast_mul]
    · exact pow_le (add_bd (mul_bd sf.1 (den_bd sg)) (mul_bd sg.1 (den_bd sf))) (by decide)
theorem ok_times {f : Addr} {fd : FuncData} (F : Fun K "times" "times" sTimes f fd) (hL : Has P w K mg base "lowest" sLowest ["above", "below"] 1 spLowest) : FnOk P w K mg base CX0 2 f fd ["one", "other"] (sp2F Sd58.mul) := by
  obtain ⟨fL, fdL, DL, GL⟩ := hL
  refine F.ok scTimes (fun vs H Q E h => ?_) (fun cdv A outer s H vs Q E hr h => ?_)
  · obtain ⟨v1, v2, f, g, rfl, _⟩ := h
    rfl
  · obtain ⟨v1, v2, f, g, rfl, ⟨p, rfl, hp⟩, ⟨q, rfl, hq⟩, nf, ng, sf, sg, k⟩ := h
    refine ⟨_, pss_one (ps_ret (pcall GL DL hr (by decide) (pa_cons (pe_op op_mulB (pe_ix ix_tup (pv 0) pe_int (fun _ _ => rfl)) (pe_ix ix_tup (pv 1) pe_int (fun _ _ => rfl)))
      (pa_cons (pe_op op_mulB (pe_ix ix_tup (pv 0) pe_int (fun _ _ => rfl)) (pe_ix ix_tup (pv 1) pe_int (fun _ _ => rfl))) pa_nil)))), ?_⟩
    refine ⟨_, rfl, p, _, _, _, rfl, rfl, SqT.of hp, at_of (j := 0) rfl rfl, _, rfl, q, _, _, _, rfl, rfl, SqT.of hq, at_of (j := 0) rfl rfl, _, _, rfl, rfl, ⟨big_num sf, big_num sg⟩, ?_⟩
    refine ⟨_, rfl, p, _, _, _, rfl, rfl, SqT.of hp, at_of (j := 1) rfl rfl, _, rfl, q, _, _, _, rfl, rfl, SqT.of hq, at_of (j := 1) rfl rfl, _, _, rfl, rfl, ⟨big_den sf, big_den sg⟩, ?_⟩
    refine ⟨f.num * g.num, f.den * g.den, ?_, Nat.mul_pos nf.1 ng.1, ?_, den_le sf sg, k⟩
    · show [V.int _, V.int ((f.den : Int) * (g.den : Int))] = [V.int _, V.int ((f.den * g.den : Nat) : Int)]
      rw [Int.natCast_mul]
    · exact pow_le (mul_bd sf.1 sg.1) (by decide)
def RN : VR Nat := fun _ v n => v = vN n
theorem mono_RN : Mono RN := ⟨fun _ h => h⟩
theorem Rels.nats {H : Hp} {vs : List V} {xs : List Nat} (h : Rels RN H vs xs) : vs = vB xs := by
  unfold vB
  refine List.ext_getElem? fun i => ?_
  rw [List.getElem?_map]
  rcases Nat.lt_or_ge i vs.length with q | q
  · have hv : vs[i]? = some (vs[i]'q) := List.getElem?_eq_getElem _
    obtain ⟨x, hx, e⟩ := h.item hv
    rw [hv, hx]
    exact congrArg some e
  · rw [List.getElem?_eq_none q, List.getElem?_eq_none (by rw [← h.1]; exact q)]
    rfl
theorem LNew.nats {H : Hp} {a : Addr} {xs : List Nat} (h : LNew RN H a xs) : H a = some (.lst (vB xs)) := by
  obtain ⟨vs, h1, h2⟩ := h
  rw [Rels.nats h2] at h1
  exact h1
theorem str_codes (s : String) : (Str.ofString s).cps.toList = s.toList.map Char.toNat := by
  show (cpsOfBytes 0 0 s.toByteArray.data.toList).toArray.toList = _
  rw [List.toList_toArray, cpsOfBytes_string]
theorem nat_codes (n : Nat) : (Str.ofString (toString ((n : Nat) : Int))).cps.toList = Sd58.decimal n := TL.tl_num n
theorem int_codes (i : Int) : (Str.ofString (toString i)).cps.toList = (if i < 0 then [45] else []) ++ Sd58.decimal i.natAbs := by
  cases i with
  | ofNat n =>
    rw [if_neg (by simp)]
    exact nat_codes n
  | negSucc m =>
    rw [if_pos (by omega), str_codes]
    have e : toString (Int.negSucc m) = "-" ++ toString ((m + 1 : Nat) : Int) := rfl
    rw [e, String.toList_append, List.map_append]
    have e2 := nat_codes (m + 1)
    rw [str_codes] at e2
    rw [e2]
    rfl
theorem str_app (a b : Str) : (a ++ b).cps.toList = a.cps.toList ++ b.cps.toList := TL.tl_append a b
theorem fs_codes (f : Sd58.Fr) : (fsOf f.num (Str.ofString "/") (f.den : Int)).cps.toList = Sd58.told f := by
  unfold fsOf Sd58.told
  rw [str_app, str_app, str_app, int_codes, nat_codes]
  show (([] ++ ((if f.num < 0 then [45] else []) ++ Sd58.decimal f.num.natAbs)) ++ [47]) ++ Sd58.decimal f.den = _
  simp
theorem log_lt {n k : Nat} (h : n ≤ 2 ^ k) : n.log2 < k + 1 := by
  by_cases hz : n = 0
  · rw [hz]; simp
  · exact (Nat.log2_lt hz).mpr (Nat.lt_of_le_of_lt h (Nat.pow_lt_pow_right (by decide) (by omega)))
theorem fs_size {f : Sd58.Fr} (sf : Sz 1400 f) : (fsOf f.num (Str.ofString "/") (f.den : Int)).cps.size ≤ 4000 := by
  have hl1 := log_lt sf.1
  have hl2 := log_lt sf.2
  have e1 := int_text_length_le (a := f.num) (k := 1920) (by decide) (by omega)
  have e2 := int_text_length_le (a := (f.den : Int)) (k := 1920) (by decide) (by rw [Int.natAbs_natCast]; omega)
  have l1 : (Str.ofString (toString f.num)).length ≤ 1921 := by rw [PySem.ofString_length]; omega
  have l2 : (Str.ofString (toString (f.den : Int))).length ≤ 1921 := by rw [PySem.ofString_length]; omega
  show (fsOf f.num (Str.ofString "/") (f.den : Int)).length ≤ 4000
  unfold fsOf
  rw [strLen_append, strLen_append, strLen_append]
  have l0 : (Str.empty : Str).length = 0 := rfl
  have l3 : (Str.ofString "/").length = 1 := by decide
  omega
theorem told_len {f : Sd58.Fr} (sf : Sz 1400 f) : (Sd58.told f).length ≤ 4000 := by
  rw [← fs_codes, Array.length_toList]
  exact fs_size sf
def spFracBytes : Sp := fun vs H Q _ => ∃ (v : V) (f : Sd58.Fr), vs = [v] ∧ RF H v f ∧ Sz 1400 f ∧ ∀ (H' : Hp) (D : Addr), H D = none → Same H H' → H' D = some (.lst (vB (Sd58.told f))) → Q (.ref D) H'
theorem scFracBytes : FnScope ["fraction", "above", "below", "sign"] ["fraction"] (defScope sFracBytes) := ⟨rfl, rfl, rfl, by decide +kernel, rfl, by decide +kernel, by decide +kernel⟩
theorem ok_fracBytes {f : Addr} {fd : FuncData} (T : Txt K mg) (F : Fun K "fraction_bytes" "fraction_bytes" sFracBytes f fd) : FnOk P w K mg base CX0 1 f fd ["fraction"] spFracBytes := by
  refine F.ok scFracBytes (fun vs H Q E h => ?_) (fun cdv A outer s H vs Q E hr h => ?_)
  · obtain ⟨v, f, rfl, _⟩ := h
    rfl
  · obtain ⟨v, f, rfl, ⟨p, rfl, hp⟩, sf, k⟩ := h
    refine ⟨_, pss_cons (ps_set (i := 1) scFracBytes.nd rfl (Or.inl rfl) (pe_ix ix_tup (pv 0) pe_int (fun _ _ => rfl)))
      (pss_cons (ps_set (i := 2) scFracBytes.nd rfl (Or.inl rfl) (pe_ix ix_tup (pv 0) pe_int (fun _ _ => rfl)))
      (pss_one (ps_ret (pe_lc (own := [("sign", 3)]) rfl scFracBytes.nd (pi_str (pe_fstr (pv 1) (pv 2))) (blkOk_of scFracBytes (by decide +kernel))
        (fun _ _ _ _ _ => pg_name (i := 3) scFracBytes.nd rfl (Or.inl rfl)) (fun _ _ _ _ _ => pts_nil)
        (fun _ _ _ _ _ => pe_callB call_ord (by rfl) T.ord bt_ord (pa_cons (pv 3) pa_nil)))))), ?_⟩
    refine ⟨_, rfl, p, _, _, _, rfl, rfl, SqT.of hp, at_of (j := 0) rfl rfl, ?_⟩
    refine ⟨_, rfl, p, _, _, _, rfl, rfl, SqT.of hp, at_of (j := 1) rfl rfl, ?_⟩
    have hl1 := log_lt sf.1
    have hl2 := log_lt sf.2
    refine ⟨_, rfl, _, rfl, (by omega), _, rfl, _, rfl, (by rw [Int.natAbs_natCast]; omega), _, rfl, ?_⟩
    have hc := fs_codes f
    have hsz : (fsOf f.num (Str.ofString "/") (f.den : Int)).cps.size < sizeLine := Nat.lt_of_le_of_lt (fs_size sf) (by decide)
    refine lc_str (R' := RN) mono_RN (f := fun c => c) hsz (fun D H' c Y hm hD s1 hY => ?_) (fun D H' hD s1 hN => ?_) (fun v σ H Q Q' m q => m _ _ q)
    · refine ⟨rfl, _, rfl, _, rfl, rfl, ?_⟩
      exact hY _ _ (Same.refl _) rfl
    · refine k H' D hD s1 ?_
      have := LNew.nats hN
      rw [List.map_id', hc] at this
      exact this
end
end LP
end
section
set_option Elab.async false
set_option linter.all false
set_option maxRecDepth 100000
namespace LP
open PySem PySem.Spec PyProof.Rows L2
open LS
abbrev sMembers : Stmt := top 33
abbrev sThere : Stmt := top 34
abbrev sEnded : Stmt := top 35
abbrev sSteps : Stmt := top 36
/-- somebody at v -/
def RP : VR Sd58.One := fun H v x => ∃ p, v = .ref p ∧ H p = some (.tup (vP x))
theorem mono_RP : Mono RP := ⟨fun s h => let ⟨p, e, q⟩ := h; ⟨p, e, s _ _ q⟩⟩
theorem hide_tup {D p : Addr} {H : Hp} {xs : List V} (hD : ∃ us, H D = some (.lst us)) (h : H p = some (.tup xs)) : hide D H p = some (.tup xs) := by
  obtain ⟨us, e⟩ := hD
  rw [hide_ne (ne_of h e (by intro z; cases z))]
  exact h
/-- a step: an end, how many are there, for how many it ends -/
def RS : VR Stp := fun H v x => ∃ p, v = .ref p ∧ H p = some (.tup [vN x.1, vN x.2.1, vN x.2.2])
theorem mono_RS : Mono RS := ⟨fun s h => let ⟨p, e, q⟩ := h; ⟨p, e, s _ _ q⟩⟩
theorem small20 {n : Nat} (h : n ≤ 20) : n < sizeLine := Nat.lt_of_le_of_lt h (by decide)
section
variable {P : Program} {w : World} {K : PySem.W.Frag} {mg : Str → Option Value} {base : Heap}
def spMembers (K : PySem.W.Frag) : Sp := fun vs H Q _ => ∃ (a : Addr) (l : List Sd58.One) (g : Nat), vs = [.ref a, vN g] ∧ LAt K RP H a l ∧ l.length ≤ 20 ∧ ∀ (H' : Hp) (D : Addr), H D = none → Same H H' → LAt K RP H' D (Sd58.ofGroup l g) → Q (.ref D) H'
theorem scMembers : FnScope ["people", "group", "person"] ["people", "group"] (defScope sMembers) := ⟨rfl, rfl, rfl, by decide +kernel, rfl, by decide +kernel, by decide +kernel⟩
theorem members_eq (l : List Sd58.One) (g : Nat) : ((l.filter fun x => decide (g = 2) || decide (x.group = g)).map fun x => x) = Sd58.ofGroup l g := by
  unfold Sd58.ofGroup
  rw [List.map_id']
  by_cases h : g = 2
  · rw [if_pos h]
    refine List.filter_eq_self.mpr fun x _ => ?_
    rw [decide_eq_true h]; rfl
  · rw [if_neg h]
    refine List.filter_congr fun x _ => ?_
    rw [decide_eq_false h, Bool.false_or]
    by_cases q : x.group = g
    · rw [decide_eq_true q]; exact (beq_iff_eq.mpr q).symm
    · rw [decide_eq_false q]; exact (beq_eq_false_iff_ne.mpr q).symm
theorem ok_members {f : Addr} {fd : FuncData} (T : Txt K mg) (F : Fun K "members" "members" sMembers f fd) : FnOk P w K mg base CX0 1 f fd ["people", "group"] (spMembers K) := by
  refine F.ok scMembers (fun vs H Q E h => ?_) (fun cdv A outer s H vs Q E hr h => ?_)
  · obtain ⟨a, l, g, rfl, _⟩ := h
    rfl
  · obtain ⟨a, l, g, rfl, hA, hlen, k⟩ := h
    refine ⟨_, pss_one (ps_ret (pe_lc (own := [("person", 2)]) rfl scMembers.nd (pi_list (pv 0)) (blkOk_of scMembers (by decide +kernel))
        (fun _ _ _ _ _ => pg_name (i := 2) scMembers.nd rfl (Or.inl rfl))
        (fun _ _ _ _ _ => pts_one (PW.pt (pw_or (pt_cmpR op_eq (pv 1) (pk T.ALL) (nomark _)) (pw_or1 (pt_cmpR op_eq (pe_ix (ixT (K := K) rfl) (pv 2) pe_int (fun _ _ => rfl)) (pv 1) (nomark _))))))
        (fun _ _ _ _ _ => pv 2))), ?_⟩
    refine ⟨_, rfl, a, rfl, (let ⟨vs, q, _⟩ := hA; ⟨vs, q⟩), lc_gen (R' := RP) mono_RP mono_RP (p := fun x => decide (g = 2) || decide (x.group = g)) (f := fun x => x) hA (small20 hlen) (fun D H' v x C Y hx hD hDl s1 hr hC hY => ?_) (fun D H' hD s1 hN => ?_)⟩
    · obtain ⟨p, rfl, hp⟩ := hr
      refine ⟨rfl, _, rfl, rfl, _, rfl, ite2 (fun h1 => iteT ?_) fun h1 => ⟨_, rfl, p, _, _, _, rfl, rfl, SqT.of hp, at_of (j := 0) rfl rfl, _, rfl, rfl, _, rfl, ite2 (fun h2 => ?_) fun h2 => ?_⟩⟩
      · have hg : g = 2 := by have := V.int.inj (of_decide_eq_true h1); omega
        exact ⟨_, rfl, hY (by rw [decide_eq_true hg]; rfl) _ _ (Same.refl _) ⟨p, rfl, hide_tup hDl hp⟩⟩
      · have hg : x.group = g := by have := V.int.inj (of_decide_eq_true h2); omega
        exact ⟨_, rfl, hY (by dsimp only; rw [decide_eq_true hg]; exact Bool.or_true _) _ _ (Same.refl _) ⟨p, rfl, hide_tup hDl hp⟩⟩
      · refine hC ?_
        have g1 : ¬ g = 2 := fun q => h1 (decide_eq_true (by rw [q]; rfl))
        have g2 : ¬ x.group = g := fun q => h2 (decide_eq_true (by rw [q]))
        dsimp only
        rw [decide_eq_false g1, decide_eq_false g2]; rfl
    · rw [members_eq] at hN
      exact k H' D hD s1 hN.at
def spCount (K : PySem.W.Frag) (c : List Sd58.One → Nat → Nat) : Sp := fun vs H Q _ => ∃ (a : Addr) (l : List Sd58.One) (t : Nat), vs = [.ref a, vN t] ∧ LAt K RP H a l ∧ l.length ≤ 20 ∧ ∀ (H' : Hp), Same H H' → Q (vN (c l t)) H'
theorem scThere : FnScope ["people", "time", "person"] ["people", "time"] (defScope sThere) := ⟨rfl, rfl, rfl, by decide +kernel, rfl, by decide +kernel, by decide +kernel⟩
theorem scEnded : FnScope ["people", "time", "person"] ["people", "time"] (defScope sEnded) := ⟨rfl, rfl, rfl, by decide +kernel, rfl, by decide +kernel, by decide +kernel⟩
theorem ok_there {f : Addr} {fd : FuncData} (T : Txt K mg) (F : Fun K "there_at" "there_at" sThere f fd) : FnOk P w K mg base CX0 1 f fd ["people", "time"] (spCount K Sd58.there) := by
  refine F.ok scThere (fun vs H Q E h => ?_) (fun cdv A outer s H vs Q E hr h => ?_)
  · obtain ⟨a, l, t, rfl, _⟩ := h
    rfl
  · obtain ⟨a, l, t, rfl, hA, hlen, k⟩ := h
    refine ⟨_, pss_one (ps_ret (pe_callB call_len_seq (by rfl) T.len PySem.boot_len (pa_cons (pe_lc (own := [("person", 2)]) rfl scThere.nd (pi_list (pv 0)) (blkOk_of scThere (by decide +kernel))
        (fun _ _ _ _ _ => pg_name (i := 2) scThere.nd rfl (Or.inl rfl))
        (fun _ _ _ _ _ => pts_one (pt_cmpR op_ge (pe_ix (ixT (K := K) rfl) (pv 2) pe_int (fun _ _ => rfl)) (pv 1) (nomark _)))
        (fun _ _ _ _ _ => pv 2)) pa_nil))), ?_⟩
    refine ⟨_, rfl, a, rfl, (let ⟨vs, q, _⟩ := hA; ⟨vs, q⟩), lc_gen (R' := RP) mono_RP mono_RP (p := fun x => decide (t ≤ x.time)) (f := fun x => x) hA (small20 hlen) (fun D H' v x C Y hx hD hDl s1 hr hC hY => ?_) (fun D H' hD s1 hN => ?_)⟩
    · obtain ⟨p, rfl, hp⟩ := hr
      refine ⟨rfl, _, rfl, p, _, _, _, rfl, rfl, SqT.of hp, at_of (j := 1) rfl rfl, _, rfl, _, _, rfl, rfl, _, rfl, ite2 (fun h2 => ?_) fun h2 => ?_⟩
      · have ht : t ≤ x.time := by have := of_decide_eq_true h2; omega
        exact ⟨_, rfl, hY (decide_eq_true ht) _ _ (Same.refl _) ⟨p, rfl, hide_tup hDl hp⟩⟩
      · exact hC (decide_eq_false fun q => h2 (decide_eq_true (by omega)))
    · obtain ⟨us, h1, h2⟩ := hN
      refine ⟨D, us, rfl, .inl (SqL.of h1), ?_⟩
      have e : us.length = Sd58.there l t := by rw [h2.1, List.length_map]; rfl
      rw [e]
      exact k H' s1
theorem ok_ended {f : Addr} {fd : FuncData} (T : Txt K mg) (F : Fun K "ended_at" "ended_at" sEnded f fd) : FnOk P w K mg base CX0 1 f fd ["people", "time"] (spCount K Sd58.ends) := by
  refine F.ok scEnded (fun vs H Q E h => ?_) (fun cdv A outer s H vs Q E hr h => ?_)
  · obtain ⟨a, l, t, rfl, _⟩ := h
    rfl
  · obtain ⟨a, l, t, rfl, hA, hlen, k⟩ := h
    refine ⟨_, pss_one (ps_ret (pe_callB call_len_seq (by rfl) T.len PySem.boot_len (pa_cons (pe_lc (own := [("person", 2)]) rfl scEnded.nd (pi_list (pv 0)) (blkOk_of scEnded (by decide +kernel))
        (fun _ _ _ _ _ => pg_name (i := 2) scEnded.nd rfl (Or.inl rfl))
        (fun _ _ _ _ _ => pts_one (PW.pt (pw_and (pt_cmpR op_eq (pe_ix (ixT (K := K) rfl) (pv 2) pe_int (fun _ _ => rfl)) (pv 1) (nomark _)) (pw_and1 (pt_cmpR op_eq (pe_ix (ixT (K := K) rfl) (pv 2) pe_int (fun _ _ => rfl)) pe_int (nomark _))))))
        (fun _ _ _ _ _ => pv 2)) pa_nil))), ?_⟩
    refine ⟨_, rfl, a, rfl, (let ⟨vs, q, _⟩ := hA; ⟨vs, q⟩), lc_gen (R' := RP) mono_RP mono_RP (p := fun x => x.ended && x.time == t) (f := fun x => x) hA (small20 hlen) (fun D H' v x C Y hx hD hDl s1 hr hC hY => ?_) (fun D H' hD s1 hN => ?_)⟩
    · obtain ⟨p, rfl, hp⟩ := hr
      refine ⟨rfl, _, rfl, p, _, _, _, rfl, rfl, SqT.of hp, at_of (j := 1) rfl rfl, _, rfl, rfl, _, rfl, ite2 (fun h2 => ⟨_, rfl, p, _, _, _, rfl, rfl, SqT.of hp, at_of (j := 2) rfl rfl, rfl, _, rfl, ite2 (fun h3 => ?_) fun h3 => ?_⟩) fun h2 => iteF ?_⟩
      · have ht : x.time = t := by have := V.int.inj (of_decide_eq_true h2); omega
        have he : x.ended = true := by
          have h4 := V.int.inj (of_decide_eq_true h3)
          cases q : x.ended with
          | true => rfl
          | false => rw [q] at h4; exact absurd h4 (by decide)
        exact ⟨_, rfl, hY (by dsimp only; rw [he, ht]; simp) _ _ (Same.refl _) ⟨p, rfl, hide_tup hDl hp⟩⟩
      · refine hC ?_
        have he : x.ended = false := by
          cases q : x.ended with
          | false => rfl
          | true => exact absurd (decide_eq_true (by rw [q]; rfl)) h3
        dsimp only
        rw [he]; rfl
      · refine hC ?_
        have ht : ¬ x.time = t := fun q => h2 (decide_eq_true (by rw [q]))
        dsimp only
        rw [beq_eq_false_iff_ne.mpr ht, Bool.and_false]
    · obtain ⟨us, h1, h2⟩ := hN
      refine ⟨D, us, rfl, .inl (SqL.of h1), ?_⟩
      have e : us.length = Sd58.ends l t := by rw [h2.1, List.length_map]; rfl
      rw [e]
      exact k H' s1
def spSteps (K : PySem.W.Frag) : Sp := fun vs H Q _ => ∃ (a : Addr) (l : List Sd58.One), vs = [.ref a] ∧ LAt K RP H a l ∧ l.length ≤ 20 ∧ ∀ (H' : Hp) (D : Addr), H D = none → Same H H' → LAt K RS H' D (stepsL l) → Q (.ref D) H'
theorem scSteps : FnScope ["people", "ends", "person", "end"] ["people"] (defScope sSteps) := ⟨rfl, rfl, rfl, by decide +kernel, rfl, by decide +kernel, by decide +kernel⟩
theorem times_of {l : List Sd58.One} {ns : List Int} (hm : ∀ k, k ∈ ns ↔ k ∈ ((l.filter fun x => x.ended).map fun x => (x.time : Int))) (hs : ns.Pairwise (· < ·)) : ns = (Sd58.times l).map fun (u : Nat) => (u : Int) := by
  have hnn : ∀ k ∈ ns, 0 ≤ k := fun k hk => by
    obtain ⟨x, _, e⟩ := List.mem_map.mp ((hm k).mp hk)
    omega
  have e1 : ns = (ns.map Int.toNat).map fun u => ((u : Nat) : Int) := by
    rw [List.map_map]
    refine (List.map_id _).symm.trans (List.map_congr_left fun k hk => ?_)
    have := hnn k hk
    show k = ((k.toNat : Nat) : Int)
    omega
  have hs2 : (ns.map Int.toNat).Pairwise (· < ·) := by
    rw [List.pairwise_map]
    refine List.Pairwise.imp_of_mem (fun {a b} ha hb h => ?_) hs
    have := hnn a ha
    have := hnn b hb
    omega
  have : ns.map Int.toNat = Sd58.times l := strict_unique hs2 (times_sorted l) fun u => by
    rw [mem_times, List.mem_map]
    constructor
    · rintro ⟨k, hk, e⟩
      obtain ⟨x, hx, e2⟩ := List.mem_map.mp ((hm k).mp hk)
      obtain ⟨h1, h2⟩ := List.mem_filter.mp hx
      exact ⟨x, h1, h2, by omega⟩
    · rintro ⟨x, h1, h2, e⟩
      exact ⟨(x.time : Int), (hm _).mpr (List.mem_map.mpr ⟨x, List.mem_filter.mpr ⟨h1, h2⟩, rfl⟩), by omega⟩
  rw [this] at e1
  exact e1
theorem ok_steps {f : Addr} {fd : FuncData} (T : Txt K mg) (F : Fun K "steps_of" "steps_of" sSteps f fd) (hT : Has P w K mg base "there_at" sThere ["people", "time"] 1 (spCount K Sd58.there)) (hE : Has P w K mg base "ended_at" sEnded ["people", "time"] 1 (spCount K Sd58.ends)) :
    FnOk P w K mg base CX0 2 f fd ["people"] (spSteps K) := by
  obtain ⟨fT, fdT, DT, GT⟩ := hT
  obtain ⟨fE, fdE, DE, GE⟩ := hE
  refine F.ok scSteps (fun vs H Q E h => ?_) (fun cdv A outer s H vs Q E hr h => ?_)
  · obtain ⟨a, l, rfl, _⟩ := h
    rfl
  · obtain ⟨a, l, rfl, hA, hlen, k⟩ := h
    refine ⟨_, pss_cons (ps_set (i := 1) scSteps.nd rfl (Or.inl rfl) (pe_callB (cr_sortedI rfl) (by rfl) T.sorted bt_sorted (pa_cons (pe_callTy (cr_setI rfl) (by rfl) T.set bt_set (pa_cons
        (pe_lc (own := [("person", 2)]) rfl scSteps.nd (pi_list (pv 0)) (blkOk_of scSteps (by decide +kernel)) (fun _ _ _ _ _ => pg_name (i := 2) scSteps.nd rfl (Or.inl rfl))
          (fun _ _ _ _ _ => pts_one (pt_cmpR op_eq (pe_ix (ixT (K := K) rfl) (pv 2) pe_int (fun _ _ => rfl)) pe_int (nomark _))) (fun _ _ _ _ _ => pe_ix (ixT (K := K) rfl) (pv 2) pe_int (fun _ _ => rfl))) pa_nil)) pa_nil)))
      (pss_one (ps_ret (pe_lc (own := [("end", 3)]) rfl scSteps.nd (pi_list (pv 1)) (blkOk_of scSteps (by decide +kernel)) (fun _ _ _ _ _ => pg_name (i := 3) scSteps.nd rfl (Or.inl rfl)) (fun _ _ _ _ _ => pts_nil)
        (fun _ _ _ _ _ => pe_tup (pa_cons (pv 3) (pa_cons (pcall GT DT hr (by decide) (pa_cons (pv 0) (pa_cons (pv 3) pa_nil))) (pa_cons (pcall GE DE hr (by decide) (pa_cons (pv 0) (pa_cons (pv 3) pa_nil))) pa_nil))))))), ?_⟩
    refine ⟨_, rfl, a, rfl, (let ⟨vs, q, _⟩ := hA; ⟨vs, q⟩), lc_gen (R' := RI) mono_RP mono_RI (p := fun x => x.ended) (f := fun x => (x.time : Int)) hA (small20 hlen) (fun D H' v x C Y hx hD hDl s1 hr hC hY => ?_) (fun D H' hD s1 hN => ?_)⟩
    · obtain ⟨p, rfl, hp⟩ := hr
      refine ⟨rfl, _, rfl, p, _, _, _, rfl, rfl, SqT.of hp, at_of (j := 2) rfl rfl, rfl, _, rfl, ite2 (fun h3 => ?_) fun h3 => ?_⟩
      · have he : x.ended = true := by
          have h4 := V.int.inj (of_decide_eq_true h3)
          cases q : x.ended with
          | true => rfl
          | false => rw [q] at h4; exact absurd h4 (by decide)
        exact ⟨_, rfl, p, _, _, _, rfl, rfl, SqT.of hp, at_of (j := 1) rfl rfl, hY he _ _ (Same.refl _) rfl⟩
      · refine hC ?_
        cases q : x.ended with
        | false => exact q
        | true => exact absurd (decide_eq_true (by rw [q]; rfl)) h3
    · have hns := hN.ints
      have hl1 : ((l.filter fun x => x.ended).map fun x => (x.time : Int)).length ≤ 20 := by
        rw [List.length_map]
        exact Nat.le_trans (List.length_filter_le _ _) hlen
      refine ⟨D, _, rfl, SqL.of hns, (by omega), fun p hp => ?_⟩
      refine ⟨p, _, _, rfl, upd_same, (by omega), fun ns' q hm hs hl hq => ?_⟩
      have e := times_of hm hs
      subst e
      have s2 : Same H (upd (upd H' p (SetO P w p ((l.filter fun x => x.ended).map fun x => (x.time : Int)) ((l.filter fun x => x.ended).map fun x => (x.time : Int)).length)) q (.lst (((Sd58.times l).map fun (u : Nat) => (u : Int)).map V.int))) := (s1.new hp).new hq
      have hlt : (Sd58.times l).length ≤ 20 := by rw [List.length_map] at hl; omega
      have hE2 : LAt K RN (upd (upd H' p (SetO P w p ((l.filter fun x => x.ended).map fun x => (x.time : Int)) ((l.filter fun x => x.ended).map fun x => (x.time : Int)).length)) q (.lst (((Sd58.times l).map fun (u : Nat) => (u : Int)).map V.int))) q (Sd58.times l) := by
        refine ⟨_, SqL.of upd_same, by rw [List.length_map, List.length_map], fun i v x h1 h2 => ?_⟩
        rw [List.getElem?_map, List.getElem?_map, h2] at h1
        exact (Option.some.inj h1).symm
      refine ⟨_, rfl, q, rfl, (let ⟨vs, z, _⟩ := hE2; ⟨vs, z⟩), lc_gen (R' := RS) mono_RN mono_RS (p := fun _ => true) (f := fun u => (u, Sd58.there l u, Sd58.ends l u)) hE2 (small20 hlt) (fun D2 H3 v u C Y hx hD2 hDl s3 hr hC hY => ?_) (fun D2 H3 hD2 s3 hN2 => ?_)⟩
      · cases hr
        refine ⟨rfl, yes ?_⟩
        refine ⟨_, rfl, _, rfl, _, rfl, a, l, u, rfl, hA.up mono_RP (s2.trans s3), hlen, fun H4 s4 => ?_⟩
        refine ⟨_, rfl, _, rfl, a, l, u, rfl, hA.up mono_RP ((s2.trans s3).trans s4), hlen, fun H5 s5 => ?_⟩
        refine ⟨(by show 3 ≤ sizeLine; decide), fun t ht => ?_⟩
        refine hY rfl _ _ ((s4.trans s5).new ht) ⟨t, rfl, ?_⟩
        have htD : t ≠ D2 := fun z => by
          obtain ⟨us, e⟩ := hDl
          have e5 := s5 _ _ (s4 _ _ e)
          rw [z, e5] at ht; cases ht
        exact hide_new htD
      · refine k H3 D2 (s2.free hD2) (s2.trans s3) ?_
        have e : (((Sd58.times l).filter fun _ => true).map fun u => (u, Sd58.there l u, Sd58.ends l u)) = stepsL l := by
          rw [List.filter_eq_self.mpr fun _ _ => rfl]; rfl
        rw [e] at hN2
        exact hN2.at
end
end LP
end
section
set_option Elab.async false
set_option linter.all false
set_option maxRecDepth 100000
namespace LP
open PySem PySem.Spec PyProof.Rows L2
open LS
abbrev sShare : Stmt := top 37
abbrev sLasting : Stmt := top 38
abbrev sSpread : Stmt := top 39
abbrev sCome : Stmt := top 40
abbrev sHalfOf : Stmt := top 41
section
variable {P : Program} {w : World} {K : PySem.W.Frag} {mg : Str → Option Value} {base : Heap}
def spShare : Sp := fun vs H Q _ => ∃ (v1 v2 : V) (f : Sd58.Fr) (x : Stp), vs = [v1, v2] ∧ RF H v1 f ∧ RS H v2 x ∧ Norm f ∧ Sz 1400 f ∧ (0 < x.2.1 ∧ x.2.2 ≤ x.2.1 ∧ x.2.1 ≤ 20) ∧ ∀ (H' : Hp) (v : V), Same H H' → RF H' v (Sd58.mul f (facS x)) → Q v H'
theorem scShare : FnScope ["share", "step"] ["share", "step"] (defScope sShare) := ⟨rfl, rfl, rfl, by decide +kernel, rfl, by decide +kernel, by decide +kernel⟩
theorem ok_share {f : Addr} {fd : FuncData} (F : Fun K "share_beyond" "share_beyond" sShare f fd) (hL : Has P w K mg base "lowest" sLowest ["above", "below"] 1 spLowest) (hT : Has P w K mg base "times" sTimes ["one", "other"] 2 (sp2F Sd58.mul)) :
    FnOk P w K mg base CX0 3 f fd ["share", "step"] spShare := by
  obtain ⟨fL, fdL, DL, GL⟩ := hL
  obtain ⟨fT, fdT, DT, GT⟩ := hT
  refine F.ok scShare (fun vs H Q E h => ?_) (fun cdv A outer s H vs Q E hr h => ?_)
  · obtain ⟨v1, v2, f, x, rfl, _⟩ := h
    rfl
  · obtain ⟨v1, v2, f, x, rfl, hf, ⟨p, rfl, hp⟩, nf, sf, hx, k⟩ := h
    refine ⟨_, pss_one (ps_ret (pcall GT DT hr (by decide) (pa_cons (pv 0) (pa_cons (pcall GL DL hr (by decide) (pa_cons (pe_op op_sub (pe_ix ix_tup (pv 1) pe_int (fun _ _ => rfl)) (pe_ix ix_tup (pv 1) pe_int (fun _ _ => rfl)))
      (pa_cons (pe_ix ix_tup (pv 1) pe_int (fun _ _ => rfl)) pa_nil))) pa_nil)))), ?_⟩
    refine ⟨_, rfl, _, rfl, p, _, _, _, rfl, rfl, SqT.of hp, at_of (j := 1) rfl rfl, _, rfl, p, _, _, _, rfl, rfl, SqT.of hp, at_of (j := 2) rfl rfl, _, _, rfl, rfl, ?_⟩
    refine ⟨_, rfl, p, _, _, _, rfl, rfl, SqT.of hp, at_of (j := 1) rfl rfl, ?_⟩
    refine ⟨_, x.2.1, rfl, hx.1, ?_, pow_le (le32 hx.2.2) (by decide), fun H1 v s1 hv => ?_⟩
    · exact pow_le (le32 (show ((x.2.1 : Int) - (x.2.2 : Int)).natAbs ≤ 20 by omega)) (by decide)
    · refine ⟨_, _, f, facS x, rfl, mono_RF.up s1 hf, hv, nf, facS_norm hx.1, sf, (facS_sz hx).mono (by decide), fun H2 v2 s2 hv2 => ?_⟩
      exact k H2 v2 (s1.trans s2) hv2
def spSt (K : PySem.W.Frag) (g : List Stp → Sd58.Fr) : Sp := fun vs H Q _ => ∃ (a : Addr) (st : List Stp), vs = [.ref a] ∧ LAt K RS H a st ∧ StOk st ∧ ∀ (H' : Hp) (v : V), Same H H' → RF H' v (g st) → Q v H'
theorem scLasting : FnScope ["steps", "share", "step"] ["steps"] (defScope sLasting) := ⟨rfl, rfl, rfl, by decide +kernel, rfl, by decide +kernel, by decide +kernel⟩
theorem ok_lasting {f : Addr} {fd : FuncData} (F : Fun K "lasting" "lasting" sLasting f fd) (hS : Has P w K mg base "share_beyond" sShare ["share", "step"] 3 spShare) : FnOk P w K mg base CX0 4 f fd ["steps"] (spSt K lastS) := by
  obtain ⟨fS, fdS, DS, GS⟩ := hS
  refine F.ok scLasting (fun vs H Q E h => ?_) (fun cdv A outer s H vs Q E hr h => ?_)
  · obtain ⟨a, st, rfl, _⟩ := h
    rfl
  · obtain ⟨a, st, rfl, hA, hst, k⟩ := h
    refine ⟨_, pss_cons (ps_set (i := 1) scLasting.nd rfl (Or.inl rfl) (pe_tup (pa_cons pe_int (pa_cons pe_int pa_nil))))
      (pss_cons (ps_for PassesOwn.never rfl (pi_list (pv 0)) (pg_name (i := 2) scLasting.nd rfl (Or.inl rfl))
        (pss_one (ps_set (i := 1) scLasting.nd rfl (Or.inl rfl) (pcall GS DS hr (by decide) (pa_cons (pv 1) (pa_cons (pv 2) pa_nil))))))
      (pss_one (ps_ret (pv 1)))), ?_⟩
    refine ⟨(by show 2 ≤ sizeLine; decide), fun p hp => ?_⟩
    have s0 : Same H (upd H p (.tup [.int 1, .int 1])) := Same.newH hp
    have hA0 := hA.up mono_RS s0
    refine ⟨_, rfl, a, rfl, (let ⟨vs, q, _⟩ := hA0; ⟨vs, q⟩), for_gen mono_RS hA0 (fun i σ H' => ∃ (v : V) (z : Option V), σ = [some (.ref a), some v, z] ∧ Same (upd H p (.tup [.int 1, .int 1])) H' ∧ RF H' v (lastS (st.take i)))
      ⟨_, none, rfl, Same.refl _, p, rfl, upd_same⟩ (fun i σ H' ⟨_, _, _, q, _⟩ => q) ?_ ?_⟩
    · rintro i v x σ H' hx hr' ⟨u, z, rfl, s1, hu⟩
      have hxo := hst.all x (List.mem_of_getElem? hx)
      refine ⟨_, rfl, _, rfl, _, _, _, x, rfl, hu, hr', lastS_norm (hst.take i), (lastS_sz (hst.take i)).mono (by decide), hxo, fun H2 v2 s2 hv2 => ?_⟩
      refine ⟨_, _, rfl, s1.trans s2, ?_⟩
      have e : lastS (st.take (i + 1)) = Sd58.mul (lastS (st.take i)) (facS x) := foldl_snoc hx
      rw [e]
      exact hv2
    · rintro σ H' ⟨u, z, rfl, s1, hu⟩
      rw [List.take_length] at hu
      exact ⟨_, rfl, k H' u (s0.trans s1) hu⟩
theorem scCome : FnScope ["steps", "total", "end", "there", "ended"] ["steps"] (defScope sCome) := ⟨rfl, rfl, rfl, by decide +kernel, rfl, by decide +kernel, by decide +kernel⟩
theorem ok_come {f : Addr} {fd : FuncData} (F : Fun K "come_by" "come_by" sCome f fd) (hL : Has P w K mg base "lowest" sLowest ["above", "below"] 1 spLowest) (hP : Has P w K mg base "plus" sPlus ["one", "other"] 2 (sp2F Sd58.add)) :
    FnOk P w K mg base CX0 3 f fd ["steps"] (spSt K comeS) := by
  obtain ⟨fL, fdL, DL, GL⟩ := hL
  obtain ⟨fP, fdP, DP, GP⟩ := hP
  refine F.ok scCome (fun vs H Q E h => ?_) (fun cdv A outer s H vs Q E hr h => ?_)
  · obtain ⟨a, st, rfl, _⟩ := h
    rfl
  · obtain ⟨a, st, rfl, hA, hst, k⟩ := h
    refine ⟨_, pss_cons (ps_set (i := 1) scCome.nd rfl (Or.inl rfl) (pe_tup (pa_cons pe_int (pa_cons pe_int pa_nil))))
      (pss_cons (ps_for PassesOwn.never rfl (pi_list (pv 0)) (pg_tup rfl (pgs_cons (pg_name (i := 2) scCome.nd rfl (Or.inl rfl)) (pgs_cons (pg_name (i := 3) scCome.nd rfl (Or.inl rfl)) (pgs_cons (pg_name (i := 4) scCome.nd rfl (Or.inl rfl)) pgs_nil))))
        (pss_one (ps_set (i := 1) scCome.nd rfl (Or.inl rfl) (pcall GP DP hr (by decide) (pa_cons (pv 1) (pa_cons (pcall GL DL hr (by decide) (pa_cons (pv 4) (pa_cons (pv 3) pa_nil))) pa_nil))))))
      (pss_one (ps_ret (pv 1)))), ?_⟩
    refine ⟨(by show 2 ≤ sizeLine; decide), fun p hp => ?_⟩
    have s0 : Same H (upd H p (.tup [.int 0, .int 1])) := Same.newH hp
    have hA0 := hA.up mono_RS s0
    refine ⟨_, rfl, a, rfl, (let ⟨vs, q, _⟩ := hA0; ⟨vs, q⟩), for_gen mono_RS hA0 (fun i σ H' => ∃ (v : V) (z1 z2 z3 : Option V), σ = [some (.ref a), some v, z1, z2, z3] ∧ Same (upd H p (.tup [.int 0, .int 1])) H' ∧ RF H' v (comeS (st.take i)))
      ⟨_, none, none, none, rfl, Same.refl _, p, rfl, upd_same⟩ (fun i σ H' ⟨_, _, _, _, _, q, _⟩ => q) ?_ ?_⟩
    · rintro i v x σ H' hx ⟨t, rfl, ht⟩ ⟨u, z1, z2, z3, rfl, s1, hu⟩
      have hxo := hst.all x (List.mem_of_getElem? hx)
      refine ⟨t, _, rfl, SqT.of ht, rfl, _, _, rfl, _, _, rfl, _, _, rfl, rfl, ?_⟩
      refine ⟨_, rfl, _, rfl, _, rfl, _, x.2.1, rfl, hxo.1, pow_le (le32 (show ((x.2.2 : Int)).natAbs ≤ 20 by omega)) (by decide), pow_le (le32 hxo.2.2) (by decide), fun H2 v2 s2 hv2 => ?_⟩
      refine ⟨_, _, _, comS x, rfl, mono_RF.up s2 hu, hv2, comeS_norm (hst.take i), comS_norm hxo.1, (comeS_sz (hst.take i)).mono (by decide), (comS_sz hxo).mono (by decide), fun H3 v3 s3 hv3 => ?_⟩
      refine ⟨_, _, _, _, rfl, (s1.trans s2).trans s3, ?_⟩
      have e : comeS (st.take (i + 1)) = Sd58.add (comeS (st.take i)) (comS x) := foldl_snoc hx
      rw [e]
      exact hv3
    · rintro σ H' ⟨u, z1, z2, z3, rfl, s1, hu⟩
      rw [List.take_length] at hu
      exact ⟨_, rfl, k H' u (s0.trans s1) hu⟩
theorem scSpread : FnScope ["steps", "share", "total", "end", "there", "ended"] ["steps"] (defScope sSpread) := ⟨rfl, rfl, rfl, by decide +kernel, rfl, by decide +kernel, by decide +kernel⟩
theorem ok_spread {f : Addr} {fd : FuncData} (F : Fun K "spread_of" "spread_of" sSpread f fd) (hL : Has P w K mg base "lowest" sLowest ["above", "below"] 1 spLowest) (hP : Has P w K mg base "plus" sPlus ["one", "other"] 2 (sp2F Sd58.add))
    (hT : Has P w K mg base "times" sTimes ["one", "other"] 2 (sp2F Sd58.mul)) (hS : Has P w K mg base "lasting" sLasting ["steps"] 4 (spSt K lastS)) : FnOk P w K mg base CX0 5 f fd ["steps"] (spSt K spreadS) := by
  obtain ⟨fL, fdL, DL, GL⟩ := hL
  obtain ⟨fP, fdP, DP, GP⟩ := hP
  obtain ⟨fT, fdT, DT, GT⟩ := hT
  obtain ⟨fS, fdS, DS, GS⟩ := hS
  refine F.ok scSpread (fun vs H Q E h => ?_) (fun cdv A outer s H vs Q E hr h => ?_)
  · obtain ⟨a, st, rfl, _⟩ := h
    rfl
  · obtain ⟨a, st, rfl, hA, hst, k⟩ := h
    refine ⟨_, pss_cons (ps_set (i := 1) scSpread.nd rfl (Or.inl rfl) (pcall GS DS hr (by decide) (pa_cons (pv 0) pa_nil)))
      (pss_cons (ps_if (pt_cmpR op_eq (pe_ix ix_tup (pv 1) pe_int (fun _ _ => rfl)) pe_int (nomark _)) (pss_one (ps_ret (pv 1))) pss_nil)
      (pss_cons (ps_set (i := 2) scSpread.nd rfl (Or.inl rfl) (pe_tup (pa_cons pe_int (pa_cons pe_int pa_nil))))
      (pss_cons (ps_for PassesOwn.never rfl (pi_list (pv 0)) (pg_tup rfl (pgs_cons (pg_name (i := 3) scSpread.nd rfl (Or.inl rfl)) (pgs_cons (pg_name (i := 4) scSpread.nd rfl (Or.inl rfl)) (pgs_cons (pg_name (i := 5) scSpread.nd rfl (Or.inl rfl)) pgs_nil))))
        (pss_one (ps_set (i := 2) scSpread.nd rfl (Or.inl rfl) (pcall GP DP hr (by decide) (pa_cons (pv 2) (pa_cons (pcall GL DL hr (by decide) (pa_cons (pv 5) (pa_cons (pe_op op_mul (pv 4) (pe_op op_sub (pv 4) (pv 5))) pa_nil))) pa_nil))))))
      (pss_one (ps_ret (pcall GT DT hr (by decide) (pa_cons (pcall GT DT hr (by decide) (pa_cons (pv 1) (pa_cons (pv 1) pa_nil))) (pa_cons (pv 2) pa_nil)))))))), ?_⟩
    refine ⟨_, rfl, a, st, rfl, hA, hst, fun H1 v1 s1 hv1 => ?_⟩
    obtain ⟨p1, rfl, hp1⟩ := id hv1
    refine ⟨_, rfl, p1, _, _, _, rfl, rfl, SqT.of hp1, at_of (j := 0) rfl rfl, rfl, _, rfl, ite2 (fun hc => ?_) fun hc => ?_⟩
    · have hz : (lastS st).num = 0 := V.int.inj (of_decide_eq_true hc)
      refine ⟨_, rfl, k H1 _ s1 ?_⟩
      unfold spreadS
      rw [if_pos hz]
      exact hv1
    · have hz : ¬ (lastS st).num = 0 := fun q => hc (decide_eq_true (by rw [q]))
      have hlt := lastS_lt hst hz
      refine ⟨(by show 2 ≤ sizeLine; decide), fun p hp => ?_⟩
      have s0 : Same H1 (upd H1 p (.tup [.int 0, .int 1])) := Same.newH hp
      have hA0 := hA.up mono_RS (s1.trans s0)
      have hlt' : ∀ i, ∀ x ∈ st.take i, x.2.2 < x.2.1 := fun i x hx => hlt x (List.mem_of_mem_take hx)
      refine ⟨_, rfl, a, rfl, (let ⟨vs, q, _⟩ := hA0; ⟨vs, q⟩), for_gen mono_RS hA0 (fun i σ H' => ∃ (v : V) (z1 z2 z3 : Option V), σ = [some (.ref a), some (.ref p1), some v, z1, z2, z3] ∧ Same (upd H1 p (.tup [.int 0, .int 1])) H' ∧ RF H' v (varsS (st.take i)))
        ⟨_, none, none, none, rfl, Same.refl _, p, rfl, upd_same⟩ (fun i σ H' ⟨_, _, _, _, _, q, _⟩ => q) ?_ ?_⟩
      · rintro i v x σ H' hx ⟨t, rfl, ht⟩ ⟨u, z1, z2, z3, rfl, s2, hu⟩
        have hxm := List.mem_of_getElem? hx
        have hxo := hst.all x hxm
        have hxl := hlt x hxm
        refine ⟨t, _, rfl, SqT.of ht, rfl, _, _, rfl, _, _, rfl, _, _, rfl, rfl, ?_⟩
        refine ⟨_, rfl, _, rfl, _, rfl, _, rfl, _, rfl, _, _, rfl, rfl, _, _, rfl, rfl, .inl ⟨by omega, by omega⟩, ?_⟩
        have e0 : ((x.2.1 : Int) * ((x.2.1 : Int) - (x.2.2 : Int))) = ((x.2.1 * (x.2.1 - x.2.2) : Nat) : Int) := by
          rw [Int.natCast_mul]; congr 1; omega
        refine ⟨_, x.2.1 * (x.2.1 - x.2.2), ?_, Nat.mul_pos hxo.1 (by omega), pow_le (le32 (show ((x.2.2 : Int)).natAbs ≤ 20 by omega)) (by decide), pow_le (le512 hxo.2.2 (by omega)) (by decide), fun H2 v2 s3 hv2 => ?_⟩
        · show [V.int _, V.int ((x.2.1 : Int) * ((x.2.1 : Int) - (x.2.2 : Int)))] = _
          rw [e0]
          rfl
        refine ⟨_, _, _, varS x, rfl, mono_RF.up s3 hu, hv2, varsS_norm (hlt' i), varS_norm hxl, (varsS_sz (hst.take i) (hlt' i)).mono (by decide), (varS_sz hxo hxl).mono (by decide), fun H3 v3 s4 hv3 => ?_⟩
        refine ⟨_, _, _, _, rfl, (s2.trans s3).trans s4, ?_⟩
        have e : varsS (st.take (i + 1)) = Sd58.add (varsS (st.take i)) (varS x) := foldl_snoc hx
        rw [e]
        exact hv3
      · rintro σ H' ⟨u, z1, z2, z3, rfl, s2, hu⟩
        rw [List.take_length] at hu
        have hv1' : RF H' (.ref p1) (lastS st) := mono_RF.up (s0.trans s2) hv1
        refine ⟨_, rfl, _, rfl, _, _, _, _, rfl, hv1', hv1', lastS_norm hst, lastS_norm hst, (lastS_sz hst).mono (by decide), (lastS_sz hst).mono (by decide), fun H2 v2 s3 hv2 => ?_⟩
        refine ⟨_, rfl, _, _, _, _, rfl, hv2, mono_RF.up s3 hu, mul_norm (lastS_norm hst) (lastS_norm hst), varsS_norm hlt, (mul_sz (lastS_norm hst) (lastS_norm hst) (lastS_sz hst) (lastS_sz hst)).mono (by decide), (varsS_sz hst hlt).mono (by decide), fun H3 v3 s4 hv3 => ?_⟩
        refine k H3 v3 ((((s1.trans s0).trans s2).trans s3).trans s4) ?_
        unfold spreadS
        rw [if_neg hz]
        exact hv3
def halfI (l : List Sd58.One) : Int := match Sd58.half l with
  | none => -3
  | some t => (t : Int)
def spHalfOf (K : PySem.W.Frag) : Sp := fun vs H Q _ => ∃ (a : Addr) (l : List Sd58.One), vs = [.ref a] ∧ LAt K RS H a (stepsL l) ∧ l.length ≤ 20 ∧ ∀ (H' : Hp), Same H H' → Q (.int (halfI l)) H'
theorem scHalfOf : FnScope ["steps", "share", "step"] ["steps"] (defScope sHalfOf) := ⟨rfl, rfl, rfl, by decide +kernel, rfl, by decide +kernel, by decide +kernel⟩
theorem ok_halfOf {f : Addr} {fd : FuncData} (T : Txt K mg) (F : Fun K "half_of" "half_of" sHalfOf f fd) (hS : Has P w K mg base "share_beyond" sShare ["share", "step"] 3 spShare) : FnOk P w K mg base CX0 4 f fd ["steps"] (spHalfOf K) := by
  obtain ⟨fS, fdS, DS, GS⟩ := hS
  refine F.ok scHalfOf (fun vs H Q E h => ?_) (fun cdv A outer s H vs Q E hr h => ?_)
  · obtain ⟨a, l, rfl, _⟩ := h
    rfl
  · obtain ⟨a, l, rfl, hA, hlen, k⟩ := h
    have hst := steps_ok hlen
    refine ⟨_, pss_cons (ps_set (i := 1) scHalfOf.nd rfl (Or.inl rfl) (pe_tup (pa_cons pe_int (pa_cons pe_int pa_nil))))
      (pss_cons (ps_for PassesOwn.never rfl (pi_list (pv 0)) (pg_name (i := 2) scHalfOf.nd rfl (Or.inl rfl))
        (pss_cons (ps_set (i := 1) scHalfOf.nd rfl (Or.inl rfl) (pcall GS DS hr (by decide) (pa_cons (pv 1) (pa_cons (pv 2) pa_nil))))
        (pss_one (ps_if (pt_cmpR op_le (pe_op op_mul pe_int (pe_ix ix_tup (pv 1) pe_int (fun _ _ => rfl))) (pe_ix ix_tup (pv 1) pe_int (fun _ _ => rfl)) (nomark _)) (pss_one (ps_ret (pe_ix ix_tup (pv 2) pe_int (fun _ _ => rfl)))) pss_nil))))
      (pss_one (ps_ret (pk T.NO_HALF)))), ?_⟩
    refine ⟨(by show 2 ≤ sizeLine; decide), fun p hp => ?_⟩
    have s0 : Same H (upd H p (.tup [.int 1, .int 1])) := Same.newH hp
    have hA0 := hA.up mono_RS s0
    refine ⟨_, rfl, a, rfl, (let ⟨vs, q, _⟩ := hA0; ⟨vs, q⟩), for_gen mono_RS hA0 (fun i σ H' => ∃ (v : V) (z : Option V), σ = [some (.ref a), some v, z] ∧ Same (upd H p (.tup [.int 1, .int 1])) H' ∧ RF H' v (lastS ((stepsL l).take i)) ∧ noHalf l i)
      ⟨_, none, rfl, Same.refl _, ⟨p, rfl, upd_same⟩, fun j u hj => by omega⟩ (fun i σ H' ⟨_, _, _, q, _⟩ => q) ?_ ?_⟩
    · rintro i v x σ H' hx hr' ⟨u, z, rfl, s1, hu, hn⟩
      have hxo := hst.all x (List.mem_of_getElem? hx)
      obtain ⟨t, ht, hxt⟩ := steps_at hx
      refine ⟨_, rfl, _, rfl, _, _, _, x, rfl, hu, hr', lastS_norm (hst.take i), (lastS_sz (hst.take i)).mono (by decide), hxo, fun H2 v2 s2 hv2 => ?_⟩
      have e : lastS ((stepsL l).take (i + 1)) = Sd58.mul (lastS ((stepsL l).take i)) (facS x) := foldl_snoc hx
      rw [← e] at hv2
      obtain ⟨p2, rfl, hp2⟩ := id hv2
      have eS : lastS ((stepsL l).take (i + 1)) = shareAt l (i + 1) := lastS_share l (i + 1)
      refine ⟨_, rfl, p2, _, _, _, rfl, rfl, SqT.of hp2, at_of (j := 0) rfl rfl, _, _, rfl, rfl, .inl ⟨by decide, by decide⟩, _, rfl, p2, _, _, _, rfl, rfl, SqT.of hp2, at_of (j := 1) rfl rfl, _, _, rfl, rfl, _, rfl, ite2 (fun hc => ?_) fun hc => ?_⟩
      · obtain ⟨q, rfl, hq⟩ := mono_RS.up s2 hr'
        refine ⟨_, rfl, q, _, _, _, rfl, rfl, SqT.of hq, at_of (j := 0) rfl rfl, ?_⟩
        have hc' : 2 * (shareAt l (i + 1)).num ≤ ((shareAt l (i + 1)).den : Int) := by rw [← eS]; exact of_decide_eq_true hc
        have hh := half_some hn ht hc'
        have e2 : V.int (halfI l) = vN x.1 := by
          unfold halfI
          rw [hh, hxt]
          rfl
        have := k H2 ((s0.trans s1).trans s2)
        rw [e2] at this
        exact this
      · refine ⟨_, _, rfl, s1.trans s2, hv2, fun j u' hj hu' => ?_⟩
        rcases Nat.lt_or_ge j i with q | q
        · exact hn j u' q hu'
        · have e3 : j = i := by omega
          subst e3
          rw [← eS]
          exact fun q => hc (decide_eq_true q)
    · rintro σ H' ⟨u, z, rfl, s1, hu, hn⟩
      have hl : (stepsL l).length = (Sd58.times l).length := by unfold stepsL; rw [List.length_map]
      rw [hl] at hn
      have hh := half_none hn
      have := k H' (s0.trans s1)
      unfold halfI at this
      rw [hh] at this
      exact this
end
end LP
end
section
set_option Elab.async false
set_option linter.all false
set_option maxRecDepth 100000
namespace LP
open PySem PySem.Spec PyProof.Rows L2
open LS
abbrev sGapOf : Stmt := top 42
abbrev sSwayOf : Stmt := top 43
abbrev sPairWorth : Stmt := top 44
abbrev sWorth : Stmt := top 45
abbrev sPairsOf : Stmt := top 46
section
variable {P : Program} {w : World} {K : PySem.W.Frag} {mg : Str → Option Value} {base : Heap}
def spPeople (K : PySem.W.Frag) (g : List Sd58.One → Sd58.Fr) : Sp := fun vs H Q _ => ∃ (a : Addr) (l : List Sd58.One), vs = [.ref a] ∧ LAt K RP H a l ∧ Fine l ∧ ∀ (H' : Hp) (v : V), Same H H' → RF H' v (g l) → Q v H'
theorem scGapOf : FnScope ["people", "ones", "total", "end", "there", "ended", "above"] ["people"] (defScope sGapOf) := ⟨rfl, rfl, rfl, by decide +kernel, rfl, by decide +kernel, by decide +kernel⟩
theorem le64 {n : Nat} (h : n ≤ 20) : -(2 ^ 64) < (n : Int) ∧ (n : Int) < 2 ^ 64 := ⟨by omega, by omega⟩
theorem ends_20 {l : List Sd58.One} (h : l.length ≤ 20) (u : Nat) : Sd58.ends l u ≤ 20 := Nat.le_trans (ends_le_there l u) (Nat.le_trans (there_le l u) h)
theorem there_20 {l : List Sd58.One} (h : l.length ≤ 20) (u : Nat) : Sd58.there l u ≤ 20 := Nat.le_trans (there_le l u) h
theorem ok_gapOf {f : Addr} {fd : FuncData} (F : Fun K "gap_of" "gap_of" sGapOf f fd) (hM : Has P w K mg base "members" sMembers ["people", "group"] 1 (spMembers K)) (hS : Has P w K mg base "steps_of" sSteps ["people"] 2 (spSteps K))
    (hT : Has P w K mg base "there_at" sThere ["people", "time"] 1 (spCount K Sd58.there)) (hE : Has P w K mg base "ended_at" sEnded ["people", "time"] 1 (spCount K Sd58.ends))
    (hL : Has P w K mg base "lowest" sLowest ["above", "below"] 1 spLowest) (hP : Has P w K mg base "plus" sPlus ["one", "other"] 2 (sp2F Sd58.add)) : FnOk P w K mg base CX0 3 f fd ["people"] (spPeople K Sd58.gap) := by
  obtain ⟨fM, fdM, DM, GM⟩ := hM
  obtain ⟨fS, fdS, DS, GS⟩ := hS
  obtain ⟨fT, fdT, DT, GT⟩ := hT
  obtain ⟨fE, fdE, DE, GE⟩ := hE
  obtain ⟨fL, fdL, DL, GL⟩ := hL
  obtain ⟨fP, fdP, DP, GP⟩ := hP
  refine F.ok scGapOf (fun vs H Q E h => ?_) (fun cdv A outer s H vs Q E hr h => ?_)
  · obtain ⟨a, l, rfl, _⟩ := h
    rfl
  · obtain ⟨a, l, rfl, hA, hF, k⟩ := h
    have hlen := hF.len
    have hlen1 := Nat.le_trans (ofGroup_len l 1) hlen
    refine ⟨_, pss_cons (ps_set (i := 1) scGapOf.nd rfl (Or.inl rfl) (pcall GM DM hr (by decide) (pa_cons (pv 0) (pa_cons pe_int pa_nil))))
      (pss_cons (ps_set (i := 2) scGapOf.nd rfl (Or.inl rfl) (pe_tup (pa_cons pe_int (pa_cons pe_int pa_nil))))
      (pss_cons (ps_for PassesOwn.never rfl (pi_list (pcall GS DS hr (by decide) (pa_cons (pv 0) pa_nil))) (pg_tup rfl (pgs_cons (pg_name (i := 3) scGapOf.nd rfl (Or.inl rfl)) (pgs_cons (pg_name (i := 4) scGapOf.nd rfl (Or.inl rfl)) (pgs_cons (pg_name (i := 5) scGapOf.nd rfl (Or.inl rfl)) pgs_nil))))
        (pss_cons (ps_set (i := 6) scGapOf.nd rfl (Or.inl rfl) (pe_op op_sub (pe_op op_mul (pcall GE DE hr (by decide) (pa_cons (pv 1) (pa_cons (pv 3) pa_nil))) (pv 4)) (pe_op op_mul (pcall GT DT hr (by decide) (pa_cons (pv 1) (pa_cons (pv 3) pa_nil))) (pv 5))))
        (pss_one (ps_set (i := 2) scGapOf.nd rfl (Or.inl rfl) (pcall GP DP hr (by decide) (pa_cons (pv 2) (pa_cons (pcall GL DL hr (by decide) (pa_cons (pv 6) (pa_cons (pv 4) pa_nil))) pa_nil)))))))
      (pss_one (ps_ret (pv 2))))), ?_⟩
    refine ⟨_, rfl, a, l, 1, rfl, hA, hlen, fun H1 D1 hD1 s1 hM1 => ?_⟩
    refine ⟨(by show 2 ≤ sizeLine; decide), fun p hp => ?_⟩
    have s2 : Same H1 (upd H1 p (.tup [.int 0, .int 1])) := Same.newH hp
    refine ⟨_, rfl, a, l, rfl, hA.up mono_RP (s1.trans s2), hlen, fun H3 D3 hD3 s3 hS3 => ?_⟩
    have hM3 := hM1.up mono_RP (s2.trans s3)
    have hRp : RF H3 (.ref p) (gapTo l 0) := ⟨p, rfl, s3 _ _ upd_same⟩
    refine ⟨D3, rfl, (let ⟨vs, q, _⟩ := hS3; ⟨vs, q⟩), for_gen mono_RS hS3 (fun i σ H' => ∃ (v : V) (z1 z2 z3 z4 : Option V), σ = [some (.ref a), some (.ref D1), some v, z1, z2, z3, z4] ∧ Same H3 H' ∧ RF H' v (gapTo l i))
      ⟨_, none, none, none, none, rfl, Same.refl _, hRp⟩ (fun i σ H' ⟨_, _, _, _, _, _, q, _⟩ => q) ?_ ?_⟩
    · rintro i v x σ H' hx ⟨t, rfl, ht⟩ ⟨v0, z1, z2, z3, z4, rfl, s4, hv0⟩
      obtain ⟨u, hu, rfl⟩ := steps_at hx
      have hum := List.mem_of_getElem? hu
      have e1 := ends_20 hlen1 u
      have e2 := there_20 hlen1 u
      refine ⟨t, _, rfl, SqT.of ht, rfl, _, _, rfl, _, _, rfl, _, _, rfl, rfl, ?_⟩
      refine ⟨_, rfl, _, rfl, D1, _, u, rfl, hM3.up mono_RP s4, hlen1, fun H5 s5 => ?_⟩
      refine ⟨_, rfl, _, _, rfl, rfl, .inl (le64 e1), ?_⟩
      refine ⟨_, rfl, _, rfl, D1, _, u, rfl, hM3.up mono_RP (s4.trans s5), hlen1, fun H6 s6 => ?_⟩
      refine ⟨_, rfl, _, _, rfl, rfl, .inl (le64 e2), _, _, rfl, rfl, ?_⟩
      have hv6 := mono_RF.up (s5.trans s6) hv0
      refine ⟨_, rfl, _, rfl, _, rfl, _, Sd58.there l u, rfl, there_pos hum, pow_le (gapAt_bd hlen hlen1 u) (by decide), pow_le (le32 (there_20 hlen u)) (by decide), fun H7 v7 s7 hv7 => ?_⟩
      refine ⟨_, _, _, gapAt l (Sd58.ofGroup l 1) u, rfl, mono_RF.up s7 hv6, hv7, gapTo_norm l i, gapAt_norm hum _, (gapTo_sz hlen i).mono (by decide), (gapAt_sz hlen hlen1 hum).mono (by decide), fun H8 v8 s8 hv8 => ?_⟩
      refine ⟨_, _, _, _, _, rfl, (((s4.trans s5).trans s6).trans s7).trans s8, ?_⟩
      have e : gapTo l (i + 1) = Sd58.add (gapTo l i) (gapAt l (Sd58.ofGroup l 1) u) := foldl_snoc hu
      rw [e]
      exact hv8
    · rintro σ H' ⟨v0, z1, z2, z3, z4, rfl, s4, hv0⟩
      have hl : (stepsL l).length = (Sd58.times l).length := by unfold stepsL; rw [List.length_map]
      rw [hl, gapTo_all] at hv0
      exact ⟨_, rfl, k H' v0 (((s1.trans s2).trans s3).trans s4) hv0⟩
theorem scSwayOf : FnScope ["people", "ones", "total", "end", "there", "ended", "there_of_ones", "above"] ["people"] (defScope sSwayOf) := ⟨rfl, rfl, rfl, by decide +kernel, rfl, by decide +kernel, by decide +kernel⟩
theorem ok_swayOf {f : Addr} {fd : FuncData} (F : Fun K "sway_of" "sway_of" sSwayOf f fd) (hM : Has P w K mg base "members" sMembers ["people", "group"] 1 (spMembers K)) (hS : Has P w K mg base "steps_of" sSteps ["people"] 2 (spSteps K))
    (hT : Has P w K mg base "there_at" sThere ["people", "time"] 1 (spCount K Sd58.there))
    (hL : Has P w K mg base "lowest" sLowest ["above", "below"] 1 spLowest) (hP : Has P w K mg base "plus" sPlus ["one", "other"] 2 (sp2F Sd58.add)) : FnOk P w K mg base CX0 3 f fd ["people"] (spPeople K Sd58.sway) := by
  obtain ⟨fM, fdM, DM, GM⟩ := hM
  obtain ⟨fS, fdS, DS, GS⟩ := hS
  obtain ⟨fT, fdT, DT, GT⟩ := hT
  obtain ⟨fL, fdL, DL, GL⟩ := hL
  obtain ⟨fP, fdP, DP, GP⟩ := hP
  refine F.ok scSwayOf (fun vs H Q E h => ?_) (fun cdv A outer s H vs Q E hr h => ?_)
  · obtain ⟨a, l, rfl, _⟩ := h
    rfl
  · obtain ⟨a, l, rfl, hA, hF, k⟩ := h
    have hlen := hF.len
    have hlen1 := Nat.le_trans (ofGroup_len l 1) hlen
    refine ⟨_, pss_cons (ps_set (i := 1) scSwayOf.nd rfl (Or.inl rfl) (pcall GM DM hr (by decide) (pa_cons (pv 0) (pa_cons pe_int pa_nil))))
      (pss_cons (ps_set (i := 2) scSwayOf.nd rfl (Or.inl rfl) (pe_tup (pa_cons pe_int (pa_cons pe_int pa_nil))))
      (pss_cons (ps_for PassesOwn.never rfl (pi_list (pcall GS DS hr (by decide) (pa_cons (pv 0) pa_nil))) (pg_tup rfl (pgs_cons (pg_name (i := 3) scSwayOf.nd rfl (Or.inl rfl)) (pgs_cons (pg_name (i := 4) scSwayOf.nd rfl (Or.inl rfl)) (pgs_cons (pg_name (i := 5) scSwayOf.nd rfl (Or.inl rfl)) pgs_nil))))
        (pss_one (ps_if (pt_cmpR op_gt (pv 4) pe_int (nomark _))
          (pss_cons (ps_set (i := 6) scSwayOf.nd rfl (Or.inl rfl) (pcall GT DT hr (by decide) (pa_cons (pv 1) (pa_cons (pv 3) pa_nil))))
          (pss_cons (ps_set (i := 7) scSwayOf.nd rfl (Or.inl rfl) (pe_op op_mul (pe_op op_mul (pe_op op_mul (pv 6) (pe_op op_sub (pv 4) (pv 6))) (pv 5)) (pe_op op_sub (pv 4) (pv 5))))
          (pss_one (ps_set (i := 2) scSwayOf.nd rfl (Or.inl rfl) (pcall GP DP hr (by decide) (pa_cons (pv 2) (pa_cons (pcall GL DL hr (by decide) (pa_cons (pv 7) (pa_cons (pe_op op_mul (pe_op op_mul (pv 4) (pv 4)) (pe_op op_sub (pv 4) pe_int)) pa_nil))) pa_nil)))))))
          pss_nil)))
      (pss_one (ps_ret (pv 2))))), ?_⟩
    refine ⟨_, rfl, a, l, 1, rfl, hA, hlen, fun H1 D1 hD1 s1 hM1 => ?_⟩
    refine ⟨(by show 2 ≤ sizeLine; decide), fun p hp => ?_⟩
    have s2 : Same H1 (upd H1 p (.tup [.int 0, .int 1])) := Same.newH hp
    refine ⟨_, rfl, a, l, rfl, hA.up mono_RP (s1.trans s2), hlen, fun H3 D3 hD3 s3 hS3 => ?_⟩
    have hM3 := hM1.up mono_RP (s2.trans s3)
    have hRp : RF H3 (.ref p) (swayTo l 0) := ⟨p, rfl, s3 _ _ upd_same⟩
    refine ⟨D3, rfl, (let ⟨vs, q, _⟩ := hS3; ⟨vs, q⟩), for_gen mono_RS hS3 (fun i σ H' => ∃ (v : V) (z1 z2 z3 z4 z5 : Option V), σ = [some (.ref a), some (.ref D1), some v, z1, z2, z3, z4, z5] ∧ Same H3 H' ∧ RF H' v (swayTo l i))
      ⟨_, none, none, none, none, none, rfl, Same.refl _, hRp⟩ (fun i σ H' ⟨_, _, _, _, _, _, _, q, _⟩ => q) ?_ ?_⟩
    · rintro i v x σ H' hx ⟨t, rfl, ht⟩ ⟨v0, z1, z2, z3, z4, z5, rfl, s4, hv0⟩
      obtain ⟨u, hu, rfl⟩ := steps_at hx
      have hum := List.mem_of_getElem? hu
      have eN : swayTo l (i + 1) = Sd58.add (swayTo l i) (swayAt l u) := foldl_snoc hu
      refine ⟨t, _, rfl, SqT.of ht, rfl, _, _, rfl, _, _, rfl, _, _, rfl, rfl, ?_⟩
      refine ⟨_, rfl, _, _, rfl, rfl, _, rfl, ite2 (fun hc => ?_) fun hc => ?_⟩
      · have hgt : ¬ Sd58.there l u ≤ 1 := by
          have := of_decide_eq_true hc
          dsimp only at this
          omega
        have e1 := there_20 hlen u
        have e2 := there_20 hlen1 u
        have e3 := ends_20 hlen u
        have e4 := ends_le_there l u
        have e5 := there_split hF.grp u
        have e6 := sway_bd hlen u
        have b1 : Sd58.there (Sd58.ofGroup l 1) u * Sd58.there (Sd58.ofGroup l 0) u ≤ 400 := Nat.mul_le_mul e2 (show Sd58.there (Sd58.ofGroup l 0) u ≤ 20 by omega)
        have b2 : Sd58.there (Sd58.ofGroup l 1) u * Sd58.there (Sd58.ofGroup l 0) u * Sd58.ends l u ≤ 8000 := Nat.mul_le_mul b1 e3
        have b3 : Sd58.there l u * Sd58.there l u ≤ 400 := Nat.mul_le_mul e1 e1
        refine ⟨_, rfl, _, rfl, D1, _, u, rfl, hM3.up mono_RP s4, hlen1, fun H5 s5 => ?_⟩
        have q1 : ((Sd58.there l u : Int) - (Sd58.there (Sd58.ofGroup l 1) u : Int)) = ((Sd58.there (Sd58.ofGroup l 0) u : Nat) : Int) := by omega
        have q2 : ((Sd58.there l u : Int) - (Sd58.ends l u : Int)) = ((Sd58.there l u - Sd58.ends l u : Nat) : Int) := by omega
        have q3 : ((Sd58.there l u : Int) - 1) = ((Sd58.there l u - 1 : Nat) : Int) := by omega
        refine ⟨_, rfl, _, rfl, _, rfl, _, _, rfl, rfl, _, _, rfl, rfl, .inl (le64 e2), _, rfl, _, _, rfl, rfl, ?_, ?_⟩
        · rw [q1, ← Int.natCast_mul]
          exact .inl ⟨by omega, by omega⟩
        refine ⟨_, rfl, _, rfl, _, _, rfl, rfl, _, _, rfl, rfl, ?_, ?_⟩
        · rw [q1, ← Int.natCast_mul, ← Int.natCast_mul]
          dsimp only
          exact .inl ⟨by omega, by omega⟩
        have hv5 := mono_RF.up s5 hv0
        refine ⟨_, rfl, _, rfl, _, rfl, _, rfl, _, _, rfl, rfl, .inl (le64 e1), _, rfl, _, _, rfl, rfl, _, _, rfl, rfl, ?_, ?_⟩
        · rw [← Int.natCast_mul]
          dsimp only
          exact .inl ⟨by omega, by omega⟩
        refine ⟨((Sd58.there (Sd58.ofGroup l 1) u * Sd58.there (Sd58.ofGroup l 0) u * Sd58.ends l u * (Sd58.there l u - Sd58.ends l u) : Nat) : Int), Sd58.there l u * Sd58.there l u * (Sd58.there l u - 1), ?_, Nat.mul_pos (Nat.mul_pos (by omega) (by omega)) (by omega), ?_, pow_le e6.2 (by decide), fun H7 v7 s7 hv7 => ?_⟩
        · show [V.int ((Sd58.there (Sd58.ofGroup l 1) u : Int) * ((Sd58.there l u : Int) - (Sd58.there (Sd58.ofGroup l 1) u : Int)) * (Sd58.ends l u : Int) * ((Sd58.there l u : Int) - (Sd58.ends l u : Int))), V.int ((Sd58.there l u : Int) * (Sd58.there l u : Int) * ((Sd58.there l u : Int) - 1))] = _
          rw [q1, q2, q3, ← Int.natCast_mul, ← Int.natCast_mul, ← Int.natCast_mul, ← Int.natCast_mul, ← Int.natCast_mul]
          rfl
        · rw [Int.natAbs_natCast]
          exact pow_le e6.1 (by decide)
        have hsw : swayAt l u = swayFr l u := by unfold swayAt; rw [if_neg hgt]
        have hv7' : RF H7 v7 (swayAt l u) := by rw [hsw]; exact hv7
        refine ⟨_, _, _, swayAt l u, rfl, mono_RF.up s7 hv5, hv7', swayTo_norm l i, swayAt_norm l u, (swayTo_sz hlen i).mono (by decide), (swayAt_sz hlen u).mono (by decide), fun H8 v8 s8 hv8 => ?_⟩
        refine ⟨_, _, _, _, _, _, rfl, ((s4.trans s5).trans s7).trans s8, ?_⟩
        rw [eN]
        exact hv8
      · have hle : Sd58.there l u ≤ 1 := by
          rcases Nat.lt_or_ge 1 (Sd58.there l u) with q | q
          · exact absurd (decide_eq_true (by show (1 : Int) < ((Sd58.there l u : Nat) : Int); omega)) hc
          · exact q
        refine ⟨_, _, _, _, _, _, rfl, s4, ?_⟩
        have hsw : swayAt l u = Sd58.zero := by unfold swayAt; rw [if_pos hle]
        rw [eN, hsw, add_zero (swayTo_norm l i)]
        exact hv0
    · rintro σ H' ⟨v0, z1, z2, z3, z4, z5, rfl, s4, hv0⟩
      have hl : (stepsL l).length = (Sd58.times l).length := by unfold stepsL; rw [List.length_map]
      rw [hl, swayTo_all] at hv0
      exact ⟨_, rfl, k H' v0 (((s1.trans s2).trans s3).trans s4) hv0⟩
def spPairWorth : Sp := fun vs H Q _ => ∃ (v1 v2 : V) (x y : Sd58.One), vs = [v1, v2] ∧ RP H v1 x ∧ RP H v2 y ∧ Q (vN (worth x.time y.time)) H
theorem scPairWorth : FnScope ["person", "other"] ["person", "other"] (defScope sPairWorth) := ⟨rfl, rfl, rfl, by decide +kernel, rfl, by decide +kernel, by decide +kernel⟩
theorem ok_pairWorth {f : Addr} {fd : FuncData} (F : Fun K "pair_worth" "pair_worth" sPairWorth f fd) : FnOk P w K mg base CX0 1 f fd ["person", "other"] spPairWorth := by
  refine F.ok scPairWorth (fun vs H Q E h => ?_) (fun cdv A outer s H vs Q E hr h => ?_)
  · obtain ⟨v1, v2, x, y, rfl, _⟩ := h
    rfl
  · obtain ⟨v1, v2, x, y, rfl, ⟨p, rfl, hp⟩, ⟨q, rfl, hq⟩, k⟩ := h
    refine ⟨_, pss_cons (ps_if (pt_cmpR op_gt (pe_ix ix_tup (pv 0) pe_int (fun _ _ => rfl)) (pe_ix ix_tup (pv 1) pe_int (fun _ _ => rfl)) (nomark _)) (pss_one (ps_ret pe_int)) pss_nil)
      (pss_one (ps_ret (pe_ifExp (pt_cmpR op_eq (pe_ix ix_tup (pv 0) pe_int (fun _ _ => rfl)) (pe_ix ix_tup (pv 1) pe_int (fun _ _ => rfl)) (nomark _)) pe_int pe_int))), ?_⟩
    refine ⟨_, rfl, p, _, _, _, rfl, rfl, SqT.of hp, at_of (j := 1) rfl rfl, _, rfl, q, _, _, _, rfl, rfl, SqT.of hq, at_of (j := 1) rfl rfl, _, _, rfl, rfl, _, rfl, ite2 (fun hc => ?_) fun hc => ?_⟩
    · have h1 : y.time < x.time := by have := of_decide_eq_true hc; omega
      have e : worth x.time y.time = 2 := by unfold worth; rw [if_pos h1]
      rw [e] at k
      exact k
    · have h1 : ¬ y.time < x.time := fun z => hc (decide_eq_true (by omega))
      refine ⟨_, rfl, p, _, _, _, rfl, rfl, SqT.of hp, at_of (j := 1) rfl rfl, _, rfl, q, _, _, _, rfl, rfl, SqT.of hq, at_of (j := 1) rfl rfl, rfl, _, rfl, ite2 (fun hd => ?_) fun hd => ?_⟩
      · have h2 : y.time = x.time := by have := V.int.inj (of_decide_eq_true hd); omega
        have e : worth x.time y.time = 1 := by unfold worth; rw [if_neg h1, if_pos h2]
        rw [e] at k
        exact k
      · have h2 : ¬ y.time = x.time := fun z => hd (decide_eq_true (by rw [z]))
        have e : worth x.time y.time = 0 := by unfold worth; rw [if_neg h1, if_neg h2]
        rw [e] at k
        exact k
theorem sum_cast {α : Type} (f : α → Nat) : ∀ l : List α, (l.map fun x => ((f x : Nat) : Int)).sum = (((l.map f).sum : Nat) : Int)
  | [] => rfl
  | x :: l => by
    rw [List.map_cons, List.map_cons, List.sum_cons, List.sum_cons, sum_cast f l, Int.natCast_add]
theorem filter_all {α β : Type} (f : α → β) (l : List α) : (l.filter fun _ => true).map f = l.map f := by rw [List.filter_eq_self.mpr fun _ _ => rfl]
def spWorth (K : PySem.W.Frag) : Sp := fun vs H Q _ => ∃ (v : V) (a : Addr) (x : Sd58.One) (l : List Sd58.One), vs = [v, .ref a] ∧ RP H v x ∧ LAt K RP H a l ∧ l.length ≤ 20 ∧ ∀ (H' : Hp), Same H H' → Q (vN (l.map fun y => worth x.time y.time).sum) H'
theorem scWorth : FnScope ["person", "others", "other"] ["person", "others"] (defScope sWorth) := ⟨rfl, rfl, rfl, by decide +kernel, rfl, by decide +kernel, by decide +kernel⟩
theorem ok_worth {f : Addr} {fd : FuncData} (T : Txt K mg) (F : Fun K "worth_against" "worth_against" sWorth f fd) (hW : Has P w K mg base "pair_worth" sPairWorth ["person", "other"] 1 spPairWorth) : FnOk P w K mg base CX0 2 f fd ["person", "others"] (spWorth K) := by
  obtain ⟨fW, fdW, DW, GW⟩ := hW
  refine F.ok scWorth (fun vs H Q E h => ?_) (fun cdv A outer s H vs Q E hr h => ?_)
  · obtain ⟨v, a, x, l, rfl, _⟩ := h
    rfl
  · obtain ⟨v, a, x, l, rfl, hv, hA, hlen, k⟩ := h
    refine ⟨_, pss_one (ps_ret (pe_callB (cr_sum rfl) (by rfl) T.sum bt_sum (pa_cons (pe_lc (own := [("other", 2)]) rfl scWorth.nd (pi_list (pv 1)) (blkOk_of scWorth (by decide +kernel)) (fun _ _ _ _ _ => pg_name (i := 2) scWorth.nd rfl (Or.inl rfl)) (fun _ _ _ _ _ => pts_nil)
      (fun _ _ _ _ _ => pcall GW DW hr (by decide) (pa_cons (pv 0) (pa_cons (pv 2) pa_nil)))) pa_nil))), ?_⟩
    refine ⟨_, rfl, a, rfl, (let ⟨vs, q, _⟩ := hA; ⟨vs, q⟩), lc_gen (R' := RI) mono_RP mono_RI (p := fun _ => true) (f := fun y => ((worth x.time y.time : Nat) : Int)) hA (small20 hlen) (fun D H' v' y C Y hy hD hDl s1 hr' hC hY => ?_) (fun D H' hD s1 hN => ?_)⟩
    · refine ⟨rfl, yes ?_⟩
      exact ⟨_, rfl, _, rfl, _, _, x, y, rfl, mono_RP.up s1 hv, hr', hY rfl _ _ (Same.refl _) rfl⟩
    · have hns := hN.ints
      refine ⟨D, _, rfl, SqL.of hns, ?_⟩
      rw [filter_all, sum_cast]
      exact k H' s1
def spPairsOf (K : PySem.W.Frag) : Sp := fun vs H Q _ => ∃ (a : Addr) (l : List Sd58.One), vs = [.ref a] ∧ LAt K RP H a l ∧ l.length ≤ 20 ∧ ∀ (H' : Hp), Same H H' → Q (vN (Sd58.pairs l)) H'
theorem scPairsOf : FnScope ["people", "zeros", "person"] ["people"] (defScope sPairsOf) := ⟨rfl, rfl, rfl, by decide +kernel, rfl, by decide +kernel, by decide +kernel⟩
theorem ok_pairsOf {f : Addr} {fd : FuncData} (T : Txt K mg) (F : Fun K "pairs_of" "pairs_of" sPairsOf f fd) (hM : Has P w K mg base "members" sMembers ["people", "group"] 1 (spMembers K)) (hW : Has P w K mg base "worth_against" sWorth ["person", "others"] 2 (spWorth K)) :
    FnOk P w K mg base CX0 3 f fd ["people"] (spPairsOf K) := by
  obtain ⟨fM, fdM, DM, GM⟩ := hM
  obtain ⟨fW, fdW, DW, GW⟩ := hW
  refine F.ok scPairsOf (fun vs H Q E h => ?_) (fun cdv A outer s H vs Q E hr h => ?_)
  · obtain ⟨a, l, rfl, _⟩ := h
    rfl
  · obtain ⟨a, l, rfl, hA, hlen, k⟩ := h
    refine ⟨_, pss_cons (ps_set (i := 1) scPairsOf.nd rfl (Or.inr rfl) (pcall GM DM hr (by decide) (pa_cons (pv 0) (pa_cons pe_int pa_nil))))
      (pss_one (ps_ret (pe_callB (cr_sum rfl) (by rfl) T.sum bt_sum (pa_cons (pe_lc (own := [("person", 2)]) rfl scPairsOf.nd (pi_list (pcall GM DM hr (by decide) (pa_cons (pv 0) (pa_cons pe_int pa_nil)))) (blkOk_of scPairsOf (by decide +kernel)) (fun _ _ _ _ _ => pg_name (i := 2) scPairsOf.nd rfl (Or.inl rfl)) (fun _ _ _ _ _ => pts_nil)
        (fun _ _ _ _ _ => pcall GW DW hr (by decide) (pa_cons (pv 2) (pa_cons (pv 1) pa_nil)))) pa_nil)))), ?_⟩
    refine ⟨_, rfl, a, l, 0, rfl, hA, hlen, fun H1 D1 hD1 s1 hM1 => ?_⟩
    refine ⟨_, rfl, a, l, 1, rfl, hA.up mono_RP s1, hlen, fun H2 D2 hD2 s2 hM2 => ?_⟩
    have hl0 := Nat.le_trans (ofGroup_len l 0) hlen
    have hl1 := Nat.le_trans (ofGroup_len l 1) hlen
    refine ⟨D2, rfl, (let ⟨vs, q, _⟩ := hM2; ⟨vs, q⟩), lc_gen (R' := RI) mono_RP mono_RI (p := fun _ => true) (f := fun x => ((((Sd58.ofGroup l 0).map fun y => worth x.time y.time).sum : Nat) : Int)) hM2 (small20 hl1) (fun D H' v' x C Y hy hD hDl s3 hr' hC hY => ?_) (fun D H' hD s3 hN => ?_)⟩
    · refine ⟨rfl, yes ?_⟩
      exact ⟨_, rfl, _, rfl, _, D1, x, _, rfl, hr', hM1.up mono_RP (s2.trans s3), hl0, fun H4 s4 => hY rfl _ _ s4 rfl⟩
    · have hns := hN.ints
      refine ⟨D, _, rfl, SqL.of hns, ?_⟩
      rw [filter_all, sum_cast]
      exact k H' ((s1.trans s2).trans s3)
end
end LP
end
section
set_option Elab.async false
set_option linter.all false
set_option maxRecDepth 100000
namespace LP
open PySem PySem.Spec PyProof.Rows L2
open LS
abbrev sGapScore : Stmt := top 47
abbrev sGapScores : Stmt := top 48
abbrev sScoresOf : Stmt := top 49
abbrev sRaised : Stmt := top 50
section
variable {P : Program} {w : World} {K : PySem.W.Frag} {mg : Str → Option Value} {base : Heap}
def spGapScore (K : PySem.W.Frag) : Sp := fun vs H Q _ => ∃ (v : V) (a : Addr) (x : Sd58.One) (l : List Sd58.One), vs = [v, .ref a, vN (LS.whole l)] ∧ RP H v x ∧ LAt K RS H a (stepsL l) ∧ l.length ≤ 20 ∧ ∀ (H' : Hp), Same H H' → Q (.int (gapScore l x)) H'
theorem scGapScore : FnScope ["person", "steps", "whole", "end", "there", "ended"] ["person", "steps", "whole"] (defScope sGapScore) := ⟨rfl, rfl, rfl, by decide +kernel, rfl, by decide +kernel, by decide +kernel⟩
theorem big20 {n : Nat} (h : n ≤ 20) : Big (n : Int) := by
  unfold Big
  rw [Int.natAbs_natCast]
  exact pow_le (le32 h) (by decide)
theorem big_whole {l : List Sd58.One} (h : l.length ≤ 20) : Big (LS.whole l : Int) := by
  unfold Big
  rw [Int.natAbs_natCast]
  exact pow_le (whole_le h) (by decide)
theorem ok_gapScore {f : Addr} {fd : FuncData} (T : Txt K mg) (F : Fun K "gap_score" "gap_score" sGapScore f fd) : FnOk P w K mg base CX0 1 f fd ["person", "steps", "whole"] (spGapScore K) := by
  refine F.ok scGapScore (fun vs H Q E h => ?_) (fun cdv A outer s H vs Q E hr h => ?_)
  · obtain ⟨v, a, x, l, rfl, _⟩ := h
    rfl
  · obtain ⟨v, a, x, l, rfl, ⟨p, rfl, hp⟩, hA, hlen, k⟩ := h
    have hst := steps_ok hlen
    refine ⟨_, pss_one (ps_ret (pe_op op_sub (pe_op op_mulB (pe_ix ix_tup (pv 0) pe_int (fun _ _ => rfl)) (pv 2))
      (pe_callB (cr_sum rfl) (by rfl) T.sum bt_sum (pa_cons (pe_lc (own := [("end", 3), ("there", 4), ("ended", 5)]) rfl scGapScore.nd (pi_list (pv 1)) (blkOk_of scGapScore (by decide +kernel))
        (fun _ _ _ _ _ => pgT (K := K) (n := 3) rfl rfl (pgs_cons (pg_name (i := 3) scGapScore.nd rfl (Or.inl rfl)) (pgs_cons (pg_name (i := 4) scGapScore.nd rfl (Or.inl rfl)) (pgs_cons (pg_name (i := 5) scGapScore.nd rfl (Or.inl rfl)) pgs_nil))))
        (fun _ _ _ _ _ => pts_one (pt_cmpR op_le (pv 3) (pe_ix (ixT (K := K) rfl) (pv 0) pe_int (fun _ _ => rfl)) (nomark _)))
        (fun _ _ _ _ _ => pe_op op_mulB (pv 5) (pe_op op_fdivB (pv 2) (pv 4)))) pa_nil)))), ?_⟩
    have he01 : (if x.ended = true then 1 else 0 : Nat) ≤ 20 := by split <;> omega
    refine ⟨_, rfl, p, _, _, _, rfl, rfl, SqT.of hp, at_of (j := 2) rfl rfl, _, rfl, _, _, rfl, rfl, ⟨big20 he01, big_whole hlen⟩, ?_⟩
    refine ⟨_, rfl, a, rfl, (let ⟨vs, q, _⟩ := hA; ⟨vs, q⟩), lc_gen (R' := RI) mono_RS mono_RI (p := fun y => decide (y.1 ≤ x.time)) (f := fun y => (y.2.2 : Int) * ((LS.whole l / y.2.1 : Nat) : Int)) hA (small20 hst.len) (fun D H' v' y C Y hy hD hDl s1 hr' hC hY => ?_) (fun D H' hD s1 hN => ?_)⟩
    · obtain ⟨t, rfl, ht⟩ := hr'
      have hyo := hst.all y hy
      have hp' := s1 _ _ hp
      refine ⟨t, _, rfl, SqT.of ht, rfl, _, _, rfl, _, _, rfl, _, _, rfl, rfl, rfl, ?_⟩
      refine ⟨_, rfl, _, rfl, p, _, _, _, rfl, rfl, SqT.of hp', at_of (j := 1) rfl rfl, _, _, rfl, rfl, _, rfl, ite2 (fun hc => ?_) fun hc => ?_⟩
      · have h1 : y.1 ≤ x.time := by have := of_decide_eq_true hc; omega
        have eD : ((LS.whole l : Nat) : Int) / ((y.2.1 : Nat) : Int) = ((LS.whole l / y.2.1 : Nat) : Int) := (Int.natCast_ediv _ _).symm
        refine ⟨_, rfl, _, rfl, _, rfl, _, _, rfl, rfl, ⟨by omega, big20 hyo.2.2⟩, _, _, rfl, rfl, ⟨big20 (by omega), ?_⟩, ?_⟩
        · rw [eD]
          unfold Big
          rw [Int.natAbs_natCast]
          exact Nat.le_trans (Nat.div_le_self _ _) (pow_le (whole_le hlen) (by decide))
        · refine hY (decide_eq_true h1) _ _ (Same.refl _) ?_
          show V.int ((y.2.2 : Int) * (((LS.whole l : Nat) : Int) / ((y.2.1 : Nat) : Int))) = _
          rw [eD]
      · exact hC (decide_eq_false fun q => hc (decide_eq_true (by omega)))
    · have hns := hN.ints
      refine ⟨D, _, rfl, SqL.of hns, _, _, rfl, rfl, ?_⟩
      have := k H' s1
      unfold gapScore at this
      rw [← gapScore_steps, ← if_cast] at this
      exact this
def spInts (K : PySem.W.Frag) (g : List Sd58.One → List Int) : Sp := fun vs H Q _ => ∃ (a : Addr) (l : List Sd58.One), vs = [.ref a] ∧ LAt K RP H a l ∧ l.length ≤ 20 ∧ ∀ (H' : Hp) (D : Addr), H D = none → Same H H' → H' D = some (.lst ((g l).map V.int)) → Q (.ref D) H'
theorem scGapScores : FnScope ["people", "steps", "whole", "end", "there", "ended", "person"] ["people"] (defScope sGapScores) := ⟨rfl, rfl, rfl, by decide +kernel, rfl, by decide +kernel, by decide +kernel⟩
theorem ok_gapScores {f : Addr} {fd : FuncData} (F : Fun K "gap_scores" "gap_scores" sGapScores f fd) (hS : Has P w K mg base "steps_of" sSteps ["people"] 2 (spSteps K)) (hG : Has P w K mg base "gap_score" sGapScore ["person", "steps", "whole"] 1 (spGapScore K)) :
    FnOk P w K mg base CX0 3 f fd ["people"] (spInts K sc2) := by
  obtain ⟨fS, fdS, DS, GS⟩ := hS
  obtain ⟨fG, fdG, DG, GG⟩ := hG
  refine F.ok scGapScores (fun vs H Q E h => ?_) (fun cdv A outer s H vs Q E hr h => ?_)
  · obtain ⟨a, l, rfl, _⟩ := h
    rfl
  · obtain ⟨a, l, rfl, hA, hlen, k⟩ := h
    refine ⟨_, pss_cons (ps_set (i := 1) scGapScores.nd rfl (Or.inr rfl) (pcall GS DS hr (by decide) (pa_cons (pv 0) pa_nil)))
      (pss_cons (ps_set (i := 2) scGapScores.nd rfl (Or.inr rfl) pe_int)
      (pss_cons (ps_for PassesOwn.never rfl (pi_list (pv 1)) (pg_tup rfl (pgs_cons (pg_name (i := 3) scGapScores.nd rfl (Or.inl rfl)) (pgs_cons (pg_name (i := 4) scGapScores.nd rfl (Or.inl rfl)) (pgs_cons (pg_name (i := 5) scGapScores.nd rfl (Or.inl rfl)) pgs_nil))))
        (pss_one (ps_set (i := 2) scGapScores.nd rfl (Or.inr rfl) (pe_op op_mul (pv 2) (pv 4)))))
      (pss_one (ps_ret (pe_lc (own := [("person", 6)]) rfl scGapScores.nd (pi_list (pv 0)) (blkOk_of scGapScores (by decide +kernel)) (fun _ _ _ _ _ => pg_name (i := 6) scGapScores.nd rfl (Or.inl rfl)) (fun _ _ _ _ _ => pts_nil)
        (fun _ _ _ _ _ => pcall GG DG hr (by decide) (pa_cons (pv 6) (pa_cons (pv 1) (pa_cons (pv 2) pa_nil))))))))), ?_⟩
    refine ⟨_, rfl, a, l, rfl, hA, hlen, fun H1 D1 hD1 s1 hS1 => ?_⟩
    have hl : (stepsL l).length = (Sd58.times l).length := by unfold stepsL; rw [List.length_map]
    refine ⟨_, rfl, D1, rfl, (let ⟨vs, q, _⟩ := hS1; ⟨vs, q⟩), for_gen mono_RS hS1 (fun i σ H' => ∃ (z1 z2 z3 : Option V), σ = [some (.ref a), some (.ref D1), some (vN (wholeTo l i)), z1, z2, z3, none] ∧ H' = H1)
      ⟨none, none, none, rfl, rfl⟩ (fun i σ H' ⟨_, _, _, _, q⟩ => by rw [q]; exact Same.refl _) ?_ ?_⟩
    · rintro i v x σ H' hx ⟨t, rfl, ht⟩ ⟨z1, z2, z3, rfl, rfl⟩
      obtain ⟨u, hu, rfl⟩ := steps_at hx
      refine ⟨t, _, rfl, SqT.of ht, rfl, _, _, rfl, _, _, rfl, _, _, rfl, rfl, ?_⟩
      refine ⟨_, rfl, _, rfl, _, _, rfl, rfl, .inr (le64 (there_20 hlen u)), ?_⟩
      refine ⟨some (vN u), some (vN (Sd58.there l u)), some (vN (Sd58.ends l u)), ?_, rfl⟩
      rw [wholeTo_succ hu]
      show [some (V.ref a), some (V.ref D1), some (V.int ((wholeTo l i : Int) * (Sd58.there l u : Int))), some (vN u), some (vN (Sd58.there l u)), some (vN (Sd58.ends l u)), none] = _
      rw [← Int.natCast_mul]
      rfl
    · rintro σ H' ⟨z1, z2, z3, rfl, rfl⟩
      rw [hl, wholeTo_all]
      refine ⟨_, rfl, a, rfl, (let ⟨vs, q, _⟩ := hA; ⟨vs, s1.seq q⟩), lc_gen (R' := RI) mono_RP mono_RI (p := fun _ => true) (f := gapScore l) (hA.up mono_RP s1) (small20 hlen) (fun D H' v' x C Y hy hD hDl s3 hr' hC hY => ?_) (fun D H' hD s3 hN => ?_)⟩
      · refine ⟨rfl, yes ?_⟩
        exact ⟨_, rfl, _, rfl, _, rfl, _, D1, x, l, rfl, hr', hS1.up mono_RS s3, hlen, fun H4 s4 => hY rfl _ _ s4 rfl⟩
      · refine k H' D (s1.free hD) (s1.trans s3) ?_
        have := hN.ints
        rw [filter_all] at this
        exact this
def spScores (K : PySem.W.Frag) : Sp := fun vs H Q _ => ∃ (a : Addr) (l : List Sd58.One) (k : Nat), vs = [.ref a, vN k] ∧ LAt K RP H a l ∧ l.length ≤ 20 ∧ ∀ (H' : Hp) (D : Addr), H D = none → Same H H' → H' D = some (.lst ((scM k l).map V.int)) → Q (.ref D) H'
theorem scScoresOf : FnScope ["people", "measure", "person"] ["people", "measure"] (defScope sScoresOf) := ⟨rfl, rfl, rfl, by decide +kernel, rfl, by decide +kernel, by decide +kernel⟩
theorem ok_scoresOf {f : Addr} {fd : FuncData} (T : Txt K mg) (F : Fun K "scores_of" "scores_of" sScoresOf f fd) (hW : Has P w K mg base "worth_against" sWorth ["person", "others"] 2 (spWorth K)) (hG : Has P w K mg base "gap_scores" sGapScores ["people"] 3 (spInts K sc2)) :
    FnOk P w K mg base CX0 4 f fd ["people", "measure"] (spScores K) := by
  obtain ⟨fW, fdW, DW, GW⟩ := hW
  obtain ⟨fG, fdG, DG, GG⟩ := hG
  refine F.ok scScoresOf (fun vs H Q E h => ?_) (fun cdv A outer s H vs Q E hr h => ?_)
  · obtain ⟨a, l, m, rfl, _⟩ := h
    rfl
  · obtain ⟨a, l, m, rfl, hA, hlen, k⟩ := h
    refine ⟨_, pss_cons (ps_if (pt_cmpR op_eq (pv 1) (pk T.TIMES_TOGETHER) (nomark _)) (pss_one (ps_ret (pe_lc (own := [("person", 2)]) rfl scScoresOf.nd (pi_list (pv 0)) (blkOk_of scScoresOf (by decide +kernel)) (fun _ _ _ _ _ => pg_name (i := 2) scScoresOf.nd rfl (Or.inl rfl)) (fun _ _ _ _ _ => pts_nil)
        (fun _ _ _ _ _ => pe_ix (ixT (K := K) rfl) (pv 2) pe_int (fun _ _ => rfl))))) pss_nil)
      (pss_cons (ps_if (pt_cmpR op_eq (pv 1) (pk T.PAIRS_TOGETHER) (nomark _)) (pss_one (ps_ret (pe_lc (own := [("person", 2)]) rfl scScoresOf.nd (pi_list (pv 0)) (blkOk_of scScoresOf (by decide +kernel)) (fun _ _ _ _ _ => pg_name (i := 2) scScoresOf.nd rfl (Or.inl rfl)) (fun _ _ _ _ _ => pts_nil)
        (fun _ _ _ _ _ => pcall GW DW hr (by decide) (pa_cons (pv 2) (pa_cons (pv 0) pa_nil)))))) pss_nil)
      (pss_one (ps_ret (pcall GG DG hr (by decide) (pa_cons (pv 0) pa_nil))))), ?_⟩
    refine ⟨_, rfl, rfl, _, rfl, ite2 (fun h1 => ?_) fun h1 => ?_⟩
    · have hm : m = 0 := by have := V.int.inj (of_decide_eq_true h1); omega
      subst hm
      refine ⟨_, rfl, a, rfl, (let ⟨vs, q, _⟩ := hA; ⟨vs, q⟩), lc_gen (R' := RI) mono_RP mono_RI (p := fun _ => true) (f := fun x => (x.time : Int)) hA (small20 hlen) (fun D H' v' x C Y hy hD hDl s3 hr' hC hY => ?_) (fun D H' hD s3 hN => ?_)⟩
      · obtain ⟨p, rfl, hp⟩ := hr'
        refine ⟨rfl, yes ?_⟩
        exact ⟨_, rfl, p, _, _, _, rfl, rfl, SqT.of hp, at_of (j := 1) rfl rfl, hY rfl _ _ (Same.refl _) rfl⟩
      · refine k H' D hD s3 ?_
        have := hN.ints
        rw [filter_all] at this
        exact this
    · have hm0 : ¬ m = 0 := fun q => h1 (decide_eq_true (by rw [q]; rfl))
      refine ⟨_, rfl, rfl, _, rfl, ite2 (fun h2 => ?_) fun h2 => ?_⟩
      · have hm : m = 1 := by have := V.int.inj (of_decide_eq_true h2); omega
        subst hm
        refine ⟨_, rfl, a, rfl, (let ⟨vs, q, _⟩ := hA; ⟨vs, q⟩), lc_gen (R' := RI) mono_RP mono_RI (p := fun _ => true) (f := fun x => (((l.map fun y => worth x.time y.time).sum : Nat) : Int)) hA (small20 hlen) (fun D H' v' x C Y hy hD hDl s3 hr' hC hY => ?_) (fun D H' hD s3 hN => ?_)⟩
        · refine ⟨rfl, yes ?_⟩
          exact ⟨_, rfl, _, rfl, _, a, x, l, rfl, hr', hA.up mono_RP s3, hlen, fun H4 s4 => hY rfl _ _ s4 rfl⟩
        · refine k H' D hD s3 ?_
          have := hN.ints
          rw [filter_all] at this
          exact this
      · have hm1 : ¬ m = 1 := fun q => h2 (decide_eq_true (by rw [q]; rfl))
        have e : scM m l = sc2 l := by unfold scM; rw [if_neg hm0, if_neg hm1]
        rw [e] at k
        exact ⟨_, rfl, a, l, rfl, hA, hlen, k⟩
def spRaised (K : PySem.W.Frag) : Sp := fun vs H Q _ => ∃ (a : Addr) (ns : List Int) (z : Int), vs = [.ref a, .int z] ∧ SqL K H a (ns.map V.int) ∧ ns.length < sizeLine ∧ ∀ (H' : Hp) (D : Addr), H D = none → Same H H' → H' D = some (.lst ((ns.map fun b => b + z).map V.int)) → Q (.ref D) H'
theorem scRaised : FnScope ["sums", "score", "total"] ["sums", "score"] (defScope sRaised) := ⟨rfl, rfl, rfl, by decide +kernel, rfl, by decide +kernel, by decide +kernel⟩
theorem ok_raised {f : Addr} {fd : FuncData} (F : Fun K "raised" "raised" sRaised f fd) : FnOk P w K mg base CX0 1 f fd ["sums", "score"] (spRaised K) := by
  refine F.ok scRaised (fun vs H Q E h => ?_) (fun cdv A outer s H vs Q E hr h => ?_)
  · obtain ⟨a, ns, z, rfl, _⟩ := h
    rfl
  · obtain ⟨a, ns, z, rfl, hS, hlen, k⟩ := h
    have hA : LAt K RI H a ns := ⟨_, hS, ints_rels ns⟩
    refine ⟨_, pss_one (ps_ret (pe_lc (own := [("total", 2)]) rfl scRaised.nd (pi_list (pv 0)) (blkOk_of scRaised (by decide +kernel)) (fun _ _ _ _ _ => pg_name (i := 2) scRaised.nd rfl (Or.inl rfl)) (fun _ _ _ _ _ => pts_nil)
        (fun _ _ _ _ _ => pe_op op_add (pv 2) (pv 1)))), ?_⟩
    refine ⟨_, rfl, a, rfl, ⟨_, hS⟩, lc_gen (R' := RI) mono_RI mono_RI (p := fun _ => true) (f := fun b => b + z) hA hlen (fun D H' v' x C Y hy hD hDl s3 hr' hC hY => ?_) (fun D H' hD s3 hN => ?_)⟩
    · cases hr'
      exact ⟨rfl, yes ⟨_, rfl, _, rfl, _, _, rfl, rfl, hY rfl _ _ (Same.refl _) rfl⟩⟩
    · refine k H' D hD s3 ?_
      have := hN.ints
      rw [filter_all] at this
      exact this
end
end LP
end
section
set_option Elab.async false
set_option linter.all false
set_option maxRecDepth 100000
namespace LP
open PySem PySem.Spec PyProof.Rows L2
open LS
abbrev sSums : Stmt := top 51
abbrev sReaching : Stmt := top 52
section
variable {P : Program} {w : World} {K : PySem.W.Frag} {mg : Str → Option Value} {base : Heap}
/-- a list of ints in order, as r but for the order -/
def RSo : VR (List Int) := fun H v r => ∃ (p : Addr) (r' : List Int), v = .ref p ∧ H p = some (.lst (r'.map V.int)) ∧ r'.Perm r ∧ r'.Pairwise (· ≤ ·)
theorem mono_RSo : Mono RSo := ⟨fun s h => let ⟨p, r, e, q, z⟩ := h; ⟨p, r, e, s _ _ q, z⟩⟩
def spSums (K : PySem.W.Frag) : Sp := fun vs H Q _ => ∃ (a : Addr) (sc : List Int), vs = [.ref a] ∧ SqL K H a (sc.map V.int) ∧ sc.length ≤ 20 ∧ ∀ (H' : Hp) (D : Addr) (rows : List (List Int)), H D = none → Same H H' → LNew RSo H' D rows → RowsOf sc rows → Q (.ref D) H'
theorem scSums : FnScope ["scores", "rows", "score", "with_score", "sums", "without", "taken"] ["scores"] (defScope sSums) := ⟨rfl, rfl, rfl, by decide +kernel, rfl, by decide +kernel, by decide +kernel⟩
theorem ne_new {H : Hp} {D p : Addr} (hD : ∃ us, H D = some (.lst us)) (hp : H p = none) : p ≠ D := fun z => by
  obtain ⟨us, e⟩ := hD
  rw [z, e] at hp
  cases hp
theorem Rels.cons {α : Type} {R : VR α} {H : Hp} {v : V} {x : α} {vs : List V} {xs : List α} (hx : R H v x) (h : Rels R H vs xs) : Rels R H (v :: vs) (x :: xs) := by
  refine ⟨by rw [List.length_cons, List.length_cons, h.1], fun i v' x' h1 h2 => ?_⟩
  cases i with
  | zero =>
    have e1 : v = v' := Option.some.inj h1
    have e2 : x = x' := Option.some.inj h2
    subst e1 e2
    exact hx
  | succ i => exact h.2 i v' x' h1 h2
theorem line21 {a b : Nat} (h1 : a ≤ 2 ^ 20) (h2 : b ≤ 2 ^ 20) : a + b ≤ sizeLine := by
  have hL : sizeLine = 16777216 := by decide
  have e : (2 : Nat) ^ 20 = 1048576 := by decide
  omega
theorem line22 {n : Nat} (h : n ≤ 21) : 1 + n ≤ sizeLine := by
  have hL : sizeLine = 16777216 := by decide
  omega
theorem lineS {n : Nat} (h : n ≤ 21) : n + 1 ≤ sizeLine := by
  have hL : sizeLine = 16777216 := by decide
  omega
theorem line20 {a : Nat} (h1 : a ≤ 2 ^ 20) : a < sizeLine := by
  have hL : sizeLine = 16777216 := by decide
  have e : (2 : Nat) ^ 20 = 1048576 := by decide
  omega
theorem ok_sums {f : Addr} {fd : FuncData} (T : Txt K mg) (F : Fun K "sums_by_size" "sums_by_size" sSums f fd) (hR : Has P w K mg base "raised" sRaised ["sums", "score"] 1 (spRaised K)) : FnOk P w K mg base CX0 2 f fd ["scores"] (spSums K) := by
  obtain ⟨fR, fdR, DR, GR⟩ := hR
  refine F.ok scSums (fun vs H Q E h => ?_) (fun cdv A outer s H vs Q E hr h => ?_)
  · obtain ⟨a, sc, rfl, _⟩ := h
    rfl
  · obtain ⟨a, sc, rfl, hS, hlen, k⟩ := h
    refine ⟨_, pss_cons (ps_set (i := 1) scSums.nd rfl (Or.inl rfl) (pe_lst (pa_cons (pe_lst (pa_cons pe_int pa_nil)) pa_nil)))
      (pss_cons (ps_for PassesOwn.never rfl (pi_list (pv 0)) (pg_name (i := 2) scSums.nd rfl (Or.inr rfl))
        (pss_cons (ps_set (i := 3) scSums.nd rfl (Or.inl rfl) (pe_op op_cat (pe_lst (pa_cons (pe_lst pa_nil) pa_nil)) (pe_lc (own := [("sums", 4)]) rfl scSums.nd (pi_list (pv 1)) (blkOk_of scSums (by decide +kernel)) (fun _ _ _ _ _ => pg_name (i := 4) scSums.nd rfl (Or.inl rfl)) (fun _ _ _ _ _ => pts_nil)
          (fun _ _ _ _ _ => pcall GR DR hr (by decide) (pa_cons (pv 4) (pa_cons (pv 2) pa_nil))))))
        (pss_one (ps_setLc (i := 1) (own := [("without", 5), ("taken", 6)]) rfl scSums.nd rfl rfl (sw_true rfl rfl rfl (by decide +kernel)) (pi_zip rfl T.zip (pa_cons (pe_op op_cat (pv 1) (pe_lst (pa_cons (pe_lst pa_nil) pa_nil))) (pa_cons (pv 3) pa_nil))) (blkOk_of scSums (by decide +kernel))
          (fun _ _ _ _ _ => pgT (K := K) (n := 2) rfl rfl (pgs_cons (pg_name (i := 5) scSums.nd rfl (Or.inl rfl)) (pgs_cons (pg_name (i := 6) scSums.nd rfl (Or.inl rfl)) pgs_nil))) (fun _ _ _ _ _ => pts_nil)
          (fun _ _ _ _ _ => pe_op op_cat (pv 5) (pv 6))))))
      (pss_one (ps_ret (pe_lc (own := [("sums", 4)]) rfl scSums.nd (pi_list (pv 1)) (blkOk_of scSums (by decide +kernel)) (fun _ _ _ _ _ => pg_name (i := 4) scSums.nd rfl (Or.inl rfl)) (fun _ _ _ _ _ => pts_nil)
        (fun _ _ _ _ _ => pe_callB (srtN (K := K) rfl) (by rfl) T.sorted bt_sorted (pa_cons (pv 4) pa_nil)))))), ?_⟩
    refine ⟨(by show 1 ≤ sizeLine; decide), fun p0 hp0 => ⟨(by show 1 ≤ sizeLine; decide), fun r0 hr0 => ?_⟩⟩
    have s0 : Same H (upd (upd H p0 (.lst [.int 0])) r0 (.lst [.ref p0])) := (Same.newH hp0).new hr0
    have hpr : p0 ≠ r0 := fun z => by rw [z, upd_same] at hr0; cases hr0
    have hN0 : LNew RL (upd (upd H p0 (.lst [.int 0])) r0 (.lst [.ref p0])) r0 [[0]] :=
      ⟨_, upd_same, Rels.cons ⟨p0, rfl, by rw [upd_ne hpr, upd_same]; rfl⟩ Rels.nil⟩
    have hAs : LAt K RI (upd (upd H p0 (.lst [.int 0])) r0 (.lst [.ref p0])) a sc := ⟨_, s0.seq hS, ints_rels sc⟩
    generalize upd (upd H p0 (.lst [.int 0])) r0 (.lst [.ref p0]) = H0 at s0 hN0 hAs ⊢
    refine ⟨_, rfl, a, rfl, (let ⟨vs, q, _⟩ := hAs; ⟨vs, q⟩), for_gen mono_RI hAs (fun i σ H' => ∃ (R : Addr) (rows : List (List Int)) (z1 z2 : Option V), σ = [some (.ref a), some (.ref R), z1, z2, none, none, none] ∧ Same H0 H' ∧ LNew RL H' R rows ∧ RowsOf (sc.take i) rows)
      ⟨r0, [[0]], none, none, rfl, Same.refl _, hN0, rowsOf_nil⟩ (fun i σ H' ⟨_, _, _, _, _, q, _⟩ => q) ?_ ?_⟩
    · rintro i v x σ H' hx rfl ⟨R, rows, z1, z2, rfl, s1, hN, hRo⟩
      have hti : (sc.take i).length ≤ 20 := Nat.le_trans (by rw [List.length_take]; exact Nat.min_le_right _ _) hlen
      have hrl := rows_len hRo hti
      have hrn : rows.length ≤ 21 := by rw [hRo.len]; omega
      refine ⟨Nat.zero_le _, fun e1 he1 => ⟨(by show 1 ≤ sizeLine; decide), fun b1 hb1 => ?_⟩⟩
      have s2 : Same H' (upd (upd H' e1 (.lst [])) b1 (.lst [.ref e1])) := (Same.newH he1).new hb1
      have heb : e1 ≠ b1 := fun z => by rw [z, upd_same] at hb1; cases hb1
      have q1 : upd (upd H' e1 (.lst [])) b1 (.lst [.ref e1]) b1 = some (.lst [.ref e1]) := upd_same
      have q2 : upd (upd H' e1 (.lst [])) b1 (.lst [.ref e1]) e1 = some (.lst []) := by rw [upd_ne heb, upd_same]
      generalize upd (upd H' e1 (.lst [])) b1 (.lst [.ref e1]) = H2 at s2 q1 q2 ⊢
      have hN2 : LAt K RL H2 R rows := (hN.up mono_RL s2).at
      refine ⟨_, rfl, R, rfl, (let ⟨vs, q, _⟩ := hN2; ⟨vs, q⟩), lc_gen (R' := RL) mono_RL mono_RL (p := fun _ => true) (f := fun (r : List Int) => r.map fun b => b + x) hN2 (Nat.lt_of_le_of_lt hrn (by decide)) (fun D H3 v' r C Y hy hD hDl s3 hr' hC hY => ?_) (fun D H3 hD s3 hN3 => ?_)⟩
      · obtain ⟨p, rfl, hp⟩ := hr'
        refine ⟨rfl, yes ⟨_, rfl, _, rfl, p, r, x, rfl, SqL.of hp, line20 (hrl r hy), fun H4 D4 hD4 s4 h4 => ?_⟩⟩
        refine hY rfl _ _ s4 ⟨D4, rfl, ?_⟩
        rw [hide_ne (ne_new hDl hD4)]
        exact h4
      · rw [filter_all] at hN3
        obtain ⟨us3, e3, r3⟩ := hN3
        have hl3 : us3.length ≤ 21 := by rw [r3.1, List.length_map]; exact hrn
        refine ⟨b1, D, _, _, rfl, rfl, s3 _ _ q1, e3, (line22 hl3), fun w1 hw1 => ?_⟩
        have s4 : Same H3 (upd H3 w1 (.lst ([V.ref e1] ++ us3))) := Same.newH hw1
        have hW : LNew RL (upd H3 w1 (.lst ([V.ref e1] ++ us3))) w1 ([] :: rows.map fun (r : List Int) => r.map fun b => b + x) :=
          ⟨_, upd_same, Rels.cons ⟨e1, rfl, s4 _ _ (s3 _ _ q2)⟩ (r3.up mono_RL s4)⟩
        have hR4 : LNew RL (upd H3 w1 (.lst ([V.ref e1] ++ us3))) R rows := hN.up mono_RL ((s2.trans s3).trans s4)
        generalize upd H3 w1 (.lst ([V.ref e1] ++ us3)) = H4 at s4 hW hR4 ⊢
        obtain ⟨us4, e4, r4⟩ := hR4
        refine ⟨_, rfl, Nat.zero_le _, fun e5 he5 => ⟨(by show 1 ≤ sizeLine; decide), fun b5 hb5 => ?_⟩⟩
        have s5 : Same H4 (upd (upd H4 e5 (.lst [])) b5 (.lst [.ref e5])) := (Same.newH he5).new hb5
        have heb5 : e5 ≠ b5 := fun z => by rw [z, upd_same] at hb5; cases hb5
        have q5 : upd (upd H4 e5 (.lst [])) b5 (.lst [.ref e5]) b5 = some (.lst [.ref e5]) := upd_same
        have q6 : upd (upd H4 e5 (.lst [])) b5 (.lst [.ref e5]) e5 = some (.lst []) := by rw [upd_ne heb5, upd_same]
        generalize upd (upd H4 e5 (.lst [])) b5 (.lst [.ref e5]) = H5 at s5 q5 q6 ⊢
        have hl4 : us4.length ≤ 21 := by rw [r4.1]; exact hrn
        refine ⟨R, b5, _, _, rfl, rfl, s5 _ _ e4, q5, (lineS hl4), fun c6 hc6 => ?_⟩
        have s6 : Same H5 (upd H5 c6 (.lst (us4 ++ [V.ref e5]))) := Same.newH hc6
        have hC6 : LAt K RL (upd H5 c6 (.lst (us4 ++ [V.ref e5]))) c6 (rows ++ [[]]) :=
          ⟨_, SqL.of upd_same, (r4.up mono_RL (s5.trans s6)).snoc ⟨e5, rfl, s6 _ _ q6⟩⟩
        have hW6 : LAt K RL (upd H5 c6 (.lst (us4 ++ [V.ref e5]))) w1 ([] :: rows.map fun (r : List Int) => r.map fun b => b + x) := (hW.up mono_RL (s5.trans s6)).at
        generalize upd H5 c6 (.lst (us4 ++ [V.ref e5])) = H6 at s6 hC6 hW6 ⊢
        refine ⟨_, rfl, c6, w1, _, _, rfl, hC6.choose_spec.1, hW6.choose_spec.1, ?_⟩
        · refine lc_zip (R' := RL) mono_RL mono_RL mono_RL (p := fun _ => true) (f := fun p => p.1 ++ p.2) hC6 hW6 (by rw [List.length_append]; exact Nat.lt_of_le_of_lt (show rows.length + 1 ≤ 22 by omega) (by decide)) (fun D7 H7 t v7 w7 r7 u7 C Y hm hD7 hDl s7 ht hv7 hw7 hC hY => ?_) (fun D7 H7 hD7 s7 hN7 => ?_)
          · obtain ⟨p7, rfl, hp7⟩ := hv7
            obtain ⟨p8, rfl, hp8⟩ := hw7
            have m1 := (List.of_mem_zip hm).1
            have m2 := (List.of_mem_zip hm).2
            have b1 : r7.length ≤ 2 ^ 20 := by
              rcases List.mem_append.mp m1 with z | z
              · exact hrl r7 z
              · rw [List.mem_singleton.mp z]; exact Nat.zero_le _
            have b2 : u7.length ≤ 2 ^ 20 := by
              rcases List.mem_cons.mp m2 with z | z
              · rw [z]; exact Nat.zero_le _
              · obtain ⟨y, hy, e⟩ := List.mem_map.mp z
                rw [← e, List.length_map]
                exact hrl y hy
            refine ⟨t, _, rfl, SqT.of ht, rfl, _, _, rfl, _, _, rfl, rfl, rfl, yes ?_⟩
            refine ⟨_, rfl, _, rfl, p7, p8, _, _, rfl, rfl, hp7, hp8, (by rw [List.length_map, List.length_map]; exact line21 b1 b2), fun c8 hc8 => ?_⟩
            refine hY rfl _ _ (Same.newH hc8) ⟨c8, rfl, ?_⟩
            rw [hide_new (ne_new hDl hc8), List.map_append]
          · rw [filter_all, zip_next] at hN7
            refine ⟨D7, _, _, _, rfl, s1.trans (((((s2.trans s3).trans s4).trans s5).trans s6).trans s7), hN7, ?_⟩
            rw [take_snoc hx]
            exact hRo.next x
    · rintro σ H' ⟨R, rows, z1, z2, rfl, s1, hN, hRo⟩
      rw [List.take_length] at hRo
      have hrl := rows_len hRo hlen
      have hrn : rows.length ≤ 21 := by rw [hRo.len]; omega
      have hN2 : LAt K RL H' R rows := hN.at
      refine ⟨_, rfl, R, rfl, (let ⟨vs, q, _⟩ := hN2; ⟨vs, q⟩), lc_gen (R' := RSo) mono_RL mono_RSo (p := fun _ => true) (f := fun r => r) hN2 (Nat.lt_of_le_of_lt hrn (by decide)) (fun D H3 v' r C Y hy hD hDl s3 hr' hC hY => ?_) (fun D H3 hD s3 hN3 => ?_)⟩
      · obtain ⟨p, rfl, hp⟩ := hr'
        refine ⟨rfl, yes ⟨_, rfl, p, r, rfl, SqL.of hp, fun ns' p' h1 h2 hp' => ?_⟩⟩
        exact hY rfl _ _ (Same.newH hp') ⟨p', ns', rfl, hide_new (ne_new hDl hp'), h1, h2⟩
      · rw [filter_all, List.map_id'] at hN3
        exact k H3 D rows (s0.free (s1.free hD)) ((s0.trans s1).trans s3) hN3 hRo
def spReach (K : PySem.W.Frag) : Sp := fun vs H Q _ => ∃ (a b : Addr) (xs ys : List Int) (least : Int), vs = [.ref a, .ref b, .int least] ∧ SqL K H a (xs.map V.int) ∧ SqL K H b (ys.map V.int) ∧ xs.Pairwise (· ≤ ·) ∧ ys.Pairwise (· ≤ ·) ∧ Q (vN (meet (reach least) xs ys)) H
theorem scReaching : FnScope ["ones", "others", "least", "found", "short", "one"] ["ones", "others", "least"] (defScope sReaching) := ⟨rfl, rfl, rfl, by decide +kernel, rfl, by decide +kernel, by decide +kernel⟩
theorem ok_reaching {f : Addr} {fd : FuncData} (T : Txt K mg) (F : Fun K "reaching" "reaching" sReaching f fd) : FnOk P w K mg base CX0 1 f fd ["ones", "others", "least"] (spReach K) := by
  refine F.ok scReaching (fun vs H Q E h => ?_) (fun cdv A outer s H vs Q E hr h => ?_)
  · obtain ⟨a, b, xs, ys, least, rfl, _⟩ := h
    rfl
  · obtain ⟨a, b, xs, ys, least, rfl, hX, hY, oX, oY, k⟩ := h
    refine ⟨_, pss_cons (ps_set (i := 3) scReaching.nd rfl (Or.inl rfl) pe_int)
      (pss_cons (ps_set (i := 4) scReaching.nd rfl (Or.inl rfl) (pe_callB call_len_seq (by rfl) T.len PySem.boot_len (pa_cons (pv 1) pa_nil)))
      (pss_cons (ps_for PassesOwn.never rfl (pi_list (pv 0)) (pg_name (i := 5) scReaching.nd rfl (Or.inl rfl))
        (pss_cons (ps_while PassesOwn.never (PW.pt (pw_and (pt_cmpR op_gt (pv 4) pe_int (nomark _)) (pw_and1 (pt_cmpR op_ge (pe_op op_add (pv 5) (pe_ix ix_list (pv 1) (pe_op op_sub (pv 4) pe_int) (fun _ _ => rfl))) (pv 2) (nomark _)))))
          (pss_one (ps_aug (i := 4) scReaching.nd rfl (Or.inl rfl) pe_int ip_sub)))
        (pss_one (ps_aug (i := 3) scReaching.nd rfl (Or.inl rfl) (pe_op op_sub (pe_callB call_len_seq (by rfl) T.len PySem.boot_len (pa_cons (pv 1) pa_nil)) (pv 4)) ip_add))))
      (pss_one (ps_ret (pv 3))))), ?_⟩
    have hAx : LAt K RI H a xs := ⟨_, hX, ints_rels xs⟩
    have eYl : (ys.map V.int).length = ys.length := List.length_map ..
    refine ⟨_, rfl, b, _, rfl, .inl hY, ?_⟩
    refine ⟨_, rfl, a, rfl, ⟨_, hX⟩, for_gen mono_RI hAx (fun i σ H' => ∃ (found short : Nat) (z : Option V), σ = [some (.ref a), some (.ref b), some (.int least), some (vN found), some (vN short), z] ∧ H' = H ∧ short ≤ ys.length ∧ found = meet (reach least) (xs.take i) ys ∧
        ∀ (i' : Nat) (x : Int), i ≤ i' → xs[i']? = some x → ∀ (j : Nat) (y : Int), ys[j]? = some y → short ≤ j → least ≤ x + y)
      ⟨0, ys.length, none, by rw [eYl]; rfl, rfl, Nat.le_refl _, rfl, fun i' x _ _ j y hj hle => by
        have := (List.getElem?_eq_some_iff.mp hj).1
        omega⟩ (fun i σ H' ⟨_, _, _, _, q, _⟩ => by rw [q]; exact Same.refl _) ?_ ?_⟩
    · rintro i v one σ H' hx rfl ⟨found, short, z, rfl, hH, hsh, hfo, hall⟩
      have hH2 := hH.symm
      subst hH2
      clear hH
      refine while_by (fun σ H' => ∃ (sh : Nat), σ = [some (.ref a), some (.ref b), some (.int least), some (vN found), some (vN sh), some (.int one)] ∧ H' = H ∧ sh ≤ ys.length ∧ ∀ (j : Nat) (y : Int), ys[j]? = some y → sh ≤ j → least ≤ one + y)
        (fun (σ : L2.St) (_ : Hp) => match σ[4]? with | some (some (V.int y)) => y.toNat | _ => 0) ⟨short, rfl, rfl, hsh, fun j y hj hle => hall i one (Nat.le_refl _) hx j y hj hle⟩ ?_ ?_
      · rintro σ H' ⟨sh, rfl, hH, hsl, hge⟩
        have hH2 := hH.symm
        subst hH2
        clear hH
        have next : (sh = 0 ∨ ∃ y, ys[sh - 1]? = some y ∧ one + y < least) → ∃ (found' short : Nat) (z : Option V), [some (V.ref a), some (V.ref b), some (V.int least), some (V.int ((found : Int) + (((ys.map V.int).length : Int) - (sh : Int)))), some (vN sh), some (V.int one)] = [some (.ref a), some (.ref b), some (.int least), some (vN found'), some (vN short), z] ∧ H = H ∧ short ≤ ys.length ∧ found' = meet (reach least) (xs.take (i + 1)) ys ∧
            ∀ (i' : Nat) (x : Int), i + 1 ≤ i' → xs[i']? = some x → ∀ (j : Nat) (y : Int), ys[j]? = some y → short ≤ j → least ≤ x + y := fun hz => by
          have hc := reach_count oY hge hz
          refine ⟨found + (ys.length - sh), sh, some (V.int one), ?_, rfl, hsl, ?_, fun i' x hi' hx' j y hj hle => ?_⟩
          · have e : ((found : Int) + (((ys.map V.int).length : Int) - (sh : Int))) = ((found + (ys.length - sh) : Nat) : Int) := by rw [eYl]; omega
            rw [e]
            rfl
          · rw [meet_take hx, ← hfo, hc]
          · have h1 := hge j y hj hle
            have h2 := sorted_at oX hx hx' (by omega)
            omega
        refine ⟨_, rfl, _, _, rfl, rfl, _, rfl, ite2 (fun h1 => ?_) fun h1 => iteF ?_⟩
        · have hpos : 0 < sh := by have := of_decide_eq_true h1; omega
          have hlt : sh - 1 < ys.length := by omega
          have hy : ys[sh - 1]? = some (ys[sh - 1]'hlt) := List.getElem?_eq_getElem _
          have hyv : (ys.map V.int)[sh - 1]? = some (V.int (ys[sh - 1]'hlt)) := by rw [List.getElem?_map, hy]; rfl
          refine ⟨_, rfl, _, rfl, _, rfl, _, _, rfl, rfl, b, _, _, _, rfl, rfl, hY, at_of (j := sh - 1) (by omega) hyv, _, _, rfl, rfl, _, rfl, _, _, rfl, rfl, _, rfl, ite2 (fun h2 => ?_) fun h2 => ?_⟩
          · have hle : least ≤ one + ys[sh - 1]'hlt := of_decide_eq_true h2
            refine ⟨_, rfl, _, _, rfl, rfl, ⟨sh - 1, ?_, rfl, by omega, fun j y hj hle' => ?_⟩, ?_⟩
            · have e : ((sh : Int) - 1) = ((sh - 1 : Nat) : Int) := by omega
              show [some (V.ref a), some (V.ref b), some (V.int least), some (vN found), some (V.int ((sh : Int) - 1)), some (V.int one)] = _
              rw [e]
              rfl
            · rcases Nat.lt_or_ge j sh with q | q
              · have ej : j = sh - 1 := by omega
                subst ej
                have : ys[sh - 1]'hlt = y := Option.some.inj (hy.symm.trans hj)
                rw [← this]; exact hle
              · exact hge j y hj q
            · show ((sh : Int) - 1).toNat < ((sh : Int)).toNat
              omega
          · have hlt2 : one + ys[sh - 1]'hlt < least := by
              rcases Int.lt_or_le (one + ys[sh - 1]'hlt) least with q | q
              · exact q
              · exact absurd (decide_eq_true q) h2
            exact ⟨_, rfl, _, rfl, b, _, rfl, .inl hY, _, rfl, _, _, rfl, rfl, _, _, rfl, rfl, next (Or.inr ⟨_, hy, hlt2⟩)⟩
        · have hz : sh = 0 := by
            rcases Nat.eq_zero_or_pos sh with q | q
            · exact q
            · exact absurd (decide_eq_true (show (0 : Int) < ((sh : Nat) : Int) by omega)) h1
          exact ⟨_, rfl, _, rfl, b, _, rfl, .inl hY, _, rfl, _, _, rfl, rfl, _, _, rfl, rfl, next (Or.inl hz)⟩
      · rintro σ H' Q1 Q2 m ⟨v, e, i1, j1, e1, e2, c, e3, h⟩
        refine ⟨v, e, i1, j1, e1, e2, c, e3, ?_⟩
        by_cases hc : c = true
        · rw [if_pos hc] at h ⊢
          obtain ⟨v5, g5, v1, g1, v4, g4, i2, j2, g6, g7, p, l1, l2, l3, l4, l5, l6, l7, i3, j3, g8, g9, v2, g2, i4, j4, ga, gb, c2, gc, q⟩ := h
          exact ⟨v5, g5, v1, g1, v4, g4, i2, j2, g6, g7, p, l1, l2, l3, l4, l5, l6, l7, i3, j3, g8, g9, v2, g2, i4, j4, ga, gb, c2, gc, m _ _ q⟩
        · rw [if_neg hc] at h ⊢
          exact m _ _ h
    · rintro σ H' ⟨found, short, z, rfl, rfl, hsh, hfo, hall⟩
      rw [List.take_length] at hfo
      subst hfo
      exact ⟨_, rfl, k⟩
end
end LP
end
section
set_option Elab.async false
set_option linter.all false
set_option maxRecDepth 100000
namespace LP
open PySem PySem.Spec PyProof.Rows L2
open LS
abbrev sRareOf : Stmt := top 53
section
variable {P : Program} {w : World} {K : PySem.W.Frag} {mg : Str → Option Value} {base : Heap}
theorem cut_from {xs : List V} {m : Nat} (h : m ≤ xs.length) : cutV xs (some (m : Int)) none = xs.drop m := by
  unfold cutV
  rw [HT.sIx_nat, HT.sIx_none, Nat.min_eq_left h]
  exact List.take_of_length_le (by rw [List.length_drop]; exact Nat.le_refl _)
theorem cut_to {xs : List V} {m : Nat} (h : m ≤ xs.length) : cutV xs none (some (m : Int)) = xs.take m := by
  unfold cutV
  rw [HT.sIx_nat, HT.sIx_none, Nat.min_eq_left h, List.drop_zero]
  rfl
def spRareOf (K : PySem.W.Frag) : Sp := fun vs H Q _ => ∃ (a : Addr) (l : List Sd58.One) (m : Nat), vs = [.ref a, vN m] ∧ LAt K RP H a l ∧ Fine l ∧ m ≤ 2 ∧ ∀ (H' : Hp) (v : V), Same H H' → RF H' v (Sd58.rare m l) → Q v H'
theorem scRareOf : FnScope ["people", "measure", "scores", "least", "chosen", "middle", "late", "found", "ways", "size", "sums", "rest", "person", "score"] ["people", "measure"] (defScope sRareOf) := ⟨rfl, rfl, rfl, by decide +kernel, rfl, by decide +kernel, by decide +kernel⟩
theorem inR_iff {n g : Int} : inR g n ↔ 0 ≤ n ∧ n ≤ g := Iff.rfl
theorem ok_rareOf {f : Addr} {fd : FuncData} (T : Txt K mg) (F : Fun K "rare_of" "rare_of" sRareOf f fd) (hSc : Has P w K mg base "scores_of" sScoresOf ["people", "measure"] 4 (spScores K)) (hM : Has P w K mg base "members" sMembers ["people", "group"] 1 (spMembers K))
    (hB : Has P w K mg base "sums_by_size" sSums ["scores"] 2 (spSums K)) (hW : Has P w K mg base "within" sWithin ["number", "greatest"] 1 spWithin) (hR : Has P w K mg base "reaching" sReaching ["ones", "others", "least"] 1 (spReach K))
    (hL : Has P w K mg base "lowest" sLowest ["above", "below"] 1 spLowest) : FnOk P w K mg base CX0 5 f fd ["people", "measure"] (spRareOf K) := by
  obtain ⟨fSc, fdSc, DSc, GSc⟩ := hSc
  obtain ⟨fM, fdM, DM, GM⟩ := hM
  obtain ⟨fB, fdB, DB, GB⟩ := hB
  obtain ⟨fW, fdW, DW, GW⟩ := hW
  obtain ⟨fR, fdR, DR, GR⟩ := hR
  obtain ⟨fL, fdL, DL, GL⟩ := hL
  refine F.ok scRareOf (fun vs H Q E h => ?_) (fun cdv A outer s H vs Q E hr h => ?_)
  · obtain ⟨a, l, m, rfl, _⟩ := h
    rfl
  · obtain ⟨a, l, m, rfl, hA, hF, hm, k⟩ := h
    have hlen := hF.len
    refine ⟨_, pss_cons (ps_set (i := 2) scRareOf.nd rfl (Or.inl rfl) (pcall GSc DSc hr (by decide) (pa_cons (pv 0) (pa_cons (pv 1) pa_nil))))
      (pss_cons (ps_set (i := 3) scRareOf.nd rfl (Or.inl rfl) (pe_callB (cr_sum rfl) (by rfl) T.sum bt_sum (pa_cons (pe_lc (own := [("person", 12), ("score", 13)]) rfl scRareOf.nd (pi_zip rfl T.zip (pa_cons (pv 0) (pa_cons (pv 2) pa_nil))) (blkOk_of scRareOf (by decide +kernel))
        (fun _ _ _ _ _ => pgT (K := K) (n := 2) rfl rfl (pgs_cons (pg_name (i := 12) scRareOf.nd rfl (Or.inl rfl)) (pgs_cons (pg_name (i := 13) scRareOf.nd rfl (Or.inl rfl)) pgs_nil)))
        (fun _ _ _ _ _ => pts_one (pt_cmpR op_eq (pe_ix (ixT (K := K) rfl) (pv 12) pe_int (fun _ _ => rfl)) pe_int (nomark _))) (fun _ _ _ _ _ => pv 13)) pa_nil)))
      (pss_cons (ps_set (i := 4) scRareOf.nd rfl (Or.inl rfl) (pe_callB call_len_seq (by rfl) T.len PySem.boot_len (pa_cons (pcall GM DM hr (by decide) (pa_cons (pv 0) (pa_cons pe_int pa_nil))) pa_nil)))
      (pss_cons (ps_set (i := 5) scRareOf.nd rfl (Or.inl rfl) (pe_op op_fdiv (pe_callB call_len_seq (by rfl) T.len PySem.boot_len (pa_cons (pv 2) pa_nil)) pe_int))
      (pss_cons (ps_set (i := 6) scRareOf.nd rfl (Or.inl rfl) (pcall GB DB hr (by decide) (pa_cons (pe_slice sl_list (pv 2) (po_some (pv 5)) po_none) pa_nil)))
      (pss_cons (ps_set (i := 7) scRareOf.nd rfl (Or.inl rfl) pe_int)
      (pss_cons (ps_set (i := 8) scRareOf.nd rfl (Or.inl rfl) pe_int)
      (pss_cons (ps_for PassesOwn.never rfl (pi_enum rfl T.enumerate (pa_cons (pcall GB DB hr (by decide) (pa_cons (pe_slice sl_list (pv 2) po_none (po_some (pv 5))) pa_nil)) pa_nil)) (pg_tup rfl (pgs_cons (pg_name (i := 9) scRareOf.nd rfl (Or.inl rfl)) (pgs_cons (pg_name (i := 10) scRareOf.nd rfl (Or.inl rfl)) pgs_nil)))
        (pss_cons (ps_set (i := 11) scRareOf.nd rfl (Or.inl rfl) (pe_op op_sub (pv 4) (pv 9)))
        (pss_one (ps_if (pt_val (pcall GW DW hr (by decide) (pa_cons (pv 11) (pa_cons (pe_op op_sub (pe_callB call_len_seq (by rfl) T.len PySem.boot_len (pa_cons (pv 6) pa_nil)) pe_int) pa_nil))))
          (pss_cons (ps_aug (i := 7) scRareOf.nd rfl (Or.inl rfl) (pcall GR DR hr (by decide) (pa_cons (pv 10) (pa_cons (pe_ix ix_list (pv 6) (pv 11) (fun _ _ => rfl)) (pa_cons (pv 3) pa_nil)))) ip_add)
          (pss_one (ps_aug (i := 8) scRareOf.nd rfl (Or.inl rfl) (pe_op op_mul (pe_callB call_len_seq (by rfl) T.len PySem.boot_len (pa_cons (pv 10) pa_nil)) (pe_callB call_len_seq (by rfl) T.len PySem.boot_len (pa_cons (pe_ix ix_list (pv 6) (pv 11) (fun _ _ => rfl)) pa_nil))) ip_add)))
          pss_nil))))
      (pss_one (ps_ret (pcall GL DL hr (by decide) (pa_cons (pv 7) (pa_cons (pv 8) pa_nil)))))))))))), ?_⟩
    refine ⟨_, rfl, _, rfl, a, l, m, rfl, hA, hlen, fun H1 D1 hD1 s1 hD1s => ?_⟩
    have hA1 := hA.up mono_RP s1
    have hS1 : LAt K RI H1 D1 (scM m l) := ⟨_, SqL.of hD1s, ints_rels _⟩
    have hsl : (scM m l).length = l.length := scM_len m l
    refine ⟨_, rfl, _, rfl, a, D1, _, _, rfl, hA1.choose_spec.1, SqL.of hD1s, lc_zip (R' := RI) mono_RP mono_RI mono_RI (p := fun q => decide (q.1.group = 1)) (f := fun q => q.2) hA1 hS1 (small20 hlen) (fun D2 H2 t v2 w2 x z C Y hmz hD2 hDl s2 ht hv2 hw2 hC hY => ?_) (fun D2 H2 hD2 s2 hN2 => ?_)⟩
    · obtain ⟨p, rfl, hp⟩ := hv2
      cases hw2
      refine ⟨t, _, rfl, SqT.of ht, rfl, _, _, rfl, _, _, rfl, rfl, rfl, ?_⟩
      refine ⟨_, rfl, p, _, _, _, rfl, rfl, SqT.of hp, at_of (j := 0) rfl rfl, rfl, _, rfl, ite2 (fun hc => ?_) fun hc => ?_⟩
      · have hg : x.group = 1 := by have := V.int.inj (of_decide_eq_true hc); omega
        exact ⟨_, rfl, hY (decide_eq_true hg) _ _ (Same.refl _) rfl⟩
      · exact hC (decide_eq_false fun q => hc (decide_eq_true (by rw [q]; rfl)))
    · have hns := hN2.ints
      refine ⟨D2, _, rfl, SqL.of hns, ?_⟩
      have eL : ((((l.zip (scM m l)).filter fun q => decide (q.1.group = 1)).map fun q => q.2)).sum = val l (scM m l) := by rw [isum_sum, val_zip]
      rw [eL]
      refine ⟨_, rfl, a, l, 1, rfl, hA1.up mono_RP s2, hlen, fun H3 D3 hD3 s3 hM3 => ?_⟩
      obtain ⟨us3, h31, h32⟩ := hM3
      refine ⟨D3, us3, rfl, .inl h31, ?_⟩
      rw [h32.1]
      have hD3s : H3 D1 = some (.lst ((scM m l).map V.int)) := s3 _ _ (s2 _ _ hD1s)
      have hml : ((scM m l).map V.int).length = l.length := by rw [List.length_map, hsl]
      refine ⟨_, rfl, D1, _, rfl, .inl (SqL.of hD3s), _, _, rfl, rfl, ⟨by decide, by decide⟩, ?_⟩
      rw [hml]
      show gName 5 (V.int (((l.length : Nat) : Int) / 2)) _ _ _
      have eM : ((l.length : Nat) : Int) / 2 = ((l.length / 2 : Nat) : Int) := by omega
      rw [eM]
      have hmid : l.length / 2 ≤ ((scM m l).map V.int).length := by rw [hml]; omega
      generalize hmd : l.length / 2 = md at hmid ⊢
      have hmd2 : md ≤ (scM m l).length := by rw [hsl]; omega
      refine ⟨_, rfl, _, rfl, _, rfl, D1, _, rfl, SqL.of hD3s, fun p4 hp4 => ?_⟩
      rw [cut_from hmid, ← List.map_drop]
      have s4 : Same H3 (upd H3 p4 (.lst (((scM m l).drop md).map V.int))) := Same.newH hp4
      refine ⟨p4, _, rfl, SqL.of upd_same, Nat.le_trans (by rw [List.length_drop]; exact Nat.sub_le _ _) (show (scM m l).length ≤ 20 by rw [hsl]; exact hlen), fun H5 D5 rows2 hD5 s5 hN5 hRo5 => ?_⟩
      have hD5s : H5 D1 = some (.lst ((scM m l).map V.int)) := s5 _ _ (s4 _ _ hD3s)
      refine ⟨_, rfl, _, rfl, _, rfl, D1, _, rfl, SqL.of hD5s, fun p6 hp6 => ?_⟩
      rw [cut_to hmid, ← List.map_take]
      have s6 : Same H5 (upd H5 p6 (.lst (((scM m l).take md).map V.int))) := Same.newH hp6
      refine ⟨p6, _, rfl, SqL.of upd_same, Nat.le_trans (by rw [List.length_take]; exact Nat.min_le_right _ _) (show (scM m l).length ≤ 20 by rw [hsl]; exact hlen), fun H7 D7 rows1 hD7 s7 hN7 hRo7 => ?_⟩
      have hN5' : LNew RSo H7 D5 rows2 := hN5.up mono_RSo (s6.trans s7)
      have hA7 : LAt K RSo H7 D7 rows1 := hN7.at
      have sAll : Same H H7 := ((((((s1.trans s2).trans s3).trans s4).trans s5).trans s6).trans s7)
      have eS : scM m l = (scM m l).take md ++ (scM m l).drop md := (List.take_append_drop md _).symm
      have hs1 : ((scM m l).take md).length ≤ 20 := Nat.le_trans (by rw [List.length_take]; exact Nat.min_le_right _ _) (show (scM m l).length ≤ 20 by rw [hsl]; exact hlen)
      have hs2 : ((scM m l).drop md).length ≤ 20 := Nat.le_trans (by rw [List.length_drop]; exact Nat.sub_le _ _) (show (scM m l).length ≤ 20 by rw [hsl]; exact hlen)
      have hrare := rare_halves hF.grp hm eS
      have hwp := ways_pos (k := m) eS
      have hwl := ways_le (k := m) hlen eS (fun _ => true)
      have hfl := ways_le (k := m) hlen eS (reach (val l (scM m l)))
      have hlr1 := rows_len hRo7 hs1
      have hlr2 := rows_len hRo5 hs2
      generalize (scM m l).take md = c1 at hrare hwp hwl hfl hRo7 hs1
      generalize (scM m l).drop md = c2 at hrare hwp hwl hfl hRo5 hs2
      generalize val l (scM m l) = least at hrare hfl ⊢
      generalize hch : (Sd58.ofGroup l 1).length = ch at hrare hwp hwl hfl ⊢
      refine ⟨D7, _, rfl, hA7.choose_spec.1, for_enumN mono_RSo hA7 (Ite K D7) 0 (fun i H' vs v q1 q2 => ⟨vs, v, q1, q2⟩) (fun i H' vs q1 q2 => ⟨vs, q1, q2⟩) (fun i H' u H2 hy => by
          obtain ⟨T0, x0, e1, e2, e3, e4⟩ := hy
          exact ⟨T0, x0, e1, e2, by rw [e3, Int.add_zero], e4⟩)
        (fun i σ H' => ∃ (fo wa : Nat) (z9 z10 z11 : Option V), σ = [some (.ref a), some (vN m), some (.ref D1), some (.int least), some (vN ch), some (vN md), some (.ref D5), some (vN fo), some (vN wa), z9, z10, z11, none, none] ∧ Same H7 H' ∧ fo = sumTo i (part (reach least) c1 c2 ch) ∧ wa = sumTo i (part (fun _ => true) c1 c2 ch))
        ⟨0, 0, none, none, none, rfl, Same.refl _, rfl, rfl⟩ (fun i σ H' ⟨_, _, _, _, _, _, q, _⟩ => q) ?_ ?_⟩
      · rintro i t v r σ H' hx ht hr' ⟨fo, wa, z9, z10, z11, rfl, s8, hfo, hwa⟩
        obtain ⟨p1, r1, rfl, hp1, hperm1, hso1⟩ := hr'
        have s9 : Same H' (upd H' t (.tup [.int ((i : Nat) + 0), .ref p1])) := Same.newH ht
        have hp1' := s9 _ _ hp1
        have hN8 := hN5'.up mono_RSo (s8.trans s9)
        refine ⟨t, _, rfl, SqT.of upd_same, rfl, _, _, rfl, _, _, rfl, rfl, ?_⟩
        generalize upd H' t (.tup [.int ((i : Nat) + 0), .ref p1]) = H9 at s9 hp1' hN8 ⊢
        obtain ⟨us, hus, hre⟩ := hN8
        have hpc1 := hRo7.perm i r hx
        have hll : us.length = c2.length + 1 := by rw [hre.1, hRo5.len]
        refine ⟨_, rfl, _, rfl, _, _, rfl, rfl, ?_⟩
        refine ⟨_, rfl, _, rfl, D5, us, rfl, .inl (SqL.of hus), _, _, rfl, rfl, _, _, rfl, _, rfl, ite2 (fun hc => ?_) fun hc => ?_⟩
        · have hin := of_decide_eq_true hc
          obtain ⟨i1, i2⟩ := inR_iff.mp hin
          have hle : i ≤ ch := by omega
          have hle2 : ch - i ≤ c2.length := by omega
          have eR : ((ch : Int) - ((i : Int) + 0)) = ((ch - i : Nat) : Int) := by omega
          have hb : ch - i < rows2.length := by rw [hRo5.len]; omega
          have hgb : rows2[ch - i]? = some (rows2[ch - i]'hb) := List.getElem?_eq_getElem _
          obtain ⟨vb, hvb, p2, r2, e2, hp2, hperm2, hso2⟩ := hre.get hgb
          subst e2
          have hpc2 := hRo5.perm (ch - i) _ hgb
          have e1 : part (reach least) c1 c2 ch i = meet (reach least) r1 r2 := part_in (hperm1.trans hpc1) hle (hperm2.trans hpc2)
          have e3 : part (fun _ => true) c1 c2 ch i = r1.length * r2.length := by rw [part_in (hperm1.trans hpc1) hle (hperm2.trans hpc2), meet_true]
          have hat : atI us ((ch : Int) - ((i : Int) + 0)) = some (V.ref p2) := at_of (j := ch - i) eR hvb
          have hl1 : r1.length ≤ 2 ^ 20 := by rw [hperm1.length_eq]; exact hlr1 r (List.mem_of_getElem? hx)
          have e20 : (2 : Nat) ^ 20 = 1048576 := by decide
          refine ⟨_, rfl, _, rfl, _, rfl, _, rfl, D5, us, _, _, rfl, rfl, SqL.of hus, hat, _, rfl, p1, p2, r1, r2, least, rfl, SqL.of hp1', SqL.of hp2, hso1, hso2, _, _, rfl, rfl, ?_⟩
          refine ⟨_, rfl, _, rfl, p1, _, rfl, .inl (SqL.of hp1'), _, rfl, _, rfl, D5, us, _, _, rfl, rfl, SqL.of hus, hat, p2, _, rfl, .inl (SqL.of hp2), _, _, rfl, rfl, .inl ?_, _, _, rfl, rfl, ?_⟩
          · rw [List.length_map]
            exact ⟨by omega, by omega⟩
          · refine ⟨fo + meet (reach least) r1 r2, wa + r1.length * r2.length, some (V.int ((i : Int) + 0)), some (V.ref p1), some (V.int ((ch : Int) - ((i : Int) + 0))), ?_, s8.trans s9, ?_, ?_⟩
            · rw [List.length_map, List.length_map, ← Int.natCast_mul]
              rfl
            · rw [hfo, ← e1]; rfl
            · rw [hwa, ← e3]; rfl
        · have hn : ¬ (i ≤ ch ∧ ch - i ≤ c2.length) := fun q => hc (decide_eq_true (inR_iff.mpr ⟨by omega, by omega⟩))
          refine ⟨fo, wa, _, _, _, rfl, s8.trans s9, ?_, ?_⟩
          · rw [hfo]
            show _ = sumTo i _ + part _ c1 c2 ch i
            rw [part_out hn]; rfl
          · rw [hwa]
            show _ = sumTo i _ + part _ c1 c2 ch i
            rw [part_out hn]; rfl
      · rintro σ H' ⟨fo, wa, z9, z10, z11, rfl, s8, hfo, hwa⟩
        rw [hRo7.len] at hfo hwa
        have e20 : (2 : Nat) ^ 20 ≤ 2 ^ 3000 := Nat.pow_le_pow_right (by decide) (by decide)
        refine ⟨_, rfl, _, rfl, (fo : Int), wa, rfl, by rw [hwa]; exact hwp, ?_, ?_, fun H9 v9 s9 hv9 => ?_⟩
        · rw [Int.natAbs_natCast, hfo]; exact Nat.le_trans hfl e20
        · rw [hwa]; exact Nat.le_trans hwl e20
        · refine k H9 v9 (((sAll.trans s8)).trans s9) ?_
          rw [hrare, ← hfo, ← hwa]
          exact hv9
end
end LP
end
section
set_option Elab.async false
set_option linter.all false
set_option maxRecDepth 100000
namespace LP
open PySem PySem.Spec PyProof.Rows L2
open LS
abbrev sBegin : Stmt := top 54
abbrev sFracAns : Stmt := top 55
abbrev sMeasOf : Stmt := top 56
abbrev sMeasAns : Stmt := top 57
abbrev sHalfAns : Stmt := top 58
abbrev sAgainst : Stmt := top 59
abbrev sRareAns : Stmt := top 60
abbrev sAnswerOf : Stmt := top 61
/-- a line's somebody, or None -/
def RO : VR (Option Sd58.One) := PersAt
theorem mono_RO : Mono RO := ⟨fun s h => h.same s⟩
section
variable {P : Program} {w : World} {K : PySem.W.Frag} {mg : Str → Option Value} {base : Heap}
def begunI (lns : List Sd58.Bytes) : Int := match wrongAt 1 lns with
  | none => 0
  | some k => -100 - (k : Int)
def spBegin (K : PySem.W.Frag) : Sp := fun vs H Q _ => ∃ (a : Addr) (n : Nat) (lns : List Sd58.Bytes), vs = [vN n, .ref a] ∧ n ≤ 4096 ∧ LAt K RO H a (lns.map Sd58.oneRead) ∧ ∀ (H' : Hp), Same H H' → Q (.int (begunI lns)) H'
theorem scBegin : FnScope ["size", "people", "line", "person"] ["size", "people"] (defScope sBegin) := ⟨rfl, rfl, rfl, by decide +kernel, rfl, by decide +kernel, by decide +kernel⟩
theorem ok_begin {f : Addr} {fd : FuncData} (T : Txt K mg) (F : Fun K "begin_answer" "begin_answer" sBegin f fd) (hW : Has P w K mg base "within" sWithin ["number", "greatest"] 1 spWithin) : FnOk P w K mg base CX0 2 f fd ["size", "people"] (spBegin K) := by
  obtain ⟨fW, fdW, DW, GW⟩ := hW
  refine F.ok scBegin (fun vs H Q E h => ?_) (fun cdv A outer s H vs Q E hr h => ?_)
  · obtain ⟨a, n, lns, rfl, _⟩ := h
    rfl
  · obtain ⟨a, n, lns, rfl, hn, hA, k⟩ := h
    refine ⟨_, pss_cons (ps_if (pt_not (pt_val (pcall GW DW hr (by decide) (pa_cons (pv 0) (pa_cons (pk T.MOST_BYTES) pa_nil))))) (pss_one (ps_ret (pk T.OUT_OF_RANGE))) pss_nil)
      (pss_cons (ps_for PassesOwn.never rfl (pi_enum1 rfl T.enumerate (pa_cons (pv 1) pa_nil)) (pg_tup rfl (pgs_cons (pg_name (i := 2) scBegin.nd rfl (Or.inl rfl)) (pgs_cons (pg_name (i := 3) scBegin.nd rfl (Or.inl rfl)) pgs_nil)))
        (pss_one (ps_if (PW.pt (pw_or (pt_cmpR op_isN (pv 3) pe_non (nomark _)) (pw_or1 (pt_cmpR op_gt (pv 2) (pk T.MOST_PEOPLE) (nomark _))))) (pss_one (ps_ret (pe_op op_sub (pk T.WRONG_LINE) (pv 2)))) pss_nil)))
      (pss_one (ps_ret pe_int))), ?_⟩
    have hin : inR 4096 (n : Int) := ⟨by omega, by omega⟩
    refine ⟨_, rfl, _, _, rfl, _, rfl, ?_⟩
    rw [decide_eq_true hin]
    refine iteF ?_
    refine ⟨_, rfl, a, _, rfl, hA.choose_spec.1, for_enumN mono_RO hA (Ite1 K a) 1 (fun i H' vs v q1 q2 => ⟨vs, v, q1, q2⟩) (fun i H' vs q1 q2 => ⟨vs, q1, q2⟩) (fun i H' u H2 hy => hy)
      (fun i σ H' => ∃ (z2 z3 : Option V), σ = [some (vN n), some (.ref a), z2, z3] ∧ Same H H' ∧ wrongAt 1 lns = wrongAt (1 + i) (lns.drop i))
      ⟨none, none, rfl, Same.refl _, rfl⟩ (fun i σ H' ⟨_, _, _, q, _⟩ => q) ?_ ?_⟩
    · rintro i t v o σ H' hx ht hr' ⟨z2, z3, rfl, s1, hw⟩
      rw [List.getElem?_map] at hx
      obtain ⟨b, hb, rfl⟩ := Option.map_eq_some_iff.mp hx
      have hi := (List.getElem?_eq_some_iff.mp hb).1
      have e : lns.drop i = b :: lns.drop (i + 1) := by
        rw [List.drop_eq_getElem_cons hi]
        congr 1
        exact (List.getElem?_eq_some_iff.mp hb).2
      rw [e, wrongAt] at hw
      refine ⟨t, _, rfl, SqT.of upd_same, rfl, _, _, rfl, _, _, rfl, rfl, ?_⟩
      have s2 : Same H (upd H' t (.tup [.int ((i : Nat) + 1), v])) := s1.new ht
      have bad : (Sd58.oneRead b = none ∨ 20 < 1 + i) → Q (.int (-100 - ((i : Int) + 1))) (upd H' t (.tup [.int ((i : Nat) + 1), v])) := fun hq => by
        rw [if_pos hq] at hw
        have := k _ s2
        unfold begunI at this
        rw [hw] at this
        have e2 : (-100 - ((i : Int) + 1)) = -100 - ((1 + i : Nat) : Int) := by omega
        rw [e2]
        exact this
      have hvn : v = .non ↔ Sd58.oneRead b = none := by
        cases q : Sd58.oneRead b with
        | none =>
          rw [q] at hr'
          exact ⟨fun _ => rfl, fun _ => hr'⟩
        | some x =>
          rw [q] at hr'
          obtain ⟨p, e3, _⟩ := hr'
          exact ⟨fun z => (by rw [e3] at z; cases z), fun z => (by cases z)⟩
      refine ⟨_, rfl, rfl, _, rfl, ite2 (fun h1 => iteT ?_) fun h1 => ⟨_, rfl, _, _, rfl, rfl, _, rfl, ite2 (fun h2 => ?_) fun h2 => ?_⟩⟩
      · exact ⟨_, rfl, _, _, rfl, rfl, bad (Or.inl (hvn.mp (of_decide_eq_true h1)))⟩
      · exact ⟨_, rfl, _, _, rfl, rfl, bad (Or.inr (by have := of_decide_eq_true h2; omega))⟩
      · have hno : ¬ (Sd58.oneRead b = none ∨ 20 < 1 + i) := fun q => q.elim (fun z => h1 (decide_eq_true (hvn.mpr z))) fun z => h2 (decide_eq_true (by omega))
        rw [if_neg hno] at hw
        exact ⟨_, _, rfl, s2, by rw [hw]; congr 1⟩
    · rintro σ H' ⟨z2, z3, rfl, s1, hw⟩
      rw [List.length_map, List.drop_length] at hw
      have := k H' s1
      unfold begunI at this
      rw [hw] at this
      exact this
def spFracAns : Sp := fun vs H Q _ => ∃ (v : V) (f : Sd58.Fr) (m : Int), vs = [v, .int m] ∧ RF H v f ∧ Sz 1400 f ∧ ∀ (H' : Hp) (D : Addr), H D = none → Same H H' → H' D = some (.lst ((fracAns m f).map V.int)) → Q (.ref D) H'
theorem scFracAns : FnScope ["fraction", "most", "text"] ["fraction", "most"] (defScope sFracAns) := ⟨rfl, rfl, rfl, by decide +kernel, rfl, by decide +kernel, by decide +kernel⟩
theorem ok_fracAns {f : Addr} {fd : FuncData} (T : Txt K mg) (F : Fun K "fraction_answer" "fraction_answer" sFracAns f fd) (hB : Has P w K mg base "fraction_bytes" sFracBytes ["fraction"] 1 spFracBytes) : FnOk P w K mg base CX0 2 f fd ["fraction", "most"] spFracAns := by
  obtain ⟨fB, fdB, DB, GB⟩ := hB
  refine F.ok scFracAns (fun vs H Q E h => ?_) (fun cdv A outer s H vs Q E hr h => ?_)
  · obtain ⟨v, f, m, rfl, _⟩ := h
    rfl
  · obtain ⟨v, f, m, rfl, hv, sf, k⟩ := h
    refine ⟨_, pss_cons (ps_set (i := 2) scFracAns.nd rfl (Or.inl rfl) (pcall GB DB hr (by decide) (pa_cons (pv 0) pa_nil)))
      (pss_cons (ps_if (pt_cmpR op_gt (pe_callB call_len_seq (by rfl) T.len PySem.boot_len (pa_cons (pv 2) pa_nil)) (pv 1) (nomark _)) (pss_one (ps_ret (pe_lst (pa_cons (pk T.TOO_LONG) pa_nil)))) pss_nil)
      (pss_one (ps_ret (pe_op op_cat (pe_lst (pa_cons (pe_callB call_len_seq (by rfl) T.len PySem.boot_len (pa_cons (pv 2) pa_nil)) pa_nil)) (pv 2))))), ?_⟩
    have htl := told_len sf
    have hbl : (vB (Sd58.told f)).length = (Sd58.told f).length := by unfold vB; rw [List.length_map]
    refine ⟨_, rfl, v, f, rfl, hv, sf, fun H1 D hD s1 hT => ?_⟩
    refine ⟨_, rfl, D, _, rfl, .inl (SqL.of hT), _, rfl, _, _, rfl, rfl, _, rfl, ite2 (fun hc => ?_) fun hc => ?_⟩
    · have hm : m < ((Sd58.told f).length : Int) := by have := of_decide_eq_true hc; rw [hbl] at this; exact this
      refine ⟨(by show 1 ≤ sizeLine; decide), fun p hp => ?_⟩
      refine k _ p (s1.free hp) (s1.new hp) ?_
      rw [upd_same]
      unfold fracAns
      rw [if_pos hm]
      rfl
    · have hm : ¬ m < ((Sd58.told f).length : Int) := fun q => hc (decide_eq_true (by rw [hbl]; exact q))
      refine ⟨_, rfl, D, _, rfl, .inl (SqL.of hT), (by show 1 ≤ sizeLine; decide), fun p hp => ?_⟩
      have hTp : upd H1 p (.lst [.int ((vB (Sd58.told f)).length : Int)]) D = some (.lst (vB (Sd58.told f))) := (Same.newH hp) _ _ hT
      refine ⟨_, rfl, p, D, _, _, rfl, rfl, upd_same, hTp, (by
        have hL : sizeLine = 16777216 := by decide
        show 1 + (vB (Sd58.told f)).length ≤ sizeLine
        rw [hbl]; omega), fun q hq => ?_⟩
      have s2 : Same H (upd H1 p (.lst [.int ((vB (Sd58.told f)).length : Int)])) := s1.new hp
      refine k _ q (s2.free hq) (s2.new hq) ?_
      rw [upd_same]
      unfold fracAns
      rw [if_neg hm, hbl]
      show some (HO.lst ([V.int ((Sd58.told f).length : Int)] ++ vB (Sd58.told f))) = some (HO.lst (V.int ((Sd58.told f).length : Int) :: ((Sd58.told f).map fun (x : Nat) => (x : Int)).map V.int))
      rw [List.map_map]
      rfl
def measS (c : Int) (st : List Stp) : Sd58.Fr := if c = 1 then lastS st else if c = 2 then spreadS st else comeS st
theorem measS_sz {c : Int} {st : List Stp} (h : StOk st) : Sz 1400 (measS c st) := by
  unfold measS
  split
  · exact (lastS_sz h).mono (by decide)
  · split
    · exact (spreadS_sz h).mono (by decide)
    · exact (comeS_sz h).mono (by decide)
def spMeasOf (K : PySem.W.Frag) : Sp := fun vs H Q _ => ∃ (c : Int) (a : Addr) (st : List Stp), vs = [.int c, .ref a] ∧ LAt K RS H a st ∧ StOk st ∧ ∀ (H' : Hp) (v : V), Same H H' → RF H' v (measS c st) → Q v H'
theorem scMeasOf : FnScope ["call", "steps"] ["call", "steps"] (defScope sMeasOf) := ⟨rfl, rfl, rfl, by decide +kernel, rfl, by decide +kernel, by decide +kernel⟩
theorem ok_measOf {f : Addr} {fd : FuncData} (T : Txt K mg) (F : Fun K "measure_of" "measure_of" sMeasOf f fd) (hL : Has P w K mg base "lasting" sLasting ["steps"] 4 (spSt K lastS)) (hS : Has P w K mg base "spread_of" sSpread ["steps"] 5 (spSt K spreadS)) (hC : Has P w K mg base "come_by" sCome ["steps"] 3 (spSt K comeS)) :
    FnOk P w K mg base CX0 6 f fd ["call", "steps"] (spMeasOf K) := by
  obtain ⟨fL, fdL, DL, GL⟩ := hL
  obtain ⟨fS, fdS, DS, GS⟩ := hS
  obtain ⟨fC, fdC, DC, GC⟩ := hC
  refine F.ok scMeasOf (fun vs H Q E h => ?_) (fun cdv A outer s H vs Q E hr h => ?_)
  · obtain ⟨c, a, st, rfl, _⟩ := h
    rfl
  · obtain ⟨c, a, st, rfl, hA, hst, k⟩ := h
    refine ⟨_, pss_cons (ps_if (pt_cmpR op_eq (pv 0) (pk T.LASTS) (nomark _)) (pss_one (ps_ret (pcall GL DL hr (by decide) (pa_cons (pv 1) pa_nil)))) pss_nil)
      (pss_cons (ps_if (pt_cmpR op_eq (pv 0) (pk T.SPREAD) (nomark _)) (pss_one (ps_ret (pcall GS DS hr (by decide) (pa_cons (pv 1) pa_nil)))) pss_nil)
      (pss_one (ps_ret (pcall GC DC hr (by decide) (pa_cons (pv 1) pa_nil))))), ?_⟩
    unfold measS at k
    refine ⟨_, rfl, rfl, _, rfl, ite2 (fun h1 => ?_) fun h1 => ?_⟩
    · have e := V.int.inj (of_decide_eq_true h1)
      rw [if_pos e] at k
      exact ⟨_, rfl, a, st, rfl, hA, hst, k⟩
    · have e : ¬ c = 1 := fun q => h1 (decide_eq_true (by rw [q]))
      rw [if_neg e] at k
      refine ⟨_, rfl, rfl, _, rfl, ite2 (fun h2 => ?_) fun h2 => ?_⟩
      · have e2 := V.int.inj (of_decide_eq_true h2)
        rw [if_pos e2] at k
        exact ⟨_, rfl, a, st, rfl, hA, hst, k⟩
      · have e2 : ¬ c = 2 := fun q => h2 (decide_eq_true (by rw [q]))
        rw [if_neg e2] at k
        exact ⟨_, rfl, a, st, rfl, hA, hst, k⟩
theorem measS_till (l : List Sd58.One) (c g t m : Int) (hc : c = 1 ∨ c = 2 ∨ c = 3) : ansOf l (c, [g, t, m]) = if inR 2 g ∧ inR 1000000 t ∧ inR 4096 m then fracAns m (measS c (tillL (Sd58.ofGroup l g.toNat) t.toNat)) else [-2] := by
  unfold measS
  rcases hc with e | e | e <;> subst e
  · rw [ans_lasts, if_pos (rfl : (1 : Int) = 1), lastS_till]
  · rw [ans_spread, if_neg (by decide : ¬ (2 : Int) = 1), if_pos (rfl : (2 : Int) = 2), spreadS_till]
  · rw [ans_come, if_neg (by decide : ¬ (3 : Int) = 1), if_neg (by decide : ¬ (3 : Int) = 2), comeS_till]
def spMeasAns (K : PySem.W.Frag) : Sp := fun vs H Q _ => ∃ (a : Addr) (l : List Sd58.One) (c g t m : Int), vs = [.ref a, .int c, .int g, .int t, .int m] ∧ (c = 1 ∨ c = 2 ∨ c = 3) ∧ LAt K RP H a l ∧ Fine l ∧ ∀ (H' : Hp) (D : Addr), H D = none → Same H H' → H' D = some (.lst ((ansOf l (c, [g, t, m])).map V.int)) → Q (.ref D) H'
theorem scMeasAns : FnScope ["people", "call", "group", "time", "most", "steps", "step"] ["people", "call", "group", "time", "most"] (defScope sMeasAns) := ⟨rfl, rfl, rfl, by decide +kernel, rfl, by decide +kernel, by decide +kernel⟩
theorem ok_measAns {f : Addr} {fd : FuncData} (T : Txt K mg) (F : Fun K "measure_answer" "measure_answer" sMeasAns f fd) (hW : Has P w K mg base "within" sWithin ["number", "greatest"] 1 spWithin) (hM : Has P w K mg base "members" sMembers ["people", "group"] 1 (spMembers K))
    (hS : Has P w K mg base "steps_of" sSteps ["people"] 2 (spSteps K)) (hF : Has P w K mg base "fraction_answer" sFracAns ["fraction", "most"] 2 spFracAns) (hO : Has P w K mg base "measure_of" sMeasOf ["call", "steps"] 6 (spMeasOf K)) :
    FnOk P w K mg base CX0 7 f fd ["people", "call", "group", "time", "most"] (spMeasAns K) := by
  obtain ⟨fW, fdW, DW, GW⟩ := hW
  obtain ⟨fM, fdM, DM, GM⟩ := hM
  obtain ⟨fS, fdS, DS, GS⟩ := hS
  obtain ⟨fF, fdF, DF, GF⟩ := hF
  obtain ⟨fO, fdO, DO, GO⟩ := hO
  refine F.ok scMeasAns (fun vs H Q E h => ?_) (fun cdv A outer s H vs Q E hr h => ?_)
  · obtain ⟨a, l, c, g, t, m, rfl, _⟩ := h
    rfl
  · obtain ⟨a, l, c, g, t, m, rfl, hc, hA, hFi, k⟩ := h
    rw [measS_till l c g t m hc] at k
    refine ⟨_, pss_cons (ps_if (pt_not (PW.pt (pw_and (pt_val (pcall GW DW hr (by decide) (pa_cons (pv 2) (pa_cons (pk T.ALL) pa_nil)))) (pw_and (pt_val (pcall GW DW hr (by decide) (pa_cons (pv 3) (pa_cons (pk T.LATEST) pa_nil)))) (pw_and1 (pt_val (pcall GW DW hr (by decide) (pa_cons (pv 4) (pa_cons (pk T.MOST_BYTES) pa_nil)))))))))
        (pss_one (ps_ret (pe_lst (pa_cons (pk T.OUT_OF_RANGE) pa_nil)))) pss_nil)
      (pss_cons (ps_setLc (i := 5) (own := [("step", 6)]) rfl scMeasAns.nd rfl rfl (sw_true rfl rfl rfl (by decide +kernel)) (pi_list (pcall GS DS hr (by decide) (pa_cons (pcall GM DM hr (by decide) (pa_cons (pv 0) (pa_cons (pv 2) pa_nil))) pa_nil))) (blkOk_of scMeasAns (by decide +kernel))
        (fun _ _ _ _ _ => pg_name (i := 6) scMeasAns.nd rfl (Or.inl rfl)) (fun _ _ _ _ _ => pts_one (pt_cmpR op_le (pe_ix (ixT (K := K) rfl) (pv 6) pe_int (fun _ _ => rfl)) (pv 3) (nomark _))) (fun _ _ _ _ _ => pv 6))
      (pss_one (ps_ret (pcall GF DF hr (by decide) (pa_cons (pcall GO DO hr (by decide) (pa_cons (pv 1) (pa_cons (pv 5) pa_nil))) (pa_cons (pv 4) pa_nil)))))), ?_⟩
    have bad : ¬ (inR 2 g ∧ inR 1000000 t ∧ inR 4096 m) → ([V.int (-2)] : List V).length ≤ sizeLine ∧ ∀ p, H p = none → Q (.ref p) (upd H p (.lst [V.int (-2)])) := fun hn => by
      rw [if_neg hn] at k
      exact ⟨(by show 1 ≤ sizeLine; decide), fun p hp => k _ p hp (Same.newH hp) upd_same⟩
    refine ⟨_, rfl, _, _, rfl, _, rfl, ite2 (fun h1 => ⟨_, rfl, _, _, rfl, _, rfl, ite2 (fun h2 => ⟨_, rfl, _, _, rfl, _, rfl, ?_⟩) fun h2 => iteT (bad fun q => h2 (decide_eq_true q.2.1))⟩) fun h1 => iteT (bad fun q => h1 (decide_eq_true q.1))⟩
    have hg := of_decide_eq_true h1
    have ht := of_decide_eq_true h2
    by_cases hm : inR 4096 m
    · rw [decide_eq_true hm]
      refine iteF ?_
      rw [if_pos ⟨hg, ht, hm⟩] at k
      obtain ⟨g', rfl⟩ : ∃ n : Nat, g = (n : Int) := ⟨g.toNat, by have := hg.1; omega⟩
      obtain ⟨t', rfl⟩ : ∃ n : Nat, t = (n : Int) := ⟨t.toNat, by have := ht.1; omega⟩
      rw [Int.toNat_natCast, Int.toNat_natCast] at k
      have hl2 : (Sd58.ofGroup l g').length ≤ 20 := Nat.le_trans (ofGroup_len l g') hFi.len
      refine ⟨_, rfl, _, rfl, a, l, g', rfl, hA, hFi.len, fun H1 D1 hD1 s1 hM1 => ?_⟩
      refine ⟨D1, _, rfl, hM1, hl2, fun H2 D2 hD2 s2 hS2 => ?_⟩
      refine ⟨D2, rfl, (let ⟨vs, q, _⟩ := hS2; ⟨vs, q⟩), lc_gen (R' := RS) mono_RS mono_RS (p := fun x => decide (x.1 ≤ t')) (f := fun x => x) hS2 (small20 (steps_ok hl2).len) (fun D H' v' x C Y hy hD hDl s3 hr' hC hY => ?_) (fun D H3 hD s3 hN => ?_)⟩
      · obtain ⟨p, rfl, hp⟩ := hr'
        refine ⟨rfl, _, rfl, p, _, _, _, rfl, rfl, SqT.of hp, at_of (j := 0) rfl rfl, _, rfl, _, _, rfl, rfl, _, rfl, ite2 (fun h3 => ?_) fun h3 => ?_⟩
        · have hx : x.1 ≤ t' := by have := of_decide_eq_true h3; omega
          exact ⟨_, rfl, hY (decide_eq_true hx) _ _ (Same.refl _) ⟨p, rfl, hide_tup hDl hp⟩⟩
        · exact hC (decide_eq_false fun q => h3 (decide_eq_true (by omega)))
      · rw [List.map_id'] at hN
        have hst := till_ok hl2 t'
        refine ⟨_, rfl, _, rfl, c, D, _, rfl, hN.at, hst, fun H4 v4 s4 hv4 => ?_⟩
        have sA : Same H H4 := ((s1.trans s2).trans s3).trans s4
        refine ⟨_, rfl, v4, _, m, rfl, hv4, measS_sz hst, fun H5 D5 hD5 s5 hD5s => ?_⟩
        exact k H5 D5 (sA.free hD5) (sA.trans s5) hD5s
    · rw [decide_eq_false hm]
      exact iteT (bad fun q => hm q.2.2)
def spHalfAns (K : PySem.W.Frag) : Sp := fun vs H Q _ => ∃ (a : Addr) (l : List Sd58.One) (g : Int), vs = [.ref a, .int g] ∧ LAt K RP H a l ∧ Fine l ∧ ∀ (H' : Hp) (D : Addr), H D = none → Same H H' → H' D = some (.lst ((ansOf l (4, [g])).map V.int)) → Q (.ref D) H'
theorem scHalfAns : FnScope ["people", "group"] ["people", "group"] (defScope sHalfAns) := ⟨rfl, rfl, rfl, by decide +kernel, rfl, by decide +kernel, by decide +kernel⟩
theorem ok_halfAns {f : Addr} {fd : FuncData} (T : Txt K mg) (F : Fun K "half_answer" "half_answer" sHalfAns f fd) (hW : Has P w K mg base "within" sWithin ["number", "greatest"] 1 spWithin) (hM : Has P w K mg base "members" sMembers ["people", "group"] 1 (spMembers K))
    (hS : Has P w K mg base "steps_of" sSteps ["people"] 2 (spSteps K)) (hO : Has P w K mg base "half_of" sHalfOf ["steps"] 4 (spHalfOf K)) : FnOk P w K mg base CX0 5 f fd ["people", "group"] (spHalfAns K) := by
  obtain ⟨fW, fdW, DW, GW⟩ := hW
  obtain ⟨fM, fdM, DM, GM⟩ := hM
  obtain ⟨fS, fdS, DS, GS⟩ := hS
  obtain ⟨fO, fdO, DO, GO⟩ := hO
  refine F.ok scHalfAns (fun vs H Q E h => ?_) (fun cdv A outer s H vs Q E hr h => ?_)
  · obtain ⟨a, l, g, rfl, _⟩ := h
    rfl
  · obtain ⟨a, l, g, rfl, hA, hFi, k⟩ := h
    rw [ans_half] at k
    refine ⟨_, pss_cons (ps_if (pt_not (pt_val (pcall GW DW hr (by decide) (pa_cons (pv 1) (pa_cons (pk T.ALL) pa_nil))))) (pss_one (ps_ret (pe_lst (pa_cons (pk T.OUT_OF_RANGE) pa_nil)))) pss_nil)
      (pss_one (ps_ret (pe_lst (pa_cons (pcall GO DO hr (by decide) (pa_cons (pcall GS DS hr (by decide) (pa_cons (pcall GM DM hr (by decide) (pa_cons (pv 0) (pa_cons (pv 1) pa_nil))) pa_nil)) pa_nil)) pa_nil)))), ?_⟩
    refine ⟨_, rfl, _, _, rfl, _, rfl, ?_⟩
    by_cases hg : inR 2 g
    · rw [decide_eq_true hg]
      refine iteF ?_
      rw [if_pos hg] at k
      obtain ⟨g', rfl⟩ : ∃ n : Nat, g = (n : Int) := ⟨g.toNat, by have := hg.1; omega⟩
      rw [Int.toNat_natCast] at k
      have hl2 : (Sd58.ofGroup l g').length ≤ 20 := Nat.le_trans (ofGroup_len l g') hFi.len
      refine ⟨_, rfl, _, rfl, a, l, g', rfl, hA, hFi.len, fun H1 D1 hD1 s1 hM1 => ?_⟩
      refine ⟨D1, _, rfl, hM1, hl2, fun H2 D2 hD2 s2 hS2 => ?_⟩
      refine ⟨D2, _, rfl, hS2, hl2, fun H3 s3 => ?_⟩
      have sA : Same H H3 := (s1.trans s2).trans s3
      exact ⟨(by show 1 ≤ sizeLine; decide), fun p hp => k _ p (sA.free hp) (sA.new hp) upd_same⟩
    · rw [decide_eq_false hg]
      rw [if_neg hg] at k
      exact iteT ⟨(by show 1 ≤ sizeLine; decide), fun p hp => k _ p hp (Same.newH hp) upd_same⟩
def spAgainst (K : PySem.W.Frag) : Sp := fun vs H Q _ => ∃ (a : Addr) (l : List Sd58.One) (c m : Int), vs = [.ref a, .int c, .int m] ∧ (c = 5 ∨ c = 6) ∧ LAt K RP H a l ∧ Fine l ∧ ∀ (H' : Hp) (D : Addr), H D = none → Same H H' → H' D = some (.lst ((ansOf l (c, [m])).map V.int)) → Q (.ref D) H'
theorem scAgainst : FnScope ["people", "call", "most"] ["people", "call", "most"] (defScope sAgainst) := ⟨rfl, rfl, rfl, by decide +kernel, rfl, by decide +kernel, by decide +kernel⟩
theorem ok_against {f : Addr} {fd : FuncData} (T : Txt K mg) (F : Fun K "against_answer" "against_answer" sAgainst f fd) (hW : Has P w K mg base "within" sWithin ["number", "greatest"] 1 spWithin)
    (hG : Has P w K mg base "gap_of" sGapOf ["people"] 3 (spPeople K Sd58.gap)) (hS : Has P w K mg base "sway_of" sSwayOf ["people"] 3 (spPeople K Sd58.sway)) (hF : Has P w K mg base "fraction_answer" sFracAns ["fraction", "most"] 2 spFracAns) :
    FnOk P w K mg base CX0 4 f fd ["people", "call", "most"] (spAgainst K) := by
  obtain ⟨fW, fdW, DW, GW⟩ := hW
  obtain ⟨fG, fdG, DG, GG⟩ := hG
  obtain ⟨fS, fdS, DS, GS⟩ := hS
  obtain ⟨fF, fdF, DF, GF⟩ := hF
  refine F.ok scAgainst (fun vs H Q E h => ?_) (fun cdv A outer s H vs Q E hr h => ?_)
  · obtain ⟨a, l, c, m, rfl, _⟩ := h
    rfl
  · obtain ⟨a, l, c, m, rfl, hc, hA, hFi, k⟩ := h
    have ek : ansOf l (c, [m]) = if inR 4096 m then fracAns m (if c = 5 then Sd58.gap l else Sd58.sway l) else [-2] := by
      rcases hc with e | e <;> subst e
      · rw [ans_gap, if_pos (rfl : (5 : Int) = 5)]
      · rw [ans_sway, if_neg (by decide : ¬ (6 : Int) = 5)]
    rw [ek] at k
    refine ⟨_, pss_cons (ps_if (pt_not (pt_val (pcall GW DW hr (by decide) (pa_cons (pv 2) (pa_cons (pk T.MOST_BYTES) pa_nil))))) (pss_one (ps_ret (pe_lst (pa_cons (pk T.OUT_OF_RANGE) pa_nil)))) pss_nil)
      (pss_one (ps_ret (pcall GF DF hr (by decide) (pa_cons (pe_ifExp (pt_cmpR op_eq (pv 1) (pk T.GAP) (nomark _)) (pcall GG DG hr (by decide) (pa_cons (pv 0) pa_nil)) (pcall GS DS hr (by decide) (pa_cons (pv 0) pa_nil))) (pa_cons (pv 2) pa_nil))))), ?_⟩
    refine ⟨_, rfl, _, _, rfl, _, rfl, ?_⟩
    by_cases hm : inR 4096 m
    · rw [decide_eq_true hm]
      refine iteF ?_
      rw [if_pos hm] at k
      refine ⟨_, rfl, rfl, _, rfl, ite2 (fun h1 => ?_) fun h1 => ?_⟩
      · have e := V.int.inj (of_decide_eq_true h1)
        rw [if_pos e] at k
        refine ⟨_, rfl, a, l, rfl, hA, hFi, fun H1 v1 s1 hv1 => ?_⟩
        refine ⟨_, rfl, v1, _, m, rfl, hv1, ?_, fun H2 D2 hD2 s2 h2 => k H2 D2 (s1.free hD2) (s1.trans s2) h2⟩
        rw [← gapTo_all]
        exact (gapTo_sz hFi.len _).mono (by decide)
      · have e : ¬ c = 5 := fun q => h1 (decide_eq_true (by rw [q]))
        rw [if_neg e] at k
        refine ⟨_, rfl, a, l, rfl, hA, hFi, fun H1 v1 s1 hv1 => ?_⟩
        refine ⟨_, rfl, v1, _, m, rfl, hv1, ?_, fun H2 D2 hD2 s2 h2 => k H2 D2 (s1.free hD2) (s1.trans s2) h2⟩
        rw [← swayTo_all]
        exact (swayTo_sz hFi.len _).mono (by decide)
    · rw [decide_eq_false hm]
      rw [if_neg hm] at k
      exact iteT ⟨(by show 1 ≤ sizeLine; decide), fun p hp => k _ p hp (Same.newH hp) upd_same⟩
theorem rare_sz {m : Nat} {l : List Sd58.One} (hF : Fine l) (hm : m ≤ 2) : Sz 1400 (Sd58.rare m l) := by
  have e : scM m l = [] ++ scM m l := rfl
  rw [rare_halves hF.grp hm e]
  exact (fr_sz (k := 20) (ways_pos (k := m) e) (by rw [Int.natAbs_natCast]; exact ways_le (k := m) hF.len e _) (ways_le (k := m) hF.len e _)).mono (by decide)
def spRareAns (K : PySem.W.Frag) : Sp := fun vs H Q _ => ∃ (a : Addr) (l : List Sd58.One) (c m : Int), vs = [.ref a, .int c, .int m] ∧ LAt K RP H a l ∧ Fine l ∧ ∀ (H' : Hp) (D : Addr), H D = none → Same H H' → H' D = some (.lst ((ansOf l (8, [c, m])).map V.int)) → Q (.ref D) H'
theorem scRareAns : FnScope ["people", "measure", "most"] ["people", "measure", "most"] (defScope sRareAns) := ⟨rfl, rfl, rfl, by decide +kernel, rfl, by decide +kernel, by decide +kernel⟩
theorem ok_rareAns {f : Addr} {fd : FuncData} (T : Txt K mg) (F : Fun K "rare_answer" "rare_answer" sRareAns f fd) (hW : Has P w K mg base "within" sWithin ["number", "greatest"] 1 spWithin)
    (hR : Has P w K mg base "rare_of" sRareOf ["people", "measure"] 5 (spRareOf K)) (hF : Has P w K mg base "fraction_answer" sFracAns ["fraction", "most"] 2 spFracAns) : FnOk P w K mg base CX0 6 f fd ["people", "measure", "most"] (spRareAns K) := by
  obtain ⟨fW, fdW, DW, GW⟩ := hW
  obtain ⟨fR, fdR, DR, GR⟩ := hR
  obtain ⟨fF, fdF, DF, GF⟩ := hF
  refine F.ok scRareAns (fun vs H Q E h => ?_) (fun cdv A outer s H vs Q E hr h => ?_)
  · obtain ⟨a, l, c, m, rfl, _⟩ := h
    rfl
  · obtain ⟨a, l, c, m, rfl, hA, hFi, k⟩ := h
    rw [ans_rare] at k
    refine ⟨_, pss_cons (ps_if (pt_not (PW.pt (pw_and (pt_val (pcall GW DW hr (by decide) (pa_cons (pv 1) (pa_cons (pk T.LAST_MEASURE) pa_nil)))) (pw_and1 (pt_val (pcall GW DW hr (by decide) (pa_cons (pv 2) (pa_cons (pk T.MOST_BYTES) pa_nil)))))))) (pss_one (ps_ret (pe_lst (pa_cons (pk T.OUT_OF_RANGE) pa_nil)))) pss_nil)
      (pss_one (ps_ret (pcall GF DF hr (by decide) (pa_cons (pcall GR DR hr (by decide) (pa_cons (pv 0) (pa_cons (pv 1) pa_nil))) (pa_cons (pv 2) pa_nil))))), ?_⟩
    have bad : ¬ (inR 2 c ∧ inR 4096 m) → ([V.int (-2)] : List V).length ≤ sizeLine ∧ ∀ p, H p = none → Q (.ref p) (upd H p (.lst [V.int (-2)])) := fun hn => by
      rw [if_neg hn] at k
      exact ⟨(by show 1 ≤ sizeLine; decide), fun p hp => k _ p hp (Same.newH hp) upd_same⟩
    refine ⟨_, rfl, _, _, rfl, _, rfl, ite2 (fun h1 => ⟨_, rfl, _, _, rfl, _, rfl, ?_⟩) fun h1 => iteT (bad fun q => h1 (decide_eq_true q.1))⟩
    have hcr := of_decide_eq_true h1
    by_cases hm : inR 4096 m
    · rw [decide_eq_true hm]
      refine iteF ?_
      rw [if_pos ⟨hcr, hm⟩] at k
      obtain ⟨c', rfl⟩ : ∃ n : Nat, c = (n : Int) := ⟨c.toNat, by have := hcr.1; omega⟩
      rw [Int.toNat_natCast] at k
      have hc2 : c' ≤ 2 := by have := hcr.2; omega
      refine ⟨_, rfl, _, rfl, a, l, c', rfl, hA, hFi, hc2, fun H1 v1 s1 hv1 => ?_⟩
      exact ⟨_, rfl, v1, _, m, rfl, hv1, rare_sz hFi hc2, fun H2 D2 hD2 s2 h2 => k H2 D2 (s1.free hD2) (s1.trans s2) h2⟩
    · rw [decide_eq_false hm]
      exact iteT (bad fun q => hm q.2)
def spAnswerOf (K : PySem.W.Frag) : Sp := fun vs H Q _ => ∃ (a b : Addr) (l : List Sd58.One) (q : Cl), vs = [.ref a, .int q.1, .ref b] ∧ LAt K RP H a l ∧ Fine l ∧ SqL K H b (q.2.map V.int) ∧ Cl.ok q ∧ ∀ (H' : Hp) (D : Addr), H D = none → Same H H' → H' D = some (.lst ((ansOf l q).map V.int)) → Q (.ref D) H'
theorem scAnswerOf : FnScope ["people", "call", "numbers"] ["people", "call", "numbers"] (defScope sAnswerOf) := ⟨rfl, rfl, rfl, by decide +kernel, rfl, by decide +kernel, by decide +kernel⟩
theorem cl_cases {q : Cl} (h : Cl.ok q) : (∃ g t m, (q.1 = 1 ∨ q.1 = 2 ∨ q.1 = 3) ∧ q.2 = [g, t, m]) ∨ (∃ m, (q.1 = 4 ∨ q.1 = 5 ∨ q.1 = 6) ∧ q.2 = [m]) ∨ (q.1 = 7 ∧ q.2 = []) ∨ (∃ k m, q.1 = 8 ∧ q.2 = [k, m]) := by
  obtain ⟨p, as⟩ := q
  unfold Cl.ok sizeOfCall at h
  dsimp only at h ⊢
  by_cases h1 : p = 1 ∨ p = 2 ∨ p = 3
  · rw [if_pos h1] at h
    match as, h with
    | [a, b, c], _ => exact .inl ⟨a, b, c, h1, rfl⟩
  · rw [if_neg h1] at h
    by_cases h2 : p = 4 ∨ p = 5 ∨ p = 6
    · rw [if_pos h2] at h
      match as, h with
      | [a], _ => exact .inr (.inl ⟨a, h2, rfl⟩)
    · rw [if_neg h2] at h
      by_cases h3 : p = 7
      · rw [if_pos h3] at h
        match as, h with
        | [], _ => exact .inr (.inr (.inl ⟨h3, rfl⟩))
      · rw [if_neg h3] at h
        by_cases h4 : p = 8
        · rw [if_pos h4] at h
          match as, h with
          | [a, b], _ => exact .inr (.inr (.inr ⟨a, b, h4, rfl⟩))
        · rw [if_neg h4] at h; cases h
theorem ok_answerOf {f : Addr} {fd : FuncData} (T : Txt K mg) (F : Fun K "answer_of" "answer_of" sAnswerOf f fd) (hH : Has P w K mg base "half_answer" sHalfAns ["people", "group"] 5 (spHalfAns K)) (hG : Has P w K mg base "against_answer" sAgainst ["people", "call", "most"] 4 (spAgainst K))
    (hP : Has P w K mg base "pairs_of" sPairsOf ["people"] 3 (spPairsOf K)) (hR : Has P w K mg base "rare_answer" sRareAns ["people", "measure", "most"] 6 (spRareAns K)) (hM : Has P w K mg base "measure_answer" sMeasAns ["people", "call", "group", "time", "most"] 7 (spMeasAns K)) :
    FnOk P w K mg base CX0 8 f fd ["people", "call", "numbers"] (spAnswerOf K) := by
  obtain ⟨fH, fdH, DH, GH⟩ := hH
  obtain ⟨fG, fdG, DG, GG⟩ := hG
  obtain ⟨fP, fdP, DP, GP⟩ := hP
  obtain ⟨fR, fdR, DR, GR⟩ := hR
  obtain ⟨fM, fdM, DM, GM⟩ := hM
  refine F.ok scAnswerOf (fun vs H Q E h => ?_) (fun cdv A outer s H vs Q E hr h => ?_)
  · obtain ⟨a, b, l, q, rfl, _⟩ := h
    rfl
  · obtain ⟨a, b, l, q, rfl, hA, hFi, hB, hok, k⟩ := h
    obtain ⟨c, as⟩ := q
    refine ⟨_, pss_cons (ps_if (pt_cmpR op_eq (pv 1) (pk T.HALF) (nomark _)) (pss_one (ps_ret (pcall GH DH hr (by decide) (pa_cons (pv 0) (pa_cons (pe_ix ix_list (pv 2) pe_int (fun _ _ => rfl)) pa_nil))))) pss_nil)
      (pss_cons (ps_if (PW.pt (pw_or (pt_cmpR op_eq (pv 1) (pk T.GAP) (nomark _)) (pw_or1 (pt_cmpR op_eq (pv 1) (pk T.SWAY) (nomark _))))) (pss_one (ps_ret (pcall GG DG hr (by decide) (pa_cons (pv 0) (pa_cons (pv 1) (pa_cons (pe_ix ix_list (pv 2) pe_int (fun _ _ => rfl)) pa_nil)))))) pss_nil)
      (pss_cons (ps_if (pt_cmpR op_eq (pv 1) (pk T.PAIRS) (nomark _)) (pss_one (ps_ret (pe_lst (pa_cons (pcall GP DP hr (by decide) (pa_cons (pv 0) pa_nil)) pa_nil)))) pss_nil)
      (pss_cons (ps_if (pt_cmpR op_eq (pv 1) (pk T.RARE) (nomark _)) (pss_one (ps_ret (pcall GR DR hr (by decide) (pa_cons (pv 0) (pa_cons (pe_ix ix_list (pv 2) pe_int (fun _ _ => rfl)) (pa_cons (pe_ix ix_list (pv 2) pe_int (fun _ _ => rfl)) pa_nil)))))) pss_nil)
      (pss_one (ps_ret (pcall GM DM hr (by decide) (pa_cons (pv 0) (pa_cons (pv 1) (pa_cons (pe_ix ix_list (pv 2) pe_int (fun _ _ => rfl)) (pa_cons (pe_ix ix_list (pv 2) pe_int (fun _ _ => rfl)) (pa_cons (pe_ix ix_list (pv 2) pe_int (fun _ _ => rfl)) pa_nil))))))))))), ?_⟩
    have hno : ∀ {x y : Int}, ¬ x = y → ¬ decide (V.int x = V.int y) = true := fun h q => h (V.int.inj (of_decide_eq_true q))
    have hyes : ∀ {x y : Int}, decide (V.int x = V.int y) = true → x = y := fun q => V.int.inj (of_decide_eq_true q)
    refine ⟨_, rfl, rfl, _, rfl, ite2 (fun h1 => ?_) fun h1 => ⟨_, rfl, rfl, _, rfl, ite2 (fun h2 => iteT ?_) fun h2 => ⟨_, rfl, rfl, _, rfl, ite2 (fun h3 => ?_) fun h3 => ⟨_, rfl, rfl, _, rfl, ite2 (fun h4 => ?_) fun h4 => ⟨_, rfl, rfl, _, rfl, ite2 (fun h5 => ?_) fun h5 => ?_⟩⟩⟩⟩⟩
    · have e : c = 4 := hyes h1
      subst e
      rcases cl_cases hok with ⟨g, t, m, e, _⟩ | ⟨m, _, e⟩ | ⟨e, _⟩ | ⟨_, _, e, _⟩
      · exact absurd e (by simp)
      · have e : as = [m] := e
        subst e
        exact ⟨_, rfl, _, rfl, b, _, _, _, rfl, rfl, hB, at_of (j := 0) rfl rfl, a, l, m, rfl, hA, hFi, k⟩
      · exact absurd e (by simp)
      · exact absurd e (by simp)
    · have e : c = 5 := hyes h2
      subst e
      rcases cl_cases hok with ⟨g, t, m, e, _⟩ | ⟨m, _, e⟩ | ⟨e, _⟩ | ⟨_, _, e, _⟩
      · exact absurd e (by simp)
      · have e : as = [m] := e
        subst e
        exact ⟨_, rfl, _, rfl, _, rfl, b, _, _, _, rfl, rfl, hB, at_of (j := 0) rfl rfl, a, l, 5, m, rfl, .inl rfl, hA, hFi, k⟩
      · exact absurd e (by simp)
      · exact absurd e (by simp)
    · have e : c = 6 := hyes h3
      subst e
      rcases cl_cases hok with ⟨g, t, m, e, _⟩ | ⟨m, _, e⟩ | ⟨e, _⟩ | ⟨_, _, e, _⟩
      · exact absurd e (by simp)
      · have e : as = [m] := e
        subst e
        exact ⟨_, rfl, _, rfl, _, rfl, b, _, _, _, rfl, rfl, hB, at_of (j := 0) rfl rfl, a, l, 6, m, rfl, .inr rfl, hA, hFi, k⟩
      · exact absurd e (by simp)
      · exact absurd e (by simp)
    · have e : c = 7 := hyes h4
      subst e
      rcases cl_cases hok with ⟨g, t, m, e, _⟩ | ⟨m, e, _⟩ | ⟨_, e⟩ | ⟨_, _, e, _⟩
      · exact absurd e (by simp)
      · exact absurd e (by simp)
      · have e : as = [] := e
        subst e
        rw [ans_pairs] at k
        refine ⟨_, rfl, a, l, rfl, hA, hFi.len, fun H1 s1 => ⟨(by show 1 ≤ sizeLine; decide), fun p hp => k _ p (s1.free hp) (s1.new hp) upd_same⟩⟩
      · exact absurd e (by simp)
    · have e : c = 8 := hyes h5
      subst e
      rcases cl_cases hok with ⟨g, t, m, e, _⟩ | ⟨m, e, _⟩ | ⟨e, _⟩ | ⟨z, m, _, e⟩
      · exact absurd e (by simp)
      · exact absurd e (by simp)
      · exact absurd e (by simp)
      · have e : as = [z, m] := e
        subst e
        exact ⟨_, rfl, _, rfl, b, _, _, _, rfl, rfl, hB, at_of (j := 0) rfl rfl, _, rfl, b, _, _, _, rfl, rfl, hB, at_of (j := 1) rfl rfl, a, l, z, m, rfl, hA, hFi, k⟩
    · have n4 : ¬ c = 4 := fun q => h1 (decide_eq_true (by rw [q]))
      have n5 : ¬ c = 5 := fun q => h2 (decide_eq_true (by rw [q]))
      have n6 : ¬ c = 6 := fun q => h3 (decide_eq_true (by rw [q]))
      have n7 : ¬ c = 7 := fun q => h4 (decide_eq_true (by rw [q]))
      have n8 : ¬ c = 8 := fun q => h5 (decide_eq_true (by rw [q]))
      rcases cl_cases hok with ⟨g, t, m, e, e2⟩ | ⟨m, e, _⟩ | ⟨e, _⟩ | ⟨z, m, e, _⟩
      · have e2 : as = [g, t, m] := e2
        subst e2
        exact ⟨_, rfl, _, rfl, _, rfl, b, _, _, _, rfl, rfl, hB, at_of (j := 0) rfl rfl, _, rfl, b, _, _, _, rfl, rfl, hB, at_of (j := 1) rfl rfl, _, rfl, b, _, _, _, rfl, rfl, hB, at_of (j := 2) rfl rfl, a, l, c, g, t, m, rfl, e, hA, hFi, k⟩
      · rcases e with e | e | e
        · exact absurd e n4
        · exact absurd e n5
        · exact absurd e n6
      · exact absurd e n7
      · exact absurd e n8
end
end LP
end
section
set_option Elab.async false
set_option linter.all false
set_option maxRecDepth 100000
namespace LP
open PySem PySem.Spec PyProof.Rows L2
open LS
abbrev sAnswers : Stmt := top 62
/-- a line of the text at v -/
def RB : VR Sd58.Bytes := fun H v b => ∃ p, v = .ref p ∧ H p = some (.lst (vB b))
theorem mono_RB : Mono RB := ⟨fun s h => let ⟨p, e, q⟩ := h; ⟨p, e, s _ _ q⟩⟩
theorem RunsAt.rels {H : Hp} {rs : List Addr} {ps : List (List Nat)} (R : RunsAt H rs ps) : Rels RB H (rs.map V.ref) ps := by
  refine ⟨by rw [List.length_map]; exact R.len, fun i v x h1 h2 => ?_⟩
  rw [List.getElem?_map] at h1
  obtain ⟨r, hr, e⟩ := Option.map_eq_some_iff.mp h1
  exact ⟨r, e.symm, R.at_ i r x hr h2⟩
theorem cut_mid {xs : List V} {i j : Nat} (hij : i ≤ j) (h : j ≤ xs.length) : cutV xs (some (i : Int)) (some (j : Int)) = (xs.drop i).take (j - i) := by
  unfold cutV
  rw [HT.sIx_nat, HT.sIx_nat, Nat.min_eq_left h, Nat.min_eq_left (Nat.le_trans hij h)]
theorem hide_pers {D : Addr} {H : Hp} {v : V} {o : Option Sd58.One} (hD : ∃ us, H D = some (.lst us)) (h : RO H v o) : RO (hide D H) v o := by
  cases o with
  | none => exact h
  | some x =>
    obtain ⟨p, e, q⟩ := h
    exact ⟨p, e, hide_tup hD q⟩
section
variable {P : Program} {w : World} {K : PySem.W.Frag} {mg : Str → Option Value} {base : Heap}
def Sizes (P : Program) (w : World) (K : PySem.W.Frag) (mg : Str → Option Value) : Prop := ∃ (a : Addr) (kvs : List (Key × Value)), mg "SIZES" = some (.ref a) ∧ ModD P w K a kvs ∧ ∀ (p : Int) (n : Nat), sizeOfCall p = some n → ∃ t, valueAt kvs (Sum.inl p) = some (.int (n : Int) t)
def spAnswers (K : PySem.W.Frag) : Sp := fun vs H Q _ => ∃ (a : Addr) (l text : List Int) (qs : List Cl), vs = [.ref a] ∧ SqL K H a (l.map V.int) ∧ Asked l text qs ∧ ∀ (H' : Hp) (p : Addr), H' p = some (.lst ((PySd58.answers l).map V.int)) → Q (.ref p) H'
theorem scAnswers : FnScope ["calls", "behind", "people", "begun", "answered", "call", "first", "answer", "line"] ["calls"] (defScope sAnswers) := ⟨rfl, rfl, rfl, by decide +kernel, rfl, by decide +kernel, by decide +kernel⟩
theorem ok_answers {f : Addr} {fd : FuncData} (T : Txt K mg) (hZ : Sizes P w K mg) (F : Fun K "answers" "answers" sAnswers f fd) (hLn : Has P w K mg base "lines_of" sLines ["text"] 2 (spLines K)) (hPe : Has P w K mg base "person_of" sPerson ["line"] 2 (spPerson K))
    (hBe : Has P w K mg base "begin_answer" sBegin ["size", "people"] 2 (spBegin K)) (hAn : Has P w K mg base "answer_of" sAnswerOf ["people", "call", "numbers"] 8 (spAnswerOf K)) : FnOk P w K mg base CX0 9 f fd ["calls"] (spAnswers K) := by
  obtain ⟨fLn, fdLn, DLn, GLn⟩ := hLn
  obtain ⟨fPe, fdPe, DPe, GPe⟩ := hPe
  obtain ⟨fBe, fdBe, DBe, GBe⟩ := hBe
  obtain ⟨fAn, fdAn, DAn, GAn⟩ := hAn
  obtain ⟨az, kvs, mgz, hmd, hsz⟩ := hZ
  refine F.ok scAnswers (fun vs H Q E h => ?_) (fun cdv A outer s H vs Q E hr h => ?_)
  · obtain ⟨a, l, text, qs, rfl, _⟩ := h
    rfl
  · obtain ⟨a, l, text, qs, rfl, hS, hQ, k⟩ := h
    refine ⟨_, pss_cons (ps_set (i := 1) scAnswers.nd rfl (Or.inl rfl) (pe_op op_add pe_int (pe_ix ix_list (pv 0) pe_int (fun _ _ => rfl))))
      (pss_cons (ps_setLc (i := 2) (own := [("line", 8)]) rfl scAnswers.nd rfl rfl (sw_true rfl rfl rfl (by decide +kernel)) (pi_list (pcall GLn DLn hr (by decide) (pa_cons (pe_slice sl_list (pv 0) (po_some pe_int) (po_some (pv 1))) pa_nil))) (blkOk_of scAnswers (by decide +kernel))
        (fun _ _ _ _ _ => pg_name (i := 8) scAnswers.nd rfl (Or.inl rfl)) (fun _ _ _ _ _ => pts_nil) (fun _ _ _ _ _ => pcall GPe DPe hr (by decide) (pa_cons (pv 8) pa_nil)))
      (pss_cons (ps_set (i := 3) scAnswers.nd rfl (Or.inl rfl) (pcall GBe DBe hr (by decide) (pa_cons (pe_ix ix_list (pv 0) pe_int (fun _ _ => rfl)) (pa_cons (pv 2) pa_nil))))
      (pss_cons (ps_set (i := 4) scAnswers.nd rfl (Or.inl rfl) (pe_lst (pa_cons pe_int (pa_cons (pv 3) pa_nil))))
      (pss_cons (ps_if (pt_cmpR op_lt (pv 3) pe_int (nomark _)) (pss_one (ps_ret (pv 4))) pss_nil)
      (pss_cons (ps_while PassesOwn.never (pt_cmpR op_lt (pv 1) (pe_callB call_len_seq (by rfl) T.len PySem.boot_len (pa_cons (pv 0) pa_nil)) (nomark _))
        (pss_cons (ps_set (i := 5) scAnswers.nd rfl (Or.inl rfl) (pe_ix ix_list (pv 0) (pv 1) (fun _ _ => rfl)))
        (pss_cons (ps_set (i := 6) scAnswers.nd rfl (Or.inl rfl) (pe_op op_add (pv 1) pe_int))
        (pss_cons (ps_set (i := 1) scAnswers.nd rfl (Or.inl rfl) (pe_op op_add (pv 6) (pe_dgetK (pe_glob (v := .ref az) (by rfl) mgz rfl) (pv 5) (fun _ _ => rfl))))
        (pss_cons (ps_set (i := 7) scAnswers.nd rfl (Or.inl rfl) (pcall GAn DAn hr (by decide) (pa_cons (pv 2) (pa_cons (pv 5) (pa_cons (pe_slice sl_list (pv 0) (po_some (pv 6)) (po_some (pv 1))) pa_nil)))))
        (pss_cons (ps_expr (pe_bm PySem.F.plainAttrs_list PySem.F.slot_list_append PySem.F.type_list_append mt_append (pv 4) (pa_cons (pe_callB call_len_seq (by rfl) T.len PySem.boot_len (pa_cons (pv 7) pa_nil)) pa_nil)))
        (pss_one (ps_expr (pe_bm PySem.F.plainAttrs_list PySem.F.slot_list_extend PySem.F.type_list_extend mt_extend (pv 4) (pa_cons (pv 7) pa_nil))))))))))
      (pss_one (ps_ret (pv 4)))))))), ?_⟩
    obtain ⟨ht1, ht2, ht3⟩ := text_of hQ.eq
    have hml : (l.map V.int).length = l.length := List.length_map ..
    have h1v : (l.map V.int)[1]? = some (V.int (text.length : Int)) := by rw [List.getElem?_map, ht1]; rfl
    refine ⟨_, rfl, a, _, _, _, rfl, rfl, hS, at_of (j := 1) rfl h1v, _, _, rfl, rfl, ?_⟩
    have e2 : ((2 : Int) + (text.length : Int)) = ((2 + text.length : Nat) : Int) := by omega
    show gName 1 (V.int ((2 : Int) + (text.length : Int))) _ _ _
    rw [e2]
    refine ⟨_, rfl, _, rfl, _, rfl, _, rfl, a, _, rfl, hS, fun p1 hp1 => ?_⟩
    have ecut : cutV (l.map V.int) (some 2) (some ((2 + text.length : Nat) : Int)) = vB (text.map Int.toNat) := by
      have c := cut_mid (xs := l.map V.int) (i := 2) (j := 2 + text.length) (by omega) (by rw [hml]; exact ht3)
      have c' : cutV (l.map V.int) (some 2) (some ((2 + text.length : Nat) : Int)) = ((l.map V.int).drop 2).take (2 + text.length - 2) := c
      rw [c', Nat.add_sub_cancel_left, ← List.map_drop, ← List.map_take, ht2]
      unfold vB
      rw [List.map_map]
      refine List.map_congr_left fun x hx => ?_
      have := (hQ.byte x hx).1
      show V.int x = V.int ((x.toNat : Nat) : Int)
      congr 1
      omega
    rw [ecut]
    have s1 : Same H (upd H p1 (.lst (vB (text.map Int.toNat)))) := Same.newH hp1
    have hbl : (text.map Int.toNat).length ≤ 4096 := by rw [List.length_map]; exact hQ.most
    refine ⟨p1, _, rfl, SqL.of upd_same, hbl, fun H2 p2 rs s2 hp2 hl2 R2 hf2 => ?_⟩
    have hA2 : LAt K RB H2 p2 (Sd58.linesOf (text.map Int.toNat)) := ⟨_, SqL.of hl2, RunsAt.rels R2⟩
    have hlin : ∀ b ∈ Sd58.linesOf (text.map Int.toNat), b.length ≤ 4096 := fun b hb => by
      have hm : b ∈ Sd58.pieces 10 (text.map Int.toNat) := by
        rw [linesOf_eq] at hb
        split at hb
        · exact List.dropLast_subset _ hb
        · exact hb
      exact Nat.le_trans (pieces_le 10 _ b hm) hbl
    have hmany : (Sd58.linesOf (text.map Int.toNat)).length < sizeLine := by
      have h1 : (Sd58.linesOf (text.map Int.toNat)).length ≤ (Sd58.pieces 10 (text.map Int.toNat)).length := by
        rw [linesOf_eq]
        split
        · rw [List.length_dropLast]; omega
        · exact Nat.le_refl _
      have h2 : (Sd58.pieces 10 (text.map Int.toNat)).length ≤ (text.map Int.toNat).length + 1 := by
        generalize text.map Int.toNat = b
        induction b with
        | nil => simp [Sd58.pieces]
        | cons x r ih =>
          obtain ⟨p, ps, e⟩ := pieces_ne 10 r
          unfold Sd58.pieces
          rw [e]
          rw [e] at ih
          dsimp only
          split
          · simp at ih ⊢; omega
          · simp at ih ⊢; omega
      have hL : sizeLine = 16777216 := by decide
      omega
    refine ⟨p2, rfl, ⟨_, SqL.of hl2⟩, lc_gen (R' := RO) mono_RB mono_RO (p := fun _ => true) (f := Sd58.oneRead) hA2 hmany (fun D H' v' b C Y hy hD hDl s3 hr' hC hY => ?_) (fun D3 H3 hD3 s3 hN3 => ?_)⟩
    · obtain ⟨p, rfl, hp⟩ := hr'
      refine ⟨rfl, yes ⟨_, rfl, p, b, rfl, SqL.of hp, hlin b hy, fun H4 v4 s4 h4 => ?_⟩⟩
      exact hY rfl _ _ s4 (hide_pers (let ⟨us, e⟩ := hDl; ⟨us, s4 _ _ e⟩) h4)
    · rw [filter_all] at hN3
      have sA : Same H H3 := (s1.trans s2).trans s3
      refine ⟨_, rfl, a, _, _, _, rfl, rfl, sA.seq hS, at_of (j := 1) rfl h1v, _, rfl, D3, text.length, _, rfl, hQ.most, hN3.at, fun H4 s4 => ?_⟩
      refine ⟨_, rfl, (by show 2 ≤ sizeLine; decide), fun L hL => ?_⟩
      have s5 : Same H4 (upd H4 L (.lst [.int 1, .int (begunI (Sd58.linesOf (text.map Int.toNat)))])) := Same.newH hL
      have hL5 : upd H4 L (.lst [.int 1, .int (begunI (Sd58.linesOf (text.map Int.toNat)))]) L = some (.lst [.int 1, .int (begunI (Sd58.linesOf (text.map Int.toNat)))]) := upd_same
      generalize upd H4 L (.lst [.int 1, .int (begunI (Sd58.linesOf (text.map Int.toNat)))]) = H5 at s5 hL5 ⊢
      have sH4 : Same H H4 := sA.trans s4
      cases hw : wrongAt 1 (Sd58.linesOf (text.map Int.toNat)) with
      | some kk =>
        have hrd : Sd58.read (text.map Int.toNat) = .error kk := by rw [read_eq, hw]
        obtain ⟨_, hans⟩ := hQ.bad kk hrd
        have hb : begunI (Sd58.linesOf (text.map Int.toNat)) = -100 - (kk : Int) := by unfold begunI; rw [hw]
        rw [hb] at hL5 ⊢
        refine ⟨_, rfl, _, _, rfl, rfl, _, rfl, ite2 (fun _ => ?_) fun hc => absurd (decide_eq_true (by omega)) hc⟩
        refine ⟨_, rfl, k H5 L ?_⟩
        rw [hans]
        exact hL5
      | none =>
        have hrd : Sd58.read (text.map Int.toNat) = .ok ((Sd58.linesOf (text.map Int.toNat)).filterMap Sd58.oneRead) := by rw [read_eq, hw]
        generalize (Sd58.linesOf (text.map Int.toNat)).filterMap Sd58.oneRead = al at hrd
        obtain ⟨hans, hsum⟩ := hQ.good al hrd
        have hFi := fine_read hrd
        have hb : begunI (Sd58.linesOf (text.map Int.toNat)) = 0 := by unfold begunI; rw [hw]
        rw [hb] at hL5 ⊢
        have hpe : LAt K RP H3 D3 al := by
          obtain ⟨us, q1, q2⟩ := hN3
          rw [read_all hrd] at q2
          refine ⟨us, SqL.of q1, by rw [q2.1, List.length_map], fun i v x h1 h2 => ?_⟩
          have := q2.2 i v (some x) h1 (by rw [List.getElem?_map, h2]; rfl)
          exact this
        refine ⟨_, rfl, _, _, rfl, rfl, _, rfl, ite2 (fun hc => absurd (of_decide_eq_true hc) (by decide)) fun _ => ?_⟩
        refine while_by (fun σ H' => ∃ (i : Nat) (z5 z6 z7 : Option V), σ = [some (.ref a), some (vN (off text qs i)), some (.ref D3), some (.int 0), some (.ref L), z5, z6, z7, none] ∧ i ≤ qs.length ∧ Same H4 H' ∧ H' L = some (.lst ((accA al qs i).map V.int)))
          (fun (σ : L2.St) (_ : Hp) => match σ[1]? with | some (some (V.int y)) => l.length - y.toNat | _ => 0) ⟨0, none, none, none, by rw [off_zero]; rfl, Nat.zero_le _, s5, hL5⟩ ?_ ?_
        · rintro σ H' ⟨i, z5, z6, z7, rfl, hi, s6, hL6⟩
          have sH' : Same H H' := sH4.trans s6
          refine ⟨_, rfl, _, rfl, a, _, rfl, .inl (sH'.seq hS), _, _, rfl, rfl, _, rfl, ite2 (fun hc => ?_) fun hc => ?_⟩
          · have hlt : off text qs i < l.length := by have := of_decide_eq_true hc; rw [hml] at this; omega
            have hiq := (off_lt hQ.eq hi).mp hlt
            have hq : qs[i]? = some (qs[i]'hiq) := List.getElem?_eq_getElem _
            generalize qs[i]'hiq = q at hq
            obtain ⟨o1, o2, o3⟩ := at_off hQ.eq hq
            have osz := off_size hQ.eq hq
            have hok := hQ.oks q (List.mem_of_getElem? hq)
            have hqv : (l.map V.int)[off text qs i]? = some (V.int q.1) := by rw [List.getElem?_map, o1]; rfl
            obtain ⟨tz, hz⟩ := hsz q.1 q.2.length hok
            refine ⟨_, rfl, _, rfl, a, _, _, _, rfl, rfl, sH'.seq hS, at_of (j := off text qs i) rfl hqv, ?_⟩
            refine ⟨_, rfl, _, _, rfl, rfl, ?_⟩
            refine ⟨_, rfl, _, rfl, az, kvs, Sum.inl q.1, V.int (q.2.length : Int), _, rfl, hmd, rfl, hz, ⟨tz, rfl⟩, _, _, rfl, rfl, ?_⟩
            have eo1 : ((off text qs i : Int) + 1) = ((off text qs i + 1 : Nat) : Int) := by omega
            have eo2 : ((off text qs i : Int) + 1 + (q.2.length : Int)) = ((off text qs (i + 1) : Nat) : Int) := by rw [o3]; omega
            refine ⟨_, rfl, _, rfl, _, rfl, _, rfl, _, rfl, _, rfl, _, rfl, a, _, rfl, sH'.seq hS, fun p7 hp7 => ?_⟩
            have ecut2 : cutV (l.map V.int) (some ((off text qs i : Int) + 1)) (some ((off text qs i : Int) + 1 + (q.2.length : Int))) = q.2.map V.int := by
              have c := cut_mid (xs := l.map V.int) (i := off text qs i + 1) (j := off text qs i + 1 + q.2.length) (by omega) (by rw [hml]; exact osz)
              have ea : ((off text qs i + 1 + q.2.length : Nat) : Int) = ((off text qs i : Int) + 1 + (q.2.length : Int)) := by omega
              have eb : ((off text qs i + 1 : Nat) : Int) = (off text qs i : Int) + 1 := by omega
              rw [ea, eb] at c
              rw [c, Nat.add_sub_cancel_left, ← List.map_drop, ← List.map_take, o2]
            rw [ecut2]
            have s7 : Same H' (upd H' p7 (.lst (q.2.map V.int))) := Same.newH hp7
            refine ⟨D3, p7, al, q, rfl, hpe.up mono_RP ((s4.trans s6).trans s7), hFi, SqL.of upd_same, hok, fun H8 D8 hD8 s8 hD8s => ?_⟩
            have hL8 : H8 L = some (.lst ((accA al qs i).map V.int)) := s8 _ _ (s7 _ _ hL6)
            have hstep := accA_step (a := al) hQ.many hsum hq
            have hLine : sizeLine = 16777216 := by decide
            refine ⟨_, rfl, .inl ⟨rfl, _, SqL.of hL8⟩, _, rfl, D8, _, rfl, .inl (SqL.of hD8s), L, _, _, rfl, rfl, hL8, (by rw [List.length_map]; omega), ?_⟩
            have hDL : D8 ≠ L := fun z => by
              have : (upd H' p7 (.lst (q.2.map V.int))) L = none := by rw [← z]; exact hD8
              rw [s7 _ _ hL6] at this
              cases this
            have h9 : upd H8 L (.lst ((accA al qs i).map V.int ++ [V.int (((ansOf al q).map V.int).length : Int)])) D8 = some (.lst ((ansOf al q).map V.int)) := by rw [upd_ne hDL]; exact hD8s
            refine ⟨_, rfl, .inl ⟨rfl, _, SqL.of upd_same⟩, _, rfl, L, D8, _, _, rfl, rfl, upd_same, h9, (by rw [List.length_append, List.length_map, List.length_map]; show (accA al qs i).length + 1 + (ansOf al q).length ≤ sizeLine; omega), ?_⟩
            have eL : (((accA al qs i).map V.int ++ [V.int (((ansOf al q).map V.int).length : Int)]) ++ (ansOf al q).map V.int) = (accA al qs (i + 1)).map V.int := by
              rw [accA_succ hq, List.map_append, List.map_append, List.length_map]
              rfl
            rw [eL, upd_upd]
            refine ⟨⟨i + 1, some (V.int q.1), some (V.int ((off text qs i : Int) + 1)), some (V.ref D8), ?_, by omega, fun b o e => ?_, upd_same⟩, ?_⟩
            · show [some (V.ref a), some (V.int ((off text qs i : Int) + 1 + (q.2.length : Int))), some (V.ref D3), some (V.int 0), some (V.ref L), some (V.int q.1), some (V.int ((off text qs i : Int) + 1)), some (V.ref D8), none] = _
              rw [eo2]
              rfl
            · rw [upd_ne (ne_of_none e hL)]
              exact s8 _ _ (s7 _ _ (s6 _ _ e))
            · show l.length - ((off text qs i : Int) + 1 + (q.2.length : Int)).toNat < l.length - ((off text qs i : Int)).toNat
              rw [Int.toNat_natCast]
              omega
          · have hge : ¬ off text qs i < l.length := fun z => hc (decide_eq_true (by rw [hml]; omega))
            have hie : i = qs.length := by
              rcases Nat.lt_or_ge i qs.length with z | z
              · exact absurd ((off_lt hQ.eq hi).mpr z) hge
              · omega
            subst hie
            refine ⟨_, rfl, k H' L ?_⟩
            rw [hans]
            unfold accA at hL6
            rw [List.take_length] at hL6
            exact hL6
        · rintro σ H' Q1 Q2 m ⟨v, e, v2, g2, p, ys, g3, g4, i1, j1, g5, g6, c, g7, q⟩
          exact ⟨v, e, v2, g2, p, ys, g3, g4, i1, j1, g5, g6, c, g7, m _ _ q⟩
end
end LP
end
section
set_option Elab.async false
set_option linter.all false
set_option maxRecDepth 100000
namespace LP
open PySem PySem.Spec PyProof.Rows L2
open LS
theorem ex_mk {K : PySem.W.Frag} {x : Str} {i : Int} {t : Tok} (e : PySem.W.nsIn K mainGlobals x = some (some (.int i t))) : ∃ t, PySem.W.nsIn K mainGlobals x = some (some (.int i t)) := ⟨t, e⟩
def Wr (K : PySem.W.Frag) (x : Str) (st : Stmt) : Prop := ∃ (f : Addr) (fd : FuncData), PySem.W.nsIn K mainGlobals x = some (some (.ref f)) ∧ Fun K x x st f fd
theorem wr_mk {K : PySem.W.Frag} {x : Str} {st : Stmt} {f : Addr} {oc : Value} {od an : Option Addr} {osl : Array (Option Value)} {kV doc pm cdv ct : Value} (a : PySem.W.nsIn K mainGlobals x = some (some (.ref f))) (l : K.lookup f = some ⟨oc, od, .func (PySem.W.fnOf x x (defArgs st) (defBody st) (defScope st) .none kV doc pm an cdv ct), osl⟩)
    (c : PySem.W.codeIn K cdv x = true) (k : PySem.W.keepIn K (.ref f) = true) : Wr K x st := ⟨f, _, a, fun_mk l c k⟩
section
variable {P : Program} {w : World} {K : PySem.W.Frag} {mg : Str → Option Value} {base h : Heap}
theorem Wr.def_ {x : Str} {st : Stmt} {ps : List Str} (X : K.In h) (G : h.Ns mainGlobals mg) (W : Wr K x st) (hb : ∀ (kV doc pm : Value) (an : Option Addr) (cdv ct : Value) (us : List Value), us.length = ps.length → bindArgs (PySem.W.fnOf x x (defArgs st) (defBody st) (defScope st) .none kV doc pm an cdv ct) ⟨us, []⟩ = pure (ps.zip us)) :
    ∃ f fd, DefAt K mg x st ps f fd := by
  obtain ⟨f, fd, a, F⟩ := W
  exact ⟨f, fd, F, PySem.W.mg_of X G a, F.binds hb⟩
theorem Sizes.mk_ {az : Addr} {ep : Nat} {t1 u1 : Tok} {t2 u2 : Tok} {t3 u3 : Tok} {t4 u4 : Tok} {t5 u5 : Tok} {t6 u6 : Tok} {t7 u7 : Tok} {t8 u8 : Tok} (X : K.In h) (G : h.Ns mainGlobals mg) (a : PySem.W.nsIn K mainGlobals "SIZES" = some (some (.ref az)))
    (l : K.lookup az = some ⟨.type "dict", none, .dict #[⟨hashInt 1, .int 1 t1, .int 3 u1⟩, ⟨hashInt 2, .int 2 t2, .int 3 u2⟩, ⟨hashInt 3, .int 3 t3, .int 3 u3⟩, ⟨hashInt 4, .int 4 t4, .int 1 u4⟩, ⟨hashInt 5, .int 5 t5, .int 1 u5⟩, ⟨hashInt 6, .int 6 t6, .int 1 u6⟩, ⟨hashInt 7, .int 7 t7, .int 0 u7⟩, ⟨hashInt 8, .int 8 t8, .int 2 u8⟩] ep, #[]⟩) : Sizes P w K mg := by
  refine ⟨az, [(Sum.inl 1, .int 3 u1), (Sum.inl 2, .int 3 u2), (Sum.inl 3, .int 3 u3), (Sum.inl 4, .int 1 u4), (Sum.inl 5, .int 1 u5), (Sum.inl 6, .int 1 u6), (Sum.inl 7, .int 0 u7), (Sum.inl 8, .int 2 u8)], PySem.W.mg_of X G a, fun h' X' => ?_, fun p n hp => ?_⟩
  · refine ⟨_, _, _, X' _ _ l, ⟨rfl, rfl, rfl⟩, rfl, fun e he => ?_, ?_, ?_⟩
    · have he' : e ∈ #[(⟨hashInt 1, .int 1 t1, .int 3 u1⟩ : DictEntry), (⟨hashInt 2, .int 2 t2, .int 3 u2⟩ : DictEntry), (⟨hashInt 3, .int 3 t3, .int 3 u3⟩ : DictEntry), (⟨hashInt 4, .int 4 t4, .int 1 u4⟩ : DictEntry), (⟨hashInt 5, .int 5 t5, .int 1 u5⟩ : DictEntry), (⟨hashInt 6, .int 6 t6, .int 1 u6⟩ : DictEntry), (⟨hashInt 7, .int 7 t7, .int 0 u7⟩ : DictEntry), (⟨hashInt 8, .int 8 t8, .int 2 u8⟩ : DictEntry)].toList := by simpa using he
      have hx : e = ⟨hashInt 1, .int 1 t1, .int 3 u1⟩ ∨ e = ⟨hashInt 2, .int 2 t2, .int 3 u2⟩ ∨ e = ⟨hashInt 3, .int 3 t3, .int 3 u3⟩ ∨ e = ⟨hashInt 4, .int 4 t4, .int 1 u4⟩ ∨ e = ⟨hashInt 5, .int 5 t5, .int 1 u5⟩ ∨ e = ⟨hashInt 6, .int 6 t6, .int 1 u6⟩ ∨ e = ⟨hashInt 7, .int 7 t7, .int 0 u7⟩ ∨ e = ⟨hashInt 8, .int 8 t8, .int 2 u8⟩ := by simpa using he'
      rcases hx with rfl | rfl | rfl | rfl | rfl | rfl | rfl | rfl
      · exact ⟨Sum.inl 1, keyIs_int 1 t1, rfl⟩
      · exact ⟨Sum.inl 2, keyIs_int 2 t2, rfl⟩
      · exact ⟨Sum.inl 3, keyIs_int 3 t3, rfl⟩
      · exact ⟨Sum.inl 4, keyIs_int 4 t4, rfl⟩
      · exact ⟨Sum.inl 5, keyIs_int 5 t5, rfl⟩
      · exact ⟨Sum.inl 6, keyIs_int 6 t6, rfl⟩
      · exact ⟨Sum.inl 7, keyIs_int 7 t7, rfl⟩
      · exact ⟨Sum.inl 8, keyIs_int 8 t8, rfl⟩
    · exact .cons (keyIs_int 1 t1) rfl (.cons (keyIs_int 2 t2) rfl (.cons (keyIs_int 3 t3) rfl (.cons (keyIs_int 4 t4) rfl (.cons (keyIs_int 5 t5) rfl (.cons (keyIs_int 6 t6) rfl (.cons (keyIs_int 7 t7) rfl (.cons (keyIs_int 8 t8) rfl .nil)))))))
    · show ([Sum.inl 1, Sum.inl 2, Sum.inl 3, Sum.inl 4, Sum.inl 5, Sum.inl 6, Sum.inl 7, Sum.inl 8] : List Key).Nodup
      decide
  · unfold sizeOfCall at hp
    by_cases h1 : p = 1 ∨ p = 2 ∨ p = 3
    · rw [if_pos h1] at hp
      cases hp
      rcases h1 with e | e | e <;> subst e
      · exact ⟨u1, rfl⟩
      · exact ⟨u2, rfl⟩
      · exact ⟨u3, rfl⟩
    · rw [if_neg h1] at hp
      by_cases h2 : p = 4 ∨ p = 5 ∨ p = 6
      · rw [if_pos h2] at hp
        cases hp
        rcases h2 with e | e | e <;> subst e
        · exact ⟨u4, rfl⟩
        · exact ⟨u5, rfl⟩
        · exact ⟨u6, rfl⟩
      · rw [if_neg h2] at hp
        by_cases h3 : p = 7
        · rw [if_pos h3] at hp
          cases hp
          subst h3
          exact ⟨u7, rfl⟩
        · rw [if_neg h3] at hp
          by_cases h4 : p = 8
          · rw [if_pos h4] at hp
            cases hp
            subst h4
            exact ⟨u8, rfl⟩
          · rw [if_neg h4] at hp
            cases hp
end
set_option maxHeartbeats 8000000 in
theorem all_mk {P : Program} {w : World} {K : PySem.W.Frag} {h : Heap} {mg : Str → Option Value} {fa : Addr} (X : K.In h) (G : h.Ns mainGlobals mg) (hfa : mg "answers" = some (.ref fa))
    (n_NEWLINE : ∃ t, PySem.W.nsIn K mainGlobals "NEWLINE" = some (some (.int 10 t)))
    (n_BLANK : ∃ t, PySem.W.nsIn K mainGlobals "BLANK" = some (some (.int 32 t)))
    (n_DIGIT_ZERO : ∃ t, PySem.W.nsIn K mainGlobals "DIGIT_ZERO" = some (some (.int 48 t)))
    (n_DIGIT_NINE : ∃ t, PySem.W.nsIn K mainGlobals "DIGIT_NINE" = some (some (.int 57 t)))
    (n_MOST_BYTES : ∃ t, PySem.W.nsIn K mainGlobals "MOST_BYTES" = some (some (.int 4096 t)))
    (n_MOST_PEOPLE : ∃ t, PySem.W.nsIn K mainGlobals "MOST_PEOPLE" = some (some (.int 20 t)))
    (n_LATEST : ∃ t, PySem.W.nsIn K mainGlobals "LATEST" = some (some (.int 1000000 t)))
    (n_ALL : ∃ t, PySem.W.nsIn K mainGlobals "ALL" = some (some (.int 2 t)))
    (n_TOO_LONG : ∃ t, PySem.W.nsIn K mainGlobals "TOO_LONG" = some (some (.int (-1) t)))
    (n_OUT_OF_RANGE : ∃ t, PySem.W.nsIn K mainGlobals "OUT_OF_RANGE" = some (some (.int (-2) t)))
    (n_NO_HALF : ∃ t, PySem.W.nsIn K mainGlobals "NO_HALF" = some (some (.int (-3) t)))
    (n_WRONG_LINE : ∃ t, PySem.W.nsIn K mainGlobals "WRONG_LINE" = some (some (.int (-100) t)))
    (n_LASTS : ∃ t, PySem.W.nsIn K mainGlobals "LASTS" = some (some (.int 1 t)))
    (n_SPREAD : ∃ t, PySem.W.nsIn K mainGlobals "SPREAD" = some (some (.int 2 t)))
    (n_HALF : ∃ t, PySem.W.nsIn K mainGlobals "HALF" = some (some (.int 4 t)))
    (n_GAP : ∃ t, PySem.W.nsIn K mainGlobals "GAP" = some (some (.int 5 t)))
    (n_SWAY : ∃ t, PySem.W.nsIn K mainGlobals "SWAY" = some (some (.int 6 t)))
    (n_PAIRS : ∃ t, PySem.W.nsIn K mainGlobals "PAIRS" = some (some (.int 7 t)))
    (n_RARE : ∃ t, PySem.W.nsIn K mainGlobals "RARE" = some (some (.int 8 t)))
    (n_TIMES_TOGETHER : ∃ t, PySem.W.nsIn K mainGlobals "TIMES_TOGETHER" = some (some (.int 0 t)))
    (n_PAIRS_TOGETHER : ∃ t, PySem.W.nsIn K mainGlobals "PAIRS_TOGETHER" = some (some (.int 1 t)))
    (n_LAST_MEASURE : ∃ t, PySem.W.nsIn K mainGlobals "LAST_MEASURE" = some (some (.int 2 t)))
    (z_len : PySem.W.nsIn K mainGlobals "len" = some none)
    (z_ord : PySem.W.nsIn K mainGlobals "ord" = some none)
    (z_set : PySem.W.nsIn K mainGlobals "set" = some none)
    (z_sorted : PySem.W.nsIn K mainGlobals "sorted" = some none)
    (z_enumerate : PySem.W.nsIn K mainGlobals "enumerate" = some none)
    (z_sum : PySem.W.nsIn K mainGlobals "sum" = some none)
    (z_zip : PySem.W.nsIn K mainGlobals "zip" = some none)
    (d_within : Wr K "within" sWithin)
    (d_parted : Wr K "parted" sParted)
    (d_lines_of : Wr K "lines_of" sLines)
    (d_number_of : Wr K "number_of" sNumber)
    (d_person_of : Wr K "person_of" sPerson)
    (d_lowest : Wr K "lowest" sLowest)
    (d_plus : Wr K "plus" sPlus)
    (d_times : Wr K "times" sTimes)
    (d_fraction_bytes : Wr K "fraction_bytes" sFracBytes)
    (d_members : Wr K "members" sMembers)
    (d_there_at : Wr K "there_at" sThere)
    (d_ended_at : Wr K "ended_at" sEnded)
    (d_steps_of : Wr K "steps_of" sSteps)
    (d_share_beyond : Wr K "share_beyond" sShare)
    (d_lasting : Wr K "lasting" sLasting)
    (d_spread_of : Wr K "spread_of" sSpread)
    (d_come_by : Wr K "come_by" sCome)
    (d_half_of : Wr K "half_of" sHalfOf)
    (d_gap_of : Wr K "gap_of" sGapOf)
    (d_sway_of : Wr K "sway_of" sSwayOf)
    (d_pair_worth : Wr K "pair_worth" sPairWorth)
    (d_worth_against : Wr K "worth_against" sWorth)
    (d_pairs_of : Wr K "pairs_of" sPairsOf)
    (d_gap_score : Wr K "gap_score" sGapScore)
    (d_gap_scores : Wr K "gap_scores" sGapScores)
    (d_scores_of : Wr K "scores_of" sScoresOf)
    (d_raised : Wr K "raised" sRaised)
    (d_sums_by_size : Wr K "sums_by_size" sSums)
    (d_reaching : Wr K "reaching" sReaching)
    (d_rare_of : Wr K "rare_of" sRareOf)
    (d_begin_answer : Wr K "begin_answer" sBegin)
    (d_fraction_answer : Wr K "fraction_answer" sFracAns)
    (d_measure_of : Wr K "measure_of" sMeasOf)
    (d_measure_answer : Wr K "measure_answer" sMeasAns)
    (d_half_answer : Wr K "half_answer" sHalfAns)
    (d_against_answer : Wr K "against_answer" sAgainst)
    (d_rare_answer : Wr K "rare_answer" sRareAns)
    (d_answer_of : Wr K "answer_of" sAnswerOf)
    (d_answers : Wr K "answers" sAnswers)
    (hZ : Sizes P w K mg) :
    ∃ fd : FuncData, (∀ (s : Shared) (us : List Value), us.length = (["calls"] : List Str).length → BindsTo s fd ⟨us, []⟩ ((["calls"] : List Str).zip us)) ∧ ∀ base : Heap, K.In base → base.Ns mainGlobals mg → FnOk P w K mg base CX0 9 fa fd ["calls"] (spAnswers K) := by
  have T : Txt K mg := {
    NEWLINE := let ⟨t, e⟩ := n_NEWLINE; ⟨t, PySem.W.mg_of X G e⟩
    BLANK := let ⟨t, e⟩ := n_BLANK; ⟨t, PySem.W.mg_of X G e⟩
    DIGIT_ZERO := let ⟨t, e⟩ := n_DIGIT_ZERO; ⟨t, PySem.W.mg_of X G e⟩
    DIGIT_NINE := let ⟨t, e⟩ := n_DIGIT_NINE; ⟨t, PySem.W.mg_of X G e⟩
    MOST_BYTES := let ⟨t, e⟩ := n_MOST_BYTES; ⟨t, PySem.W.mg_of X G e⟩
    MOST_PEOPLE := let ⟨t, e⟩ := n_MOST_PEOPLE; ⟨t, PySem.W.mg_of X G e⟩
    LATEST := let ⟨t, e⟩ := n_LATEST; ⟨t, PySem.W.mg_of X G e⟩
    ALL := let ⟨t, e⟩ := n_ALL; ⟨t, PySem.W.mg_of X G e⟩
    TOO_LONG := let ⟨t, e⟩ := n_TOO_LONG; ⟨t, PySem.W.mg_of X G e⟩
    OUT_OF_RANGE := let ⟨t, e⟩ := n_OUT_OF_RANGE; ⟨t, PySem.W.mg_of X G e⟩
    NO_HALF := let ⟨t, e⟩ := n_NO_HALF; ⟨t, PySem.W.mg_of X G e⟩
    WRONG_LINE := let ⟨t, e⟩ := n_WRONG_LINE; ⟨t, PySem.W.mg_of X G e⟩
    LASTS := let ⟨t, e⟩ := n_LASTS; ⟨t, PySem.W.mg_of X G e⟩
    SPREAD := let ⟨t, e⟩ := n_SPREAD; ⟨t, PySem.W.mg_of X G e⟩
    HALF := let ⟨t, e⟩ := n_HALF; ⟨t, PySem.W.mg_of X G e⟩
    GAP := let ⟨t, e⟩ := n_GAP; ⟨t, PySem.W.mg_of X G e⟩
    SWAY := let ⟨t, e⟩ := n_SWAY; ⟨t, PySem.W.mg_of X G e⟩
    PAIRS := let ⟨t, e⟩ := n_PAIRS; ⟨t, PySem.W.mg_of X G e⟩
    RARE := let ⟨t, e⟩ := n_RARE; ⟨t, PySem.W.mg_of X G e⟩
    TIMES_TOGETHER := let ⟨t, e⟩ := n_TIMES_TOGETHER; ⟨t, PySem.W.mg_of X G e⟩
    PAIRS_TOGETHER := let ⟨t, e⟩ := n_PAIRS_TOGETHER; ⟨t, PySem.W.mg_of X G e⟩
    LAST_MEASURE := let ⟨t, e⟩ := n_LAST_MEASURE; ⟨t, PySem.W.mg_of X G e⟩
    len := PySem.W.mg_none_of X G z_len
    ord := PySem.W.mg_none_of X G z_ord
    set := PySem.W.mg_none_of X G z_set
    sorted := PySem.W.mg_none_of X G z_sorted
    enumerate := PySem.W.mg_none_of X G z_enumerate
    sum := PySem.W.mg_none_of X G z_sum
    zip := PySem.W.mg_none_of X G z_zip
  }
  obtain ⟨f_within, fd_within, D_within⟩ := Wr.def_ (mg := mg) (ps := ["number", "greatest"]) X G d_within fun _ _ _ _ _ _ us hl => match us, hl with | [_, _], _ => rfl
  obtain ⟨f_parted, fd_parted, D_parted⟩ := Wr.def_ (mg := mg) (ps := ["numbers", "mark"]) X G d_parted fun _ _ _ _ _ _ us hl => match us, hl with | [_, _], _ => rfl
  obtain ⟨f_lines_of, fd_lines_of, D_lines_of⟩ := Wr.def_ (mg := mg) (ps := ["text"]) X G d_lines_of fun _ _ _ _ _ _ us hl => match us, hl with | [_], _ => rfl
  obtain ⟨f_number_of, fd_number_of, D_number_of⟩ := Wr.def_ (mg := mg) (ps := ["digits", "greatest"]) X G d_number_of fun _ _ _ _ _ _ us hl => match us, hl with | [_, _], _ => rfl
  obtain ⟨f_person_of, fd_person_of, D_person_of⟩ := Wr.def_ (mg := mg) (ps := ["line"]) X G d_person_of fun _ _ _ _ _ _ us hl => match us, hl with | [_], _ => rfl
  obtain ⟨f_lowest, fd_lowest, D_lowest⟩ := Wr.def_ (mg := mg) (ps := ["above", "below"]) X G d_lowest fun _ _ _ _ _ _ us hl => match us, hl with | [_, _], _ => rfl
  obtain ⟨f_plus, fd_plus, D_plus⟩ := Wr.def_ (mg := mg) (ps := ["one", "other"]) X G d_plus fun _ _ _ _ _ _ us hl => match us, hl with | [_, _], _ => rfl
  obtain ⟨f_times, fd_times, D_times⟩ := Wr.def_ (mg := mg) (ps := ["one", "other"]) X G d_times fun _ _ _ _ _ _ us hl => match us, hl with | [_, _], _ => rfl
  obtain ⟨f_fraction_bytes, fd_fraction_bytes, D_fraction_bytes⟩ := Wr.def_ (mg := mg) (ps := ["fraction"]) X G d_fraction_bytes fun _ _ _ _ _ _ us hl => match us, hl with | [_], _ => rfl
  obtain ⟨f_members, fd_members, D_members⟩ := Wr.def_ (mg := mg) (ps := ["people", "group"]) X G d_members fun _ _ _ _ _ _ us hl => match us, hl with | [_, _], _ => rfl
  obtain ⟨f_there_at, fd_there_at, D_there_at⟩ := Wr.def_ (mg := mg) (ps := ["people", "time"]) X G d_there_at fun _ _ _ _ _ _ us hl => match us, hl with | [_, _], _ => rfl
  obtain ⟨f_ended_at, fd_ended_at, D_ended_at⟩ := Wr.def_ (mg := mg) (ps := ["people", "time"]) X G d_ended_at fun _ _ _ _ _ _ us hl => match us, hl with | [_, _], _ => rfl
  obtain ⟨f_steps_of, fd_steps_of, D_steps_of⟩ := Wr.def_ (mg := mg) (ps := ["people"]) X G d_steps_of fun _ _ _ _ _ _ us hl => match us, hl with | [_], _ => rfl
  obtain ⟨f_share_beyond, fd_share_beyond, D_share_beyond⟩ := Wr.def_ (mg := mg) (ps := ["share", "step"]) X G d_share_beyond fun _ _ _ _ _ _ us hl => match us, hl with | [_, _], _ => rfl
  obtain ⟨f_lasting, fd_lasting, D_lasting⟩ := Wr.def_ (mg := mg) (ps := ["steps"]) X G d_lasting fun _ _ _ _ _ _ us hl => match us, hl with | [_], _ => rfl
  obtain ⟨f_spread_of, fd_spread_of, D_spread_of⟩ := Wr.def_ (mg := mg) (ps := ["steps"]) X G d_spread_of fun _ _ _ _ _ _ us hl => match us, hl with | [_], _ => rfl
  obtain ⟨f_come_by, fd_come_by, D_come_by⟩ := Wr.def_ (mg := mg) (ps := ["steps"]) X G d_come_by fun _ _ _ _ _ _ us hl => match us, hl with | [_], _ => rfl
  obtain ⟨f_half_of, fd_half_of, D_half_of⟩ := Wr.def_ (mg := mg) (ps := ["steps"]) X G d_half_of fun _ _ _ _ _ _ us hl => match us, hl with | [_], _ => rfl
  obtain ⟨f_gap_of, fd_gap_of, D_gap_of⟩ := Wr.def_ (mg := mg) (ps := ["people"]) X G d_gap_of fun _ _ _ _ _ _ us hl => match us, hl with | [_], _ => rfl
  obtain ⟨f_sway_of, fd_sway_of, D_sway_of⟩ := Wr.def_ (mg := mg) (ps := ["people"]) X G d_sway_of fun _ _ _ _ _ _ us hl => match us, hl with | [_], _ => rfl
  obtain ⟨f_pair_worth, fd_pair_worth, D_pair_worth⟩ := Wr.def_ (mg := mg) (ps := ["person", "other"]) X G d_pair_worth fun _ _ _ _ _ _ us hl => match us, hl with | [_, _], _ => rfl
  obtain ⟨f_worth_against, fd_worth_against, D_worth_against⟩ := Wr.def_ (mg := mg) (ps := ["person", "others"]) X G d_worth_against fun _ _ _ _ _ _ us hl => match us, hl with | [_, _], _ => rfl
  obtain ⟨f_pairs_of, fd_pairs_of, D_pairs_of⟩ := Wr.def_ (mg := mg) (ps := ["people"]) X G d_pairs_of fun _ _ _ _ _ _ us hl => match us, hl with | [_], _ => rfl
  obtain ⟨f_gap_score, fd_gap_score, D_gap_score⟩ := Wr.def_ (mg := mg) (ps := ["person", "steps", "whole"]) X G d_gap_score fun _ _ _ _ _ _ us hl => match us, hl with | [_, _, _], _ => rfl
  obtain ⟨f_gap_scores, fd_gap_scores, D_gap_scores⟩ := Wr.def_ (mg := mg) (ps := ["people"]) X G d_gap_scores fun _ _ _ _ _ _ us hl => match us, hl with | [_], _ => rfl
  obtain ⟨f_scores_of, fd_scores_of, D_scores_of⟩ := Wr.def_ (mg := mg) (ps := ["people", "measure"]) X G d_scores_of fun _ _ _ _ _ _ us hl => match us, hl with | [_, _], _ => rfl
  obtain ⟨f_raised, fd_raised, D_raised⟩ := Wr.def_ (mg := mg) (ps := ["sums", "score"]) X G d_raised fun _ _ _ _ _ _ us hl => match us, hl with | [_, _], _ => rfl
  obtain ⟨f_sums_by_size, fd_sums_by_size, D_sums_by_size⟩ := Wr.def_ (mg := mg) (ps := ["scores"]) X G d_sums_by_size fun _ _ _ _ _ _ us hl => match us, hl with | [_], _ => rfl
  obtain ⟨f_reaching, fd_reaching, D_reaching⟩ := Wr.def_ (mg := mg) (ps := ["ones", "others", "least"]) X G d_reaching fun _ _ _ _ _ _ us hl => match us, hl with | [_, _, _], _ => rfl
  obtain ⟨f_rare_of, fd_rare_of, D_rare_of⟩ := Wr.def_ (mg := mg) (ps := ["people", "measure"]) X G d_rare_of fun _ _ _ _ _ _ us hl => match us, hl with | [_, _], _ => rfl
  obtain ⟨f_begin_answer, fd_begin_answer, D_begin_answer⟩ := Wr.def_ (mg := mg) (ps := ["size", "people"]) X G d_begin_answer fun _ _ _ _ _ _ us hl => match us, hl with | [_, _], _ => rfl
  obtain ⟨f_fraction_answer, fd_fraction_answer, D_fraction_answer⟩ := Wr.def_ (mg := mg) (ps := ["fraction", "most"]) X G d_fraction_answer fun _ _ _ _ _ _ us hl => match us, hl with | [_, _], _ => rfl
  obtain ⟨f_measure_of, fd_measure_of, D_measure_of⟩ := Wr.def_ (mg := mg) (ps := ["call", "steps"]) X G d_measure_of fun _ _ _ _ _ _ us hl => match us, hl with | [_, _], _ => rfl
  obtain ⟨f_measure_answer, fd_measure_answer, D_measure_answer⟩ := Wr.def_ (mg := mg) (ps := ["people", "call", "group", "time", "most"]) X G d_measure_answer fun _ _ _ _ _ _ us hl => match us, hl with | [_, _, _, _, _], _ => rfl
  obtain ⟨f_half_answer, fd_half_answer, D_half_answer⟩ := Wr.def_ (mg := mg) (ps := ["people", "group"]) X G d_half_answer fun _ _ _ _ _ _ us hl => match us, hl with | [_, _], _ => rfl
  obtain ⟨f_against_answer, fd_against_answer, D_against_answer⟩ := Wr.def_ (mg := mg) (ps := ["people", "call", "most"]) X G d_against_answer fun _ _ _ _ _ _ us hl => match us, hl with | [_, _, _], _ => rfl
  obtain ⟨f_rare_answer, fd_rare_answer, D_rare_answer⟩ := Wr.def_ (mg := mg) (ps := ["people", "measure", "most"]) X G d_rare_answer fun _ _ _ _ _ _ us hl => match us, hl with | [_, _, _], _ => rfl
  obtain ⟨f_answer_of, fd_answer_of, D_answer_of⟩ := Wr.def_ (mg := mg) (ps := ["people", "call", "numbers"]) X G d_answer_of fun _ _ _ _ _ _ us hl => match us, hl with | [_, _, _], _ => rfl
  obtain ⟨f_answers, fd_answers, D_answers⟩ := Wr.def_ (mg := mg) (ps := ["calls"]) X G d_answers fun _ _ _ _ _ _ us hl => match us, hl with | [_], _ => rfl
  have efa := hfa.symm.trans D_answers.mg
  cases efa
  refine ⟨fd_answers, fun s us hu => ?_, fun base kb nb => ?_⟩
  · obtain ⟨_, _, _, _, _, _, _, _, _, e, _⟩ := D_answers.F.ex
    subst e
    match us, hu with
    | [_], _ => exact .of_eq rfl
  · have h_within : Has P w K mg base "within" sWithin ["number", "greatest"] 1 spWithin := ⟨_, _, D_within, ok_within D_within.F⟩
    have h_parted : Has P w K mg base "parted" sParted ["numbers", "mark"] 1 (spParted K) := ⟨_, _, D_parted, ok_parted D_parted.F⟩
    have h_lines_of : Has P w K mg base "lines_of" sLines ["text"] 2 (spLines K) := ⟨_, _, D_lines_of, ok_lines T D_lines_of.F D_parted⟩
    have h_person_of : Has P w K mg base "person_of" sPerson ["line"] 2 (spPerson K) := ⟨_, _, D_person_of, ok_person T D_person_of.F D_parted D_number_of⟩
    have h_lowest : Has P w K mg base "lowest" sLowest ["above", "below"] 1 spLowest := ⟨_, _, D_lowest, ok_lowest D_lowest.F⟩
    have h_plus : Has P w K mg base "plus" sPlus ["one", "other"] 2 (sp2F Sd58.add) := ⟨_, _, D_plus, ok_plus D_plus.F h_lowest⟩
    have h_times : Has P w K mg base "times" sTimes ["one", "other"] 2 (sp2F Sd58.mul) := ⟨_, _, D_times, ok_times D_times.F h_lowest⟩
    have h_fraction_bytes : Has P w K mg base "fraction_bytes" sFracBytes ["fraction"] 1 spFracBytes := ⟨_, _, D_fraction_bytes, ok_fracBytes T D_fraction_bytes.F⟩
    have h_members : Has P w K mg base "members" sMembers ["people", "group"] 1 (spMembers K) := ⟨_, _, D_members, ok_members T D_members.F⟩
    have h_there_at : Has P w K mg base "there_at" sThere ["people", "time"] 1 (spCount K Sd58.there) := ⟨_, _, D_there_at, ok_there T D_there_at.F⟩
    have h_ended_at : Has P w K mg base "ended_at" sEnded ["people", "time"] 1 (spCount K Sd58.ends) := ⟨_, _, D_ended_at, ok_ended T D_ended_at.F⟩
    have h_steps_of : Has P w K mg base "steps_of" sSteps ["people"] 2 (spSteps K) := ⟨_, _, D_steps_of, ok_steps T D_steps_of.F h_there_at h_ended_at⟩
    have h_share_beyond : Has P w K mg base "share_beyond" sShare ["share", "step"] 3 spShare := ⟨_, _, D_share_beyond, ok_share D_share_beyond.F h_lowest h_times⟩
    have h_lasting : Has P w K mg base "lasting" sLasting ["steps"] 4 (spSt K lastS) := ⟨_, _, D_lasting, ok_lasting D_lasting.F h_share_beyond⟩
    have h_come_by : Has P w K mg base "come_by" sCome ["steps"] 3 (spSt K comeS) := ⟨_, _, D_come_by, ok_come D_come_by.F h_lowest h_plus⟩
    have h_spread_of : Has P w K mg base "spread_of" sSpread ["steps"] 5 (spSt K spreadS) := ⟨_, _, D_spread_of, ok_spread D_spread_of.F h_lowest h_plus h_times h_lasting⟩
    have h_half_of : Has P w K mg base "half_of" sHalfOf ["steps"] 4 (spHalfOf K) := ⟨_, _, D_half_of, ok_halfOf T D_half_of.F h_share_beyond⟩
    have h_gap_of : Has P w K mg base "gap_of" sGapOf ["people"] 3 (spPeople K Sd58.gap) := ⟨_, _, D_gap_of, ok_gapOf D_gap_of.F h_members h_steps_of h_there_at h_ended_at h_lowest h_plus⟩
    have h_sway_of : Has P w K mg base "sway_of" sSwayOf ["people"] 3 (spPeople K Sd58.sway) := ⟨_, _, D_sway_of, ok_swayOf D_sway_of.F h_members h_steps_of h_there_at h_lowest h_plus⟩
    have h_pair_worth : Has P w K mg base "pair_worth" sPairWorth ["person", "other"] 1 spPairWorth := ⟨_, _, D_pair_worth, ok_pairWorth D_pair_worth.F⟩
    have h_worth_against : Has P w K mg base "worth_against" sWorth ["person", "others"] 2 (spWorth K) := ⟨_, _, D_worth_against, ok_worth T D_worth_against.F h_pair_worth⟩
    have h_pairs_of : Has P w K mg base "pairs_of" sPairsOf ["people"] 3 (spPairsOf K) := ⟨_, _, D_pairs_of, ok_pairsOf T D_pairs_of.F h_members h_worth_against⟩
    have h_gap_score : Has P w K mg base "gap_score" sGapScore ["person", "steps", "whole"] 1 (spGapScore K) := ⟨_, _, D_gap_score, ok_gapScore T D_gap_score.F⟩
    have h_gap_scores : Has P w K mg base "gap_scores" sGapScores ["people"] 3 (spInts K sc2) := ⟨_, _, D_gap_scores, ok_gapScores D_gap_scores.F h_steps_of h_gap_score⟩
    have h_scores_of : Has P w K mg base "scores_of" sScoresOf ["people", "measure"] 4 (spScores K) := ⟨_, _, D_scores_of, ok_scoresOf T D_scores_of.F h_worth_against h_gap_scores⟩
    have h_raised : Has P w K mg base "raised" sRaised ["sums", "score"] 1 (spRaised K) := ⟨_, _, D_raised, ok_raised D_raised.F⟩
    have h_sums_by_size : Has P w K mg base "sums_by_size" sSums ["scores"] 2 (spSums K) := ⟨_, _, D_sums_by_size, ok_sums T D_sums_by_size.F h_raised⟩
    have h_reaching : Has P w K mg base "reaching" sReaching ["ones", "others", "least"] 1 (spReach K) := ⟨_, _, D_reaching, ok_reaching T D_reaching.F⟩
    have h_rare_of : Has P w K mg base "rare_of" sRareOf ["people", "measure"] 5 (spRareOf K) := ⟨_, _, D_rare_of, ok_rareOf T D_rare_of.F h_scores_of h_members h_sums_by_size h_within h_reaching h_lowest⟩
    have h_begin_answer : Has P w K mg base "begin_answer" sBegin ["size", "people"] 2 (spBegin K) := ⟨_, _, D_begin_answer, ok_begin T D_begin_answer.F h_within⟩
    have h_fraction_answer : Has P w K mg base "fraction_answer" sFracAns ["fraction", "most"] 2 spFracAns := ⟨_, _, D_fraction_answer, ok_fracAns T D_fraction_answer.F h_fraction_bytes⟩
    have h_measure_of : Has P w K mg base "measure_of" sMeasOf ["call", "steps"] 6 (spMeasOf K) := ⟨_, _, D_measure_of, ok_measOf T D_measure_of.F h_lasting h_spread_of h_come_by⟩
    have h_measure_answer : Has P w K mg base "measure_answer" sMeasAns ["people", "call", "group", "time", "most"] 7 (spMeasAns K) := ⟨_, _, D_measure_answer, ok_measAns T D_measure_answer.F h_within h_members h_steps_of h_fraction_answer h_measure_of⟩
    have h_half_answer : Has P w K mg base "half_answer" sHalfAns ["people", "group"] 5 (spHalfAns K) := ⟨_, _, D_half_answer, ok_halfAns T D_half_answer.F h_within h_members h_steps_of h_half_of⟩
    have h_against_answer : Has P w K mg base "against_answer" sAgainst ["people", "call", "most"] 4 (spAgainst K) := ⟨_, _, D_against_answer, ok_against T D_against_answer.F h_within h_gap_of h_sway_of h_fraction_answer⟩
    have h_rare_answer : Has P w K mg base "rare_answer" sRareAns ["people", "measure", "most"] 6 (spRareAns K) := ⟨_, _, D_rare_answer, ok_rareAns T D_rare_answer.F h_within h_rare_of h_fraction_answer⟩
    have h_answer_of : Has P w K mg base "answer_of" sAnswerOf ["people", "call", "numbers"] 8 (spAnswerOf K) := ⟨_, _, D_answer_of, ok_answerOf T D_answer_of.F h_half_answer h_against_answer h_pairs_of h_rare_answer h_measure_answer⟩
    exact ok_answers T hZ D_answers.F h_lines_of h_person_of h_begin_answer h_answer_of
end LP
end
set_option Elab.async false
set_option maxRecDepth 100000
open PySem PySem.W PyProof.Rows
set_option maxRecDepth 100000 in
set_option maxHeartbeats 0 in
theorem PySem.Challenge.cw_lastingshares_s01_answers_holds : PySem.Challenge.rw_lastingshares_s01_answers.Holds := by
  w_on; k_headS; (case hw => exact ⟨[.list [.int 0, .int 0]], by decide +kernel, by decide +kernel⟩)
  k_fillS
  refine L2.walk_specK (r := PySem.Challenge.rw_lastingshares_s01_answers) (k := 9) (CX := L2.CX0) (ps := ["calls"]) (sp := LP.spAnswers) (by decide +kernel) rfl rfl ⟨rfl, by decide, by decide⟩ (fun w h Y => PySem.W.kIn_of Y) ?F ?S (fun _ _ _ _ z => z)
  case F =>
    intro w mg fa h Y KX G hmg
    refine' LP.all_mk KX G hmg ?n_NEWLINE ?n_BLANK ?n_DIGIT_ZERO ?n_DIGIT_NINE ?n_MOST_BYTES ?n_MOST_PEOPLE ?n_LATEST ?n_ALL ?n_TOO_LONG ?n_OUT_OF_RANGE ?n_NO_HALF ?n_WRONG_LINE ?n_LASTS ?n_SPREAD ?n_HALF ?n_GAP ?n_SWAY ?n_PAIRS ?n_RARE ?n_TIMES_TOGETHER ?n_PAIRS_TOGETHER ?n_LAST_MEASURE ?z_len ?z_ord ?z_set ?z_sorted ?z_enumerate ?z_sum ?z_zip ?d_within ?d_parted ?d_lines_of ?d_number_of ?d_person_of ?d_lowest ?d_plus ?d_times ?d_fraction_bytes ?d_members ?d_there_at ?d_ended_at ?d_steps_of ?d_share_beyond ?d_lasting ?d_spread_of ?d_come_by ?d_half_of ?d_gap_of ?d_sway_of ?d_pair_worth ?d_worth_against ?d_pairs_of ?d_gap_score ?d_gap_scores ?d_scores_of ?d_raised ?d_sums_by_size ?d_reaching ?d_rare_of ?d_begin_answer ?d_fraction_answer ?d_measure_of ?d_measure_answer ?d_half_answer ?d_against_answer ?d_rare_answer ?d_answer_of ?d_answers ?hZ
    (case n_NEWLINE => refine' LP.ex_mk ?e_NEWLINE; (case e_NEWLINE => k_is))
    (case n_BLANK => refine' LP.ex_mk ?e_BLANK; (case e_BLANK => k_is))
    (case n_DIGIT_ZERO => refine' LP.ex_mk ?e_DIGIT_ZERO; (case e_DIGIT_ZERO => k_is))
    (case n_DIGIT_NINE => refine' LP.ex_mk ?e_DIGIT_NINE; (case e_DIGIT_NINE => k_is))
    (case n_MOST_BYTES => refine' LP.ex_mk ?e_MOST_BYTES; (case e_MOST_BYTES => k_is))
    (case n_MOST_PEOPLE => refine' LP.ex_mk ?e_MOST_PEOPLE; (case e_MOST_PEOPLE => k_is))
    (case n_LATEST => refine' LP.ex_mk ?e_LATEST; (case e_LATEST => k_is))
    (case n_ALL => refine' LP.ex_mk ?e_ALL; (case e_ALL => k_is))
    (case n_TOO_LONG => refine' LP.ex_mk ?e_TOO_LONG; (case e_TOO_LONG => k_is))
    (case n_OUT_OF_RANGE => refine' LP.ex_mk ?e_OUT_OF_RANGE; (case e_OUT_OF_RANGE => k_is))
    (case n_NO_HALF => refine' LP.ex_mk ?e_NO_HALF; (case e_NO_HALF => k_is))
    (case n_WRONG_LINE => refine' LP.ex_mk ?e_WRONG_LINE; (case e_WRONG_LINE => k_is))
    (case n_LASTS => refine' LP.ex_mk ?e_LASTS; (case e_LASTS => k_is))
    (case n_SPREAD => refine' LP.ex_mk ?e_SPREAD; (case e_SPREAD => k_is))
    (case n_HALF => refine' LP.ex_mk ?e_HALF; (case e_HALF => k_is))
    (case n_GAP => refine' LP.ex_mk ?e_GAP; (case e_GAP => k_is))
    (case n_SWAY => refine' LP.ex_mk ?e_SWAY; (case e_SWAY => k_is))
    (case n_PAIRS => refine' LP.ex_mk ?e_PAIRS; (case e_PAIRS => k_is))
    (case n_RARE => refine' LP.ex_mk ?e_RARE; (case e_RARE => k_is))
    (case n_TIMES_TOGETHER => refine' LP.ex_mk ?e_TIMES_TOGETHER; (case e_TIMES_TOGETHER => k_is))
    (case n_PAIRS_TOGETHER => refine' LP.ex_mk ?e_PAIRS_TOGETHER; (case e_PAIRS_TOGETHER => k_is))
    (case n_LAST_MEASURE => refine' LP.ex_mk ?e_LAST_MEASURE; (case e_LAST_MEASURE => k_is))
    (case z_len => k_is)
    (case z_ord => k_is)
    (case z_set => k_is)
    (case z_sorted => k_is)
    (case z_enumerate => k_is)
    (case z_sum => k_is)
    (case z_zip => k_is)
    (case d_within => refine' LP.wr_mk ?a_within ?l_within ?c_within ?k_within; (case a_within => k_is); (case l_within => k_is); (case c_within => k_is); (case k_within => k_is))
    (case d_parted => refine' LP.wr_mk ?a_parted ?l_parted ?c_parted ?k_parted; (case a_parted => k_is); (case l_parted => k_is); (case c_parted => k_is); (case k_parted => k_is))
    (case d_lines_of => refine' LP.wr_mk ?a_lines_of ?l_lines_of ?c_lines_of ?k_lines_of; (case a_lines_of => k_is); (case l_lines_of => k_is); (case c_lines_of => k_is); (case k_lines_of => k_is))
    (case d_number_of => refine' LP.wr_mk ?a_number_of ?l_number_of ?c_number_of ?k_number_of; (case a_number_of => k_is); (case l_number_of => k_is); (case c_number_of => k_is); (case k_number_of => k_is))
    (case d_person_of => refine' LP.wr_mk ?a_person_of ?l_person_of ?c_person_of ?k_person_of; (case a_person_of => k_is); (case l_person_of => k_is); (case c_person_of => k_is); (case k_person_of => k_is))
    (case d_lowest => refine' LP.wr_mk ?a_lowest ?l_lowest ?c_lowest ?k_lowest; (case a_lowest => k_is); (case l_lowest => k_is); (case c_lowest => k_is); (case k_lowest => k_is))
    (case d_plus => refine' LP.wr_mk ?a_plus ?l_plus ?c_plus ?k_plus; (case a_plus => k_is); (case l_plus => k_is); (case c_plus => k_is); (case k_plus => k_is))
    (case d_times => refine' LP.wr_mk ?a_times ?l_times ?c_times ?k_times; (case a_times => k_is); (case l_times => k_is); (case c_times => k_is); (case k_times => k_is))
    (case d_fraction_bytes => refine' LP.wr_mk ?a_fraction_bytes ?l_fraction_bytes ?c_fraction_bytes ?k_fraction_bytes; (case a_fraction_bytes => k_is); (case l_fraction_bytes => k_is); (case c_fraction_bytes => k_is); (case k_fraction_bytes => k_is))
    (case d_members => refine' LP.wr_mk ?a_members ?l_members ?c_members ?k_members; (case a_members => k_is); (case l_members => k_is); (case c_members => k_is); (case k_members => k_is))
    (case d_there_at => refine' LP.wr_mk ?a_there_at ?l_there_at ?c_there_at ?k_there_at; (case a_there_at => k_is); (case l_there_at => k_is); (case c_there_at => k_is); (case k_there_at => k_is))
    (case d_ended_at => refine' LP.wr_mk ?a_ended_at ?l_ended_at ?c_ended_at ?k_ended_at; (case a_ended_at => k_is); (case l_ended_at => k_is); (case c_ended_at => k_is); (case k_ended_at => k_is))
    (case d_steps_of => refine' LP.wr_mk ?a_steps_of ?l_steps_of ?c_steps_of ?k_steps_of; (case a_steps_of => k_is); (case l_steps_of => k_is); (case c_steps_of => k_is); (case k_steps_of => k_is))
    (case d_share_beyond => refine' LP.wr_mk ?a_share_beyond ?l_share_beyond ?c_share_beyond ?k_share_beyond; (case a_share_beyond => k_is); (case l_share_beyond => k_is); (case c_share_beyond => k_is); (case k_share_beyond => k_is))
    (case d_lasting => refine' LP.wr_mk ?a_lasting ?l_lasting ?c_lasting ?k_lasting; (case a_lasting => k_is); (case l_lasting => k_is); (case c_lasting => k_is); (case k_lasting => k_is))
    (case d_spread_of => refine' LP.wr_mk ?a_spread_of ?l_spread_of ?c_spread_of ?k_spread_of; (case a_spread_of => k_is); (case l_spread_of => k_is); (case c_spread_of => k_is); (case k_spread_of => k_is))
    (case d_come_by => refine' LP.wr_mk ?a_come_by ?l_come_by ?c_come_by ?k_come_by; (case a_come_by => k_is); (case l_come_by => k_is); (case c_come_by => k_is); (case k_come_by => k_is))
    (case d_half_of => refine' LP.wr_mk ?a_half_of ?l_half_of ?c_half_of ?k_half_of; (case a_half_of => k_is); (case l_half_of => k_is); (case c_half_of => k_is); (case k_half_of => k_is))
    (case d_gap_of => refine' LP.wr_mk ?a_gap_of ?l_gap_of ?c_gap_of ?k_gap_of; (case a_gap_of => k_is); (case l_gap_of => k_is); (case c_gap_of => k_is); (case k_gap_of => k_is))
    (case d_sway_of => refine' LP.wr_mk ?a_sway_of ?l_sway_of ?c_sway_of ?k_sway_of; (case a_sway_of => k_is); (case l_sway_of => k_is); (case c_sway_of => k_is); (case k_sway_of => k_is))
    (case d_pair_worth => refine' LP.wr_mk ?a_pair_worth ?l_pair_worth ?c_pair_worth ?k_pair_worth; (case a_pair_worth => k_is); (case l_pair_worth => k_is); (case c_pair_worth => k_is); (case k_pair_worth => k_is))
    (case d_worth_against => refine' LP.wr_mk ?a_worth_against ?l_worth_against ?c_worth_against ?k_worth_against; (case a_worth_against => k_is); (case l_worth_against => k_is); (case c_worth_against => k_is); (case k_worth_against => k_is))
    (case d_pairs_of => refine' LP.wr_mk ?a_pairs_of ?l_pairs_of ?c_pairs_of ?k_pairs_of; (case a_pairs_of => k_is); (case l_pairs_of => k_is); (case c_pairs_of => k_is); (case k_pairs_of => k_is))
    (case d_gap_score => refine' LP.wr_mk ?a_gap_score ?l_gap_score ?c_gap_score ?k_gap_score; (case a_gap_score => k_is); (case l_gap_score => k_is); (case c_gap_score => k_is); (case k_gap_score => k_is))
    (case d_gap_scores => refine' LP.wr_mk ?a_gap_scores ?l_gap_scores ?c_gap_scores ?k_gap_scores; (case a_gap_scores => k_is); (case l_gap_scores => k_is); (case c_gap_scores => k_is); (case k_gap_scores => k_is))
    (case d_scores_of => refine' LP.wr_mk ?a_scores_of ?l_scores_of ?c_scores_of ?k_scores_of; (case a_scores_of => k_is); (case l_scores_of => k_is); (case c_scores_of => k_is); (case k_scores_of => k_is))
    (case d_raised => refine' LP.wr_mk ?a_raised ?l_raised ?c_raised ?k_raised; (case a_raised => k_is); (case l_raised => k_is); (case c_raised => k_is); (case k_raised => k_is))
    (case d_sums_by_size => refine' LP.wr_mk ?a_sums_by_size ?l_sums_by_size ?c_sums_by_size ?k_sums_by_size; (case a_sums_by_size => k_is); (case l_sums_by_size => k_is); (case c_sums_by_size => k_is); (case k_sums_by_size => k_is))
    (case d_reaching => refine' LP.wr_mk ?a_reaching ?l_reaching ?c_reaching ?k_reaching; (case a_reaching => k_is); (case l_reaching => k_is); (case c_reaching => k_is); (case k_reaching => k_is))
    (case d_rare_of => refine' LP.wr_mk ?a_rare_of ?l_rare_of ?c_rare_of ?k_rare_of; (case a_rare_of => k_is); (case l_rare_of => k_is); (case c_rare_of => k_is); (case k_rare_of => k_is))
    (case d_begin_answer => refine' LP.wr_mk ?a_begin_answer ?l_begin_answer ?c_begin_answer ?k_begin_answer; (case a_begin_answer => k_is); (case l_begin_answer => k_is); (case c_begin_answer => k_is); (case k_begin_answer => k_is))
    (case d_fraction_answer => refine' LP.wr_mk ?a_fraction_answer ?l_fraction_answer ?c_fraction_answer ?k_fraction_answer; (case a_fraction_answer => k_is); (case l_fraction_answer => k_is); (case c_fraction_answer => k_is); (case k_fraction_answer => k_is))
    (case d_measure_of => refine' LP.wr_mk ?a_measure_of ?l_measure_of ?c_measure_of ?k_measure_of; (case a_measure_of => k_is); (case l_measure_of => k_is); (case c_measure_of => k_is); (case k_measure_of => k_is))
    (case d_measure_answer => refine' LP.wr_mk ?a_measure_answer ?l_measure_answer ?c_measure_answer ?k_measure_answer; (case a_measure_answer => k_is); (case l_measure_answer => k_is); (case c_measure_answer => k_is); (case k_measure_answer => k_is))
    (case d_half_answer => refine' LP.wr_mk ?a_half_answer ?l_half_answer ?c_half_answer ?k_half_answer; (case a_half_answer => k_is); (case l_half_answer => k_is); (case c_half_answer => k_is); (case k_half_answer => k_is))
    (case d_against_answer => refine' LP.wr_mk ?a_against_answer ?l_against_answer ?c_against_answer ?k_against_answer; (case a_against_answer => k_is); (case l_against_answer => k_is); (case c_against_answer => k_is); (case k_against_answer => k_is))
    (case d_rare_answer => refine' LP.wr_mk ?a_rare_answer ?l_rare_answer ?c_rare_answer ?k_rare_answer; (case a_rare_answer => k_is); (case l_rare_answer => k_is); (case c_rare_answer => k_is); (case k_rare_answer => k_is))
    (case d_answer_of => refine' LP.wr_mk ?a_answer_of ?l_answer_of ?c_answer_of ?k_answer_of; (case a_answer_of => k_is); (case l_answer_of => k_is); (case c_answer_of => k_is); (case k_answer_of => k_is))
    (case d_answers => refine' LP.wr_mk ?a_answers ?l_answers ?c_answers ?k_answers; (case a_answers => k_is); (case l_answers => k_is); (case c_answers => k_is); (case k_answers => k_is))
    (case hZ => refine' LP.Sizes.mk_ KX G ?a_SIZES ?l_SIZES; (case a_SIZES => k_is); (case l_SIZES => k_is))
  case S =>
    intro K H xs a hO hwi hask hx
    cases hx with
    | cons h1 h2 =>
      cases h2
      cases h1 with
      | lst hs ha =>
        have e := L2.ints_dw a.1 _ ha
        subst e
        obtain ⟨text, qs, hQ⟩ := LS.asked_of (l := a.1) hask
        exact ⟨_, a.1, text, qs, rfl, hs, hQ, fun H' p hp => .lst (L2.SqL.of hp) (L2.dw_ints _)⟩
#print axioms PySem.Challenge.cw_lastingshares_s01_answers_holds
