import PyProof.Rows.All
import Wide.All
import OpenK.AllK
import Wide.FinOn
import PyProof.EqAt
import PyProof.EqKinds
import PyProof.TupleCall
import KE.BitLaws
import Open.SpecLaws
import KE.OsHead
import KE.OsGo
import KE.KSortTupG
import KE.KDictList
import KE.KRevIter
import PySw69
import PyProof.MinMaxWalk
import PyProof.EqLayable
import PyProof.ConsumeWalk
import PyProof.ListTruth
import PySem.Challenge.RW_chordnames_s01_answers
set_option Elab.async false
set_option linter.all false
section
set_option maxRecDepth 100000
namespace L2
open PySem PySem.Spec PyProof.Rows
abbrev Key := Sum Int Str
def keyIs : Key → Value → Bool
  | .inl k, v => Value.isInt k v
  | .inr x, v => Value.isStrOf x v
def keyH (w : World) : Key → Int
  | .inl k => hashInt k
  | .inr x => hashStr w x
theorem keyIs_shape : ∀ {k : Key} {v : Value}, keyIs k v = true → (∃ i t, k = Sum.inl i ∧ v = Value.int i t) ∨ (∃ x t, k = Sum.inr x ∧ v = Value.str x t)
  | .inl i, v, h => by
    obtain ⟨t, e⟩ := Value.isInt_shape (k := i) (v := v) h
    exact .inl ⟨i, t, rfl, e⟩
  | .inr x, v, h => by
    obtain ⟨t, e⟩ := Value.isStrOf_shape (x := x) (v := v) h
    exact .inr ⟨x, t, rfl, e⟩
theorem keyIs_int (i : Int) (t : Tok) : keyIs (.inl i) (.int i t) = true := by simp [keyIs, Value.isInt]
theorem keyIs_str (x : Str) (t : Tok) : keyIs (.inr x) (.str x t) = true := by simp [keyIs, Value.isStrOf]
theorem key_ll (a b : Int) : decide ((Sum.inl a : Key) = Sum.inl b) = (a == b) := by
  by_cases e : a = b
  · subst e; simp
  · have h : ¬ (Sum.inl a : Key) = Sum.inl b := fun q => e (Sum.inl.inj q)
    rw [decide_eq_false h]
    exact (beq_eq_false_iff_ne.mpr e).symm
theorem key_rr (a b : Str) : decide ((Sum.inr a : Key) = Sum.inr b) = decide (a = b) := by
  by_cases e : a = b
  · subst e; simp
  · have h : ¬ (Sum.inr a : Key) = Sum.inr b := fun q => e (Sum.inr.inj q)
    rw [decide_eq_false h, decide_eq_false e]
theorem key_lr (a : Int) (b : Str) : decide ((Sum.inl a : Key) = Sum.inr b) = false := decide_eq_false (fun q => nomatch q)
theorem key_rl (a : Str) (b : Int) : decide ((Sum.inr a : Key) = Sum.inl b) = false := decide_eq_false (fun q => nomatch q)
def mixKind (prog : Program) (w : World) : PySem.KeyKind prog w Key where
  is := keyIs
  hash := keyH w
  inj := fun v a b ha hb => by
    rcases keyIs_shape ha with ⟨i, t, rfl, rfl⟩ | ⟨x, t, rfl, rfl⟩
    · rcases keyIs_shape hb with ⟨j, u, rfl, e⟩ | ⟨y, u, rfl, e⟩
      · injection e with e1 _; rw [e1]
      · exact nomatch e
    · rcases keyIs_shape hb with ⟨j, u, rfl, e⟩ | ⟨y, u, rfl, e⟩
      · exact nomatch e
      · injection e with e1 _; rw [e1]
  byValue := fun k v h => by
    rcases keyIs_shape h with ⟨i, t, rfl, rfl⟩ | ⟨x, t, rfl, rfl⟩ <;> rfl
  pyHash := fun hv h => by
    rcases keyIs_shape hv with ⟨i, t, rfl, rfl⟩ | ⟨x, t, rfl, rfl⟩
    · exact wpAny_pyHash_int h
    · exact wpAny_pyHash_str h
  eqBool := fun hu hv h => by
    rcases keyIs_shape hu with ⟨i, t, rfl, rfl⟩ | ⟨x, t, rfl, rfl⟩
    · rcases keyIs_shape hv with ⟨j, u, rfl, rfl⟩ | ⟨y, u, rfl, rfl⟩
      · rw [key_ll] at h; exact wpAny_eqBool_int h
      · rw [key_lr] at h; exact SeqAt.EqAt.int_str i t y u _ _ _ _ h
    · rcases keyIs_shape hv with ⟨j, u, rfl, rfl⟩ | ⟨y, u, rfl, rfl⟩
      · rw [key_rl] at h; exact SeqAt.EqAt.str_int x t j u _ _ _ _ h
      · rw [key_rr] at h; exact wpAny_eqBool_str h
  «strs» := fun k x t v h => by
    rcases keyIs_shape h with ⟨i, u, rfl, e⟩ | ⟨y, u, rfl, e⟩
    · exact nomatch e
    · injection e with e1 _
      subst e1
      cases v <;> rfl
theorem mixKind_int (prog : Program) (w : World) (i : Int) (t : Tok) : (mixKind prog w).is (.inl i) (.int i t) = true := keyIs_int i t
theorem mixKind_str (prog : Program) (w : World) (x : Str) (t : Tok) : (mixKind prog w).is (.inr x) (.str x t) = true := keyIs_str x t
end L2
namespace L2
open PySem PySem.Spec PyProof.Rows
inductive V where
  | non | bl (b : Bool) | int (i : Int) | str (x : Str) | byt (b : Array UInt8) | flt (b : UInt64) | ref (a : Addr) | ty (n : String)
  deriving DecidableEq
def RelV : V → Value → Prop
  | .non, u => u = Value.none
  | .bl b, u => u = Value.bool b
  | .int i, u => ∃ t, u = Value.int i t
  | .str x, u => ∃ t, u = Value.str x t
  | .byt b, u => ∃ t, u = Value.bytes b t
  | .flt b, u => ∃ t, u = Value.float b t
  | .ref a, u => u = Value.ref a
  | .ty n, u => u = Value.type n
abbrev Vals : List V → List Value → Prop := Paired RelV
theorem Vals.length {xs : List V} {us : List Value} (r : Vals xs us) : xs.length = us.length := Paired.length r
theorem Vals.get : ∀ {xs : List V} {us : List Value} {i : Nat} {x : V}, Vals xs us → xs[i]? = some x → ∃ u, us[i]? = some u ∧ RelV x u
  | _, _, _, _, .nil, e => by simp at e
  | _, _, 0, _, .cons r _, e => by simp at e; subst e; exact ⟨_, rfl, r⟩
  | _, _, i + 1, x, .cons _ t, e => by
    obtain ⟨u, h1, h2⟩ := Vals.get (i := i) (x := x) t (by simpa using e)
    exact ⟨u, by simpa using h1, h2⟩
theorem Vals.append : ∀ {xs ys : List V} {us ws : List Value}, Vals xs us → Vals ys ws → Vals (xs ++ ys) (us ++ ws)
  | _, _, _, _, .nil, s => s
  | _, _, _, _, .cons r t, s => .cons r (Vals.append t s)
theorem Vals.take : ∀ {xs : List V} {us : List Value} (n : Nat), Vals xs us → Vals (xs.take n) (us.take n)
  | _, _, 0, _ => .nil
  | _, _, _ + 1, .nil => .nil
  | _, _, n + 1, .cons r t => .cons r (Vals.take n t)
theorem Vals.drop : ∀ {xs : List V} {us : List Value} (n : Nat), Vals xs us → Vals (xs.drop n) (us.drop n)
  | _, _, 0, r => r
  | _, _, _ + 1, .nil => .nil
  | _, _, n + 1, .cons _ t => Vals.drop n t
def RelO : Option V → Option Value → Prop
  | some v, some u => RelV v u
  | none, none => True
  | _, _ => False
def KV {κ : Type} : List (κ × V) → List (κ × Value) → Prop := Paired fun (p : κ × V) (q : κ × Value) => p.1 = q.1 ∧ RelV p.2 q.2
def kV : Key → V
  | .inl i => .int i
  | .inr x => .str x
inductive HO where
  /-- a list -/
  | lst (xs : List V)
  /-- a tuple (never changes) -/
  | tup (xs : List V)
  /-- a dict whose keys are ints and texts; one whose keys are tuples of ints and texts (the empty one is both) -/
  | dK (kvs : List (Key × V)) | dT (kvs : List (List Key × V))
  /-- a set of ints: its members, its size -/
  | set (S : Int → Bool) (n : Nat)
  /-- an instance of the class at C, its dict at dx, its attributes -/
  | ins (C dx : Addr) (fs : List (Str × V))
  /-- the dict of the instance at x -/
  | own (x : Addr)
  /-- the dict of an exception -/
  | xd (fs : List (Str × V))
  /-- a bound method, f of x -/
  | met (f x : Addr)
  /-- a range object lo, lo + 1, .. below hi -/
  | rng (lo hi : Int)
  /-- a thing that is known to the object (the script; a dict while a loop walks it): read, never written while it is so -/
  | frz (o : Obj) (u : HO)
  /-- a code object's table -/
  | tbl (ps : Array Value)
  /-- any other thing, by what is true of its one object (a def of one's own: SetO a S n := HO.ext fun h => ..) -/
  | ext (φ : Heap → Prop)
abbrev Hp := Addr → Option HO
def upd (H : Hp) (a : Addr) (o : HO) : Hp := fun b => if b = a then some o else H b
theorem upd_same {H : Hp} {a : Addr} {o : HO} : upd H a o a = some o := by unfold upd; rw [if_pos rfl]
theorem upd_ne {H : Hp} {a b : Addr} {o : HO} (h : b ≠ a) : upd H a o b = H b := by unfold upd; rw [if_neg h]
theorem ne_of {H : Hp} {a b : Addr} {o u : HO} (h : H a = some o) (h' : H b = some u) (d : o ≠ u) : a ≠ b := by
  intro e; subst e; rw [h] at h'; exact d (Option.some.inj h')
theorem ne_of_none {H : Hp} {a b : Addr} {o : HO} (h : H a = some o) (h' : H b = none) : a ≠ b := by
  intro e; subst e; rw [h] at h'; cases h'
section
variable (P : Program) (w : World)
def ObjOk (H : Hp) (h : Heap) (a : Addr) : HO → Prop
  | .lst xs => xs.length ≤ sizeLine ∧ ∃ (its : List Value) (n : Nat), Vals xs its ∧ h.get? a = some { cls := .type "list", data := .seq its.toArray n }
  | .tup xs => xs.length ≤ sizeLine ∧ ∃ its : List Value, Vals xs its ∧ IsTup h a its.toArray
  | .dK kvs => kvs.length ≤ sizeLine ∧ (a == sysModules) = false ∧ ∃ vs, KV kvs vs ∧ h.DictOf (mixKind P w) a vs
  | .dT kvs => kvs.length ≤ sizeLine ∧ (a == sysModules) = false ∧ ∃ xs : List (List Key × Addr × Value),
      Paired (fun (p : List Key × V) (q : List Key × Addr × Value) => p.1 = q.1 ∧ H q.2.1 = some (.tup (p.1.map kV)) ∧ RelV p.2 q.2.2) kvs xs ∧
      ∃ o es ep, h.get? a = some o ∧ o.ExactDict ∧ o.data = .dict es ep ∧ es.toList = xs.map (entryOfKey (tupleKind (mixKind P w))) ∧ (xs.map (·.1)).Nodup
  | .set S n => h.SetOf (intKind P w) a S n
  | .ins C dx fs => H dx = some (.own a) ∧ fs.length ≤ 1000 ∧ dx ≠ a ∧ h.get? a = some (PySem.W.instObj C dx) ∧
      ∃ mA, h.Ns1 dx mA ∧ (∀ f, RelO (fs.lookup f) (mA f)) ∧ PySem.Within mA (fs.map (·.1))
  | .own _ => ∃ o, h.get? a = some o
  | .xd fs => ∃ mA, h.Ns1 a mA ∧ ∀ f, RelO (fs.lookup f) (mA f)
  | .rng lo hi => ∃ t u v, h.get? a = some { cls := .type "range", data := .fields #[.int lo t, .int hi u, .int 1 v] }
  | .frz o u => h.get? a = some o ∧ ObjOk H h a u
  | .tbl ps => h.get? a = some { cls := .none, data := .fields ps }
  | .met f x => h.get? a = some (PySem.W.methodObj (.ref f) (.ref x))
  | .ext φ => φ h ∧ (∃ o, h.get? a = some o) ∧ ∀ h1 h2 : Heap, φ h1 → (∀ o, h1.get? a = some o → h2.get? a = some o) → φ h2
def HOk (H : Hp) (h : Heap) : Prop := ∀ a o, H a = some o → ObjOk P w H h a o
end
section
variable {P : Program} {w : World} {H H' : Hp} {h h' : Heap} {a : Addr} {o : HO}
theorem ObjOk.lt (x : ObjOk P w H h a o) : a < h.objs.size := by
  cases o with
  | lst xs => obtain ⟨_, _, _, _, e⟩ := x; exact Heap.lt_size e
  | tup xs => obtain ⟨_, _, _, p⟩ := x; exact p.lt
  | dK kvs => obtain ⟨_, _, _, _, o, _, _, e, _⟩ := x; exact Heap.lt_size e
  | dT kvs => obtain ⟨_, _, _, _, o, _, _, e, _⟩ := x; exact Heap.lt_size e
  | set S n => obtain ⟨o, _, _, _, e, _⟩ := x; exact Heap.lt_size e
  | ins C dx fs => obtain ⟨_, _, _, e, _⟩ := x; exact Heap.lt_size e
  | own y => obtain ⟨_, e⟩ := x; exact Heap.lt_size e
  | xd fs => obtain ⟨_, ⟨_, _, _, e, _⟩, _⟩ := x; exact Heap.lt_size e
  | rng lo hi => obtain ⟨_, _, _, e⟩ := x; exact Heap.lt_size e
  | frz ob u => obtain ⟨e, _⟩ := x; exact Heap.lt_size e
  | tbl ps => exact Heap.lt_size (show h.get? a = some _ from x)
  | met f y => exact Heap.lt_size (show h.get? a = some _ from x)
  | ext φ => obtain ⟨_, ⟨_, e⟩, _⟩ := x; exact Heap.lt_size e
theorem Paired.mapP {α β : Type} {F G : α → β → Prop} : ∀ {l₁ : List α} {l₂ : List β}, Paired F l₁ l₂ → (∀ a b, F a b → G a b) → Paired G l₁ l₂
  | _, _, .nil, _ => .nil
  | _, _, .cons r t, f => .cons (f _ _ r) (Paired.mapP t f)
theorem ObjOk.stay (x : ObjOk P w H h a o) (k : ∀ b u, (b = a ∨ H b = some (.own a)) → h.get? b = some u → h'.get? b = some u)
    (ho : ∀ b, H b = some (.own a) → H' b = some (.own a)) (ht : ∀ b xs, H b = some (.tup xs) → H' b = some (.tup xs)) : ObjOk P w H' h' a o := by
  induction o with
  | lst xs => obtain ⟨z, its, n, r, e⟩ := x; exact ⟨z, its, n, r, k _ _ (.inl rfl) e⟩
  | tup xs => obtain ⟨z, its, r, ob, e, c⟩ := x; exact ⟨z, its, r, ob, k _ _ (.inl rfl) e, c⟩
  | dK kvs => obtain ⟨z, y, vs, r, ob, es, ep, e, c⟩ := x; exact ⟨z, y, vs, r, ob, es, ep, k _ _ (.inl rfl) e, c⟩
  | dT kvs =>
    obtain ⟨z, y, xs, r, ob, es, ep, e, c⟩ := x
    exact ⟨z, y, xs, Paired.mapP r fun p q z => ⟨z.1, ht _ _ z.2.1, z.2.2⟩, ob, es, ep, k _ _ (.inl rfl) e, c⟩
  | set S n => obtain ⟨ob, es, ep, t, e, c⟩ := x; exact ⟨ob, es, ep, t, k _ _ (.inl rfl) e, c⟩
  | ins C dx fs =>
    obtain ⟨d, z, ne, e, mA, ⟨od, es, ep, e2, c⟩, r⟩ := x
    exact ⟨ho _ d, z, ne, k _ _ (.inl rfl) e, mA, ⟨od, es, ep, k _ _ (.inr d) e2, c⟩, r⟩
  | own y => obtain ⟨ob, e⟩ := x; exact ⟨ob, k _ _ (.inl rfl) e⟩
  | xd fs => obtain ⟨mA, ⟨od, es, ep, e, c⟩, r⟩ := x; exact ⟨mA, ⟨od, es, ep, k _ _ (.inl rfl) e, c⟩, r⟩
  | rng lo hi => obtain ⟨t, u, v, e⟩ := x; exact ⟨t, u, v, k _ _ (.inl rfl) e⟩
  | frz ob u ih => obtain ⟨e, q⟩ := x; exact ⟨k _ _ (.inl rfl) e, ih q⟩
  | tbl ps =>
    have e : h.get? a = some { cls := .none, data := .fields ps } := x
    show h'.get? a = some { cls := .none, data := .fields ps }
    exact k a _ (.inl rfl) e
  | met f y =>
    have e : h.get? a = some (PySem.W.methodObj (.ref f) (.ref y)) := x
    show h'.get? a = some (PySem.W.methodObj (.ref f) (.ref y))
    exact k a _ (.inl rfl) e
  | ext φ => obtain ⟨p, ⟨o, e⟩, st⟩ := x; exact ⟨st _ _ p fun o q => k _ _ (.inl rfl) q, ⟨o, k _ _ (.inl rfl) e⟩, st⟩
theorem HOk.lt (x : HOk P w H h) (e : H a = some o) : a < h.objs.size := (x a o e).lt
theorem HOk.fresh (x : HOk P w H h) (e : h.objs.size ≤ a) : H a = none := by
  cases q : H a with
  | none => rfl
  | some u => exact absurd (Nat.lt_of_lt_of_le (x.lt q) e) (Nat.lt_irrefl _)
theorem HOk.kept (x : HOk P w H h) (k : ∀ b u, h.get? b = some u → h'.get? b = some u) : HOk P w H h' := fun a o e =>
  (x a o e).stay (fun b u _ q => k b u q) (fun _ q => q) fun _ _ q => q
theorem HOk.laid (x : HOk P w H h) (k : ∀ b u, h.get? b = some u → h'.get? b = some u) (hp : h.objs.size ≤ a) (new : ObjOk P w (upd H a o) h' a o) : HOk P w (upd H a o) h' := fun b u e => by
  have hn := x.fresh hp
  by_cases hb : b = a
  · subst hb; rw [upd_same] at e; cases e; exact new
  · rw [upd_ne hb] at e
    exact (x b u e).stay (fun c v _ q => k c v q) (fun c q => by rw [upd_ne (ne_of_none q hn)]; exact q) fun c xs q => by rw [upd_ne (ne_of_none q hn)]; exact q
end
def Rd (H : Hp) (a : Addr) (u : HO) : Prop := H a = some u ∨ ∃ o, H a = some (.frz o u)
theorem Rd.ok {P : Program} {w : World} {H : Hp} {h : Heap} {a : Addr} {u : HO} (r : Rd H a u) (x : HOk P w H h) : ObjOk P w H h a u := by
  rcases r with r | ⟨o, r⟩
  · exact x a u r
  · obtain ⟨_, q⟩ := x a _ r
    exact q
def Mut : Option HO → Prop
  | some (.lst _) => True
  | some (.dK _) => True
  | some (.dT _) => True
  | some (.set _ _) => True
  | some (.ins _ _ _) => True
  | some (.ext _) => True
  | _ => False
section
variable {P : Program} {w : World} {H : Hp} {h h' : Heap} {x e : Addr} {o' : HO}
theorem HOk.write (ok : HOk P w H h) (mu : Mut (H x)) (he : e = x ∨ H e = some (.own x)) (k : ∀ b u, b ≠ e → h.get? b = some u → h'.get? b = some u) (heo : ∃ u, h'.get? e = some u)
    (new : ObjOk P w (upd H x o') h' x o') : HOk P w (upd H x o') h' := fun b u q => by
  have nown : ∀ c y, H c = some (.own y) → c ≠ x := fun c y r z => by subst z; rw [r] at mu; exact mu
  have ntup : ∀ c xs, H c = some (.tup xs) → c ≠ x := fun c xs r z => by subst z; rw [r] at mu; exact mu
  by_cases hb : b = x
  · subst hb; rw [upd_same] at q; cases q; exact new
  · rw [upd_ne hb] at q
    by_cases hbe : b = e
    · have q' : H b = some (.own x) := by
        rcases he with z | z
        · exact absurd (hbe.trans z) hb
        · rw [hbe]; exact z
      rw [q] at q'; cases q'
      obtain ⟨v, hv⟩ := heo
      exact ⟨v, by rw [hbe]; exact hv⟩
    · refine (ok b u q).stay (fun c v hc r => k c v ?_ r) (fun c r => by rw [upd_ne (nown c b r)]; exact r) fun c xs r => by rw [upd_ne (ntup c xs r)]; exact r
      rcases hc with rfl | hc
      · exact hbe
      · rintro rfl
        rcases he with z | z
        · exact nown c b hc z
        · rw [hc] at z; cases z; exact hb rfl
end
structure Un (fs ex : List Addr) (H H' : Hp) (h h' : Heap) : Prop where
  keep : ∀ b o, h.get? b = some o → H b = none → b ∉ fs → b ∉ ex → h'.get? b = some o
  slot : ∀ b o, h.get? b = some o → H b = none → b ∈ fs → b ∉ ex → ∃ sl, h'.get? b = some { o with slots := sl }
  free : ∀ b o, h.get? b = some o → H b = none → b ∉ ex → H' b = none
  there : ∀ b o, h.get? b = some o → b ∉ ex → ∃ o', h'.get? b = some o'
  tups : ∀ b xs, H b = some (.tup xs) → H' b = some (.tup xs)
  frzs : ∀ b o u, H b = some (.frz o u) → H' b = some (.frz o u)
  tbls : ∀ b ps, H b = some (.tbl ps) → ∃ more, H' b = some (.tbl (ps ++ more))
section
variable {fs fs' ex ex' : List Addr} {H H1 H2 : Hp} {h h1 h2 h' : Heap} {a x e : Addr} {o : HO}
theorem Un.any (u : Un fs ex H H1 h h1) {b : Addr} {ob : Obj} (q : h.get? b = some ob) (n : H b = none) (hx : b ∉ ex) : ∃ sl, h1.get? b = some { ob with slots := sl } := by
  by_cases hb : b ∈ fs
  · exact u.slot b ob q n hb hx
  · exact ⟨ob.slots, u.keep b ob q n hb hx⟩
theorem Un.kept (k : ∀ b u, h.get? b = some u → h'.get? b = some u) : Un fs ex H H h h' :=
  ⟨fun b ob q _ _ _ => k b ob q, fun b ob q _ _ _ => ⟨ob.slots, k b ob q⟩, fun _ _ _ n _ => n, fun b ob q _ => ⟨ob, k b ob q⟩, fun _ _ q => q, fun _ _ _ q => q, fun _ ps q => ⟨#[], by rw [q]; simp⟩⟩
theorem Un.refl : Un fs ex H H h h := Un.kept fun _ _ q => q
theorem Un.laid (k : ∀ b u, h.get? b = some u → h'.get? b = some u) (hp : h.objs.size ≤ a) (hn : H a = none) : Un fs ex H (upd H a o) h h' where
  keep := fun b u q _ _ _ => k b u q
  slot := fun b u q _ _ _ => ⟨u.slots, k b u q⟩
  free := fun b u q n _ => by rw [upd_ne (Nat.ne_of_lt (Nat.lt_of_lt_of_le (Heap.lt_size q) hp))]; exact n
  there := fun b u q _ => ⟨u, k b u q⟩
  tups := fun b xs q => by rw [upd_ne (ne_of_none q hn)]; exact q
  frzs := fun b u xs q => by rw [upd_ne (ne_of_none q hn)]; exact q
  tbls := fun b ps q => ⟨#[], by rw [upd_ne (ne_of_none q hn), q]; simp⟩
theorem Un.write (mu : Mut (H x)) (he : e = x ∨ H e = some (.own x)) (k : ∀ b u, b ≠ e → h.get? b = some u → h'.get? b = some u) (heo : ∃ u, h'.get? e = some u) : Un fs ex H (upd H x o) h h' := by
  have hx : ∀ b, H b = none → b ≠ x := fun b n z => by subst z; rw [n] at mu; exact mu
  have hb : ∀ b, H b = none → b ≠ e := fun b n z => by
    subst z
    rcases he with r | r
    · exact hx b n r
    · rw [n] at r; cases r
  have hm : ∀ b u, H b = some u → ¬ Mut (some u) → b ≠ x := fun b u q nm z => by subst z; rw [q] at mu; exact nm mu
  refine ⟨fun b u q n _ _ => k b u (hb b n) q, fun b u q n _ _ => ⟨u.slots, k b u (hb b n) q⟩, fun b u q n _ => by rw [upd_ne (hx b n)]; exact n, fun b u q _ => ?_,
    fun b xs q => by rw [upd_ne (hm b _ q fun z => z)]; exact q, fun b u xs q => by rw [upd_ne (hm b _ q fun z => z)]; exact q, fun b ps q => ⟨#[], by rw [upd_ne (hm b _ q fun z => z), q]; simp⟩⟩
  by_cases hbe : b = e
  · subst hbe; exact heo
  · exact ⟨u, k b u hbe q⟩
end
def trk (h : Heap) (H : Hp) : List Addr := (List.range h.objs.size).filter fun a => (H a).isSome
def hidT (h : Heap) (H : Hp) : Heap := PySem.W.hideAll h (trk h H)
theorem hidT_size (h : Heap) (H : Hp) : (hidT h H).objs.size = h.objs.size := PySem.W.hideAll_size _ _
theorem hidT_get {h : Heap} {H : Hp} {b : Addr} {o : Obj} (e : h.get? b = some o) (n : H b = none) : (hidT h H).get? b = some o :=
  PySem.W.hideAll_get _ e fun hm => by
    have q : (H b).isSome = true := (List.mem_filter.mp hm).2
    rw [n] at q; simp at q
theorem of_hidT {h : Heap} {H : Hp} {b : Addr} {o : Obj} (e : (hidT h H).get? b = some o) : h.get? b = some o ∧ H b = none := by
  have e' : h.get? b = some o := PySem.W.of_hideAll (trk h H) e
  refine ⟨e', ?_⟩
  cases q : H b with
  | none => rfl
  | some x =>
    have hm : b ∈ trk h H := List.mem_filter.mpr ⟨List.mem_range.mpr (Heap.lt_size e'), by simp [q]⟩
    have z : (hidT h H).get? b = none := PySem.W.hideAll_none (trk h H) hm
    rw [z] at e; cases e
end L2
namespace L2
open PySem PySem.Spec PyProof.Rows
structure Mod (K : PySem.W.Frag) (mg : Str → Option Value) (base : Heap) : Prop where
  kin : K.In base
  glob : base.Ns mainGlobals mg
  blt : ∃ mb, base.Ns builtinsNs mb ∧ ∀ x : Str, x ≠ "__name__" → mb x = bootBuiltins x
  nolimit : base.NoLimit
structure Cx where
  prog : Program
  w : World
  K : PySem.W.Frag
  mg : Str → Option Value
  base : Heap
  A : Around
  N : List Str
  s_0 : Shared
  H_0 : Hp
  env : Env
  outer : List Env
  stack : List Env
  ex : List Addr
  fn : Str → Bool
  calm : Bool
  pn : List (Addr × Obj)
  xe : Value → Shared → Prop
def frs (l : List Env) : List Addr := l.filterMap (·.frame)
abbrev Cx.fs (X : Cx) : List Addr := frs X.outer
def Vis (sc : Scope) (x : Str) : Prop := sc.names.lookup x = some .local ∨ sc.names.lookup x = some .cell ∨ sc.names.lookup x = some .free
def Loc (sc : Scope) (x : Str) : Prop := sc.names.lookup x = some .local ∨ sc.names.lookup x = some .cell
def Look (env : Env) (h : Heap) (m : Str → Option Value) (x : Str) (u : Value) : Prop :=
  (env.kindOf x = some .local ∧ m x = some u) ∨ ((env.kindOf x = some .cell ∨ env.kindOf x = some .free) ∧ ∃ c, env.cells.lookup x = some c ∧ h.IsCell c (some u))
structure Cx.Ok (X : Cx) : Prop where
  mod : Mod X.K X.mg X.base
  kind : X.env.scope.kind = .function
  glob : X.env.globals = mainGlobals
  blt : X.env.builtins = builtinsNs
  above : X.s_0.heap.objs.size ≤ X.env.locals
  inj : ∀ x y c, X.env.cells.lookup x = some c → X.env.cells.lookup y = some c → x = y
  has : ∀ x, (X.env.kindOf x = some .cell ∨ X.env.kindOf x = some .free) → ∃ c, X.env.cells.lookup x = some c
  cab : ∀ x c, X.fn x = true → X.env.cells.lookup x = some c → X.s_0.heap.objs.size ≤ c
  hd : X.calm = true → X.A.handled = none
  frames : X.A.frames = some X.stack
  stk : X.stack = X.outer ∨ (X.stack = X.env :: X.outer ∧ X.env.frame = some X.env.locals)
  exf : ∀ b ∈ X.ex, b ≠ X.env.locals ∧ ∀ x c, X.env.cells.lookup x = some c → c ≠ b
  bs : ∀ b o, X.base.get? b = some o → X.s_0.heap.get? b = some o ∧ X.H_0 b = none
  bsz : X.base.objs.size ≤ X.s_0.heap.objs.size
  noex : ∀ b o, X.base.get? b = some o → b ∉ X.ex
  exfs : ∀ b ∈ X.ex, b ∉ X.fs
  funs : X.s_0.heap.FunFrames X.base X.outer
  frf : ∀ b ∈ X.fs, X.H_0 b = none
structure Inv (X : Cx) (pins : List (Addr × Obj)) (σ : List (Option V)) (H : Hp) (s : Shared) : Prop where
  ok : X.Ok
  os : s.os = X.s_0.os
  bare : AllBare s.gens
  base : Un X.fs X.ex X.H_0 H X.s_0.heap s.heap
  loc : ∃ m, s.heap.Ns X.env.locals m ∧ ∀ (i : Nat) (x : Str) (v : V), X.N[i]? = some x → σ[i]? = some (some v) → Vis X.env.scope x → ∃ u, RelV v u ∧ Look X.env s.heap m x u
  cell : ∀ x c, X.env.cells.lookup x = some c → ∃ v, s.heap.IsCell c v
  free : H X.env.locals = none
  freeC : ∀ x c, X.env.cells.lookup x = some c → H c = none
  pin : ∀ p ∈ X.pn ++ pins, s.heap.get? p.1 = some p.2 ∧ H p.1 = none ∧ p.1 ≠ X.env.locals ∧ p.1 ∉ X.fs ∧ ∀ v, p.2.data ≠ .cell v
  hok : HOk X.prog X.w H s.heap
  len : σ.length = X.N.length
section
variable {X : Cx} {pins : List (Addr × Obj)} {σ : List (Option V)} {H H' : Hp} {s : Shared} {h' : Heap}
theorem Cx.Ok.nofr (ok : X.Ok) {b : Addr} {o : Obj} (e : X.base.get? b = some o) : b ∉ X.fs := fun hb => by
  have := (ok.funs.mem hb).1
  rw [e] at this; cases this
theorem Inv.bs (I : Inv X pins σ H s) : ∀ b o, X.base.get? b = some o → s.heap.get? b = some o ∧ H b = none := fun b o e =>
  ⟨I.base.keep b o (I.ok.bs b o e).1 (I.ok.bs b o e).2 (I.ok.nofr e) (I.ok.noex b o e), I.base.free b o (I.ok.bs b o e).1 (I.ok.bs b o e).2 (I.ok.noex b o e)⟩
theorem Inv.bk (I : Inv X pins σ H s) : ∀ b o, X.base.get? b = some o → s.heap.get? b = some o := fun b o e => (I.bs b o e).1
theorem Inv.mod (I : Inv X pins σ H s) : Mod X.K X.mg X.base := I.ok.mod
theorem Inv.kIn (I : Inv X pins σ H s) : X.K.In s.heap := I.ok.mod.kin.keeps I.bk
theorem Inv.lt (I : Inv X pins σ H s) : X.env.locals < s.heap.objs.size := let ⟨_, hn, _⟩ := I.loc; hn.lt
theorem Inv.sz (I : Inv X pins σ H s) : X.s_0.heap.objs.size ≤ s.heap.objs.size := Nat.le_trans I.ok.above (Nat.le_of_lt I.lt)
theorem Inv.nofs (I : Inv X pins σ H s) {a : Addr} (h : s.heap.objs.size ≤ a) : a ∉ X.fs := fun hb => by
  obtain ⟨_, o, ho, _⟩ := I.ok.funs.mem hb
  exact absurd (Nat.lt_of_lt_of_le (Heap.lt_size ho) (Nat.le_trans I.sz h)) (Nat.lt_irrefl _)
theorem Inv.cne (I : Inv X pins σ H s) : ∀ x c, X.env.cells.lookup x = some c → c ≠ X.env.locals := fun x c e z => by
  obtain ⟨v, o, ho, hd⟩ := I.cell x c e
  obtain ⟨m, ⟨o', es, ep, ho', hd', _⟩, _⟩ := I.loc
  rw [z, ho'] at ho; cases ho; rw [hd'] at hd; cases hd
theorem Inv.funs (I : Inv X pins σ H s) : s.heap.FunFrames X.base X.outer := by
  have all : ∀ (l : List Env), (∀ b ∈ frs l, b ∈ X.fs) → X.s_0.heap.FunFrames X.base l → s.heap.FunFrames X.base l := by
    intro l
    induction l with
    | nil => intro _ _; trivial
    | cons env r ih =>
      intro hs hl
      obtain ⟨hk, ⟨L, o, hf, hn, ho, hd⟩, hr⟩ := hl
      have hL : L ∈ X.fs := hs L (by unfold frs; rw [List.filterMap_cons, hf]; exact List.mem_cons_self)
      obtain ⟨sl, e⟩ := I.base.slot L o ho (I.ok.frf L hL) hL fun z => I.ok.exfs L z hL
      exact ⟨hk, ⟨L, _, hf, hn, e, hd⟩, ih (fun b hb => hs b (by unfold frs; rw [List.filterMap_cons, hf]; exact List.mem_cons_of_mem _ hb)) hr⟩
  exact all X.outer (fun _ hb => hb) I.ok.funs
theorem Inv.stack (I : Inv X pins σ H s) : s.heap.FunFrames X.base X.stack := by
  rcases I.ok.stk with e | ⟨e, hf⟩
  · rw [e]; exact I.funs
  · rw [e]
    obtain ⟨m, hn, _⟩ := I.loc
    refine .cons (by rw [I.ok.kind]; decide) hf hn ?_ I.funs
    exact Heap.get?_none_of_le (Nat.le_trans I.ok.bsz I.ok.above)
theorem Inv.stkSub (I : Inv X pins σ H s) : ∀ b ∈ frs X.stack, b ∈ X.env.locals :: X.fs := fun b hb => by
  rcases I.ok.stk with e | ⟨e, hf⟩
  · rw [e] at hb; exact List.mem_cons_of_mem _ hb
  · rw [e] at hb
    unfold frs at hb
    rw [List.filterMap_cons, hf] at hb
    exact hb
theorem Inv.stkFree (I : Inv X pins σ H s) : ∀ b ∈ frs X.stack, H b = none := fun b hb => by
  rcases List.mem_cons.mp (I.stkSub b hb) with e | hb
  · rw [e]; exact I.free
  · obtain ⟨_, o, ho, _⟩ := I.ok.funs.mem hb
    exact I.base.free b o ho (I.ok.frf b hb) fun z => I.ok.exfs b z hb
theorem Inv.step {g' : Array GenState} {t' : Nat} {d' : Drawn} {ch : List Addr} (I : Inv X pins σ H s)
    (hch : ∀ b ∈ ch, (b ∈ X.ex ∨ X.s_0.heap.objs.size ≤ b) ∧ b ≠ X.env.locals ∧ (∀ x c, X.env.cells.lookup x = some c → c ≠ b) ∧ ∀ p ∈ X.pn ++ pins, p.1 ≠ b)
    (keep : ∀ b o, b ≠ X.env.locals → b ∉ X.fs → b ∉ ch → s.heap.get? b = some o → H b = none → h'.get? b = some o)
    (slot : ∀ b o, b ≠ X.env.locals → b ∈ X.fs → b ∉ ch → s.heap.get? b = some o → H b = none → ∃ sl, h'.get? b = some { o with slots := sl }) (free : ∀ b o, b ∉ ch → s.heap.get? b = some o → H b = none → H' b = none)
    (there : ∀ b o, b ∉ ch → s.heap.get? b = some o → ∃ o', h'.get? b = some o')
    (tups : ∀ b xs, H b = some (.tup xs) → H' b = some (.tup xs)) (frzs : ∀ b o u, H b = some (.frz o u) → H' b = some (.frz o u)) (tbls : ∀ b ps, H b = some (.tbl ps) → ∃ more, H' b = some (.tbl (ps ++ more)))
    (ns : ∀ m, s.heap.Ns X.env.locals m → h'.Ns X.env.locals m) (hok : HOk X.prog X.w H' h') (hg : AllBare g') :
    Inv X pins σ H' { s with heap := h', gens := g', drawn := d', toks := t' } := by
  have neL : ∀ b o, X.s_0.heap.get? b = some o → b ≠ X.env.locals := fun b o e => Nat.ne_of_lt (Nat.lt_of_lt_of_le (Heap.lt_size e) I.ok.above)
  have neC : ∀ b o, X.s_0.heap.get? b = some o → b ∉ X.ex → b ∉ ch := fun b o e hx hb => by
    rcases (hch b hb).1 with z | z
    · exact hx z
    · exact absurd (Nat.lt_of_lt_of_le (Heap.lt_size e) z) (Nat.lt_irrefl _)
  have cellK : ∀ x c, X.env.cells.lookup x = some c → ∀ v, s.heap.IsCell c v → h'.IsCell c v := fun x c e v ⟨o, ho, hd⟩ => by
    have nch : c ∉ ch := fun z => (hch c z).2.2.1 x c e rfl
    by_cases hc : c ∈ X.fs
    · obtain ⟨sl, q⟩ := slot c o (I.cne x c e) hc nch ho (I.freeC x c e)
      exact ⟨_, q, hd⟩
    · exact ⟨o, keep c o (I.cne x c e) hc nch ho (I.freeC x c e), hd⟩
  refine ⟨I.ok, I.os, hg, ⟨fun b o e n hb hx => ?_, fun b o e n hb hx => ?_, fun b o e n hx => ?_, fun b o e hx => ?_, fun b xs e => tups b xs (I.base.tups b xs e), fun b o xs e => frzs b o xs (I.base.frzs b o xs e), fun b ps e => ?_⟩, ?_, fun x c e => ?_, ?_, fun x c e => ?_, fun p hp => ?_, hok, I.len⟩
  · exact keep b o (neL b o e) hb (neC b o e hx) (I.base.keep b o e n hb hx) (I.base.free b o e n hx)
  · obtain ⟨sl, e1⟩ := I.base.slot b o e n hb hx
    obtain ⟨sl', e2⟩ := slot b _ (neL b o e) hb (neC b o e hx) e1 (I.base.free b o e n hx)
    exact ⟨sl', e2⟩
  · obtain ⟨o', e1⟩ := I.base.there b o e hx
    exact free b o' (neC b o e hx) e1 (I.base.free b o e n hx)
  · obtain ⟨o', e1⟩ := I.base.there b o e hx
    exact there b o' (neC b o e hx) e1
  · obtain ⟨m1, e1⟩ := I.base.tbls b ps e
    obtain ⟨m2, e2⟩ := tbls b _ e1
    exact ⟨m1 ++ m2, by rw [e2, Array.append_assoc]⟩
  · obtain ⟨m, hn, hl⟩ := I.loc
    refine ⟨m, ns m hn, fun i x v e1 e2 e3 => ?_⟩
    obtain ⟨u, r, l⟩ := hl i x v e1 e2 e3
    refine ⟨u, r, ?_⟩
    rcases l with l | ⟨k, c, e, z⟩
    · exact .inl l
    · exact .inr ⟨k, c, e, cellK x c e _ z⟩
  · obtain ⟨v, z⟩ := I.cell x c e
    exact ⟨v, cellK x c e v z⟩
  · obtain ⟨m, ⟨o, _, _, ho, _⟩, _⟩ := I.loc
    exact free _ o (fun z => (hch _ z).2.1 rfl) ho I.free
  · obtain ⟨v, o, ho, hd⟩ := I.cell x c e
    exact free c o (fun z => (hch c z).2.2.1 x c e rfl) ho (I.freeC x c e)
  · obtain ⟨e, n, ne, nf, d⟩ := I.pin p hp
    have nch : p.1 ∉ ch := fun z => (hch p.1 z).2.2.2 p hp rfl
    exact ⟨keep p.1 p.2 ne nf nch e n, free p.1 p.2 nch e n, ne, nf, d⟩
theorem Inv.un {t' : Nat} (I : Inv X pins σ H s) (u : Un X.fs [] H H' s.heap h') (hok : HOk X.prog X.w H' h') : Inv X pins σ H' { s with heap := h', toks := t' } := by
  obtain ⟨m, ⟨o, es, ep, ho, r⟩, _⟩ := id I.loc
  obtain ⟨sl, hL⟩ := u.any ho I.free (by simp)
  exact I.step (g' := s.gens) (d' := s.drawn) (ch := []) (fun _ z => nomatch z) (fun b o _ hb _ e n => u.keep b o e n hb (by simp)) (fun b o _ hb _ e n => u.slot b o e n hb (by simp)) (fun b o _ e n => u.free b o e n (by simp)) (fun b o _ e => u.there b o e (by simp)) u.tups u.frzs u.tbls (fun m' hm => by
    obtain ⟨o', es', ep', ho', r'⟩ := hm
    rw [ho] at ho'; cases ho'
    exact ⟨_, es', ep', hL, r'⟩) hok I.bare
theorem Inv.call {g' : Array GenState} {t' : Nat} {d' : Drawn} {ch : List Addr} (I : Inv X pins σ H s) (u : Un (frs X.stack) ch H H' s.heap h') (hok : HOk X.prog X.w H' h') (hg : AllBare g')
    (hch : ∀ b ∈ ch, (b ∈ X.ex ∨ X.s_0.heap.objs.size ≤ b) ∧ b ≠ X.env.locals ∧ (∀ x c, X.env.cells.lookup x = some c → c ≠ b) ∧ ∀ p ∈ X.pn ++ pins, p.1 ≠ b) :
    Inv X pins σ H' { s with heap := h', gens := g', drawn := d', toks := t' } := by
  obtain ⟨m, ⟨o, es, ep, ho, r⟩, _⟩ := id I.loc
  obtain ⟨sl, hL⟩ := u.any ho I.free fun z => (hch _ z).2.1 rfl
  exact I.step (ch := ch) hch (fun b o hL hb hc e n => u.keep b o e n (fun z => (List.mem_cons.mp (I.stkSub b z)).elim hL hb) hc) (fun b o _ _ hc e n => u.any e n hc) (fun b o hc e n => u.free b o e n hc) (fun b o hc e => u.there b o e hc) u.tups u.frzs u.tbls (fun m' hm => by
    obtain ⟨o', es', ep', ho', r'⟩ := hm
    rw [ho] at ho'; cases ho'
    exact ⟨_, es', ep', hL, r'⟩) hok hg
theorem Inv.turned {t' : Nat} {it : Addr} (I : Inv X pins σ H s) (k : ∀ b o, b ≠ it → s.heap.get? b = some o → h'.get? b = some o) (hn : H it = none) (hL : it ≠ X.env.locals)
    (h1 : it ∈ X.ex ∨ X.s_0.heap.objs.size ≤ it) (h2 : ∀ x c, X.env.cells.lookup x = some c → c ≠ it) (h3 : ∀ p ∈ X.pn ++ pins, p.1 ≠ it) : Inv X pins σ H { s with heap := h', toks := t' } := by
  have nit : ∀ b u, H b = some u → b ≠ it := fun b u e z => by rw [z, hn] at e; cases e
  refine I.step (g' := s.gens) (d' := s.drawn) (ch := [it]) (fun b hb => ?_) (fun b o _ _ hc e _ => k b o (fun z => hc (by simp [z])) e) (fun b o _ _ hc e _ => ⟨o.slots, k b o (fun z => hc (by simp [z])) e⟩) (fun _ _ _ _ n => n)
    (fun b o hc e => ⟨o, k b o (fun z => hc (by simp [z])) e⟩) (fun _ _ e => e) (fun _ _ _ e => e) (fun b ps e => ⟨#[], by rw [e]; simp⟩) (fun m hm => ?_) (fun b u e => ?_) I.bare
  · have e : b = it := by simpa using hb
    subst e
    exact ⟨h1, hL, h2, h3⟩
  · obtain ⟨o, es, ep, ho, r⟩ := hm
    exact ⟨o, es, ep, k _ o (Ne.symm hL) ho, r⟩
  · refine (I.hok b u e).stay (fun c v hc q => k c v ?_ q) (fun _ q => q) fun _ _ q => q
    rcases hc with z | z
    · rw [z]; exact nit b u e
    · exact nit c _ z
theorem Inv.tok (I : Inv X pins σ H s) (t : Nat) : Inv X pins σ H { s with toks := t } := I.un (h' := s.heap) (t' := t) Un.refl I.hok
theorem Inv.kept {t' : Nat} (I : Inv X pins σ H s) (k : ∀ b u, s.heap.get? b = some u → h'.get? b = some u) : Inv X pins σ H { s with heap := h', toks := t' } := I.un (Un.kept k) (I.hok.kept k)
theorem Inv.laid {a : Addr} {o : HO} {t' : Nat} (I : Inv X pins σ H s) (k : ∀ b u, s.heap.get? b = some u → h'.get? b = some u) (hp : s.heap.objs.size ≤ a) (new : ObjOk X.prog X.w (upd H a o) h' a o) :
    Inv X pins σ (upd H a o) { s with heap := h', toks := t' } := I.un (Un.laid k hp (I.hok.fresh hp)) (I.hok.laid k hp new)
theorem Inv.write {x e : Addr} {o : HO} {t' : Nat} (I : Inv X pins σ H s) (mu : Mut (H x)) (he : e = x ∨ H e = some (.own x)) (k : ∀ b u, b ≠ e → s.heap.get? b = some u → h'.get? b = some u) (heo : ∃ u, h'.get? e = some u)
    (new : ObjOk X.prog X.w (upd H x o) h' x o) : Inv X pins σ (upd H x o) { s with heap := h', toks := t' } := I.un (Un.write mu he k heo) (I.hok.write mu he k heo new)
theorem Inv.weak {σ' : List (Option V)} (I : Inv X pins σ H s) (hl : σ'.length = σ.length) (w : ∀ (i : Nat) v, σ'[i]? = some (some v) → σ[i]? = some (some v)) : Inv X pins σ' H s :=
  ⟨I.ok, I.os, I.bare, I.base, let ⟨m, hn, hl'⟩ := I.loc; ⟨m, hn, fun i x v e1 e2 e3 => hl' i x v e1 (w i v e2) e3⟩, I.cell, I.free, I.freeC, I.pin, I.hok, hl.trans I.len⟩
theorem Inv.pins_of {pins' : List (Addr × Obj)} (I : Inv X pins σ H s) (h : ∀ p ∈ pins', s.heap.get? p.1 = some p.2 ∧ H p.1 = none ∧ p.1 ≠ X.env.locals ∧ p.1 ∉ X.fs ∧ ∀ v, p.2.data ≠ .cell v) : Inv X pins' σ H s :=
  ⟨I.ok, I.os, I.bare, I.base, I.loc, I.cell, I.free, I.freeC, fun p hp => (List.mem_append.mp hp).elim (fun z => I.pin p (List.mem_append_left _ z)) (h p), I.hok, I.len⟩
theorem nodup_ix {N : List Str} (hN : N.Nodup) {i j : Nat} {x : Str} (a : N[i]? = some x) (b : N[j]? = some x) : i = j := by
  obtain ⟨h1, e1⟩ := List.getElem?_eq_some_iff.mp a
  obtain ⟨h2, e2⟩ := List.getElem?_eq_some_iff.mp b
  exact (List.getElem_inj hN).mp (e1.trans e2.symm)
theorem store_ok2 {M : Model} {A : Around} {E : Value → Shared → Prop} {i : Nat} {x : Str} {v : V} {u : Value} {Q : Unit → Shared → Prop} (I : Inv X pins σ H s) (hN : X.N.Nodup) (hi : X.N[i]? = some x) (hx : Loc X.env.scope x) (r : RelV v u)
    (h : ∀ s', Inv X pins (σ.set i (some v)) H s' → (∃ a, Heap.SameBut a s.heap s'.heap ∧ (a = X.env.locals ∨ X.env.cells.lookup x = some a)) → Q () s') (hf : X.fn x = true ∨ X.env.scope.names.lookup x = some .local := by first | exact .inl rfl | exact .inr rfl | assumption) : wpAny M A (storeName X.env x u) Q E s := by
  obtain ⟨m, hn, hl⟩ := id I.loc
  have hcls : (X.env.scope.kind == .class || (X.env.scope.kind == .module && X.env.locals != X.env.globals)) = false := by rw [I.ok.kind]; rfl
  have hiσ : i < σ.length := by rw [I.len]; exact (List.getElem?_eq_some_iff.mp hi).1
  have cne := I.cne
  have tracked : ∀ {a : Addr} {h' : Heap}, (∃ o, s.heap.get? a = some o ∧ H a = none) → Heap.SameBut a s.heap h' → HOk X.prog X.w H h' := fun {a h'} ha hs b ob e => by
    obtain ⟨_, _, hfree⟩ := ha
    refine (I.hok b ob e).stay (fun c w' hc q => (hs.2 c ?_).trans q) (fun _ q => q) fun _ _ q => q
    rintro rfl
    rcases hc with rfl | hc
    · rw [hfree] at e; cases e
    · rw [hfree] at hc; cases hc
  rcases hx with hk | hk
  · refine wpAny_storeName_local hk hn (fun h' hn' hs => ?_) hcls
    obtain ⟨oL, _, _, hoL, _⟩ := id hn
    refine h _ ⟨I.ok, I.os, I.bare, ⟨fun b o e n hb hx => ?_, fun b o e n hb hx => ?_, I.base.free, fun b o e hx => ?_, I.base.tups, I.base.frzs, I.base.tbls⟩, ⟨_, hn', fun j y v' e1 e2 e3 => ?_⟩, fun y c e => ?_, I.free, I.freeC, fun p hp => ?_, tracked ⟨oL, hoL, I.free⟩ hs, by simpa using I.len⟩ ⟨_, hs, .inl rfl⟩
    · exact (hs.2 b (Nat.ne_of_lt (Nat.lt_of_lt_of_le (Heap.lt_size e) I.ok.above))).trans (I.base.keep b o e n hb hx)
    · obtain ⟨sl, e1⟩ := I.base.slot b o e n hb hx
      exact ⟨sl, (hs.2 b (Nat.ne_of_lt (Nat.lt_of_lt_of_le (Heap.lt_size e) I.ok.above))).trans e1⟩
    · obtain ⟨o', e1⟩ := I.base.there b o e hx
      exact ⟨o', (hs.2 b (Nat.ne_of_lt (Nat.lt_of_lt_of_le (Heap.lt_size e) I.ok.above))).trans e1⟩
    · by_cases hj : j = i
      · subst hj
        rw [hi] at e1; cases e1
        rw [List.getElem?_set_self hiσ] at e2
        cases e2
        exact ⟨u, r, .inl ⟨hk, by simp⟩⟩
      · rw [List.getElem?_set_ne (Ne.symm hj)] at e2
        obtain ⟨u', r', q⟩ := hl j y v' e1 e2 e3
        refine ⟨u', r', ?_⟩
        rcases q with ⟨k, e⟩ | ⟨k, c, e, z⟩
        · refine .inl ⟨k, ?_⟩
          have : y ≠ x := fun e => hj (nodup_ix hN e1 (e ▸ hi))
          simp [this, e]
        · exact .inr ⟨k, c, e, z.sameBut hs (cne y c e)⟩
    · obtain ⟨w', z⟩ := I.cell y c e
      exact ⟨w', z.sameBut hs (cne y c e)⟩
    · obtain ⟨e, n, ne, nf, d⟩ := I.pin p hp
      exact ⟨(hs.2 p.1 ne).trans e, n, ne, nf, d⟩
  · have hfn : X.fn x = true := by
      rcases hf with z | z
      · exact z
      · rw [z] at hk; cases hk
    obtain ⟨c, hc⟩ := I.ok.has x (.inl hk)
    obtain ⟨w', z⟩ := I.cell x c hc
    refine wpAny_storeName_cell I.ok.kind hk hc z (fun h' hc' hs => ?_)
    obtain ⟨oc, hoc, hocd⟩ := id z
    refine h { s with heap := h' } ⟨I.ok, I.os, I.bare, ⟨fun b o e n hb hx => ?_, fun b o e n hb hx => ?_, I.base.free, fun b o e hx => ?_, I.base.tups, I.base.frzs, I.base.tbls⟩, ⟨m, hn.sameBut hs (Ne.symm (cne x c hc)), fun j y v' e1 e2 e3 => ?_⟩, fun y c' e => ?_, I.free, I.freeC, fun p hp => ?_, tracked ⟨oc, hoc, I.freeC x c hc⟩ hs, by simpa using I.len⟩ ⟨c, hs, .inr hc⟩
    · exact (hs.2 b (Nat.ne_of_lt (Nat.lt_of_lt_of_le (Heap.lt_size e) (I.ok.cab x c hfn hc)))).trans (I.base.keep b o e n hb hx)
    · obtain ⟨sl, e1⟩ := I.base.slot b o e n hb hx
      exact ⟨sl, (hs.2 b (Nat.ne_of_lt (Nat.lt_of_lt_of_le (Heap.lt_size e) (I.ok.cab x c hfn hc)))).trans e1⟩
    · obtain ⟨o', e1⟩ := I.base.there b o e hx
      exact ⟨o', (hs.2 b (Nat.ne_of_lt (Nat.lt_of_lt_of_le (Heap.lt_size e) (I.ok.cab x c hfn hc)))).trans e1⟩
    · by_cases hj : j = i
      · subst hj
        rw [hi] at e1; cases e1
        rw [List.getElem?_set_self hiσ] at e2
        cases e2
        exact ⟨u, r, .inr ⟨.inl hk, c, hc, hc'⟩⟩
      · rw [List.getElem?_set_ne (Ne.symm hj)] at e2
        obtain ⟨u', r', q⟩ := hl j y v' e1 e2 e3
        refine ⟨u', r', ?_⟩
        rcases q with q | ⟨k, c', e, z'⟩
        · exact .inl q
        · refine .inr ⟨k, c', e, z'.sameBut hs ?_⟩
          rintro rfl
          exact hj (nodup_ix hN e1 (I.ok.inj _ _ _ e hc ▸ hi))
    · by_cases hcc : c' = c
      · subst hcc; exact ⟨_, hc'⟩
      · obtain ⟨w2, z2⟩ := I.cell y c' e
        exact ⟨w2, z2.sameBut hs hcc⟩
    · obtain ⟨e, n, ne, nf, d⟩ := I.pin p hp
      refine ⟨(hs.2 p.1 ?_).trans e, n, ne, nf, d⟩
      intro q
      rw [q, hoc] at e
      have q' : oc = p.2 := Option.some.inj e
      exact d w' (by rw [← q']; exact hocd)
theorem store_ok {M : Model} {A : Around} {E : Value → Shared → Prop} {i : Nat} {x : Str} {v : V} {u : Value} {Q : Unit → Shared → Prop} (I : Inv X pins σ H s) (hN : X.N.Nodup) (hi : X.N[i]? = some x) (hx : Loc X.env.scope x) (r : RelV v u)
    (h : ∀ s', Inv X pins (σ.set i (some v)) H s' → Q () s') (hf : X.fn x = true ∨ X.env.scope.names.lookup x = some .local := by first | exact .inl rfl | exact .inr rfl | assumption) : wpAny M A (storeName X.env x u) Q E s :=
  store_ok2 I hN hi hx r (fun s' I' _ => h s' I') hf
theorem Inv.call' {s' : Shared} {ch : List Addr} (I : Inv X pins σ H s) (ho : s'.os = s.os) (u : Un (frs X.stack) ch H H' s.heap s'.heap) (hok : HOk X.prog X.w H' s'.heap) (hg : AllBare s'.gens)
    (hch : ∀ b ∈ ch, (b ∈ X.ex ∨ X.s_0.heap.objs.size ≤ b) ∧ b ≠ X.env.locals ∧ (∀ x c, X.env.cells.lookup x = some c → c ≠ b) ∧ ∀ p ∈ X.pn ++ pins, p.1 ≠ b) : Inv X pins σ H' s' := by
  obtain ⟨h', g', d', t', o'⟩ := s'
  have e : o' = s.os := ho
  subst e
  exact I.call (g' := g') (t' := t') (d' := d') u hok hg hch
end
abbrev XK := Value → Option Addr → Hp → Prop
abbrev St := List (Option V)
abbrev VK := V → Hp → Prop
abbrev TE := St → Hp → VK → Prop
abbrev TT := St → Hp → (Bool → Hp → Prop) → Prop
abbrev TA := St → Hp → (List V → Hp → Prop) → Prop
structure Ends where
  nx : St → Hp → Prop
  rt : VK
  bk : St → Hp → Prop := fun _ _ => False
  ct : St → Hp → Prop := fun _ _ => False
abbrev TS := Ends → St → Hp → Prop
def EP (X : Cx) (pins : List (Addr × Obj)) (σ : St) (Q : VK) (u : Value) (s' : Shared) : Prop := ∃ v H', Inv X pins σ H' s' ∧ RelV v u ∧ Q v H'
def TP (X : Cx) (pins : List (Addr × Obj)) (σ : St) (Q : Bool → Hp → Prop) (b : Bool) (s' : Shared) : Prop := ∃ H', Inv X pins σ H' s' ∧ Q b H'
def AP (X : Cx) (pins : List (Addr × Obj)) (σ : St) (Q : List V → Hp → Prop) (us : List Value) (s' : Shared) : Prop := ∃ vs H', Inv X pins σ H' s' ∧ Vals vs us ∧ Q vs H'
def SP (X : Cx) (pins : List (Addr × Obj)) (D : Ends) (f : Flow) (s' : Shared) : Prop :=
  match f with
  | .next => ∃ σ' H', Inv X pins σ' H' s' ∧ D.nx σ' H'
  | .brk => ∃ σ' H', Inv X pins σ' H' s' ∧ D.bk σ' H'
  | .cont => ∃ σ' H', Inv X pins σ' H' s' ∧ D.ct σ' H'
  | .ret u => ∃ v σ' H', Inv X pins σ' H' s' ∧ RelV v u ∧ D.rt v H'
def PE (X : Cx) (e : Expr) (t : TE) : Prop :=
  ∀ (pins : List (Addr × Obj)) (s : Shared) (σ : St) (H : Hp) (Q : VK), Inv X pins σ H s → t σ H Q → wpAny (model X.prog X.w) X.A (eval e X.env) (EP X pins σ Q) X.xe s
def PT (X : Cx) (e : Expr) (t : TT) : Prop :=
  ∀ (pins : List (Addr × Obj)) (s : Shared) (σ : St) (H : Hp) (Q : Bool → Hp → Prop), Inv X pins σ H s → t σ H Q → wpAny (model X.prog X.w) X.A (isTrue e X.env (eval e X.env)) (TP X pins σ Q) X.xe s
def PW (X : Cx) (e : Expr) (t : TT) : Prop :=
  ∀ (whole : Sem Value) (pins : List (Addr × Obj)) (s : Shared) (σ : St) (H : Hp) (Q : Bool → Hp → Prop), Inv X pins σ H s → t σ H Q → wpAny (model X.prog X.w) X.A (isTrue e X.env whole) (TP X pins σ Q) X.xe s
theorem PW.pt {X : Cx} {e : Expr} {t : TT} (h : PW X e t) : PT X e t := h _
def PA (X : Cx) (es : List Expr) (t : TA) : Prop :=
  ∀ (pos : Pos) (pins : List (Addr × Obj)) (s : Shared) (σ : St) (H : Hp) (Q : List V → Hp → Prop), Inv X pins σ H s → t σ H Q → wpAny (model X.prog X.w) X.A (spliced (backTo pos (starEach es X.env))) (AP X pins σ Q) X.xe s
def PS (X : Cx) (st : Stmt) (t : TS) : Prop :=
  ∀ (pins : List (Addr × Obj)) (s : Shared) (σ : St) (H : Hp) (D : Ends), Inv X pins σ H s → t D σ H → wpAny (model X.prog X.w) X.A (exec st X.env) (SP X pins D) X.xe s
def PSs (X : Cx) (st : List Stmt) (t : TS) : Prop :=
  ∀ (pins : List (Addr × Obj)) (s : Shared) (σ : St) (H : Hp) (D : Ends), Inv X pins σ H s → t D σ H → wpAny (model X.prog X.w) X.A (execs st X.env) (SP X pins D) X.xe s
theorem thn {α : Type} {t : Sem α} {Q Q' : α → Shared → Prop} {M : Model} {A : Around} {E : Value → Shared → Prop} {s : Shared} (h : wpAny M A t Q E s) (hQ : ∀ a s, Q a s → Q' a s) : wpAny M A t Q' E s := wpAny_mono h hQ fun _ _ x => x
end L2
namespace L2
open PySem PySem.Spec PyProof.Rows
section
variable {X : Cx}
def tVar (i : Nat) : TE := fun σ H Q => ∃ v, σ[i]? = some (some v) ∧ Q v H
def tC (v : V) : TE := fun _ H Q => Q v H
theorem pe_var {i : Nat} {x : Str} {pos : Pos} (hN : X.N[i]? = some x) (hv : Vis X.env.scope x) (hd : (x == ("__debug__" : Str)) = false := by decide) (hcd : (x == ("__classdict__" : Str)) = false := by decide) : PE X (.Name x pos) (tVar i) := by
  intro pins s σ H Q I h
  obtain ⟨v, e, h⟩ := h
  obtain ⟨m, hn, hl⟩ := I.loc
  obtain ⟨u, r, l⟩ := hl i x v hN e hv
  have fin : EP X pins σ Q u s := ⟨v, H, I, r, h⟩
  rcases l with ⟨hk, hm⟩ | ⟨hk, c, hc, hcell⟩
  · exact wpAny_Name (wpAny_loadName_local I.ok.kind hk hn hm fin) hd
  · rcases hk with hk | hk
    · exact wpAny_Name (wpAny_loadName_cell I.ok.kind hk hc hcell fin) hd
    · exact wpAny_Name (wpAny_loadName_free I.ok.kind hk hc hcell fin hcd) hd
theorem pe_int {i j pos} : PE X (.Constant (.int i) j pos) (tC (.int i)) := fun _ _ _ H _ I h => wpAny_Constant_int ⟨.int i, H, I.tok _, ⟨_, rfl⟩, h⟩
theorem pe_non {j pos} : PE X (.Constant .none j pos) (tC .non) := fun _ _ _ H _ I h => Constant_none ⟨.non, H, I, rfl, h⟩
def Gl (X : Cx) (x : Str) : Prop := X.env.kindOf x = some .globalImplicit
theorem ld_glob {E : Value → Shared → Prop} {pins : List (Addr × Obj)} {s : Shared} {σ : St} {H : Hp} {x : Str} {u : Value} {pos : Pos} {Q : Value → Shared → Prop} (I : Inv X pins σ H s) (hg : Gl X x) (hm : X.mg x = some u) (h : Q u s)
    (hd : (x == ("__debug__" : Str)) = false := by decide) : wpAny (model X.prog X.w) X.A (eval (.Name x pos) X.env) Q E s :=
  Calls.Name_function_global I.ok.kind hg (Calls.loadGlobal_global (by rw [I.ok.glob]; exact I.mod.glob.keeps I.bk) hm h) hd
theorem ld_blt {E : Value → Shared → Prop} {pins : List (Addr × Obj)} {s : Shared} {σ : St} {H : Hp} {x : Str} {u : Value} {pos : Pos} {Q : Value → Shared → Prop} (I : Inv X pins σ H s) (hg : Gl X x) (hm : X.mg x = none) (hv : bootBuiltins x = some u) (h : Q u s)
    (hn : x ≠ "__name__" := by decide) (hd : (x == ("__debug__" : Str)) = false := by decide) : wpAny (model X.prog X.w) X.A (eval (.Name x pos) X.env) Q E s := by
  obtain ⟨mb, h1, h2⟩ := I.mod.blt
  exact Calls.Name_function_global I.ok.kind hg (Calls.loadGlobal_builtin (by rw [I.ok.glob]; exact I.mod.glob.keeps I.bk) hm (by rw [I.ok.blt]; exact h1.keeps I.bk) ((h2 x hn).trans hv) h) hd
theorem pe_glob {x : Str} {v : V} {u : Value} {pos : Pos} (hg : Gl X x) (hm : X.mg x = some u) (r : RelV v u) (hd : (x == ("__debug__" : Str)) = false := by decide) : PE X (.Name x pos) (tC v) :=
  fun _ _ _ H _ I h => ld_glob I hg hm ⟨v, H, I, r, h⟩ hd
variable {a b : Expr} {ta tb : TE} {pos : Pos}
def PC (X : Cx) (op : CmpOp) (a b : Expr) (t : TE) : Prop :=
  ∀ (pins : List (Addr × Obj)) (s : Shared) (σ : St) (H : Hp) (Q : VK), Inv X pins σ H s → t σ H Q →
    wpAny (model X.prog X.w) X.A (eval a X.env) (fun v s₁ => wpAny (model X.prog X.w) X.A (eval b X.env) (fun u s₂ => wpAny (model X.prog X.w) X.A (compareOp op v u) (EP X pins σ Q) X.xe s₂) X.xe s₁) X.xe s
theorem nobehind (b : Expr) {op : CmpOp} (h : op ≠ .In) (h2 : op ≠ .NotIn) : behindInMarks op b = false := by
  have e1 : (op == CmpOp.In) = false := by cases op <;> first | rfl | exact absurd rfl h
  have e2 : (op == CmpOp.NotIn) = false := by cases op <;> first | rfl | exact absurd rfl h2
  cases b <;> simp [behindInMarks, e1, e2]
def tIsN (ta : TE) : TE := fun σ H Q => ta σ H fun x H1 => Q (.bl (decide (x = .non))) H1
theorem RelV.none_iff {x : V} {v : Value} (r : RelV x v) : (v == Value.none) = decide (x = .non) := by
  cases x with
  | non => cases r; rfl
  | bl _ => cases r; rfl
  | int _ => obtain ⟨t, rfl⟩ := r; rfl
  | str _ => obtain ⟨t, rfl⟩ := r; rfl
  | byt _ => obtain ⟨t, rfl⟩ := r; rfl
  | flt _ => obtain ⟨t, rfl⟩ := r; rfl
  | ref _ => cases r; rfl
  | ty _ => cases r; rfl
theorem pc_isN {j pos'} (ha : PE X a ta) : PC X .Is a (.Constant .none j pos') (tIsN ta) := by
  intro pins s σ H Q I h
  refine thn (ha pins s σ H _ I h) fun v s1 ⟨x, H1, I1, r1, q1⟩ => ?_
  exact Constant_none (is_none_gen ⟨.bl _, H1, I1, by rw [r1.none_iff]; rfl, q1⟩)
def tB (t : TE) : TT := fun σ H Q => t σ H fun x H1 => ∃ c, x = .bl c ∧ Q c H1
theorem pt_cmp {op : CmpOp} {t : TE} (h : PC X op a b t) (h1 : behindInMarks op b = false := by first | exact nobehind _ (by decide) (by decide) | rfl) : PT X (.Compare a [op] [b] pos) (tB t) := by
  intro pins s σ H Q I hw
  refine wpAny_isTrue_Compare1 (thn (h pins s σ H _ I hw) fun v s1 h1 => thn h1 fun u s2 h2 => thn h2 fun c s3 ⟨x, H1, I1, r1, q1⟩ => ?_) h1
  obtain ⟨d, rfl, q⟩ := q1
  cases r1
  exact wpAny_truthy_bool ⟨H1, I1, q⟩
variable {tA tB' : TT} {rest : List Expr}
def tOr (t u : TT) : TT := fun σ H Q => t σ H fun c H1 => if c = true then Q true H1 else u σ H1 Q
def tNot (t : TT) : TT := fun σ H Q => t σ H fun c H1 => Q (!c) H1
theorem pw_or1 (ha : PT X a tA) : PW X (.BoolOp .Or [a] pos) tA := by
  intro wh pins s σ H Q I h
  refine isTrue_or (thn (ha pins s σ H Q I h) fun c s1 e => ?_)
  cases c with
  | false => exact isTrue_or_nil e
  | true => exact e
theorem pw_or (ha : PT X a tA) (hb : PW X (.BoolOp .Or (b :: rest) pos) tB') : PW X (.BoolOp .Or (a :: b :: rest) pos) (tOr tA tB') := by
  intro wh pins s σ H Q I h
  refine isTrue_or (thn (ha pins s σ H _ I h) fun c s1 ⟨H1, I1, q1⟩ => ?_)
  cases c with
  | true => exact ⟨H1, I1, q1⟩
  | false => exact hb wh pins s1 σ H1 Q I1 q1
theorem pt_not (ha : PT X a tA) : PT X (.UnaryOp .Not a pos) (tNot tA) := by
  intro pins s σ H Q I h
  exact isTrue_not (ha pins s σ H (fun c H1 => Q (!c) H1) I h)
def tAndV (ta tb : TE) : TE := fun σ H Q => ta σ H fun x H1 => ∃ c, x = .bl c ∧ if c = true then tb σ H1 Q else Q (.bl false) H1
theorem pe_one {op} {t : TE} (h : PE X a t) : PE X (.BoolOp op [a] pos) t := fun pins s σ H Q I hw => BoolOp_one (h pins s σ H Q I hw)
theorem pe_and (ha : PE X a ta) (hb : PE X (.BoolOp .And (b :: rest) pos) tb) : PE X (.BoolOp .And (a :: b :: rest) pos) (tAndV ta tb) := by
  intro pins s σ H Q I h
  refine BoolOp_and (thn (ha pins s σ H _ I h) fun v s1 ⟨x, H1, I1, r1, q1⟩ => ?_)
  obtain ⟨c, rfl, q1⟩ := q1
  cases r1
  refine wpAny_truthy_bool ?_
  cases c with
  | true => exact hb pins s1 σ H1 Q I1 q1
  | false => exact ⟨.bl false, H1, I1, rfl, q1⟩
def tIf (t : TT) (ta tb : TE) : TE := fun σ H Q => t σ H fun c H1 => if c = true then ta σ H1 Q else tb σ H1 Q
theorem pe_ifExp {c : Expr} (hc : PT X c tA) (ha : PE X a ta) (hb : PE X b tb) : PE X (.IfExp c a b pos) (tIf tA ta tb) := by
  intro pins s σ H Q I h
  refine wpAny_IfExp (thn (hc pins s σ H _ I h) fun d s1 ⟨H1, I1, q1⟩ => ?_)
  cases d with
  | true => exact ha pins s1 σ H1 Q I1 q1
  | false => exact hb pins s1 σ H1 Q I1 q1
end
end L2
namespace L2
open PySem PySem.Spec PyProof.Rows
def SqL (K : PySem.W.Frag) (H : Hp) (a : Addr) (xs : List V) : Prop :=
  Rd H a (.lst xs) ∨
    ∃ (o : Obj) (its : Array Value) (n : Nat), K.lookup a = some o ∧ o.cls = .type "list" ∧ o.dict = none ∧ o.data = .seq its n ∧ its.size ≤ sizeLine ∧ Vals xs its.toList
def SqT (K : PySem.W.Frag) (H : Hp) (a : Addr) (xs : List V) : Prop :=
  Rd H a (.tup xs) ∨
    ∃ (o : Obj) (its : Array Value) (n : Nat), K.lookup a = some o ∧ o.cls = .type "tuple" ∧ o.data = .seq its n ∧ its.size ≤ sizeLine ∧ Vals xs its.toList
def absV : Value → Option V
  | .none => some .non
  | .bool b => some (.bl b)
  | .int i _ => some (.int i)
  | .str x _ => some (.str x)
  | .bytes b _ => some (.byt b)
  | .float b _ => some (.flt b)
  | .ref a => some (.ref a)
  | .type n => some (.ty n)
  | _ => none
theorem RelV.abs {x : V} {u : Value} (r : RelV x u) : absV u = some x := by
  cases x with
  | non => cases r; rfl
  | bl _ => cases r; rfl
  | int _ => obtain ⟨t, rfl⟩ := r; rfl
  | str _ => obtain ⟨t, rfl⟩ := r; rfl
  | byt _ => obtain ⟨t, rfl⟩ := r; rfl
  | flt _ => obtain ⟨t, rfl⟩ := r; rfl
  | ref _ => cases r; rfl
  | ty _ => cases r; rfl
theorem RelV.inj {x y : V} {u : Value} (r : RelV x u) (q : RelV y u) : x = y := Option.some.inj (r.abs.symm.trans q.abs)
theorem Vals.inj : ∀ {xs ys : List V} {us : List Value}, Vals xs us → Vals ys us → xs = ys
  | _, _, _, .nil, .nil => rfl
  | _, _, _, .cons r t, .cons r' t' => by rw [r.inj r', Vals.inj t t']
section
variable {X : Cx} {pins : List (Addr × Obj)} {σ : St} {H : Hp} {s : Shared} {a : Addr} {xs ys : List V}
theorem SqL.of {K : PySem.W.Frag} (h : H a = some (.lst xs)) : SqL K H a xs := .inl (.inl h)
theorem SqT.of {K : PySem.W.Frag} (h : H a = some (.tup xs)) : SqT K H a xs := .inl (.inl h)
theorem Inv.list (I : Inv X pins σ H s) (h : SqL X.K H a xs) : ∃ its : List Value, Vals xs its ∧ PlainL s.heap a its.toArray ∧ xs.length ≤ sizeLine := by
  rcases h with h | ⟨o, its, n, hk, hc, hd, hs, hz, r⟩
  · obtain ⟨z, its, n, r, e⟩ := h.ok I.hok
    exact ⟨its, r, ⟨_, n, e, rfl, rfl, rfl⟩, z⟩
  · refine ⟨its.toList, r, ⟨o, n, I.kIn a o hk, hc, hd, by simpa using hs⟩, ?_⟩
    have e := r.length
    simp only [Array.length_toList] at e
    omega
theorem Inv.tuple (I : Inv X pins σ H s) (h : SqT X.K H a xs) : ∃ its : List Value, Vals xs its ∧ IsTup s.heap a its.toArray ∧ xs.length ≤ sizeLine := by
  rcases h with h | ⟨o, its, n, hk, hc, hs, hz, r⟩
  · obtain ⟨z, its, r, p⟩ := h.ok I.hok
    exact ⟨its, r, p, z⟩
  · refine ⟨its.toList, r, ⟨o, I.kIn a o hk, hc, n, by simpa using hs⟩, ?_⟩
    have e := r.length
    simp only [Array.length_toList] at e
    omega
theorem Inv.list_inj (I : Inv X pins σ H s) (h : SqL X.K H a xs) (h' : SqL X.K H a ys) : xs = ys := by
  obtain ⟨its, r, ⟨o, n, e, _, _, d⟩, _⟩ := I.list h
  obtain ⟨its', r', ⟨o', n', e', _, _, d'⟩, _⟩ := I.list h'
  rw [e] at e'; cases e'
  rw [d] at d'
  injection d' with d1 _
  have : its = its' := by simpa using congrArg Array.toList d1
  subst this
  exact r.inj r'
end
abbrev Cx.wish (X : Cx) (E : Value → Shared → Prop) : Cx := { X with xe := E }
abbrev Cx.nox (X : Cx) : Cx := X.wish fun _ _ => False
theorem Cx.Ok.wish {X : Cx} (ok : X.Ok) (E : Value → Shared → Prop) : (X.wish E).Ok :=
  ⟨ok.mod, ok.kind, ok.glob, ok.blt, ok.above, ok.inj, ok.has, ok.cab, ok.hd, ok.frames, ok.stk, ok.exf, ok.bs, ok.bsz, ok.noex, ok.exfs, ok.funs, ok.frf⟩
theorem Cx.Ok.unwish {X : Cx} {E : Value → Shared → Prop} (ok : (X.wish E).Ok) : X.Ok :=
  ⟨ok.mod, ok.kind, ok.glob, ok.blt, ok.above, ok.inj, ok.has, ok.cab, ok.hd, ok.frames, ok.stk, ok.exf, ok.bs, ok.bsz, ok.noex, ok.exfs, ok.funs, ok.frf⟩
section
variable {X : Cx} {pins : List (Addr × Obj)} {σ : St} {H : Hp} {s : Shared} {E : Value → Shared → Prop}
theorem Inv.wish (I : Inv X pins σ H s) (E : Value → Shared → Prop) : Inv (X.wish E) pins σ H s := ⟨I.ok.wish E, I.os, I.bare, I.base, I.loc, I.cell, I.free, I.freeC, I.pin, I.hok, I.len⟩
theorem Inv.unwish (I : Inv (X.wish E) pins σ H s) : Inv X pins σ H s := ⟨I.ok.unwish, I.os, I.bare, I.base, I.loc, I.cell, I.free, I.freeC, I.pin, I.hok, I.len⟩
theorem SP.unwish {D : Ends} {f : Flow} {s' : Shared} (h : SP (X.wish E) pins D f s') : SP X pins D f s' := by
  cases f with
  | next => obtain ⟨σ', H', I, q⟩ := h; exact ⟨σ', H', I.unwish, q⟩
  | brk => obtain ⟨σ', H', I, q⟩ := h; exact ⟨σ', H', I.unwish, q⟩
  | cont => obtain ⟨σ', H', I, q⟩ := h; exact ⟨σ', H', I.unwish, q⟩
  | ret u => obtain ⟨v, σ', H', I, r, q⟩ := h; exact ⟨v, σ', H', I.unwish, r, q⟩
theorem PSs.nox {st : List Stmt} {t : TS} (h : PSs X.nox st t) : PSs X st t := fun pins s σ H D I hw =>
  wpAny_mono (h pins s σ H D (I.wish _) hw) (fun _ _ q => q.unwish) fun _ _ z => False.elim z
end
section
variable {X : Cx} {st : Stmt} {rest : List Stmt} {t u : TS} {e : Expr} {te : TE} {pos : Pos}
def tNext : TS := fun D σ H => D.nx σ H
def tSeq (t u : TS) : TS := fun D σ H => t { D with nx := u D } σ H
theorem pss_nil : PSs X [] tNext := fun _ _ σ H _ I h => wpAny_execs_nil ⟨σ, H, I, h⟩
theorem pss_cons (h1 : PS X st t) (h2 : PSs X rest u) : PSs X (st :: rest) (tSeq t u) := by
  intro pins s σ H D I h
  refine wpAny_execs_cons (thn (h1 pins s σ H { D with nx := u D } I h) fun f s1 q => ?_)
  cases f with
  | next =>
    obtain ⟨σ', H', I', q⟩ := q
    exact h2 pins s1 σ' H' D I' q
  | ret v => exact q
  | brk => exact q
  | cont => exact q
theorem pss_one (h1 : PS X st t) : PSs X [st] t := by
  intro pins s σ H D I h
  refine wpAny_execs_cons (thn (h1 pins s σ H D I h) fun f s1 q => ?_)
  cases f with
  | next => exact wpAny_execs_nil q
  | ret v => exact q
  | brk => exact q
  | cont => exact q
theorem Inv.quiet {pins : List (Addr × Obj)} {σ : St} {H : Hp} {s : Shared} (I : Inv X pins σ H s) : interactive X.env = false := by simp [interactive, I.ok.kind]
def tDrop (te : TE) : TS := fun D σ H => te σ H fun _ H1 => D.nx σ H1
theorem ps_expr (he : PE X e te) (hs : swapsWith e none pos.line X.env = pure false := by rfl) : PS X (.Expr e pos) (tDrop te) := by
  intro pins s σ H D I h
  exact wpAny_Expr_any (thn (he pins s σ H _ I h) fun v s1 ⟨x, H1, I1, r1, q1⟩ => ⟨σ, H1, I1, q1⟩) I.quiet hs
def tRet (te : TE) : TS := fun D σ H => te σ H D.rt
theorem ps_ret (he : PE X e te) : PS X (.Return (some e) pos) (tRet te) := by
  intro pins s σ H D I h
  exact wpAny_Return_some (thn (he pins s σ H _ I h) fun v s1 ⟨x, H1, I1, r1, q1⟩ => ⟨x, σ, H1, I1, r1, q1⟩)
def tIfS (c : TT) (t u : TS) : TS := fun D σ H => c σ H fun b H1 => if b = true then t D σ H1 else u D σ H1
theorem ps_if {c : Expr} {a b : List Stmt} {tc : TT} (hc : PT X c tc) (ha : PSs X a t) (hb : PSs X b u) : PS X (.If c a b pos) (tIfS tc t u) := by
  intro pins s σ H D I h
  refine wpAny_If (thn (hc pins s σ H _ I h) fun d s1 ⟨H1, I1, q1⟩ => ?_)
  cases d with
  | true => exact ha pins s1 σ H1 D I1 q1
  | false => exact hb pins s1 σ H1 D I1 q1
end
abbrev TG := V → St → Hp → (St → Hp → Prop) → Prop
abbrev TGs := List V → St → Hp → (St → Hp → Prop) → Prop
def PG (X : Cx) (target : Expr) (t : TG) : Prop :=
  ∀ (pins : List (Addr × Obj)) (s : Shared) (σ : St) (H : Hp) (v : V) (u : Value) (Q : St → Hp → Prop), Inv X pins σ H s → RelV v u → t v σ H Q →
    wpAny (model X.prog X.w) X.A (assign target X.env u) (fun _ s' => ∃ σ' H', Inv X pins σ' H' s' ∧ Q σ' H') X.xe s
def PGs (X : Cx) (ts : List Expr) (t : TGs) : Prop :=
  ∀ (pins : List (Addr × Obj)) (s : Shared) (σ : St) (H : Hp) (vs : List V) (us : List Value) (Q : St → Hp → Prop), Inv X pins σ H s → Vals vs us → t vs σ H Q →
    wpAny (model X.prog X.w) X.A (assignInOrder ((assignEach ts X.env).map (·.2)) us) (fun _ s' => ∃ σ' H', Inv X pins σ' H' s' ∧ Q σ' H') X.xe s
abbrev TIp := V → V → Hp → VK → Prop
def PIp (X : Cx) (op : Operator) (t : TIp) : Prop :=
  ∀ (pins : List (Addr × Obj)) (s : Shared) (σ : St) (H : Hp) (x y : V) (v u : Value) (Q : VK), Inv X pins σ H s → RelV x v → RelV y u → t x y H Q →
    wpAny (model X.prog X.w) X.A (inplaceOp op v u) (EP X pins σ Q) X.xe s
section
variable {X : Cx} {pos : Pos}
def gName (i : Nat) : TG := fun v σ H Q => Q (σ.set i (some v)) H
theorem pg_name {i : Nat} {x : Str} (hN : X.N.Nodup) (hi : X.N[i]? = some x) (hx : Loc X.env.scope x) (hf : X.fn x = true ∨ X.env.scope.names.lookup x = some .local := by first | exact .inl rfl | exact .inr rfl | assumption) : PG X (.Name x pos) (gName i) := by
  intro pins s σ H v u Q I r h
  exact wpAny_assign_Name (store_ok I hN hi hx r (fun s' I' => ⟨_, H, I', h⟩) hf)
def gNil : TGs := fun vs σ H Q => vs = [] ∧ Q σ H
def gCons (t : TG) (u : TGs) : TGs := fun vs σ H Q => ∃ v r, vs = v :: r ∧ t v σ H fun σ' H' => u r σ' H' Q
theorem pgs_nil : PGs X [] gNil := by
  intro pins s σ H vs us Q I r h
  obtain ⟨e, h⟩ := h
  subst e
  cases r
  exact assignInOrder_nil ⟨σ, H, I, h⟩
theorem pgs_cons {e : Expr} {es : List Expr} {t : TG} {u : TGs} (h1 : PG X e t) (h2 : PGs X es u)
    (hs : (assignEach (e :: es) X.env).map (·.2) = assign e X.env :: (assignEach es X.env).map (·.2) := by rfl) : PGs X (e :: es) (gCons t u) := by
  intro pins s σ H vs us Q I r h
  obtain ⟨v, vr, e1, h⟩ := h
  subst e1
  cases r with
  | cons r rr =>
    rw [hs]
    refine assignInOrder_cons (thn (h1 pins s σ H _ _ _ I r h) fun _ s1 ⟨σ1, H1, I1, q1⟩ => ?_)
    exact h2 pins s1 σ1 H1 _ _ Q I1 rr q1
def gTup (K : PySem.W.Frag) (n : Nat) (t : TGs) : TG := fun v σ H Q => ∃ a xs, v = .ref a ∧ SqT K H a xs ∧ xs.length = n ∧ t xs σ H Q
theorem pg_tup {es : List Expr} {k : Nat} {t : TGs} {n : Nat} (hc : X.calm = true) (h : PGs X es t)
    (hn : (assignEach es X.env).length = n := by rfl) (hst : (assignEach es X.env).findIdx? (·.1) = none := by rfl) : PG X (.Tuple es k pos) (gTup X.K n t) := by
  intro pins s σ H v u Q I r hw
  obtain ⟨a, xs, e1, hq, hl, hw⟩ := hw
  subst e1
  cases r
  obtain ⟨its, rv, ht, hz⟩ := I.tuple hq
  refine assign_Tuple_tuple (I.ok.hd hc) ht (by simp [hn, ← hl, rv.length]) hst fun h' hx => ?_
  have I1 : Inv X pins σ H { s with heap := h' } := I.kept (t' := s.toks) fun b o e => hx b o (Nat.ne_of_lt (Heap.lt_size e)) e
  exact h pins _ σ H xs _ Q I1 (by simpa using rv) hw
def tAsg (te : TE) (g : TG) : TS := fun D σ H => te σ H fun x H1 => g x σ H1 D.nx
theorem ps_set {i : Nat} {x : Str} {e : Expr} {te : TE} {pos' : Pos} (hN : X.N.Nodup) (hi : X.N[i]? = some x) (hx : Loc X.env.scope x) (he : PE X e te) (hs : swapsWith e (some (.Name x pos')) pos.line X.env = pure false := by rfl) (hf : X.fn x = true ∨ X.env.scope.names.lookup x = some .local := by first | exact .inl rfl | exact .inr rfl | assumption) :
    PS X (.Assign [.Name x pos'] e pos) (tAsg te (gName i)) := by
  intro pins s σ H D I h
  refine wpAny_Assign_Name (thn (he pins s σ H _ I h) fun v s1 ⟨y, H1, I1, r1, q1⟩ => ?_) hs
  exact store_ok I1 hN hi hx r1 (fun s2 I2 => ⟨_, H1, I2, q1⟩) hf
def tAug (i : Nat) (te : TE) (ti : TIp) : TS := fun D σ H => ∃ x, σ[i]? = some (some x) ∧ te σ H fun y H1 => ti x y H1 fun z H2 => D.nx (σ.set i (some z)) H2
theorem ps_aug {i : Nat} {x : Str} {e : Expr} {te : TE} {op : Operator} {ti : TIp} {pos' : Pos} (hN : X.N.Nodup) (hi : X.N[i]? = some x) (hx : Loc X.env.scope x) (he : PE X e te) (ho : PIp X op ti) (hf : X.fn x = true ∨ X.env.scope.names.lookup x = some .local := by first | exact .inl rfl | exact .inr rfl | assumption) :
    PS X (.AugAssign (.Name x pos') op e pos) (tAug i te ti) := by
  intro pins s σ H D I h
  obtain ⟨v, e1, h⟩ := h
  obtain ⟨m, hn, hl⟩ := I.loc
  have vis : Vis X.env.scope x := by rcases hx with k | k; exact .inl k; exact .inr (.inl k)
  obtain ⟨u, r, l⟩ := hl i x v hi e1 vis
  refine wpAny_AugAssign_Name ?_
  have go : wpAny (model X.prog X.w) X.A (eval e X.env) (fun w s₂ => wpAny (model X.prog X.w) X.A (inplaceOp op u w) (fun r s₃ => wpAny (model X.prog X.w) X.A (storeName X.env x r) (fun _ => SP X pins D .next) X.xe s₃) X.xe s₂) X.xe s := by
    refine thn (he pins s σ H _ I h) fun w s1 ⟨y, H1, I1, r1, q1⟩ => ?_
    refine thn (ho pins s1 σ H1 v y u w _ I1 r r1 q1) fun z s2 ⟨zv, H2, I2, r2, q2⟩ => ?_
    exact store_ok I2 hN hi hx r2 (fun s3 I3 => ⟨_, H2, I3, q2⟩) hf
  rcases l with ⟨hk, hm⟩ | ⟨hk, c, hc, hcell⟩
  · exact wpAny_loadName_local I.ok.kind hk hn hm go
  · rcases hk with hk | hk
    · exact wpAny_loadName_cell I.ok.kind hk hc hcell go
    · rcases hx with k | k
      · have : X.env.scope.names.lookup x = some .free := hk
        rw [k] at this; cases this
      · have : X.env.scope.names.lookup x = some .free := hk
        rw [k] at this; cases this
def ipI (f : Int → Int → Int) : TIp := fun x y H Q => ∃ i j, x = .int i ∧ y = .int j ∧ Q (.int (f i j)) H
theorem ip_add : PIp X .Add (ipI fun i j => i + j) := by
  intro pins s σ H x y v u Q I r1 r2 h
  obtain ⟨i, j, e1, e2, q⟩ := h
  subst e1; subst e2
  obtain ⟨t, rfl⟩ := r1
  obtain ⟨t', rfl⟩ := r2
  exact iadd_int ⟨.int _, H, I.tok _, ⟨_, rfl⟩, q⟩
end
section
variable {X : Cx} {pos : Pos}
def tWhile (c : TT) (tb : TS) : TS := fun D σ H => ∃ W : Nat → St → Hp → Prop, (∃ m, W m σ H) ∧ ∀ m σ H, W m σ H →
  c σ H fun b H1 => if b = true then ∃ N : St → Hp → Prop, (∀ σ' H', N σ' H' → ∃ m', m' < m ∧ W m' σ' H') ∧ tb { D with nx := N, ct := N, bk := D.nx } σ H1 else D.nx σ H1
theorem ps_while {c : Expr} {body : List Stmt} {tc : TT} {tb : TS} (hp : PassesOwn (model X.prog X.w) X.A X.env X.xe) (hc : PT X c tc) (hb : PSs X body tb) : PS X (.While c body [] pos) (tWhile tc tb) := by
  intro pins s σ H D I h
  obtain ⟨W, ⟨m0, w0⟩, turn⟩ := h
  refine wpAny_While (codeAny_whileLoop (fun n s' => ∃ σ' H', Inv X pins σ' H' s' ∧ W n σ' H') ?_ m0 ⟨σ, H, I, w0⟩)
  rintro n s1 ⟨σ1, H1, I1, w1⟩
  refine wpAny_passesOwn hp (thn (hc pins s1 σ1 H1 _ I1 (turn n σ1 H1 w1)) fun b s2 ⟨H2, I2, q2⟩ => ?_)
  cases b with
  | true =>
    obtain ⟨N, hN, q2⟩ := q2
    rw [if_pos rfl]
    refine wpAny_passesOwn hp (thn (hb pins s2 σ1 H2 _ I2 q2) fun f s3 q3 => ?_)
    cases f with
    | next =>
      obtain ⟨σ3, H3, I3, n3⟩ := q3
      obtain ⟨m', hm, w3⟩ := hN σ3 H3 n3
      exact ⟨m', hm, σ3, H3, I3, w3⟩
    | cont =>
      obtain ⟨σ3, H3, I3, n3⟩ := q3
      obtain ⟨m', hm, w3⟩ := hN σ3 H3 n3
      exact ⟨m', hm, σ3, H3, I3, w3⟩
    | brk => exact q3
    | ret v => exact q3
  | false =>
    rw [if_neg Bool.false_ne_true]
    exact wpAny_execs_nil ⟨σ1, H2, I2, q2⟩
end
structure It where
  go : Nat → Hp → Prop
  yld : Nat → Hp → V → Hp → Prop
  stop : Nat → Hp → Prop
def FpOk (X : Cx) (pins : List (Addr × Obj)) (H : Hp) (b : Addr) : Prop :=
  H b = none ∧ b ≠ X.env.locals ∧ b ∉ X.fs ∧ (b ∈ X.ex ∨ X.s_0.heap.objs.size ≤ b) ∧ (∀ x c, X.env.cells.lookup x = some c → c ≠ b) ∧ ∀ p ∈ X.pn ++ pins, p.1 ≠ b
theorem Inv.fpOk {X : Cx} {pins : List (Addr × Obj)} {σ : St} {H H' : Hp} {s : Shared} {b : Addr} (I : Inv X pins σ H s) (hb : s.heap.objs.size ≤ b) (hn : H' b = none) : FpOk X pins H' b := by
  refine ⟨hn, Nat.ne_of_gt (Nat.lt_of_lt_of_le I.lt hb), I.nofs hb, .inr (Nat.le_trans I.sz hb), fun x c e z => ?_, fun p hp z => ?_⟩
  · obtain ⟨v, q⟩ := I.cell x c e
    exact absurd (Nat.lt_of_lt_of_le q.lt (by rw [z]; exact hb)) (Nat.lt_irrefl _)
  · exact absurd (Nat.lt_of_lt_of_le (Heap.lt_size (I.pin p hp).1) (by rw [z]; exact hb)) (Nat.lt_irrefl _)
structure Turn (P : Program) (w : World) (K : PySem.W.Frag) (tg : Expr) (J : It) (fp : List Addr) (it : Addr) (tn : Nat → Heap → Prop) : Prop where
  mem : it ∈ fp
  obj : ∀ i h, tn i h → ∀ b ∈ fp, ∃ o, h.get? b = some o ∧ ∀ v, o.data ≠ .cell v
  keep : ∀ i h h', tn i h → (∀ b ∈ fp, ∀ o, h.get? b = some o → h'.get? b = some o) → tn i h'
  item : ∀ (X : Cx), X.prog = P → X.w = w → X.K = K → X.calm = true → ∀ (i : Nat) (pins : List (Addr × Obj)) (s : Shared) (σ : St) (H : Hp) (E : Value → Shared → Prop), Inv X pins σ H s → (∀ b ∈ fp, FpOk X pins H b) → tn i s.heap → J.go i H →
    wpAny (model P w) X.A (pyNext (.ref it)) (fun r s1 => ∃ u, r = some u ∧
      wpAny (model P w) X.A (letOwnedTupleGo tg (.ref it) u) (fun _ s2 => ∃ x H', Inv X pins σ H' s2 ∧ RelV x u ∧ J.yld i H x H' ∧ tn (i + 1) s2.heap ∧ ∀ b ∈ fp, H' b = none) E s1) E s
  done : ∀ (X : Cx), X.prog = P → X.w = w → X.K = K → X.calm = true → ∀ (i : Nat) (pins : List (Addr × Obj)) (s : Shared) (σ : St) (H : Hp) (E : Value → Shared → Prop), Inv X pins σ H s → (∀ b ∈ fp, FpOk X pins H b) → tn i s.heap → J.stop i H →
    wpAny (model P w) X.A (pyNext (.ref it)) (fun r s1 => r = none ∧ Inv X pins σ H s1) E s
  self : ∀ (A : Around) (i : Nat) (s : Shared) (Q : Value → Shared → Prop) (E : Value → Shared → Prop), tn i s.heap → Q (.ref it) s → wpAny (model P w) A (pyIter (.ref it)) Q E s
abbrev TI := St → Hp → (It → Hp → Prop) → Prop
def PIE (X : Cx) (pins : List (Addr × Obj)) (σ : St) (tg : Expr) (R : It → Hp → Prop) (itv : Value) (s2 : Shared) : Prop :=
  ∃ (it : Addr) (fp : List Addr) (tn : Nat → Heap → Prop) (J : It) (H' : Hp), itv = .ref it ∧ Inv X pins σ H' s2 ∧ Turn X.prog X.w X.K tg J fp it tn ∧ tn 0 s2.heap ∧ (∀ b ∈ fp, FpOk X pins H' b) ∧ R J H'
def PI (X : Cx) (tg iter : Expr) (wi : TI) : Prop :=
  ∀ (pins : List (Addr × Obj)) (s : Shared) (σ : St) (H : Hp) (R : It → Hp → Prop), Inv X pins σ H s → wi σ H R →
    wpAny (model X.prog X.w) X.A (eval iter X.env) (fun v s1 => wpAny (model X.prog X.w) X.A (pyIter v) (PIE X pins σ tg R) X.xe s1) X.xe s
theorem go_of {M : Model} {A : Around} {E : Value → Shared → Prop} {s : Shared} {tg : Expr} {it : Addr} {u : Value} {o : Obj} {n : String} {vs : Array Value} {Q : Unit → Shared → Prop} (ho : s.heap.get? it = some o) (hc : o.cls = .type n) (hd : o.data = .fields vs)
    (hn : ["enumerate", "zip", "dict_itemiterator", "dict_reverseitemiterator", "odict_iterator", "itertools.zip_longest", "itertools.pairwise"].contains n = false) (hQ : Q () s) : wpAny M A (letOwnedTupleGo tg (.ref it) u) Q E s := by
  unfold letOwnedTupleGo
  cases tg <;> first
    | exact wpAny_pure hQ
    | (cases u <;> first
        | exact wpAny_pure hQ
        | (refine wpAny_bind (wpAny_load ho ?_)
           rw [hc, hd]
           show wpAny M A (if (["enumerate", "zip", "dict_itemiterator", "dict_reverseitemiterator", "odict_iterator", "itertools.zip_longest", "itertools.pairwise"].contains n && vs[0]? == some (rawInt _)) = true then _ else _) Q E s
           rw [if_neg (by intro h; rw [hn, Bool.false_and] at h; cases h)]
           exact wpAny_pure hQ))
def Itl (K : PySem.W.Frag) (a : Addr) : It :=
  ⟨fun i H => ∃ xs x, SqL K H a xs ∧ xs[i]? = some x, fun i H x H' => H' = H ∧ ∀ xs, SqL K H a xs → xs[i]? = some x, fun i H => ∃ xs, SqL K H a xs ∧ xs.length ≤ i⟩
def Itr (lo : Int) (n : Nat) : It := ⟨fun i _ => i < n, fun i H x H' => H' = H ∧ x = .int (lo + i), fun i _ => n ≤ i⟩
theorem turn_list {P : Program} {w : World} {K : PySem.W.Frag} {tg : Expr} (a it : Addr) : Turn P w K tg (Itl K a) [it] it (fun i h => h.IsListIter it a i) where
  mem := by simp
  obj := fun i h st b hb => by
    have e : b = it := by simpa using hb
    subst e
    obtain ⟨o, e, c, d⟩ := st
    exact ⟨o, e, fun v z => by rw [d] at z; cases z⟩
  keep := fun i h h' st k => st.at fun o e => k it (by simp) o e
  item := by
    intro X hP hw hK hc i pins s σ H E I hf st hg
    subst hP hw hK
    obtain ⟨xs, x, hq, hx⟩ := hg
    obtain ⟨its, rv, p, hz⟩ := I.list hq
    obtain ⟨u, hu, ru⟩ := rv.get hx
    obtain ⟨f0, f1, f2, f3, f4, f5⟩ := hf it (by simp)
    refine wpAny_pyNext_list_item st p.isList (x := u) (by simpa using hu) fun h' st' sb => ?_
    have I1 : Inv X pins σ H { s with heap := h' } := I.turned (t' := s.toks) (fun b o hb e => (sb.2 b hb).trans e) f0 f1 f3 f4 f5
    obtain ⟨o, e, c, d⟩ := id st'
    exact ⟨u, rfl, go_of (s := { s with heap := h' }) e c d (by decide) ⟨x, H, I1, ru, ⟨rfl, fun ys hy => by rw [I.list_inj hy hq]; exact hx⟩, st', fun b hb => (hf b hb).1⟩⟩
  done := by
    intro X hP hw hK hc i pins s σ H E I hf st hg
    subst hP hw hK
    obtain ⟨xs, hq, hx⟩ := hg
    obtain ⟨its, rv, p, hz⟩ := I.list hq
    obtain ⟨f0, f1, f2, f3, f4, f5⟩ := hf it (by simp)
    have hl := rv.length
    exact wpAny_pyNext_list_end (I.ok.hd hc) st p.isList (by simp; omega) fun h' eb => ⟨rfl, I.turned (t' := s.toks) (fun b o hb e => eb b o hb e) f0 f1 f3 f4 f5⟩
  self := fun _ _ _ _ _ st h => wpAny_pyIter_listiter st h
theorem turn_range {P : Program} {w : World} {K : PySem.W.Frag} {tg : Expr} (it : Addr) (lo : Int) (n : Nat) : Turn P w K tg (Itr lo n) [it] it (fun i h => IsRangeIter h it (lo + (i : Nat) * 1) ((n : Int) - (i : Nat)) 1) where
  mem := by simp
  obj := fun i h st b hb => by
    have e : b = it := by simpa using hb
    subst e
    exact ⟨_, st, fun v z => by
      have z' : Data.fields _ = Data.cell v := z
      cases z'⟩
  keep := fun i h h' st k => k it (by simp) _ st
  item := by
    intro X hP hw hK hc i pins s σ H E I hf st hg
    subst hP hw hK
    obtain ⟨f0, f1, f2, f3, f4, f5⟩ := hf it (by simp)
    have W := Walks.range (prog := X.prog) (w := X.w) (I.ok.hd hc) it lo 1 n
    refine W.item i s _ _ hg st fun v h' tk hv st' kk => ?_
    obtain ⟨t, rfl⟩ := hv
    have I1 : Inv X pins σ H { s with heap := h', toks := tk } := I.turned (fun b o hb e => kk b o (by simpa using hb) e) f0 f1 f3 f4 f5
    refine ⟨_, rfl, go_of (s := { s with heap := h', toks := tk }) (n := "range_iterator") st' rfl rfl (by decide) ⟨.int (lo + i), H, I1, ⟨t, ?_⟩, ⟨rfl, rfl⟩, st', fun b hb => (hf b hb).1⟩⟩
    rw [Int.mul_one]
  done := by
    intro X hP hw hK hc i pins s σ H E I hf st hg
    subst hP hw hK
    obtain ⟨f0, f1, f2, f3, f4, f5⟩ := hf it (by simp)
    exact wpAny_pyNext_range_end (I.ok.hd hc) st (by have : n ≤ i := hg; omega) fun h' eb => ⟨rfl, I.turned (t' := s.toks) (fun b o hb e => eb b o hb e) f0 f1 f3 f4 f5⟩
  self := fun _ _ _ _ _ st h => wpAny_pyIter_rangeiter st h
end L2
namespace L2
open PySem PySem.Spec PyProof.Rows
section
variable {X : Cx} {tg : Expr}
def iList (K : PySem.W.Frag) (tl : TE) : TI := fun σ H R => tl σ H fun x H1 => ∃ a, x = .ref a ∧ (∃ xs, SqL K H1 a xs) ∧ R (Itl K a) H1
theorem pi_list {l : Expr} {tl : TE} (hl : PE X l tl) : PI X tg l (iList X.K tl) := by
  intro pins s σ H R I h
  refine thn (hl pins s σ H _ I h) fun v s1 ⟨x, H1, I1, r1, q1⟩ => ?_
  obtain ⟨a, e, ⟨xs, hq⟩, q⟩ := q1
  subst e
  cases r1
  obtain ⟨its, rv, p, hz⟩ := I1.list hq
  refine wpAny_pyIter_list p.isList ?_
  refine ⟨s1.heap.objs.size, [s1.heap.objs.size], _, _, H1, rfl, I1.kept (t' := s1.toks) fun b o e => Heap.get?_push_of_some _ e, turn_list a _, ⟨_, Heap.get?_push_size _ rfl, rfl, rfl⟩, fun b hb => ?_, q⟩
  have e : b = s1.heap.objs.size := by simpa using hb
  subst e
  exact I1.fpOk (Nat.le_refl _) (I1.hok.fresh (Nat.le_refl _))
theorem range_it {pins : List (Addr × Obj)} {σ : St} {H : Hp} {s : Shared} {R : It → Hp → Prop} {E : Value → Shared → Prop} {lo hi : Int} {t u v : Tok} {tk : Nat} (I : Inv X pins σ H s) (h1 : -(2 ^ 62) ≤ lo) (h2 : lo < 2 ^ 62) (h3 : -(2 ^ 62) ≤ hi) (h4 : hi < 2 ^ 62)
    (q : R (Itr lo (hi - lo).toNat) H) : wpAny (model X.prog X.w) X.A (pyIter (.ref s.heap.objs.size)) (PIE X pins σ tg R) E { s with heap := s.heap.push { cls := .type "range", data := .fields #[.int lo t, .int hi u, .int 1 v] }, toks := tk } := by
  refine wpAny_pyIter_range (IsRange.new ..) (small_one h1 h2 h3 h4) ?_
  have I1 : Inv X pins σ H { s with heap := s.heap.push { cls := .type "range", data := .fields #[.int lo t, .int hi u, .int 1 v] }, toks := tk } := I.kept fun b o e => Heap.get?_push_of_some _ e
  refine ⟨(s.heap.push { cls := .type "range", data := .fields #[.int lo t, .int hi u, .int 1 v] }).objs.size, [(s.heap.push { cls := .type "range", data := .fields #[.int lo t, .int hi u, .int 1 v] }).objs.size], _, _, H, rfl,
    I1.kept (t' := tk) fun b o e => Heap.get?_push_of_some _ e, turn_range _ lo (hi - lo).toNat, ?_, fun b hb => ?_, q⟩
  · have e1 : lo + ((0 : Nat) : Int) * 1 = lo := by simp
    have e2 : (((hi - lo).toNat : Nat) : Int) - ((0 : Nat) : Int) = Builtin.Range.rangeSize lo hi 1 := by rw [rangeSize_one]; split <;> omega
    show IsRangeIter _ _ (lo + ((0 : Nat) : Int) * 1) ((((hi - lo).toNat : Nat) : Int) - ((0 : Nat) : Int)) 1
    rw [e1, e2]
    exact Heap.get?_push_size _ rfl
  · have e : b = (s.heap.push { cls := .type "range", data := .fields #[.int lo t, .int hi u, .int 1 v] }).objs.size := by simpa using hb
    subst e
    exact I1.fpOk (Nat.le_refl _) (I1.hok.fresh (Nat.le_refl _))
def iRng1 (ta : TA) : TI := fun σ H R => ta σ H fun vs H1 => ∃ j : Int, vs = [.int j] ∧ -(2 ^ 62) ≤ j ∧ j < 2 ^ 62 ∧ R (Itr 0 j.toNat) H1
def iRng2 (ta : TA) : TI := fun σ H R => ta σ H fun vs H1 => ∃ i j : Int, vs = [.int i, .int j] ∧ (-(2 ^ 62) ≤ i ∧ i < 2 ^ 62 ∧ -(2 ^ 62) ≤ j ∧ j < 2 ^ 62) ∧ R (Itr i (j - i).toNat) H1
theorem pi_range1 {a : Expr} {ta : TA} {p pos : Pos} (hg : Gl X "range") (hm : X.mg "range" = none) (ha : PA X [a] ta) (hs : starEach [a] X.env = [(false, eval a X.env)] := by rfl) : PI X tg (.Call (.Name "range" p) [a] [] pos) (iRng1 ta) := by
  intro pins s σ H R I h
  refine Call_ (ld_blt I hg hm boot_range (PyProof.Rows.callWith_type1 (thn (ha pos pins s σ H _ I h) fun us s1 ⟨vs, H1, I1, r1, q1⟩ => ?_) hs rfl))
  obtain ⟨j, e, q1, q2, q⟩ := q1
  subst e
  cases r1 with
  | cons r rr =>
    cases rr
    obtain ⟨t, rfl⟩ := r
    exact call_range_1 (range_it I1 (by omega) (by omega) q1 q2 (by simpa using q))
theorem pi_range2 {a b : Expr} {ta : TA} {p pos : Pos} (hg : Gl X "range") (hm : X.mg "range" = none) (ha : PA X [a, b] ta) (hs : starEach [a, b] X.env = [(false, eval a X.env), (false, eval b X.env)] := by rfl) (hs2 : starEach [b] X.env = [(false, eval b X.env)] := by rfl) :
    PI X tg (.Call (.Name "range" p) [a, b] [] pos) (iRng2 ta) := by
  intro pins s σ H R I h
  refine Call_ (ld_blt I hg hm boot_range (PyProof.Rows.callWith_type1 (thn (ha pos pins s σ H _ I h) fun us s1 ⟨vs, H1, I1, r1, q1⟩ => ?_) (by rw [hs, hs2]) (by rw [hs2]; rfl)))
  obtain ⟨i, j, e, ⟨q1, q2, q3, q4⟩, q⟩ := q1
  subst e
  cases r1 with
  | cons r rr =>
    cases rr with
    | cons r' rr =>
      cases rr
      obtain ⟨t, rfl⟩ := r
      obtain ⟨t', rfl⟩ := r'
      exact call_range_2 (range_it I1 q1 q2 q3 q4 q)
def tFor (wi : TI) (g : TG) (tb : TS) : TS := fun D σ H => wi σ H fun J H1 => ∃ W : Nat → Nat → St → Hp → Prop, (∃ m, W 0 m σ H1) ∧ ∀ i m σ H, W i m σ H →
  (J.stop i H ∧ D.nx σ H) ∨ (J.go i H ∧ ∃ N : St → Hp → Prop, (∀ σ' H', N σ' H' → ∃ m', m' < m ∧ W (i + 1) m' σ' H') ∧ ∀ x H', J.yld i H x H' → g x σ H' fun σ2 H2 => tb { D with nx := N, ct := N, bk := D.nx } σ2 H2)
def pinsAt (fp : List Addr) (h : Heap) : List (Addr × Obj) := fp.filterMap fun b => (h.get? b).map fun o => (b, o)
theorem mem_pinsAt {fp : List Addr} {h : Heap} {b : Addr} {o : Obj} (hb : b ∈ fp) (e : h.get? b = some o) : (b, o) ∈ pinsAt fp h := List.mem_filterMap.mpr ⟨b, hb, by rw [e]; rfl⟩
theorem of_pinsAt {fp : List Addr} {h : Heap} {p : Addr × Obj} (hp : p ∈ pinsAt fp h) : p.1 ∈ fp ∧ h.get? p.1 = some p.2 := by
  obtain ⟨b, hb, e⟩ := List.mem_filterMap.mp hp
  cases q : h.get? b with
  | none => rw [q] at e; cases e
  | some o =>
    rw [q] at e
    have e' : (b, o) = p := Option.some.inj e
    subst e'
    exact ⟨hb, q⟩
theorem Inv.pinned {pins : List (Addr × Obj)} {σ : St} {H : Hp} {s : Shared} {fp : List Addr} (I : Inv X pins σ H s) (hf : ∀ b ∈ fp, FpOk X pins H b) (ho : ∀ b ∈ fp, ∃ o, s.heap.get? b = some o ∧ ∀ v, o.data ≠ .cell v) : Inv X (pins ++ pinsAt fp s.heap) σ H s :=
  I.pins_of fun p hp => (List.mem_append.mp hp).elim (fun z => I.pin p (List.mem_append_right _ z)) fun z => by
    obtain ⟨hb, e⟩ := of_pinsAt z
    obtain ⟨f0, f1, f2, _⟩ := hf p.1 hb
    obtain ⟨o, e', d⟩ := ho p.1 hb
    rw [e] at e'; cases e'
    exact ⟨e, f0, f1, f2, d⟩
theorem Inv.unpinned {pins pl : List (Addr × Obj)} {σ : St} {H : Hp} {s : Shared} (I : Inv X (pins ++ pl) σ H s) : Inv X pins σ H s := I.pins_of fun p hp => I.pin p (List.mem_append_right _ (List.mem_append_left _ hp))
theorem ps_for {iter : Expr} {body : List Stmt} {wi : TI} {g : TG} {tb : TS} {pos : Pos} (hp : PassesOwn (model X.prog X.w) X.A X.env X.xe) (hc : X.calm = true) (hi : PI X tg iter wi) (hg : PG X tg g) (hb : PSs X body tb)
    (hs : ∀ x, foldedSetIterable iter X.env x = pure x := by intro _; rfl) : PS X (.For tg iter body [] pos) (tFor wi g tb) := by
  intro pins s σ H D I h
  refine wpAny_For (thn (hi pins s σ H _ I h) fun v s1 h1 => thn h1 fun itv s2 h2 => ?_) hs
  obtain ⟨it, fp, tn, J, H2, e, I2, T, st2, f2, W, ⟨m0, w0⟩, turn⟩ := h2
  subst e
  -- what stays true of the iterator's objects through the loop
  have stat : ∀ {H' : Hp}, (∀ b ∈ fp, H' b = none) → ∀ b ∈ fp, FpOk X pins H' b := fun hn b hb => ⟨hn b hb, (f2 b hb).2⟩
  refine codeAny_forLoop_any (fun n s' => ∃ i σ' H', Inv X pins σ' H' s' ∧ tn i s'.heap ∧ (∀ b ∈ fp, H' b = none) ∧ W i n σ' H') ?_ m0 ⟨0, σ, H2, I2, st2, fun b hb => (f2 b hb).1, w0⟩
  rintro n s3 ⟨i, σ3, H3, I3, st3, fr3, w3⟩
  rcases turn i n σ3 H3 w3 with ⟨stop, qn⟩ | ⟨go, N, hN, step⟩
  · refine wpAny_passesOwn hp (thn (T.done X rfl rfl rfl hc i pins s3 σ3 H3 X.xe I3 (stat fr3) st3 stop) fun r s4 ⟨hr, I4⟩ => ?_)
    subst hr
    exact wpAny_execs_nil ⟨σ3, H3, I4, qn⟩
  · refine wpAny_passesOwn hp (thn (T.item X rfl rfl rfl hc i pins s3 σ3 H3 X.xe I3 (stat fr3) st3 go) fun r s4 ⟨u, hr, h4⟩ => ?_)
    subst hr
    refine wpAny_passesOwn hp (thn h4 fun _ s5 ⟨x, H5, I5, r5, y5, st5, fr5⟩ => ?_)
    have I5' := I5.pinned (stat fr5) (T.obj _ _ st5)
    refine wpAny_passesOwn hp (thn (hg _ s5 σ3 H5 x u _ I5' r5 (step x H5 y5)) fun _ s6 ⟨σ6, H6, I6, q6⟩ => ?_)
    refine wpAny_passesOwn hp (thn (hb _ s6 σ6 H6 _ I6 q6) fun f s7 q7 => ?_)
    have again : ∀ {σ7 : St} {H7 : Hp}, Inv X (pins ++ pinsAt fp s5.heap) σ7 H7 s7 → N σ7 H7 → ∃ m, m < n ∧ ∃ i σ' H', Inv X pins σ' H' s7 ∧ tn i s7.heap ∧ (∀ b ∈ fp, H' b = none) ∧ W i m σ' H' := fun {σ7 H7} I7 n7 => by
      obtain ⟨m', hm, w7⟩ := hN σ7 H7 n7
      refine ⟨m', hm, i + 1, σ7, H7, I7.unpinned, T.keep _ _ _ st5 fun b hb o e => (I7.pin (b, o) (List.mem_append_right _ (List.mem_append_right _ (mem_pinsAt hb e)))).1, fun b hb => ?_, w7⟩
      obtain ⟨o, e, d⟩ := T.obj _ _ st5 b hb
      exact (I7.pin (b, o) (List.mem_append_right _ (List.mem_append_right _ (mem_pinsAt hb e)))).2.1
    cases f with
    | next => obtain ⟨σ7, H7, I7, n7⟩ := q7; exact again I7 n7
    | cont => obtain ⟨σ7, H7, I7, n7⟩ := q7; exact again I7 n7
    | brk => obtain ⟨σ7, H7, I7, q7⟩ := q7; exact ⟨σ7, H7, I7.unpinned, q7⟩
    | ret v => obtain ⟨x7, σ7, H7, I7, r7, q7⟩ := q7; exact ⟨x7, σ7, H7, I7.unpinned, r7, q7⟩
end
theorem for_list {K : PySem.W.Frag} {a : Addr} {xs : List V} {g : TG} {tb : TS} {D : Ends} {σ : St} {H : Hp} (Pv : Nat → St → Hp → Prop) (h0 : Pv 0 σ H) (hl : ∀ i σ H, i ≤ xs.length → Pv i σ H → SqL K H a xs)
    (hs : ∀ i x σ H, xs[i]? = some x → Pv i σ H → g x σ H fun σ2 H2 => tb { D with nx := Pv (i + 1), ct := Pv (i + 1), bk := D.nx } σ2 H2) (hd : ∀ σ H, Pv xs.length σ H → D.nx σ H) :
    ∃ W : Nat → Nat → St → Hp → Prop, (∃ m, W 0 m σ H) ∧ ∀ i m σ H, W i m σ H →
      ((Itl K a).stop i H ∧ D.nx σ H) ∨ ((Itl K a).go i H ∧ ∃ N : St → Hp → Prop, (∀ σ' H', N σ' H' → ∃ m', m' < m ∧ W (i + 1) m' σ' H') ∧ ∀ x H', (Itl K a).yld i H x H' → g x σ H' fun σ2 H2 => tb { D with nx := N, ct := N, bk := D.nx } σ2 H2) := by
  refine ⟨fun i m σ H => m = xs.length - i ∧ i ≤ xs.length ∧ Pv i σ H, ⟨xs.length, by simp, Nat.zero_le _, h0⟩, ?_⟩
  rintro i m σ H ⟨rfl, hi, p⟩
  have q := hl i σ H hi p
  by_cases hlt : i < xs.length
  · refine .inr ⟨⟨xs, xs[i], q, by simp [hlt]⟩, Pv (i + 1), fun σ' H' p' => ⟨xs.length - (i + 1), by omega, rfl, hlt, p'⟩, fun x H' y => ?_⟩
    obtain ⟨e, y⟩ := y
    subst e
    exact hs i x σ _ (y xs q) p
  · have e : i = xs.length := by omega
    subst e
    exact .inl ⟨⟨xs, q, Nat.le_refl _⟩, hd σ H p⟩
theorem for_range {lo : Int} {n : Nat} {g : TG} {tb : TS} {D : Ends} {σ : St} {H : Hp} (Pv : Nat → St → Hp → Prop) (h0 : Pv 0 σ H)
    (hs : ∀ i σ H, i < n → Pv i σ H → g (.int (lo + i)) σ H fun σ2 H2 => tb { D with nx := Pv (i + 1), ct := Pv (i + 1), bk := D.nx } σ2 H2) (hd : ∀ σ H, Pv n σ H → D.nx σ H) :
    ∃ W : Nat → Nat → St → Hp → Prop, (∃ m, W 0 m σ H) ∧ ∀ i m σ H, W i m σ H →
      ((Itr lo n).stop i H ∧ D.nx σ H) ∨ ((Itr lo n).go i H ∧ ∃ N : St → Hp → Prop, (∀ σ' H', N σ' H' → ∃ m', m' < m ∧ W (i + 1) m' σ' H') ∧ ∀ x H', (Itr lo n).yld i H x H' → g x σ H' fun σ2 H2 => tb { D with nx := N, ct := N, bk := D.nx } σ2 H2) := by
  refine ⟨fun i m σ H => m = n - i ∧ i ≤ n ∧ Pv i σ H, ⟨n, by simp, Nat.zero_le _, h0⟩, ?_⟩
  rintro i m σ H ⟨rfl, hi, p⟩
  by_cases hlt : i < n
  · refine .inr ⟨hlt, Pv (i + 1), fun σ' H' p' => ⟨n - (i + 1), by omega, rfl, hlt, p'⟩, fun x H' y => ?_⟩
    obtain ⟨e, y⟩ := y
    subst e y
    exact hs i σ _ hlt p
  · have e : i = n := by omega
    subst e
    exact .inl ⟨Nat.le_refl _, hd σ H p⟩
end L2
namespace L2
open PySem PySem.Spec PyProof.Rows
abbrev R2 := V → V → Hp → VK → Prop
def OpR (X : Cx) (f : Value → Value → Sem Value) (r : R2) : Prop :=
  ∀ (pins : List (Addr × Obj)) (s : Shared) (σ : St) (H : Hp) (x y : V) (v u : Value) (Q : VK), Inv X pins σ H s → RelV x v → RelV y u → r x y H Q →
    wpAny (model X.prog X.w) X.A (f v u) (EP X pins σ Q) X.xe s
def UnR (X : Cx) (f : Value → Sem Value) (r : V → Hp → VK → Prop) : Prop :=
  ∀ (pins : List (Addr × Obj)) (s : Shared) (σ : St) (H : Hp) (x : V) (v : Value) (Q : VK), Inv X pins σ H s → RelV x v → r x H Q →
    wpAny (model X.prog X.w) X.A (f v) (EP X pins σ Q) X.xe s
def CallR (X : Cx) (f : Value) (r : List V → Hp → VK → Prop) : Prop :=
  ∀ (pins : List (Addr × Obj)) (s : Shared) (σ : St) (H : Hp) (xs : List V) (us : List Value) (Q : VK), Inv X pins σ H s → Vals xs us → r xs H Q →
    wpAny (model X.prog X.w) X.A (call f us) (EP X pins σ Q) X.xe s
def TruR (X : Cx) (r : V → Hp → (Bool → Hp → Prop) → Prop) : Prop :=
  ∀ (pins : List (Addr × Obj)) (s : Shared) (σ : St) (H : Hp) (x : V) (v : Value) (Q : Bool → Hp → Prop), Inv X pins σ H s → RelV x v → r x H Q →
    wpAny (model X.prog X.w) X.A (truthy v) (TP X pins σ Q) X.xe s
def tOp (r : R2) (ta tb : TE) : TE := fun σ H Q => ta σ H fun x H1 => tb σ H1 fun y H2 => r x y H2 Q
def tUn (r : V → Hp → VK → Prop) (ta : TE) : TE := fun σ H Q => ta σ H fun x H1 => r x H1 Q
def rI (C : Int → Int → Prop) (g : Int → Int → V) : R2 := fun x y H Q => ∃ i j, x = .int i ∧ y = .int j ∧ C i j ∧ Q (g i j) H
def rI0 (g : Int → Int → V) : R2 := fun x y H Q => ∃ i j, x = .int i ∧ y = .int j ∧ Q (g i j) H
def rU (g : Int → V) : V → Hp → VK → Prop := fun x H Q => ∃ i, x = .int i ∧ Q (g i) H
section
variable {X : Cx} {a b c : Expr} {ta tb tc : TE} {pos : Pos}
theorem binT (ha : PE X a ta) (hb : PE X b tb) {pins : List (Addr × Obj)} {s : Shared} {σ : St} {H : Hp} {R : V → V → Hp → Prop} (I : Inv X pins σ H s)
    (h : ta σ H fun x H1 => tb σ H1 fun y H2 => R x y H2) {Q : Value → Shared → Prop} {f : Value → Value → Sem Value}
    (hf : ∀ v u s2 x y H2, Inv X pins σ H2 s2 → RelV x v → RelV y u → R x y H2 → wpAny (model X.prog X.w) X.A (f v u) Q X.xe s2) :
    wpAny (model X.prog X.w) X.A (eval a X.env) (fun v s₁ => wpAny (model X.prog X.w) X.A (eval b X.env) (fun u s₂ => wpAny (model X.prog X.w) X.A (f v u) Q X.xe s₂) X.xe s₁) X.xe s := by
  refine thn (ha pins s σ H _ I h) fun v s1 ⟨x, H1, I1, r1, q1⟩ => ?_
  refine thn (hb pins s1 σ H1 _ I1 q1) fun u s2 ⟨y, H2, I2, r2, q2⟩ => ?_
  exact hf v u s2 x y H2 I2 r1 r2 q2
theorem pe_op {op : Operator} {r : R2} (ho : OpR X (binaryOp op) r) (ha : PE X a ta) (hb : PE X b tb) : PE X (.BinOp a op b pos) (tOp r ta tb) := by
  intro pins s σ H Q I h
  exact wpAny_BinOp (binT ha hb I h fun v u s2 x y H2 I2 rx ry q => ho pins s2 σ H2 x y v u Q I2 rx ry q)
theorem pe_un {op : UnaryOp} {r : V → Hp → VK → Prop} (ho : UnR X (unaryOp op) r) (ha : PE X a ta) : PE X (.UnaryOp op a pos) (tUn r ta) := by
  intro pins s σ H Q I h
  exact UnaryOp_ (thn (ha pins s σ H _ I h) fun v s1 ⟨x, H1, I1, r1, q1⟩ => ho pins s1 σ H1 x v Q I1 r1 q1)
theorem opI {f : Value → Value → Sem Value} {C : Int → Int → Prop} {g : Int → Int → Int}
    (rule : ∀ (i j : Int) (t u : Tok) (s : Shared) (Q : Value → Shared → Prop) (E : Value → Shared → Prop), C i j → Q (.int (g i j) s.toks) { s with toks := s.toks + 1 } → wpAny (model X.prog X.w) X.A (f (.int i t) (.int j u)) Q E s) :
    OpR X f (rI C fun i j => .int (g i j)) := by
  intro pins s σ H x y v u Q I rx ry h
  obtain ⟨i, j, rfl, rfl, hc, q⟩ := h
  obtain ⟨t, rfl⟩ := rx
  obtain ⟨t', rfl⟩ := ry
  exact rule i j t t' s _ _ hc ⟨.int (g i j), H, I.tok _, ⟨_, rfl⟩, q⟩
theorem opI0 {f : Value → Value → Sem Value} {g : Int → Int → Int}
    (rule : ∀ (i j : Int) (t u : Tok) (s : Shared) (Q : Value → Shared → Prop) (E : Value → Shared → Prop), Q (.int (g i j) s.toks) { s with toks := s.toks + 1 } → wpAny (model X.prog X.w) X.A (f (.int i t) (.int j u)) Q E s) :
    OpR X f (rI0 fun i j => .int (g i j)) := by
  intro pins s σ H x y v u Q I rx ry h
  obtain ⟨i, j, rfl, rfl, q⟩ := h
  obtain ⟨t, rfl⟩ := rx
  obtain ⟨t', rfl⟩ := ry
  exact rule i j t t' s _ _ ⟨.int (g i j), H, I.tok _, ⟨_, rfl⟩, q⟩
theorem opB0 {f : Value → Value → Sem Value} {g : Int → Int → Bool}
    (rule : ∀ (i j : Int) (t u : Tok) (s : Shared) (Q : Value → Shared → Prop) (E : Value → Shared → Prop), Q (.bool (g i j)) s → wpAny (model X.prog X.w) X.A (f (.int i t) (.int j u)) Q E s) :
    OpR X f (rI0 fun i j => .bl (g i j)) := by
  intro pins s σ H x y v u Q I rx ry h
  obtain ⟨i, j, rfl, rfl, q⟩ := h
  obtain ⟨t, rfl⟩ := rx
  obtain ⟨t', rfl⟩ := ry
  exact rule i j t t' s _ _ ⟨.bl (g i j), H, I, rfl, q⟩
def CMul (i j : Int) : Prop := (-(2 ^ 64) < i ∧ i < 2 ^ 64) ∨ (-(2 ^ 64) < j ∧ j < 2 ^ 64)
theorem CMul.ok {i j : Int} (h : CMul i j) : IntMulOk i j := by
  rcases h with ⟨h1, h2⟩ | ⟨h1, h2⟩
  · exact .of_left (intBits_le_64 h1 h2)
  · exact .of_right (intBits_le_64 h1 h2)
theorem op_add : OpR X (binaryOp .Add) (rI0 fun i j => .int (i + j)) := opI0 fun _ _ _ _ _ _ _ q => add_int q
theorem op_sub : OpR X (binaryOp .Sub) (rI0 fun i j => .int (i - j)) := opI0 fun _ _ _ _ _ _ _ q => sub_int q
theorem op_mul : OpR X (binaryOp .Mult) (rI CMul fun i j => .int (i * j)) := opI fun _ _ _ _ _ _ _ hc q => mul_int q hc.ok
theorem unI {f : Value → Sem Value} {g : Int → Int}
    (rule : ∀ (i : Int) (t : Tok) (s : Shared) (Q : Value → Shared → Prop) (E : Value → Shared → Prop), Q (.int (g i) s.toks) { s with toks := s.toks + 1 } → wpAny (model X.prog X.w) X.A (f (.int i t)) Q E s) :
    UnR X f (rU fun i => .int (g i)) := by
  intro pins s σ H x v Q I rx h
  obtain ⟨i, rfl, q⟩ := h
  obtain ⟨t, rfl⟩ := rx
  exact rule i t s _ _ ⟨.int (g i), H, I.tok _, ⟨_, rfl⟩, q⟩
theorem un_neg : UnR X (unaryOp .USub) (rU fun i => .int (-i)) := unI fun _ _ _ _ _ q => neg_int q
end
def scal : V → V → Bool
  | .non, .non => true | .non, .int _ => true | .int _, .non => true | .non, .bl _ => true | .bl _, .non => true | .non, .str _ => true | .str _, .non => true
  | .int _, .int _ => true | .bl _, .bl _ => true | .str _, .str _ => true | .byt _, .byt _ => true
  | .int _, .str _ => true | .str _, .int _ => true | .bl _, .str _ => true | .str _, .bl _ => true
  | _, _ => false
def rEq : R2 := fun x y H Q => scal x y = true ∧ Q (.bl (decide (x = y))) H
def rNe : R2 := fun x y H Q => scal x y = true ∧ Q (.bl (!decide (x = y))) H
theorem dec_int {i j : Int} : decide (V.int i = V.int j) = (i == j) := by
  rw [Bool.eq_iff_iff]
  simp
theorem dec_bl {i j : Bool} : decide (V.bl i = V.bl j) = (i == j) := by
  rw [Bool.eq_iff_iff]
  simp
theorem dec_str {i j : Str} : decide (V.str i = V.str j) = (i == j) := by
  rw [Bool.eq_iff_iff]
  simp
theorem dec_byt {i j : Array UInt8} : decide (V.byt i = V.byt j) = (i.toList == j.toList) := by
  rw [Bool.eq_iff_iff]
  cases i
  cases j
  simp
section
variable {X : Cx} {a b c : Expr} {ta tb tc : TE} {pos : Pos}
theorem fin_bl {pins : List (Addr × Obj)} {σ : St} {H : Hp} {s : Shared} {Q : VK} {k k' : Bool} (I : Inv X pins σ H s) (q : Q (.bl k) H) (e : k = k') : EP X pins σ Q (.bool k') s := by
  subst e
  exact ⟨.bl k, H, I, rfl, q⟩
theorem op_eq : OpR X (compareOp .Eq) rEq := by
  intro pins s σ H x y v u Q I rx ry h
  obtain ⟨hs, q⟩ := h
  cases x with
  | non =>
    cases rx
    cases y with
    | non => cases ry; exact PySem.EqNone.eq_none_none (fin_bl I q (by simp))
    | bl j => cases ry; exact PySem.EqNone.eq_none_bool (fin_bl I q (by simp))
    | int j => obtain ⟨t', rfl⟩ := ry; exact PySem.EqNone.eq_none_int (fin_bl I q (by simp))
    | str j => obtain ⟨t', rfl⟩ := ry; exact PySem.EqNone.eq_none_str (fin_bl I q (by simp))
    | _ => exact absurd (show false = true from hs) Bool.false_ne_true
  | bl i =>
    cases rx
    cases y with
    | non => cases ry; exact PySem.EqNone.eq_bool_none (fin_bl I q (by simp))
    | bl j => cases ry; exact eq_bool (fin_bl I q dec_bl)
    | str j => obtain ⟨t', rfl⟩ := ry; exact PySem.EqMixed.eq_bool_str (fin_bl I q (by simp))
    | _ => exact absurd (show false = true from hs) Bool.false_ne_true
  | int i =>
    obtain ⟨t, rfl⟩ := rx
    cases y with
    | non => cases ry; exact PySem.EqNone.eq_int_none (fin_bl I q (by simp))
    | int j => obtain ⟨t', rfl⟩ := ry; exact eq_int (fin_bl I q dec_int)
    | str j => obtain ⟨t', rfl⟩ := ry; exact PySem.EqMixed.eq_int_str (fin_bl I q (by simp))
    | _ => exact absurd (show false = true from hs) Bool.false_ne_true
  | str i =>
    obtain ⟨t, rfl⟩ := rx
    cases y with
    | non => cases ry; exact PySem.EqNone.eq_str_none (fin_bl I q (by simp))
    | bl j => cases ry; exact PySem.EqMixed.eq_str_bool (fin_bl I q (by simp))
    | int j => obtain ⟨t', rfl⟩ := ry; exact PySem.EqMixed.eq_str_int (fin_bl I q (by simp))
    | str j => obtain ⟨t', rfl⟩ := ry; exact eq_str (fin_bl I q dec_str)
    | _ => exact absurd (show false = true from hs) Bool.false_ne_true
  | byt i =>
    obtain ⟨t, rfl⟩ := rx
    cases y with
    | byt j => obtain ⟨t', rfl⟩ := ry; exact PySem.W.eq_bytes (fin_bl I q dec_byt)
    | _ => exact absurd (show false = true from hs) Bool.false_ne_true
  | _ => cases y <;> exact absurd (show false = true from hs) Bool.false_ne_true
theorem op_ne : OpR X (compareOp .NotEq) rNe := by
  intro pins s σ H x y v u Q I rx ry h
  obtain ⟨hs, q⟩ := h
  cases x with
  | non =>
    cases rx
    cases y with
    | non => cases ry; exact PySem.EqNone.ne_none_none (fin_bl I q (by simp))
    | bl j => cases ry; exact PySem.EqNone.ne_none_bool (fin_bl I q (by simp))
    | int j => obtain ⟨t', rfl⟩ := ry; exact PySem.EqNone.ne_none_int (fin_bl I q (by simp))
    | str j => obtain ⟨t', rfl⟩ := ry; exact PySem.EqNone.ne_none_str (fin_bl I q (by simp))
    | _ => exact absurd (show false = true from hs) Bool.false_ne_true
  | bl i =>
    cases rx
    cases y with
    | non => cases ry; exact PySem.EqNone.ne_bool_none (fin_bl I q (by simp))
    | bl j => cases ry; exact ne_bool (fin_bl I q (congrArg not dec_bl))
    | str j => obtain ⟨t', rfl⟩ := ry; exact PySem.EqMixed.ne_bool_str (fin_bl I q (by simp))
    | _ => exact absurd (show false = true from hs) Bool.false_ne_true
  | int i =>
    obtain ⟨t, rfl⟩ := rx
    cases y with
    | non => cases ry; exact PySem.EqNone.ne_int_none (fin_bl I q (by simp))
    | int j => obtain ⟨t', rfl⟩ := ry; exact ne_int (fin_bl I q (congrArg not dec_int))
    | str j => obtain ⟨t', rfl⟩ := ry; exact PySem.EqMixed.ne_int_str (fin_bl I q (by simp))
    | _ => exact absurd (show false = true from hs) Bool.false_ne_true
  | str i =>
    obtain ⟨t, rfl⟩ := rx
    cases y with
    | non => cases ry; exact PySem.EqNone.ne_str_none (fin_bl I q (by simp))
    | bl j => cases ry; exact PySem.EqMixed.ne_str_bool (fin_bl I q (by simp))
    | int j => obtain ⟨t', rfl⟩ := ry; exact PySem.EqMixed.ne_str_int (fin_bl I q (by simp))
    | str j => obtain ⟨t', rfl⟩ := ry; exact ne_str (fin_bl I q (congrArg not dec_str))
    | _ => exact absurd (show false = true from hs) Bool.false_ne_true
  | byt i =>
    obtain ⟨t, rfl⟩ := rx
    cases y with
    | byt j => obtain ⟨t', rfl⟩ := ry; exact PySem.W.ne_bytes (fin_bl I q (congrArg not dec_byt))
    | _ => exact absurd (show false = true from hs) Bool.false_ne_true
  | _ => cases y <;> exact absurd (show false = true from hs) Bool.false_ne_true
theorem op_lt : OpR X (compareOp .Lt) (rI0 fun i j => .bl (decide (i < j))) := opB0 fun _ _ _ _ _ _ _ q => lt_int q
theorem op_le : OpR X (compareOp .LtE) (rI0 fun i j => .bl (decide (i ≤ j))) := opB0 fun _ _ _ _ _ _ _ q => le_int q
theorem op_gt : OpR X (compareOp .Gt) (rI0 fun i j => .bl (decide (j < i))) := opB0 fun _ _ _ _ _ _ _ q => gt_int q
theorem op_ge : OpR X (compareOp .GtE) (rI0 fun i j => .bl (decide (j ≤ i))) := opB0 fun _ _ _ _ _ _ _ q => ge_int q
theorem nomark (b : Expr) {op : CmpOp} (h : op ≠ .In := by decide) (h2 : op ≠ .NotIn := by decide) : behindInMarks op b = false := by
  have e1 : (op == CmpOp.In) = false := by cases op <;> first | rfl | exact absurd rfl h
  have e2 : (op == CmpOp.NotIn) = false := by cases op <;> first | rfl | exact absurd rfl h2
  cases b <;> simp [behindInMarks, e1, e2]
theorem pe_cmpR {op : CmpOp} {r : R2} (ho : OpR X (compareOp op) r) (ha : PE X a ta) (hb : PE X b tb) (hm : behindInMarks op b = false) : PE X (.Compare a [op] [b] pos) (tOp r ta tb) := by
  intro pins s σ H Q I h
  exact wpAny_Compare1 (binT ha hb I h fun v u s2 x y H2 I2 rx ry q => ho pins s2 σ H2 x y v u Q I2 rx ry q) hm
def tTest (t : TE) : TT := fun σ H Q => t σ H fun x H' => ∃ k, x = .bl k ∧ Q k H'
theorem pt_cmpR {op : CmpOp} {r : R2} (ho : OpR X (compareOp op) r) (ha : PE X a ta) (hb : PE X b tb) (hm : behindInMarks op b = false) : PT X (.Compare a [op] [b] pos) (tTest (tOp r ta tb)) := by
  intro pins s σ H Q I h
  refine wpAny_isTrue_Compare1 (thn (ha pins s σ H _ I h) fun v s1 ⟨x, H1, I1, r1, q1⟩ => thn (hb pins s1 σ H1 _ I1 q1) fun u s2 ⟨y, H2, I2, r2, q2⟩ =>
    thn (ho pins s2 σ H2 x y v u _ I2 r1 r2 q2) fun c s3 ⟨z, H3, I3, r3, k, e, q3⟩ => ?_) hm
  subst e
  cases r3
  exact wpAny_truthy_bool ⟨H3, I3, q3⟩
def tChain (r r' : R2) (ta tb tc : TE) : TE := fun σ H Q => ta σ H fun x H1 => tb σ H1 fun y H2 => r x y H2 fun z H3 => ∃ k, z = .bl k ∧
  (if k = true then tc σ H3 fun w' H4 => r' y w' H4 Q else Q (.bl false) H3)
theorem pe_chain {op op' : CmpOp} {r r' : R2} (ho : OpR X (compareOp op) r) (ho' : OpR X (compareOp op') r') (ha : PE X a ta) (hb : PE X b tb) (hc : PE X c tc)
    (hm : lastMarks [op, op'] [b, c] = false := by with_unfolding_all rfl) : PE X (.Compare a [op, op'] [b, c] pos) (tChain r r' ta tb tc) := by
  intro pins s σ H Q I h
  refine Compare_chain (thn (ha pins s σ H _ I h) fun v s1 ⟨x, H1, I1, r1, q1⟩ => chain_link (thn (hb pins s1 σ H1 _ I1 q1) fun u s2 ⟨y, H2, I2, r2, q2⟩ =>
    thn (ho pins s2 σ H2 x y v u _ I2 r1 r2 q2) fun d s3 ⟨z, H3, I3, r3, k, e, q3⟩ => ?_)) hm
  subst e
  cases r3
  refine wpAny_truthy_bool ?_
  cases k with
  | false => exact ite_ff ⟨.bl false, H3, I3, rfl, q3⟩
  | true => exact ite_tt (chain_last (thn (hc pins s3 σ H3 _ I3 q3) fun w' s4 ⟨z', H4, I4, r4, q4⟩ => ho' pins s4 σ H4 y z' u w' Q I4 r2 r4 q4))
theorem pt_chain {op op' : CmpOp} {r r' : R2} (ho : OpR X (compareOp op) r) (ho' : OpR X (compareOp op') r') (ha : PE X a ta) (hb : PE X b tb) (hc : PE X c tc)
    (hm : lastMarks [op, op'] [b, c] = false := by with_unfolding_all rfl) : PT X (.Compare a [op, op'] [b, c] pos) (tTest (tChain r r' ta tb tc)) := by
  intro pins s σ H Q I h
  refine isTrue_chain (thn (ha pins s σ H _ I h) fun v s1 ⟨x, H1, I1, r1, q1⟩ => test_link (thn (hb pins s1 σ H1 _ I1 q1) fun u s2 ⟨y, H2, I2, r2, q2⟩ =>
    thn (ho pins s2 σ H2 x y v u _ I2 r1 r2 q2) fun d s3 ⟨z, H3, I3, r3, k, e, q3⟩ => ?_)) hm
  subst e
  cases r3
  refine wpAny_truthy_bool ?_
  cases k with
  | false =>
    obtain ⟨k', e', q'⟩ := q3
    cases e'
    exact ite_ff ⟨H3, I3, q'⟩
  | true =>
    refine ite_tt (test_last (thn (hc pins s3 σ H3 _ I3 q3) fun w' s4 ⟨z', H4, I4, r4, q4⟩ => thn (ho' pins s4 σ H4 y z' u w' _ I4 r2 r4 q4) fun d' s5 ⟨z2, H5, I5, r5, k2, e2, q5⟩ => ?_))
    subst e2
    cases r5
    exact wpAny_truthy_bool ⟨H5, I5, q5⟩
def TruV (K : PySem.W.Frag) (x : V) (H : Hp) (k : Bool) : Prop :=
  match x with
  | .non => k = false
  | .bl b => k = b
  | .int i => k = (i != 0)
  | .str y => y.length ≤ sizeLine ∧ k = ((y.length : Int) != 0)
  | .byt y => y.size ≤ sizeLine ∧ k = ((y.size : Int) != 0)
  | .ref p => (∃ xs, SqL K H p xs ∧ k = !xs.isEmpty) ∨ (∃ xs, SqT K H p xs ∧ k = !xs.isEmpty) ∨ ∃ kvs, H p = some (.dK kvs) ∧ k = !kvs.isEmpty
  | _ => False
theorem isEmpty_kv {κ : Type} {kvs : List (κ × V)} {vs : List (κ × Value)} (r : KV kvs vs) : (!vs.isEmpty) = !kvs.isEmpty := by
  cases r <;> rfl
theorem isEmpty_of {xs : List V} {its : List Value} (r : Vals xs its) : (!its.toArray.isEmpty) = !xs.isEmpty := by
  cases r <;> simp
theorem line63 : (sizeLine : Nat) < 2 ^ 63 := by rw [sizeLine_eq]; decide
theorem tru_ok : TruR X (fun x H Q => ∃ k, TruV X.K x H k ∧ Q k H) := by
  intro pins s σ H x v Q I rx h
  obtain ⟨k, e, q⟩ := h
  have hl := line63
  have hs : sizeLine = 16777216 := sizeLine_eq
  cases x with
  | non =>
    cases rx
    have e' : k = false := e
    subst e'
    exact truthy_none ⟨H, I, q⟩
  | bl b =>
    cases rx
    have e' : k = b := e
    subst e'
    exact wpAny_truthy_bool ⟨H, I, q⟩
  | int i =>
    obtain ⟨t, rfl⟩ := rx
    have e' : k = (i != 0) := e
    subst e'
    exact PySem.P.truthy_int ⟨H, I, q⟩
  | str y =>
    obtain ⟨t, rfl⟩ := rx
    obtain ⟨hy, e'⟩ : y.length ≤ sizeLine ∧ k = ((y.length : Int) != 0) := e
    subst e'
    exact PySem.P.truthy_str (by omega) ⟨H, I.tok _, q⟩
  | byt y =>
    obtain ⟨t, rfl⟩ := rx
    obtain ⟨hy, e'⟩ : y.size ≤ sizeLine ∧ k = ((y.size : Int) != 0) := e
    subst e'
    exact PySem.W.truthy_bytes (by omega) ⟨H, I.tok _, q⟩
  | ref p =>
    cases rx
    have e' : (∃ xs, SqL X.K H p xs ∧ k = !xs.isEmpty) ∨ (∃ xs, SqT X.K H p xs ∧ k = !xs.isEmpty) ∨ ∃ kvs, H p = some (.dK kvs) ∧ k = !kvs.isEmpty := e
    rcases e' with ⟨xs, hx, e'⟩ | ⟨xs, hx, e'⟩ | ⟨kvs, hx, e'⟩
    · subst e'
      obtain ⟨its, r, pl, hz⟩ := I.list hx
      have hlen := r.length
      exact wpAny_truthy_list pl.isList (by simp only [List.size_toArray]; omega) ⟨H, I.tok _, by rw [isEmpty_of r]; exact q⟩
    · subst e'
      obtain ⟨its, r, pl, hz⟩ := I.tuple hx
      have hlen := r.length
      exact truthy_tuple pl (by simp only [List.size_toArray]; omega) ⟨H, I.tok _, by rw [isEmpty_of r]; exact q⟩
    · subst e'
      obtain ⟨hz, hS, vs, r, m⟩ : kvs.length ≤ sizeLine ∧ (p == sysModules) = false ∧ ∃ vs, KV kvs vs ∧ s.heap.DictOf (mixKind X.prog X.w) p vs := I.hok p _ hx
      have hlen : kvs.length = vs.length := Paired.length r
      exact wpAny_truthy_dict hS m (by omega) ⟨H, I.tok _, by rw [isEmpty_kv r]; exact q⟩
  | _ => exact (show False from e).elim
theorem pt_truth (ha : PE X a ta) (he : ∀ whole, isTrue a X.env whole = (do let v ← whole; standAt a.pos; holding [v] (truthy v))) :
    PT X a (fun σ H Q => ta σ H fun x H' => ∃ k, TruV X.K x H' k ∧ Q k H') := by
  intro pins s σ H Q I h
  exact isTrue_plain (thn (ha pins s σ H _ I h) fun v s1 ⟨x, H1, I1, r1, q1⟩ => tru_ok pins s1 σ H1 x v Q I1 r1 q1) (he _)
theorem vals1 {x : V} {us : List Value} (r : Vals [x] us) : ∃ u, us = [u] ∧ RelV x u := by
  cases r with
  | cons r1 r2 => cases r2; exact ⟨_, rfl, r1⟩
theorem call_abs : CallR X (.builtin "abs") (fun xs H Q => ∃ i, xs = [.int i] ∧ Q (.int (if i < 0 then -i else i)) H) := by
  intro pins s σ H xs us Q I r h
  obtain ⟨i, rfl, q⟩ := h
  obtain ⟨u, rfl, t, rfl⟩ := vals1 r
  exact call_abs_int fun u tk => ⟨.int (if i < 0 then -i else i), H, I.tok _, ⟨_, rfl⟩, q⟩
end
end L2
namespace L2
open PySem PySem.Spec PyProof.Rows
structure ObjM (h : Heap) (x dx C : Addr) (mA : Str → Option Value) : Prop where
  obj : h.get? x = some (PySem.W.instObj C dx)
  ns : h.Ns1 dx mA
  ne : dx ≠ x
theorem lookIn_ns {h : Heap} {dx : Addr} {mA : Str → Option Value} (n : h.Ns1 dx mA) : ∃ od, h.get? dx = some od ∧ ∀ name, PySem.W.lookIn name od = some (mA name) := by
  obtain ⟨o, es, ep, ho, hd, hk, _, hm⟩ := n
  refine ⟨o, ho, fun name => ?_⟩
  have e := hm name
  unfold nsFind findBy at e
  rw [← Array.find?_toList] at e
  unfold PySem.W.lookIn
  rw [hd]
  dsimp only
  split
  · rename_i y q
    rw [q] at e
    exact congrArg some e
  · rename_i q
    rw [q] at e
    have a : es.toList.any (·.refKey) = false := by
      rw [List.any_eq_false]
      intro y hy
      obtain ⟨z, t, hkey⟩ := hk y (Array.mem_toList_iff.mp hy)
      simp [DictEntry.refKey, hkey]
    have a' : ¬ es.toList.any (·.refKey) = true := by rw [a]; exact Bool.false_ne_true
    rw [if_neg a']
    exact congrArg some e
theorem ObjM.look {h : Heap} {x dx C : Addr} {mA : Str → Option Value} (I : ObjM h x dx C mA) : ∃ od, PySem.W.InstAt h x (PySem.W.instObj C dx) C (some od) ∧ ∀ name, PySem.W.lookIn name od = some (mA name) :=
  let ⟨od, ho, hl⟩ := lookIn_ns I.ns
  ⟨od, ⟨I.obj, rfl, rfl, ho⟩, hl⟩
section
variable {prog : Program} {w : World} {A : Around} {E : Value → Shared → Prop} {s : Shared} {K : PySem.W.Frag} {x dx C f : Addr} {mA : Str → Option Value} {name : Str} {v : Value}
theorem get_map {expr : Bool} {Q : Value → Shared → Prop} (X : K.In s.heap) (I : ObjM s.heap x dx C mA) (hg : PySem.W.plainGet K C name = true) (hh : PySem.W.hasDictIn K C = true)
    (ha : PySem.W.findIn K (.ref C) name = some none) (hv : mA name = some v) (hv' : PySem.W.handedIn v = true) (h : Q v { s with toks := s.toks + 1 }) :
    wpAny (model prog w) A (getAttr (.ref x) name expr) Q E s := by
  obtain ⟨od, J, hl⟩ := I.look
  exact PySem.W.get_value X J (PySem.W.plainGet_of hg).1 (PySem.W.findObj_own hh ha rfl (by rw [hl, hv])) hv' h
theorem get_meth {pl : Sem Bool} {Q : Value × List Value → Shared → Prop} (X : K.In s.heap) (I : ObjM s.heap x dx C mA) (hg : PySem.W.plainGet K C name = true)
    (hf : PySem.W.findIn K (.ref C) name = some (some (.ref f))) (ht : PySem.W.isFn K (.ref f) = true) (hv : mA name = none) (h : Q (.ref f, [.ref x]) s) :
    wpAny (model prog w) A (getMethod (.ref x) name pl) Q E s := by
  obtain ⟨od, J, hl⟩ := I.look
  exact PySem.W.method_fn X J (PySem.W.plainGet_of hg).1 (PySem.W.plainGet_of hg).2 hf (beq_iff_eq.mp ht) (by show (PySem.W.lookIn name od).map (·.isSome) = some false; rw [hl, hv]; rfl) h
theorem set_map {ns : List Str} {Q : Unit → Shared → Prop} (X : K.In s.heap) (I : ObjM s.heap x dx C mA)
    (hs : PySem.W.findIn K (.ref C) "__setattr__" = some (some (.builtin "object.__setattr__"))) (hp : PySem.W.plainOver K C = true) (ht : PySem.W.takerIn K C name = some none) (hh : PySem.W.hasDictIn K C = true)
    (hw : PySem.Within mA ns) (hsz : ns.length ≤ sizeLine)
    (h : ∀ h', ObjM h' x dx C (fun y => if y = name then some v else mA y) → Heap.SameBut dx s.heap h' → Q () { s with heap := h', toks := s.toks + 2 }) :
    wpAny (model prog w) A (setAttr (.ref x) name v) Q E s := by
  obtain ⟨od, J, hl⟩ := I.look
  refine PySem.W.set_plain X J hs (PySem.W.osa_open (s := { s with toks := s.toks + 1 }) (r := none) X J hp ht fun b => ?_)
  obtain ⟨cd, hc, hd'⟩ := PySem.W.any_some hh
  have hx : s.heap.get? x = some ⟨.ref C, some dx, .plain, #[]⟩ := I.obj
  refine wpAny_bind (wpAny_pure (wpAny_bind (wpAny_bind (wpAny_loadPart hx (wpAny_bind (PySem.W.Looks.here (s := { s with toks := s.toks + 1 }) (PySem.W.looks_clsIn X hc) ?_))))))
  rw [hd']
  refine wpAny_pure (a := some dx) (wpAny_bind (wpAny_pure (wpAny_bind ?_)))
  refine wpAny_nsSet1 (s := { s with toks := s.toks + 1 }) I.ns fun h' hn2 hs2 => ?_
  obtain ⟨oD, esD, epD, hoD, hdD, hcD⟩ := hn2.count (PySem.Within.cons name v hw)
  refine wpAny_bind (wpAny_lookBehind hoD (by rw [hdD]; exact pastItsLine_dict (Nat.le_trans hcD (by rw [List.length_cons]; omega))) ?_)
  exact wpAny_pure (h _ ⟨(hs2.2 _ (Ne.symm I.ne)).trans I.obj, hn2, I.ne⟩ hs2)
theorem make_map {R : Result → Shared → Prop} {vs : List Value} {kw : List (Str × Value)} (X : K.In s.heap) (hm : PySem.W.makesIn K C = true)
    (hi : PySem.W.findIn K (.ref C) "__init__" = some (some (.ref f))) (hf : PySem.W.typeIn K (.ref f) = some (.type "function"))
    (h : codeAny (model prog w) (A.under (.builtin "type.__call__" ⟨.ref C :: vs, kw⟩)) (.call (.ref f) ⟨.ref (s.heap.objs.size + 1) :: vs, kw⟩) (PySem.W.InitBack (s.heap.objs.size + 1) R)
      { s with heap := (s.heap.push PySem.W.emptyDict).push (PySem.W.instObj C s.heap.objs.size) }) :
    codeAny (model prog w) A (.call (.ref C) ⟨vs, kw⟩) R s := by
  obtain ⟨hh, g, d, t, os⟩ := s
  exact PySem.W.make_core (PySem.W.makes_of X hm) (PySem.W.looks_findIn X hi) (fun self => PySem.W.bind_fn X self hf) (.inl rfl) h
end
def putF (f : Str) (v : V) : List (Str × V) → List (Str × V)
  | [] => [(f, v)]
  | (g, x) :: r => if g = f then (g, v) :: r else (g, x) :: putF f v r
theorem lookup_putF (f g : Str) (v : V) : ∀ fs : List (Str × V), (putF f v fs).lookup g = if g = f then some v else fs.lookup g
  | [] => by
    show List.lookup g [(f, v)] = _
    by_cases h : g = f
    · have hb : (g == f) = true := beq_iff_eq.mpr h
      simp only [List.lookup, hb, if_pos h]
    · have hb : (g == f) = false := beq_eq_false_iff_ne.mpr h
      simp only [List.lookup, hb, if_neg h]
  | (k, x) :: r => by
    have ih := lookup_putF f g v r
    rw [show putF f v ((k, x) :: r) = (if k = f then (k, v) :: r else (k, x) :: putF f v r) from rfl]
    by_cases hk : k = f
    · rw [if_pos hk]
      by_cases h : g = k
      · have hb : (g == k) = true := beq_iff_eq.mpr h
        simp only [List.lookup, hb, if_pos (h.trans hk)]
      · have hb : (g == k) = false := beq_eq_false_iff_ne.mpr h
        simp only [List.lookup, hb, if_neg (fun e : g = f => h (e.trans hk.symm))]
    · rw [if_neg hk]
      by_cases h : g = k
      · have hb : (g == k) = true := beq_iff_eq.mpr h
        simp only [List.lookup, hb, if_neg (fun e : g = f => hk (h.symm.trans e))]
      · have hb : (g == k) = false := beq_eq_false_iff_ne.mpr h
        simp only [List.lookup, hb]
        exact ih
theorem keys_putF (f : Str) (v : V) : ∀ fs : List (Str × V), f ∈ (putF f v fs).map (·.1) ∧ ∀ g, g ∈ fs.map (·.1) → g ∈ (putF f v fs).map (·.1)
  | [] => ⟨by simp [putF], fun g h => by simp at h⟩
  | (k, x) :: r => by
    obtain ⟨i1, i2⟩ := keys_putF f v r
    rw [show putF f v ((k, x) :: r) = (if k = f then (k, v) :: r else (k, x) :: putF f v r) from rfl]
    by_cases hk : k = f
    · rw [if_pos hk]
      subst hk
      exact ⟨by simp, fun g h => by simpa using h⟩
    · rw [if_neg hk]
      refine ⟨?_, fun g h => ?_⟩
      · rw [List.map_cons]
        exact List.mem_cons_of_mem _ i1
      · rw [List.map_cons] at h ⊢
        rcases List.mem_cons.mp h with e | e
        · exact List.mem_cons.mpr (.inl e)
        · exact List.mem_cons_of_mem _ (i2 g e)
theorem length_putF (f : Str) (v : V) : ∀ fs : List (Str × V), (putF f v fs).length ≤ fs.length + 1
  | [] => by simp [putF]
  | (k, x) :: r => by
    have ih := length_putF f v r
    rw [show putF f v ((k, x) :: r) = (if k = f then (k, v) :: r else (k, x) :: putF f v r) from rfl]
    by_cases hk : k = f
    · rw [if_pos hk, List.length_cons, List.length_cons]; omega
    · rw [if_neg hk, List.length_cons, List.length_cons]; omega
theorem RelO.some_of {v : V} {o : Option Value} (r : RelO (some v) o) : ∃ u, o = some u ∧ RelV v u := by
  cases o with
  | none => exact (show False from r).elim
  | some u => exact ⟨u, rfl, r⟩
theorem RelO.none_of {o : Option Value} (r : RelO none o) : o = none := by
  cases o with
  | none => rfl
  | some u => exact (show False from r).elim
theorem handed_of {v : V} {u : Value} (r : RelV v u) : PySem.W.handedIn u = true := by
  cases v with
  | non => cases (show u = Value.none from r); rfl
  | bl b => cases (show u = Value.bool b from r); rfl
  | int i => obtain ⟨t, e⟩ := (show ∃ t, u = Value.int i t from r); cases e; rfl
  | str x => obtain ⟨t, e⟩ := (show ∃ t, u = Value.str x t from r); cases e; rfl
  | byt b => obtain ⟨t, e⟩ := (show ∃ t, u = Value.bytes b t from r); cases e; rfl
  | flt b => obtain ⟨t, e⟩ := (show ∃ t, u = Value.float b t from r); cases e; rfl
  | ref a => cases (show u = Value.ref a from r); rfl
  | ty n => cases (show u = Value.type n from r); rfl
section
variable {P : Program} {w : World} {H H' : Hp} {h h' : Heap} {a C dx : Addr} {fs fs' : List (Str × V)}
theorem ins_get (hok : HOk P w H h) (e : H a = some (.ins C dx fs)) : ∃ mA, ObjM h a dx C mA ∧ (∀ f, RelO (fs.lookup f) (mA f)) ∧ PySem.Within mA (fs.map (·.1)) ∧ fs.length ≤ 1000 ∧ H dx = some (.own a) := by
  obtain ⟨d, z, ne, ob, mA, n, r, q⟩ := (show ObjOk P w H h a (.ins C dx fs) from hok a _ e)
  exact ⟨mA, ⟨ob, n, ne⟩, r, q, z, d⟩
end
structure Cls (K : PySem.W.Frag) (C : Addr) : Prop where
  pg : PySem.W.plainGet K C Str.empty = true
  hd : PySem.W.hasDictIn K C = true
  po : PySem.W.plainOver K C = true
  sa : PySem.W.findIn K (.ref C) "__setattr__" = some (some (.builtin "object.__setattr__"))
theorem Cls.get {K : PySem.W.Frag} {C : Addr} (c : Cls K C) (f : Str) : PySem.W.plainGet K C f = true := c.pg
def NoAttr (K : PySem.W.Frag) (C : Addr) (f : Str) : Prop := PySem.W.findIn K (.ref C) f = some none
theorem NoAttr.taker {K : PySem.W.Frag} {C : Addr} {f : Str} (n : NoAttr K C f) : PySem.W.takerIn K C f = some none := by
  unfold PySem.W.takerIn
  rw [show PySem.W.findIn K (.ref C) f = some none from n]
  rfl
structure Meth (K : PySem.W.Frag) (C : Addr) (m : Str) (f : Addr) : Prop where
  at_ : PySem.W.findIn K (.ref C) m = some (some (.ref f))
  fn : PySem.W.isFn K (.ref f) = true
  kp : PySem.W.keepIn K (.ref f) = true
section
variable {X : Cx} {pins : List (Addr × Obj)} {σ : St} {H : Hp} {s : Shared} {a C dx : Addr} {fs : List (Str × V)} {f : Str} {v : V} {A : Around} {E : Value → Shared → Prop}
theorem getattr_ok {b : Bool} {Q : Value → Shared → Prop} (I : Inv X pins σ H s) (e : H a = some (.ins C dx fs)) (c : Cls X.K C) (n : NoAttr X.K C f) (l : fs.lookup f = some v)
    (h : ∀ u s', Inv X pins σ H s' → RelV v u → Q u s') : wpAny (model X.prog X.w) A (getAttr (.ref a) f b) Q E s := by
  obtain ⟨mA, O, r, _, _, _⟩ := ins_get I.hok e
  obtain ⟨u, hu, ru⟩ := RelO.some_of (v := v) (o := mA f) (by rw [← l]; exact r f)
  exact get_map I.kIn O (c.get f) c.hd n hu (handed_of ru) (h u _ (I.tok _) ru)
theorem getmeth_ok {m : Str} {g : Addr} {pl : Sem Bool} {Q : Value × List Value → Shared → Prop} (I : Inv X pins σ H s) (e : H a = some (.ins C dx fs)) (c : Cls X.K C) (k : Meth X.K C m g) (l : fs.lookup m = none)
    (h : Q (.ref g, [.ref a]) s) : wpAny (model X.prog X.w) A (getMethod (.ref a) m pl) Q E s := by
  obtain ⟨mA, O, r, _, _, _⟩ := ins_get I.hok e
  have hn : mA m = none := RelO.none_of (by rw [← l]; exact r m)
  exact get_meth I.kIn O (c.get m) k.at_ k.fn hn h
theorem setattr_ok {y : V} {u : Value} {Q : Unit → Shared → Prop} (I : Inv X pins σ H s) (e : H a = some (.ins C dx fs)) (c : Cls X.K C) (n : NoAttr X.K C f) (hl : fs.length < 1000) (ry : RelV y u)
    (h : ∀ s', Inv X pins σ (upd H a (.ins C dx (putF f y fs))) s' → Q () s') : wpAny (model X.prog X.w) A (setAttr (.ref a) f u) Q E s := by
  obtain ⟨mA, O, r, wi, _, ho⟩ := ins_get I.hok e
  have hz : (fs.map (·.1)).length ≤ sizeLine := by rw [List.length_map, sizeLine_eq]; omega
  refine set_map I.kIn O c.sa c.po n.taker c.hd wi hz fun h' O' sb => h _ ?_
  have hd : ∃ o, h'.get? dx = some o := let ⟨o, _, _, e', _⟩ := O'.ns; ⟨o, e'⟩
  refine I.write (x := a) (e := dx) (by rw [e]; exact True.intro) (.inr ho) (fun b q hb z => (sb.2 b hb).trans z) hd ?_
  refine ⟨by rw [upd_ne O.ne]; exact ho, ?_, O.ne, O'.obj, _, O'.ns, fun g => ?_, fun g hg => ?_⟩
  · have := length_putF f y fs; omega
  · show RelO ((putF f y fs).lookup g) (if g = f then some u else mA g)
    rw [lookup_putF]
    by_cases q : g = f
    · rw [if_pos q, if_pos q]; exact ry
    · rw [if_neg q, if_neg q]; exact r g
  · by_cases q : g = f
    · rw [q]; exact (keys_putF f y fs).1
    · refine (keys_putF f y fs).2 g (wi g fun z => hg ?_)
      show (if g = f then some u else mA g) = none
      rw [if_neg q]; exact z
theorem Inv.made (I : Inv X pins σ H s) : Inv X pins σ (upd (upd H s.heap.objs.size (.own (s.heap.objs.size + 1))) (s.heap.objs.size + 1) (.ins C s.heap.objs.size []))
    { s with heap := (s.heap.push PySem.W.emptyDict).push (PySem.W.instObj C s.heap.objs.size) } := by
  have e1 : (s.heap.push PySem.W.emptyDict).get? s.heap.objs.size = some PySem.W.emptyDict := Heap.get?_push_size s.heap rfl
  have e2 : ((s.heap.push PySem.W.emptyDict).push (PySem.W.instObj C s.heap.objs.size)).get? (s.heap.objs.size + 1) = some (PySem.W.instObj C s.heap.objs.size) := by
    have := Heap.get?_push_size (s.heap.push PySem.W.emptyDict) (o := PySem.W.instObj C s.heap.objs.size) rfl
    rwa [Heap.size_push] at this
  have e3 : (s.heap.push PySem.W.emptyDict).Ns s.heap.objs.size (fun _ => none) := ⟨PySem.W.emptyDict, #[], _, e1, rfl, (fun e he => absurd he (by simp)), fun _ => rfl⟩
  have I1 := I.laid (a := s.heap.objs.size) (o := .own (s.heap.objs.size + 1)) (h' := s.heap.push PySem.W.emptyDict) (t' := s.toks) (fun b u q => Heap.get?_push_of_some _ q) (Nat.le_refl _) ⟨_, e1⟩
  refine I1.laid (a := s.heap.objs.size + 1) (o := .ins C s.heap.objs.size []) (t' := s.toks) (fun b u q => Heap.get?_push_of_some _ q) (Nat.le_of_eq (Heap.size_push _ _)) ?_
  have ne : s.heap.objs.size ≠ s.heap.objs.size + 1 := Nat.ne_of_lt (Nat.lt_succ_self _)
  refine ⟨by rw [upd_ne ne, upd_same], Nat.zero_le _, ne, e2, fun _ => none, (Heap.Ns1.of_empty e3).at fun o q => Heap.get?_push_of_some _ q, fun _ => True.intro, fun y hy => absurd rfl hy⟩
theorem attr_of {prog : Program} {w : World} {env : Env} {e : Expr} {f : Str} {pos : Pos} {s : Shared} {Q : Value → Shared → Prop} (hb : attributeBase e f env (eval e env) = eval e env)
    (h : wpAny (model prog w) A (eval e env) (fun o s₁ => wpAny (model prog w) A (getAttr o f true) Q E s₁) E s) : wpAny (model prog w) A (eval (.Attribute e f pos) env) Q E s :=
  Attribute_any_ h (by rw [arm_eval_Attribute, hb])
end
def tFld (K : PySem.W.Frag) (ta : TE) (f : Str) : TE := fun σ H Q => ta σ H fun x H1 => ∃ a C dx fs v, x = .ref a ∧ H1 a = some (.ins C dx fs) ∧ Cls K C ∧ NoAttr K C f ∧ fs.lookup f = some v ∧ Q v H1
def sFld (K : PySem.W.Frag) (ta tv : TE) (f : Str) : TS := fun D σ H => tv σ H fun y H1 => ta σ H1 fun x H2 => ∃ a C dx fs, x = .ref a ∧ H2 a = some (.ins C dx fs) ∧ Cls K C ∧ NoAttr K C f ∧ fs.length < 1000 ∧
  D.nx σ (upd H2 a (.ins C dx (putF f y fs)))
def InOp (X : Cx) (op : Operator) (rd : V → V → Hp → VK → Prop) : Prop :=
  ∀ (pins : List (Addr × Obj)) (s : Shared) (σ : St) (H : Hp) (x y : V) (u v : Value) (Q : VK), Inv X pins σ H s → RelV x u → RelV y v → rd x y H Q → wpAny (model X.prog X.w) X.A (inplaceOp op u v) (EP X pins σ Q) X.xe s
def sFldAug (K : PySem.W.Frag) (ta tv : TE) (rd : V → V → Hp → VK → Prop) (f : Str) : TS := fun D σ H => ta σ H fun x H1 => ∃ a C dx fs v, x = .ref a ∧ H1 a = some (.ins C dx fs) ∧ Cls K C ∧ NoAttr K C f ∧ fs.lookup f = some v ∧
  tv σ H1 fun y H2 => rd v y H2 fun z H3 => ∃ dx' fs', H3 a = some (.ins C dx' fs') ∧ fs'.length < 1000 ∧ D.nx σ (upd H3 a (.ins C dx' (putF f z fs')))
section
variable {X : Cx} {o e value : Expr} {f : Str} {pos pos' tpos : Pos} {ta tv : TE}
theorem pe_fld (he : PE X e ta) (hb : attributeBase e f X.env (eval e X.env) = eval e X.env) : PE X (.Attribute e f pos) (tFld X.K ta f) := by
  intro pins s σ H Q I h
  refine attr_of hb (thn (he pins s σ H _ I h) fun u s1 ⟨x, H1, I1, rx, a, C, dx, fs, v, ex, ea, c, n, l, q⟩ => ?_)
  subst ex
  obtain rfl : u = Value.ref a := rx
  exact getattr_ok I1 ea c n l fun u' s2 I2 ru => ⟨v, H1, I2, ru, q⟩
theorem ps_fld (ha : PE X o ta) (hv : PE X value tv) (hs : swapsWith value (some (.Attribute o f pos')) pos.line X.env = pure false) : PS X (.Assign [.Attribute o f pos'] value pos) (sFld X.K ta tv f) := by
  intro pins s σ H D I h
  refine plainObj_wpAny_Assign_Attribute (thn (hv pins s σ H _ I h) fun u s1 ⟨y, H1, I1, ry, q⟩ => thn (ha pins s1 σ H1 _ I1 q) fun ov s2 ⟨x, H2, I2, rx, a, C, dx, fs, ex, ea, c, n, l, q2⟩ => ?_) hs
  subst ex
  obtain rfl : ov = Value.ref a := rx
  exact setattr_ok I2 ea c n l ry fun s3 I3 => ⟨σ, _, I3, q2⟩
theorem ps_fldaug {op : Operator} {rd : V → V → Hp → VK → Prop} (ha : PE X o ta) (hv : PE X value tv) (hop : InOp X op rd) : PS X (.AugAssign (.Attribute o f tpos) op value pos) (sFldAug X.K ta tv rd f) := by
  intro pins s σ H D I h
  refine wpAny_AugAssign_AttributeAny (thn (ha pins s σ H _ I h) fun ov s1 ⟨x, H1, I1, rx, a, C, dx, fs, v, ex, ea, c, n, l, q⟩ => ?_)
  subst ex
  obtain rfl : ov = Value.ref a := rx
  refine getattr_ok I1 ea c n l fun u s2 I2 ru => thn (hv pins s2 σ H1 _ I2 q) fun w3 s3 ⟨y, H2, I3, ry, q3⟩ => thn (hop pins s3 σ H2 v y u w3 _ I3 ru ry q3) fun w4 s4 ⟨z, H3, I4, rz, dx', fs', ea', l', q4⟩ => ?_
  exact setattr_ok I4 ea' c n l' rz fun s5 I5 => ⟨σ, _, I5, q4⟩
def rAdd : V → V → Hp → VK → Prop := fun x y H Q => ∃ i j, x = .int i ∧ y = .int j ∧ Q (.int (i + j)) H
theorem in_add : InOp X .Add rAdd := by
  rintro pins s σ H x y u v Q I rx ry ⟨i, j, rfl, rfl, q⟩
  obtain ⟨t, rfl⟩ := (show ∃ t, u = Value.int i t from rx)
  obtain ⟨t', rfl⟩ := (show ∃ t', v = Value.int j t' from ry)
  exact PyProof.Rows.iadd_int ⟨.int (i + j), H, I.tok _, ⟨_, rfl⟩, q⟩
end
section
variable {X : Cx} {pins : List (Addr × Obj)} {σ : St} {H : Hp} {s : Shared} {A : Around} {E : Value → Shared → Prop} {Q : Value → Shared → Prop} {c : Value} {b : Bool}
end
end L2
namespace L2
open PySem PySem.Spec PyProof.Rows
structure Room (k : Nat) (A : Around) : Prop where
  hd : A.handled = none
  dp : A.depth + 3 * k + 5 < recursionLimit
  un : A.units + 16 * k + 200 < cLine
theorem Room.mono {j k : Nat} {A : Around} (r : Room k A) (h : j ≤ k) : Room j A := ⟨r.hd, by have := r.dp; omega, by have := r.un; omega⟩
theorem Room.deeper {k : Nat} {A : Around} (r : Room (k + 1) A) (env : Env) : Room k (A.deeper env) :=
  ⟨r.hd, by have := r.dp; show A.depth + 1 + 3 * k + 5 < _; omega, by have := r.un; show A.units + 3 + 16 * k + 200 < _; omega⟩
theorem Room.in1 {k : Nat} {A : Around} (r : Room (k + 1) A) : Room k A.in1 :=
  ⟨r.hd, by have := r.dp; show A.depth + 3 * k + 5 < _; omega, by have := r.un; show A.units + 1 + 16 * k + 200 < _; omega⟩
theorem make_depth {A : Around} {C : Addr} {us : List Value} {kw : List (Str × Value)} : (A.under (.builtin "type.__call__" ⟨.ref C :: us, kw⟩)).depth = A.depth + 1 := by
  first | rfl | simp [Around.under, Code.weight, Code.isCreation, Code.isGuard, Code.isCaller, Code.frames, Code.isFrame, guardIds]
theorem make_units {A : Around} {C : Addr} {us : List Value} {kw : List (Str × Value)} : (A.under (.builtin "type.__call__" ⟨.ref C :: us, kw⟩)).units = A.units + 1 := by
  first | rfl | simp [Around.under, Code.cUnits, Code.frames, Code.isFrame]
theorem Room.make {k : Nat} {A : Around} (r : Room (k + 1) A) (C : Addr) (us : List Value) (kw : List (Str × Value)) : Room k (A.under (.builtin "type.__call__" ⟨.ref C :: us, kw⟩)) :=
  ⟨r.hd, by have := r.dp; rw [make_depth]; omega, by have := r.un; rw [make_units]; omega⟩
theorem Room.depth {k : Nat} {A : Around} (r : Room k A) : A.depth < recursionLimit := by have := r.dp; omega
theorem Room.units {k : Nat} {A : Around} (r : Room k A) : A.units + 64 < cLine := by have := r.un; omega
theorem Room.units0 {k : Nat} {A : Around} (r : Room k A) : A.units < cLine := by have := r.un; omega
def tNil : TA := fun _ H Q => Q [] H
def tCons (ta : TE) (tr : TA) : TA := fun σ H Q => ta σ H fun x H1 => tr σ H1 fun xs H2 => Q (x :: xs) H2
section
variable {X : Cx} {e : Expr} {es : List Expr} {te : TE} {t : TA} {pos : Pos}
theorem pa_nil : PA X [] tNil := fun _ _ _ _ H Q I h => Calls.spliced_nil ⟨[], H, I, .nil, h⟩
theorem pa_cons (ha : PE X e te) (hr : PA X es t) (hs : starEach (e :: es) X.env = (false, eval e X.env) :: starEach es X.env := by rfl) : PA X (e :: es) (tCons te t) := by
  intro pos pins s σ H Q I h
  rw [hs]
  show wpAny _ _ (spliced ((false, eval e X.env) :: backTo pos (starEach es X.env))) _ _ s
  refine Calls.spliced_cons (thn (ha pins s σ H _ I h) fun u s1 ⟨x, H1, I1, r1, q1⟩ => ?_)
  exact thn (hr pos pins s1 σ H1 _ I1 q1) fun us s2 ⟨xs, H2, I2, r2, q2⟩ => ⟨x :: xs, H2, I2, .cons r1 r2, q2⟩
def tTup (t : TA) : TE := fun σ H Q => t σ H fun xs H1 => xs.length ≤ sizeLine ∧ ∀ p, H1 p = none → Q (.ref p) (upd H1 p (.tup xs))
def tLst (t : TA) : TE := fun σ H Q => t σ H fun xs H1 => xs.length ≤ sizeLine ∧ ∀ p, H1 p = none → Q (.ref p) (upd H1 p (.lst xs))
theorem pe_tup {x1} (h : PA X es t) : PE X (.Tuple es x1 pos) (tTup t) := by
  intro pins s σ H Q I hq
  refine wpAny_Tuple_spliced (thn (h pos pins s σ H _ I hq) fun us s1 ⟨xs, H1, I1, r, z, q⟩ => ⟨by rw [← r.length]; exact z, ?_⟩)
  have hf : H1 s1.heap.objs.size = none := I1.hok.fresh (Nat.le_refl _)
  refine ⟨.ref s1.heap.objs.size, upd H1 s1.heap.objs.size (.tup xs), I1.laid (t' := s1.toks) (fun b u e => Heap.get?_push_of_some _ e) (Nat.le_refl _) ?_, rfl, q _ hf⟩
  exact ⟨z, us, r, ⟨_, Heap.get?_push_size _ rfl, rfl, _, rfl⟩⟩
theorem pe_lst (h : PA X es t) : PE X (.List es pos) (tLst t) := by
  intro pins s σ H Q I hq
  refine wpAny_List_spliced (thn (h pos pins s σ H _ I hq) fun us s1 ⟨xs, H1, I1, r, z, q⟩ => ⟨by rw [← r.length]; exact z, ?_⟩)
  have hf : H1 s1.heap.objs.size = none := I1.hok.fresh (Nat.le_refl _)
  refine ⟨.ref s1.heap.objs.size, upd H1 s1.heap.objs.size (.lst xs), I1.laid (t' := s1.toks) (fun b u e => Heap.get?_push_of_some _ e) (Nat.le_refl _) ?_, rfl, q _ hf⟩
  exact ⟨z, us, 0, r, Heap.get?_push_size _ rfl⟩
end
abbrev Sp := List V → Hp → VK → XK → Prop
abbrev CXT := List Env → Hp → Shared → XK → Value → Shared → Prop
structure Env0 (P : Program) (w : World) (K : PySem.W.Frag) (mg : Str → Option Value) (base : Heap) (A : Around) (outer : List Env) (s : Shared) (H : Hp) : Prop where
  frames : A.frames = some outer
  mod : Mod K mg base
  bs : ∀ b o, base.get? b = some o → s.heap.get? b = some o ∧ H b = none
  bsz : base.objs.size ≤ s.heap.objs.size
  funs : s.heap.FunFrames base outer
  frf : ∀ b ∈ frs outer, H b = none
  hok : HOk P w H s.heap
  bare : AllBare s.gens
def CE (outer : List Env) (P : Program) (w : World) (H : Hp) (s : Shared) (Q : VK) (u : Value) (s' : Shared) : Prop :=
  ∃ v H', s'.os = s.os ∧ AllBare s'.gens ∧ Un (frs outer) [] H H' s.heap s'.heap ∧ HOk P w H' s'.heap ∧ RelV v u ∧ Q v H'
def CR (CX : CXT) (outer : List Env) (P : Program) (w : World) (H : Hp) (s : Shared) (Q : VK) (E : XK) (r : Result) (s' : Shared) : Prop :=
  match r with
  | .ok (.ret u) => CE outer P w H s Q u s'
  | .ok _ => False
  | .error e => CX outer H s E e s'
structure FnOk (P : Program) (w : World) (K : PySem.W.Frag) (mg : Str → Option Value) (base : Heap) (CX : CXT) (k : Nat) (f : Addr) (fd : FuncData) (ps : List Str) (sp : Sp) : Prop where
  len : ∀ vs H Q E, sp vs H Q E → vs.length = ps.length
  run : ∀ (A : Around) (outer : List Env) (s : Shared) (H : Hp) (args : Args) (us : List Value) (vs : List V) (Q : VK) (E : XK), Room k A → Env0 P w K mg base A outer s H → BindsTo s fd args (ps.zip us) → Vals vs us → sp vs H Q E →
    codeAny (model P w) A (.call (.ref f) args) (CR CX outer P w H s Q E) s
theorem Env0.make {P : Program} {w : World} {K : PySem.W.Frag} {mg : Str → Option Value} {base : Heap} {A : Around} {outer : List Env} {s : Shared} {H : Hp} (e : Env0 P w K mg base A outer s H) (C : Addr) (us : List Value) (kw : List (Str × Value)) :
    Env0 P w K mg base (A.under (.builtin "type.__call__" ⟨.ref C :: us, kw⟩)) outer s H := ⟨by first | exact e.frames | (simpa [Around.under, Code.envs, Code.isFrame, pushEnvs] using e.frames), e.mod, e.bs, e.bsz, e.funs, e.frf, e.hok, e.bare⟩
section
variable {X : Cx} {pins : List (Addr × Obj)} {σ : St} {H : Hp} {s s' : Shared}
theorem Inv.env0 (I : Inv X pins σ H s) : Env0 X.prog X.w X.K X.mg X.base X.A X.stack s H :=
  ⟨I.ok.frames, I.ok.mod, I.bs, Nat.le_trans I.ok.bsz I.sz, I.stack, I.stkFree, I.hok, I.bare⟩
theorem Inv.after {Q : VK} {u : Value} (I : Inv X pins σ H s) (h : CE X.stack X.prog X.w H s Q u s') : EP X pins σ Q u s' := by
  obtain ⟨v, H', os, bare, un, hok, r, q⟩ := h
  obtain ⟨hh, g, d, t, os'⟩ := s'
  obtain rfl : os' = s.os := os
  exact ⟨v, H', I.call (h' := hh) (g' := g) (d' := d) (t' := t) (ch := []) un hok bare (fun b z => absurd z (by simp)), r, q⟩
end
def tCall (sp : Sp) (dvs : List V) (E : XK) (t : TA) : TE := fun σ H Q => t σ H fun vs H1 => sp (vs ++ dvs) H1 Q E
def tMeth (C : Addr) (m : Str) (sp : Sp) (dvs : List V) (E : XK) (ta : TE) (t : TA) : TE := fun σ H Q => ta σ H fun x H1 => ∃ a dx fs, x = .ref a ∧ H1 a = some (.ins C dx fs) ∧ fs.lookup m = none ∧
  t σ H1 fun vs H2 => sp (x :: (vs ++ dvs)) H2 Q E
def tMake (C : Addr) (sp : Sp) (dvs : List V) (E : XK) (t : TA) : TE := fun σ H Q => t σ H fun vs H1 => ∀ x dx, H1 x = none → H1 dx = none → dx ≠ x →
  sp (.ref x :: (vs ++ dvs)) (upd (upd H1 dx (.own x)) x (.ins C dx [])) (fun v H2 => v = .non ∧ Q (.ref x) H2) E
def Binds (K : PySem.W.Frag) (fd : FuncData) (ps : List Str) (ds : List Value) : Prop :=
  ∀ (s : Shared) (us : List Value), K.In s.heap → (us ++ ds).length = ps.length → BindsTo s fd ⟨us, []⟩ (ps.zip (us ++ ds))
theorem Binds.all {K : PySem.W.Frag} {fd : FuncData} {ps : List Str} (h : ∀ us : List Value, us.length = ps.length → bindArgs fd ⟨us, []⟩ = pure (ps.zip us)) : Binds K fd ps [] := fun s us _ hl => by
  rw [List.append_nil] at hl ⊢
  exact .of_eq (h us hl)
def Passes (CX : CXT) (X : Cx) (E : XK) : Prop := ∀ (pins : List (Addr × Obj)) (σ : St) (H : Hp) (s : Shared) (e : Value) (s' : Shared), Inv X pins σ H s → CX X.stack H s E e s' → X.xe e s'
section
variable {X : Cx} {CX : CXT} {k : Nat} {f C : Addr} {fd : FuncData} {ps : List Str} {sp : Sp} {dvs : List V} {ds : List Value} {E : XK} {x m : Str} {p pos apos : Pos} {e o : Expr} {es : List Expr} {ta : TE} {t : TA}
theorem run_fn {pins : List (Addr × Obj)} {σ : St} {H : Hp} {s : Shared} {Q : VK} {us : List Value} {vs : List V} (F : FnOk X.prog X.w X.K X.mg X.base CX k f fd ps sp) (hr : Room k X.A) (hb : Binds X.K fd ps ds) (hd : Vals dvs ds) (hx : Passes CX X E)
    (I : Inv X pins σ H s) (r : Vals vs us) (h : sp (vs ++ dvs) H Q E) : wpAny (model X.prog X.w) X.A (call (.ref f) us) (EP X pins σ Q) X.xe s := by
  have r2 : Vals (vs ++ dvs) (us ++ ds) := r.append hd
  have hl : (us ++ ds).length = ps.length := by rw [← r2.length]; exact F.len _ _ _ _ h
  refine wpAny_call (codeAny_mono (F.run X.A X.stack s H ⟨us, []⟩ (us ++ ds) (vs ++ dvs) Q E hr I.env0 (hb s us I.kIn hl) r2 h) fun r s' hq => ?_)
  cases r with
  | error e => exact hx pins σ H s e s' I hq
  | ok fl =>
    cases fl with
    | ret u => exact I.after hq
    | next => exact False.elim hq
    | brk => exact False.elim hq
    | cont => exact False.elim hq
theorem pe_call (F : FnOk X.prog X.w X.K X.mg X.base CX k f fd ps sp) (hr : Room k X.A) (hg : Gl X x) (hm : X.mg x = some (.ref f)) (hk : PySem.W.keepIn X.K (.ref f) = true) (hb : Binds X.K fd ps ds) (hd : Vals dvs ds) (hx : Passes CX X E)
    (ha : PA X (e :: es) t) (hdb : (x == ("__debug__" : Str)) = false := by decide) (he : starEach (e :: es) X.env = (false, eval e X.env) :: starEach es X.env := by rfl) (hpl : (backTo pos (starEach es X.env)).any (·.1) = false := by rfl) :
    PE X (.Call (.Name x p) (e :: es) [] pos) (tCall sp dvs E t) := by
  intro pins s σ H Q I h
  refine wpAny_Call_Name_kw (ld_glob I hg hm ?_ hdb)
  refine PySem.W.callWith_K (h₀ := X.base) I.ok.mod.kin hk (thn (ha pos pins s σ H _ I h) fun us s1 ⟨vs, H1, I1, r, q⟩ => ⟨I1.kIn, ?_⟩) he hpl
  exact run_fn F hr hb hd hx I1 r q
theorem pe_meth {pl : Sem Bool} (he : PE X o ta) (c : Cls X.K C) (hm : Meth X.K C m f) (F : FnOk X.prog X.w X.K X.mg X.base CX k f fd ps sp) (hr : Room k X.A) (hb : Binds X.K fd ps ds) (hd : Vals dvs ds) (hx : Passes CX X E) (ha : PA X (e :: es) t)
    (hst : starEach (e :: es) X.env = (false, eval e X.env) :: starEach es X.env := by rfl) (hpl : (backTo pos (starEach es X.env)).any (·.1) = false := by rfl)
    (ht : eval (.Call (.Attribute o m apos) (e :: es) [] pos) X.env = (do
      let ov ← eval o X.env
      standAt apos.atName
      let (f, first) ← holding [ov] (getMethod ov m pl)
      callWith pos f first (backTo pos (starEach (e :: es) X.env)) (backToKw pos (keywordEach [] X.env))) := by rfl) :
    PE X (.Call (.Attribute o m apos) (e :: es) [] pos) (tMeth C m sp dvs E ta t) := by
  intro pins s σ H Q I h
  refine PySem.W.methodCall_KW (pl := pl) (thn (he pins s σ H _ I h) fun u s1 ⟨x, H1, I1, rx, a, dx, fs, ex, ea, l, q⟩ => ?_) ht
  subst ex
  obtain rfl : u = Value.ref a := rx
  refine getmeth_ok I1 ea c hm l ?_
  refine PySem.W.callWith_K (first := [.ref a]) (h₀ := X.base) I.ok.mod.kin hm.kp (thn (ha pos pins s1 σ H1 _ I1 q) fun us s2 ⟨vs, H2, I2, r, q2⟩ => ⟨I2.kIn, ?_⟩) hst hpl
  exact run_fn (us := .ref a :: us) (vs := .ref a :: vs) F hr hb hd hx I2 (.cons rfl r) q2
theorem pe_meth0 {pl : Sem Bool} (he : PE X o ta) (c : Cls X.K C) (hm : Meth X.K C m f) (F : FnOk X.prog X.w X.K X.mg X.base CX k f fd ps sp) (hr : Room k X.A) (hb : Binds X.K fd ps ds) (hd : Vals dvs ds) (hx : Passes CX X E)
    (ht : eval (.Call (.Attribute o m apos) [] [] pos) X.env = (do
      let ov ← eval o X.env
      standAt apos.atName
      let (f, first) ← holding [ov] (getMethod ov m pl)
      callWith pos f first (backTo pos (starEach [] X.env)) (backToKw pos (keywordEach [] X.env))) := by rfl) :
    PE X (.Call (.Attribute o m apos) [] [] pos) (tMeth C m sp dvs E ta tNil) := by
  intro pins s σ H Q I h
  refine PySem.W.methodCall_KW (pl := pl) (thn (he pins s σ H _ I h) fun u s1 ⟨x, H1, I1, rx, a, dx, fs, ex, ea, l, q⟩ => ?_) ht
  subst ex
  obtain rfl : u = Value.ref a := rx
  refine getmeth_ok I1 ea c hm l ?_
  exact PySem.W.callWith_K0 (first := [.ref a]) I1.kIn hm.kp (run_fn (us := [.ref a]) (vs := [.ref a]) F hr hb hd hx I1 (.cons rfl .nil) q)
structure Mk (K : PySem.W.Frag) (C f : Addr) : Prop where
  makes : PySem.W.makesIn K C = true
  init : PySem.W.findIn K (.ref C) "__init__" = some (some (.ref f))
  fn : PySem.W.isFn K (.ref f) = true
  kp : PySem.W.keepIn K (.ref C) = true
theorem run_make {pins : List (Addr × Obj)} {σ : St} {H : Hp} {s : Shared} {Q : VK} {us : List Value} {vs : List V} (M : Mk X.K C f) (F : FnOk X.prog X.w X.K X.mg X.base CX k f fd ps sp) (hr : Room (k + 1) X.A) (hb : Binds X.K fd ps ds) (hd : Vals dvs ds)
    (hx : Passes CX X E) (I : Inv X pins σ H s) (r : Vals vs us)
    (h : ∀ x dx, H x = none → H dx = none → dx ≠ x → sp (.ref x :: (vs ++ dvs)) (upd (upd H dx (.own x)) x (.ins C dx [])) (fun v H2 => v = .non ∧ Q (.ref x) H2) E) :
    wpAny (model X.prog X.w) X.A (call (.ref C) us) (EP X pins σ Q) X.xe s := by
  have hq := h (s.heap.objs.size + 1) s.heap.objs.size (I.hok.fresh (Nat.le_succ _)) (I.hok.fresh (Nat.le_refl _)) (Nat.ne_of_lt (Nat.lt_succ_self _))
  have I2 := Inv.made (C := C) I
  have r2 : Vals (V.ref (s.heap.objs.size + 1) :: (vs ++ dvs)) (Value.ref (s.heap.objs.size + 1) :: (us ++ ds)) := .cons rfl (r.append hd)
  have hl : (Value.ref (s.heap.objs.size + 1) :: us ++ ds).length = ps.length := by
    have e := r2.length
    rw [F.len _ _ _ _ hq] at e
    exact e.symm
  refine wpAny_call (make_map (f := f) I.kIn M.makes M.init (beq_iff_eq.mp M.fn) (codeAny_mono (F.run _ X.stack _ _ ⟨Value.ref (s.heap.objs.size + 1) :: us, []⟩ (Value.ref (s.heap.objs.size + 1) :: (us ++ ds)) _ _ E (hr.make C us [])
    (I2.env0.make C us []) (hb _ (Value.ref (s.heap.objs.size + 1) :: us) I2.kIn hl) r2 hq) fun r s' hq' => ?_))
  cases r with
  | error e => exact hx pins σ _ _ e s' I2 hq'
  | ok fl =>
    cases fl with
    | ret u =>
      obtain ⟨v, H', I3, rv, ev, q3⟩ := I2.after hq'
      subst ev
      exact ⟨rv, ⟨V.ref (s.heap.objs.size + 1), H', I3, rfl, q3⟩⟩
    | next => exact False.elim hq'
    | brk => exact False.elim hq'
    | cont => exact False.elim hq'
theorem pe_make (M : Mk X.K C f) (F : FnOk X.prog X.w X.K X.mg X.base CX k f fd ps sp) (hr : Room (k + 1) X.A) (hg : Gl X x) (hm : X.mg x = some (.ref C)) (hb : Binds X.K fd ps ds) (hd : Vals dvs ds) (hx : Passes CX X E)
    (ha : PA X (e :: es) t) (hdb : (x == ("__debug__" : Str)) = false := by decide) (he : starEach (e :: es) X.env = (false, eval e X.env) :: starEach es X.env := by rfl) (hpl : (backTo pos (starEach es X.env)).any (·.1) = false := by rfl) :
    PE X (.Call (.Name x p) (e :: es) [] pos) (tMake C sp dvs E t) := by
  intro pins s σ H Q I h
  refine wpAny_Call_Name_kw (ld_glob I hg hm ?_ hdb)
  refine PySem.W.callWith_K (h₀ := X.base) I.ok.mod.kin M.kp (thn (ha pos pins s σ H _ I h) fun us s1 ⟨vs, H1, I1, r, q⟩ => ⟨I1.kIn, ?_⟩) he hpl
  exact run_make M F hr hb hd hx I1 r q
theorem pe_make0 (M : Mk X.K C f) (F : FnOk X.prog X.w X.K X.mg X.base CX k f fd ps sp) (hr : Room (k + 1) X.A) (hg : Gl X x) (hm : X.mg x = some (.ref C)) (hb : Binds X.K fd ps ds) (hd : Vals dvs ds) (hx : Passes CX X E)
    (hdb : (x == ("__debug__" : Str)) = false := by decide) : PE X (.Call (.Name x p) [] [] pos) (tMake C sp dvs E tNil) := by
  intro pins s σ H Q I h
  refine wpAny_Call_Name_kw (ld_glob I hg hm ?_ hdb)
  exact PySem.W.callWith_K0 I.kIn M.kp (run_make (us := []) M F hr hb hd hx I .nil h)
end
section
variable {X : Cx} {CX : CXT} {k : Nat} {f C : Addr} {fd : FuncData} {ps ks : List Str} {sp : Sp} {E : XK} {x m : Str} {p pos apos kpos : Pos} {e o : Expr} {es : List Expr} {kws : List Keyword} {te ta : TE} {t tk : TA} {nm : Option Str}
variable {g : List Value → List Value → List Value} {gV : List V → List V → List V}
end
structure FnScope (N P : List Str) (sc : Scope) : Prop where
  kind : sc.kind = .function
  co : sc.isCoroutine = false
  gen : sc.isGenerator = false
  nd : N.Nodup
  pre : N.take P.length = P
  par : ∀ x ∈ P, sc.names.lookup x = some .local ∨ sc.names.lookup x = some .cell
  nofree : ∀ y ∈ sc.names, y.2 ≠ .free
theorem bindL_out {kindOf : Str → Option NameKind} {x : Str} : ∀ {binds : List (Str × Value)} {m : Str → Option Value}, (∀ v, (x, v) ∉ binds) → bindL kindOf binds m x = m x
  | [], _, _ => rfl
  | (n, v) :: r, m, h => by
    unfold bindL
    rw [bindL_out fun w hw => h w (List.mem_cons_of_mem _ hw)]
    split
    · have : x ≠ n := by rintro rfl; exact h v List.mem_cons_self
      simp [this]
    · rfl
theorem bindC_out {kindOf : Str → Option NameKind} {x : Str} : ∀ {binds : List (Str × Value)} {m : Str → Option Value}, (∀ v, (x, v) ∉ binds) → bindC kindOf binds m x = m x
  | [], _, _ => rfl
  | (n, v) :: r, m, h => by
    unfold bindC
    rw [bindC_out fun w hw => h w (List.mem_cons_of_mem _ hw)]
    split
    · rfl
    · have : x ≠ n := by rintro rfl; exact h v List.mem_cons_self
      simp [this]
theorem bindL_get {kindOf : Str → Option NameKind} {x : Str} {v : Value} : ∀ {P : List Str} {vs : List Value} {i : Nat} {m : Str → Option Value}, P.Nodup → P[i]? = some x → vs[i]? = some v → kindOf x = some .local →
    bindL kindOf (P.zip vs) m x = some v
  | [], _, _, _, _, h, _, _ => by simp at h
  | _ :: _, [], _, _, _, _, h, _ => by simp at h
  | p :: P, w :: vs, 0, m, nd, h1, h2, hk => by
    simp at h1 h2; subst h1; subst h2
    show bindL kindOf ((p, w) :: P.zip vs) m p = _
    unfold bindL
    rw [bindL_out fun v hv => (List.nodup_cons.mp nd).1 (List.of_mem_zip hv).1, if_pos hk]
    simp
  | p :: P, w :: vs, i + 1, m, nd, h1, h2, hk => by
    show bindL kindOf ((p, w) :: P.zip vs) m x = _
    unfold bindL
    exact bindL_get (i := i) (List.nodup_cons.mp nd).2 (by simpa using h1) (by simpa using h2) hk
theorem bindC_get {kindOf : Str → Option NameKind} {x : Str} {v : Value} : ∀ {P : List Str} {vs : List Value} {i : Nat} {m : Str → Option Value}, P.Nodup → P[i]? = some x → vs[i]? = some v → kindOf x ≠ some .local →
    bindC kindOf (P.zip vs) m x = some v
  | [], _, _, _, _, h, _, _ => by simp at h
  | _ :: _, [], _, _, _, _, h, _ => by simp at h
  | p :: P, w :: vs, 0, m, nd, h1, h2, hk => by
    simp at h1 h2; subst h1; subst h2
    show bindC kindOf ((p, w) :: P.zip vs) m p = _
    unfold bindC
    rw [bindC_out fun v hv => (List.nodup_cons.mp nd).1 (List.of_mem_zip hv).1, if_neg hk]
    simp
  | p :: P, w :: vs, i + 1, m, nd, h1, h2, hk => by
    show bindC kindOf ((p, w) :: P.zip vs) m x = _
    unfold bindC
    exact bindC_get (i := i) (List.nodup_cons.mp nd).2 (by simpa using h1) (by simpa using h2) hk
def start (N : List Str) (vs : List V) : St := vs.map some ++ List.replicate (N.length - vs.length) none
def cxOf (CX : CXT) (P : Program) (w : World) (K : PySem.W.Frag) (mg : Str → Option Value) (base : Heap) (N : List Str) (qual : Str) (scope : Scope) (f : Addr) (cd : Value) (A : Around) (outer : List Env) (s : Shared) (H : Hp) (E : XK) : Cx where
  prog := P
  w := w
  K := K
  mg := mg
  base := base
  A := A.deeper (envOfC qual scope s.heap.objs.size f cd)
  N := N
  s_0 := s
  H_0 := H
  env := envOfC qual scope s.heap.objs.size f cd
  outer := outer
  stack := envOfC qual scope s.heap.objs.size f cd :: outer
  ex := []
  calm := true
  fn := fun _ => true
  pn := []
  xe := fun e s' => wpAny (model P w) (A.deeper (envOfC qual scope s.heap.objs.size f cd)) (leaving (envOfC qual scope s.heap.objs.size f cd) e) (fun _ s'' => CX outer H s E e s'') (fun e' s'' => CX outer H s E e' s'') s'
theorem cell_has {sc : Scope} {n : Nat} {x : Str} (h : sc.names.lookup x = some .cell) : ∃ c, (cellsFrom n sc.names []).lookup x = some c := by
  have q := PySem.W.cellsFrom_some sc.names n [] (.inl h)
  exact Option.isSome_iff_exists.mp q
theorem inv_start {CX : CXT} {P : Program} {w : World} {K : PySem.W.Frag} {mg : Str → Option Value} {base : Heap} {N ps : List Str} {qual : Str} {scope : Scope} {f : Addr} {cd : Value} {A : Around} {outer : List Env} {s s1 : Shared} {H : Hp} {E : XK} {us : List Value} {vs : List V}
    (S : FnScope N ps scope) (hd : A.handled = none) (e0 : Env0 P w K mg base A outer s H) (hl : vs.length = ps.length) (r : Vals vs us)
    (x : InCallC s s.heap.objs.size (bindL (envOfC qual scope s.heap.objs.size f cd).kindOf (ps.zip us) fun _ => none) (cellsFrom (s.heap.objs.size + 1) scope.names []) (bindC (envOfC qual scope s.heap.objs.size f cd).kindOf (ps.zip us) fun _ => none) s1) :
    Inv (cxOf CX P w K mg base N qual scope f cd A outer s H E) [] (start N vs) H s1 := by
  have hpl : ps.length ≤ N.length := by have := congrArg List.length S.pre; rw [List.length_take] at this; omega
  obtain ⟨h1, tk, rfl, hk⟩ := x.done
  have noA : ∀ b : Addr, b ∉ (cxOf CX P w K mg base N qual scope f cd A outer s H E).ex := fun b z => absurd (show b ∈ ([] : List Addr) from z) (by simp)
  refine ⟨⟨e0.mod, S.kind, rfl, rfl, Nat.le_refl _, fun y z c h1 h2 => ?_, fun y hy => ?_, fun y c _ h => ?_, fun _ => hd, Around.frames_deeper e0.frames, .inr ⟨rfl, rfl⟩, fun b z => absurd z (noA b), e0.bs, e0.bsz, fun b _ _ => noA b, fun b z => absurd z (noA b), e0.funs, e0.frf⟩,
    rfl, e0.bare, Un.kept hk, ⟨_, x.toInCall.ns, fun i y v h1 h2 h3 => ?_⟩, fun y c h => ⟨_, x.cell y c h⟩, e0.hok.fresh (Nat.le_refl _), fun y c h => ?_, fun p hp => absurd (show p ∈ ([] : List (Addr × Obj)) from hp) (by simp), e0.hok.kept hk, ?_⟩
  · exact name_of_addr x.apart (PySem.mem_of_lookup h1) (PySem.mem_of_lookup h2)
  · have hy : scope.names.lookup y = some .cell ∨ scope.names.lookup y = some .free := hy
    rcases hy with hy | hy
    · exact cell_has hy
    · exact absurd rfl (S.nofree _ (PySem.mem_of_lookup hy))
  · exact Nat.le_of_lt (x.above y c (PySem.mem_of_lookup h))
  · have hi : i < vs.length := by
      unfold start at h2
      by_cases hi : i < vs.length
      · exact hi
      · rw [List.getElem?_append_right (by simpa using hi)] at h2
        rw [List.getElem?_replicate] at h2
        split at h2 <;> cases h2
    have ha : vs[i]? = some v := by
      unfold start at h2
      rw [List.getElem?_append_left (by simpa using hi), List.getElem?_map] at h2
      cases e : vs[i]? with
      | none => rw [e] at h2; cases h2
      | some a => rw [e] at h2; cases h2; rfl
    obtain ⟨u, hu, rv⟩ := r.get ha
    have hp : ps[i]? = some y := by
      rw [← S.pre, List.getElem?_take_of_lt (by omega)]; exact h1
    have ndP : ps.Nodup := by rw [← S.pre]; exact S.nd.sublist (List.take_sublist _ _)
    refine ⟨u, rv, ?_⟩
    rcases S.par y (List.mem_of_getElem? hp) with k | k
    · exact .inl ⟨k, bindL_get ndP hp hu k⟩
    · obtain ⟨c, e⟩ := cell_has (n := s.heap.objs.size + 1) k
      refine .inr ⟨.inl k, c, e, ?_⟩
      have q := x.cell y c e
      rw [bindC_get ndP hp hu (by show scope.names.lookup y ≠ _; rw [k]; decide)] at q
      exact q
  · exact e0.hok.fresh (Nat.le_of_lt (x.above y c (PySem.mem_of_lookup h)))
  · unfold start
    show _ = N.length
    rw [List.length_append, List.length_map, List.length_replicate]
    omega
theorem fn_of {CX : CXT} {P : Program} {w : World} {K : PySem.W.Frag} {mg : Str → Option Value} {base : Heap} {k : Nat} {f : Addr} {name qual : Str} {params : Arguments} {body : List Stmt} {scope : Scope} {dV kV doc pm cdv ct oc : Value} {an od : Option Addr}
    {osl : Array (Option Value)} {N ps : List Str} {sp : Sp} (lk : K.lookup f = some ⟨oc, od, .func (PySem.W.fnOf name qual params body scope dV kV doc pm an cdv ct), osl⟩) (hcd : PySem.W.codeIn K cdv qual = true) (S : FnScope N ps scope)
    (len : ∀ vs H Q E, sp vs H Q E → vs.length = ps.length)
    (hbody : ∀ (A : Around) (outer : List Env) (s : Shared) (H : Hp) (vs : List V) (Q : VK) (E : XK), Room k (A.deeper (envOfC qual scope s.heap.objs.size f cdv)) → sp vs H Q E →
      ∃ t, PSs (cxOf CX P w K mg base N qual scope f cdv A outer s H E) body t ∧ t { nx := fun _ H' => Q .non H', rt := Q } (start N vs) H) :
    FnOk P w K mg base CX (k + 1) f (PySem.W.fnOf name qual params body scope dV kV doc pm an cdv ct) ps sp := by
  refine ⟨len, fun A outer s H args us vs Q E hr e0 hb r hsp => ?_⟩
  have hl := len _ _ _ _ hsp
  have KX : K.In s.heap := e0.mod.kin.keeps fun b o e => (e0.bs b o e).1
  have lim : s.heap.NoLimit := e0.mod.nolimit.keeps fun b o e => (e0.bs b o e).1
  have hkind : ∀ y ∈ ps.zip us, scope.names.lookup y.1 = some .local ∨ (scope.names.lookup y.1 = some .cell ∧ ((cellsFrom (s.heap.objs.size + 1) scope.names []).lookup y.1).isSome = true) := fun ⟨n, v⟩ hy => by
    rcases S.par n (List.of_mem_zip hy).1 with q | q
    · exact .inl q
    · exact .inr ⟨q, PySem.W.cellsFrom_some _ _ _ (.inl q)⟩
  refine codeAny_call_function hr.depth (KX _ _ lk) rfl S.co S.gen rfl (PySem.W.codeRec_of KX hcd) (hb _ _ _ _ ?_)
  refine wpAny_newFunctionEnv_cells S.kind hkind fun env he s1 x => ?_
  subst he
  refine ⟨lim.keeps x.toInCall.keep, codeAny_func ?_⟩
  obtain ⟨t, ht, hq⟩ := hbody A outer s H vs Q E (hr.deeper _) hsp
  have I : Inv (cxOf CX P w K mg base N qual scope f cdv A outer s H E) [] (start N vs) H s1 := inv_start S hr.hd e0 hl r x
  refine wpAny_mono (ht [] s1 (start N vs) H _ I hq) (fun fl s' hs => ?_) fun e s' hs => hs
  have fin : ∀ {σ' : St} {H' : Hp} {v : V} {u : Value}, Inv (cxOf CX P w K mg base N qual scope f cdv A outer s H E) [] σ' H' s' → RelV v u → Q v H' → CE outer P w H s Q u s' :=
    fun {σ' H' v u} J rv q => ⟨v, H', J.os, J.bare, J.base, J.hok, rv, q⟩
  cases fl with
  | ret u =>
    obtain ⟨v, σ', H', J, rv, q⟩ := hs
    exact fin J rv q
  | next =>
    obtain ⟨σ', H', J, q⟩ := hs
    exact fin (v := V.non) (u := Value.none) J rfl q
  | brk =>
    obtain ⟨_, _, _, q⟩ := hs
    exact False.elim q
  | cont =>
    obtain ⟨_, _, _, q⟩ := hs
    exact False.elim q
end L2
namespace L2
open PySem PySem.Spec PyProof.Rows
section
variable {X : Cx} {x : Str} {p pos : Pos} {e : Expr} {es : List Expr} {t : TA} {id T : String} {r : List V → Hp → VK → Prop}
def tCB (r : List V → Hp → VK → Prop) (t : TA) : TE := fun σ H Q => t σ H fun vs H1 => r vs H1 Q
theorem pe_callB (hc : CallR X (.builtin id) r) (hg : Gl X x) (hm : X.mg x = none) (hv : bootBuiltins x = some (.builtin id)) (ha : PA X (e :: es) t) (hn : x ≠ "__name__" := by decide) (hdb : (x == ("__debug__" : Str)) = false := by decide)
    (he : starEach (e :: es) X.env = (false, eval e X.env) :: starEach es X.env := by rfl) (hpl : (backTo pos (starEach es X.env)).any (·.1) = false := by rfl) : PE X (.Call (.Name x p) (e :: es) [] pos) (tCB r t) := by
  intro pins s σ H Q I h
  refine wpAny_Call_Name_kw (ld_blt I hg hm hv ?_ hn hdb)
  exact PyProof.Rows.callWith_builtin1 (thn (ha pos pins s σ H _ I h) fun us s1 ⟨vs, H1, I1, r1, q1⟩ => hc pins s1 σ H1 vs us Q I1 r1 q1) he hpl
theorem pe_callTy (hc : CallR X (.type T) r) (hg : Gl X x) (hm : X.mg x = none) (hv : bootBuiltins x = some (.type T)) (ha : PA X (e :: es) t) (hn : x ≠ "__name__" := by decide) (hdb : (x == ("__debug__" : Str)) = false := by decide)
    (he : starEach (e :: es) X.env = (false, eval e X.env) :: starEach es X.env := by rfl) (hpl : (backTo pos (starEach es X.env)).any (·.1) = false := by rfl) : PE X (.Call (.Name x p) (e :: es) [] pos) (tCB r t) := by
  intro pins s σ H Q I h
  refine wpAny_Call_Name_kw (ld_blt I hg hm hv ?_ hn hdb)
  exact PyProof.Rows.callWith_type1 (thn (ha pos pins s σ H _ I h) fun us s1 ⟨vs, H1, I1, r1, q1⟩ => hc pins s1 σ H1 vs us Q I1 r1 q1) he hpl
end
end L2
namespace HT
open PySem PyProof.Rows
def lexLt : List Int → List Int → Bool
  | [], [] => false
  | [], _ :: _ => true
  | _ :: _, [] => false
  | x :: xs, y :: ys => if x = y then lexLt xs ys else decide (x < y)
theorem lexLt_cons (x y : Int) (xs ys : List Int) : lexLt (x :: xs) (y :: ys) = if x = y then lexLt xs ys else decide (x < y) := rfl
theorem lexLt_nil_nil : lexLt [] [] = false := rfl
theorem lexLt_nil_cons (y : Int) (ys : List Int) : lexLt [] (y :: ys) = true := rfl
theorem lexLt_cons_nil (x : Int) (xs : List Int) : lexLt (x :: xs) [] = false := rfl
theorem eqAt_int (A : Around) (s : Shared) (a : Int) (t : Tok) (c : Int) (u : Tok) : ∃ e, SeqAt.EqAt A s (.int a t) (.int c u) e ∧ (e = true ↔ a = c) :=
  ⟨(a == c), SeqAt.EqAt.int_int a t c u, by simp⟩
theorem rcLt_int (A : Around) (s : Shared) (a : Int) (t : Tok) (c : Int) (u : Tok) (prog : Program) (w : World) (E : Value → Shared → Prop) (Q : Value → Shared → Prop) (h : Q (.bool (decide (a < c))) s) :
    wpAny (model prog w) A (richCompare .Lt (.int a t) (.int c u)) Q E s :=
  (PyProof.Rows.lt_int h : wpAny (model prog w) A (compareOp .Lt (.int a t) (.int c u)) Q E s)
section
open PySem.SeqAt
open PySem.AutoSeq1 (wpAny_loadPart')
open PySem.MeetsSeq PySem.MeetsSeq2 PySem.MeetsSeq3
theorem tuple_lt_ints (l b : Addr) (items items2 : Array Value) (n n2 : Nat) (dd dd2 : Option Addr) (sl sl2 : Array (Option Value)) (ns ms : List Int) (hi : IntsAre items.toList ns) (hj : IntsAre items2.toList ms) :
    Meets (Builtin.«tuple.__lt__» ⟨[.ref l, .ref b], []⟩)
      (fun _ R s => s.heap.get? l = some { cls := .type "tuple", dict := dd, data := .seq items n, slots := sl } ∧ s.heap.get? b = some { cls := .type "tuple", dict := dd2, data := .seq items2 n2, slots := sl2 } ∧
        R (.ok (.ret (.bool (lexLt ns ms)))) s) :=
  .of_wp fun prog w A R s h => by
    obtain ⟨hp, g, d, tk, os⟩ := s; obtain ⟨hl, hb, h⟩ := h
    have f2 := AutoSeq1.sub_tuple_tuple
    have z1 : items.size = ns.length := by rw [← hi.length]; simp
    have z2 : items2.size = ms.length := by rw [← hj.length]; simp
    wp_walk using wpAny_loadPart' hl, wpAny_loadPart' hb, wpAny_forIn_list _ (fun rest b s' => b.1 = none ∧ s' = ⟨hp, g, d, tk, os⟩ ∧ ∃ (vs ws : List Value) (ns' ms' : List Int), rest = vs.zip ws ∧
      IntsAre vs ns' ∧ IntsAre ws ms' ∧ ns'.length + items2.size = ms'.length + items.size ∧ R (.ok (.ret (.bool (lexLt ns' ms')))) ⟨hp, g, d, tk, os⟩) _
    case turn =>
      rintro ⟨y, x⟩ rest b s' ⟨hb', rfl, vs, ws, ns', ms', hz, hvi, hwi, hlen, hR⟩
      cases hvi with
      | nil => rw [List.zip_nil_left] at hz; cases hz
      | cons a t hvi' =>
        cases hwi with
        | nil => rw [List.zip_nil_right] at hz; cases hz
        | cons c u hwi' =>
          rw [List.zip_cons_cons] at hz
          injection hz with hyx hrest
          injection hyx with hy hx
          subst hy hx
          rw [lexLt_cons] at hR
          simp only [List.length_cons] at hlen
          obtain ⟨e, he, hiff⟩ := eqAt_int A.in1 ⟨hp, g, d, tk, os⟩ a t c u
          refine wpAny_bind (he prog w _ _ ?_)
          cases e with
          | true =>
            rw [if_pos (hiff.mp rfl)] at hR
            wp_walk
            exact ⟨rfl, rfl, _, _, _, _, hrest, hvi', hwi', by omega, hR⟩
          | false =>
            rw [if_neg (fun q => absurd (hiff.mpr q) Bool.false_ne_true)] at hR
            have hri := rcLt_int A.in1 ⟨hp, g, d, tk, os⟩ a t c u prog w
            wp_walk using hri
            exact ⟨_, rfl, by simpa using hR⟩
    case fin =>
      rintro ⟨b1, b2⟩ s' ⟨hb', rfl, vs, ws, ns', ms', hz, hvi, hwi, hlen, hR⟩
      simp only at hb'
      subst hb'
      have hv : lexLt ns' ms' = decide (items.size < items2.size) := by
        cases hvi with
        | nil =>
          cases hwi with
          | nil =>
            simp only [List.length_nil] at hlen
            rw [lexLt_nil_nil]
            exact (decide_eq_false (by omega)).symm
          | cons c u hw =>
            simp only [List.length_nil, List.length_cons] at hlen
            rw [lexLt_nil_cons]
            exact (decide_eq_true (by omega)).symm
        | cons a t hv =>
          cases hwi with
          | nil =>
            simp only [List.length_nil, List.length_cons] at hlen
            rw [lexLt_cons_nil]
            exact (decide_eq_false (by omega)).symm
          | cons c u hw =>
            rw [List.zip_cons_cons] at hz
            cases hz
      rw [hv] at hR
      wp_walk
      exact ⟨_, rfl, by simpa [Builtin.Tuple.tupleCompareSizes] using hR⟩
    case h =>
      exact ⟨rfl, rfl, items.toList, items2.toList, ns, ms, rfl, hi, hj, by omega, h⟩
end
section
variable {prog : Program} {w : World} {A : Around} {E : Value → Shared → Prop} {s : Shared}
theorem lt_tupInts {l b : Addr} {items items2 : Array Value} {ns ms : List Int} {Q : Value → Shared → Prop} (hl : IsTup s.heap l items) (hb : IsTup s.heap b items2) (hi : IntsAre items.toList ns) (hj : IntsAre items2.toList ms)
    (hu : A.units < cLine) (h : Q (.bool (lexLt ns ms)) s) : wpAny (model prog w) A (compareOp .Lt (.ref l) (.ref b)) Q E s := by
  obtain ⟨⟨cls, dd, data, sl⟩, ho, hc, n, hd⟩ := id hl
  obtain ⟨⟨cls2, dd2, data2, sl2⟩, ho2, hc2, n2, hd2⟩ := id hb
  simp only at hc hd hc2 hd2
  subst hc hd hc2 hd2
  exact richCompare_meets_room (op := .Lt) ⟨_, ho, rfl⟩ ⟨_, ho2, rfl⟩ PySem.F.slot_tuple_lt PySem.F.entry_tuple_lt (PySem.F.args_tuple_lt_2 _ _) (tuple_lt_ints l b items items2 n n2 dd dd2 sl sl2 ns ms hi hj)
    ⟨ho, ho2, show Value.bool (lexLt ns ms) ≠ Value.notImplemented ∧ Q (.bool (lexLt ns ms)) s from ⟨(fun x => nomatch x), h⟩⟩ hu
def sIx (n d : Nat) : Option Int → Nat
  | none => d
  | some v => if v < 0 then (v + (n : Int)).toNat else min v.toNat n
theorem sIx_nat (n d k : Nat) : sIx n d (some (k : Int)) = min k n := by
  show (if (k : Int) < 0 then ((k : Int) + (n : Int)).toNat else min (k : Int).toNat n) = min k n
  rw [if_neg (by omega), Int.toNat_natCast]
end
end HT
namespace L2
open PySem PySem.Spec PyProof.Rows
abbrev TO := St → Hp → (Option Int → Hp → Prop) → Prop
def PO (X : Cx) (e : Option Expr) (t : TO) : Prop :=
  ∀ (pins : List (Addr × Obj)) (s : Shared) (σ : St) (H : Hp) (Q : Option Int → Hp → Prop), Inv X pins σ H s → t σ H Q →
    wpAny (model X.prog X.w) X.A (evalPart e X.env) (fun u s' => ∃ o H', Inv X pins σ H' s' ∧ IsPart u o ∧ Q o H') X.xe s
def tPart (t : TE) : TO := fun σ H Q => t σ H fun x H1 => ∃ i, x = .int i ∧ Q (some i) H1
section
variable {X : Cx} {e : Expr} {te : TE} {lo hi : Option Expr} {tl th : TO} {pos p2 : Pos}
theorem po_some (h : PE X e te) : PO X (some e) (tPart te) := by
  intro pins s σ H Q I hw
  rw [evalPart_some]
  refine thn (h pins s σ H _ I hw) fun u s1 ⟨x, H1, I1, r1, q1⟩ => ?_
  obtain ⟨i, rfl, q⟩ := q1
  obtain ⟨t, rfl⟩ := r1
  exact ⟨some i, H1, I1, .int i t, q⟩
def SlR (X : Cx) (r : V → Option Int → Option Int → Hp → VK → Prop) : Prop :=
  ∀ (pins : List (Addr × Obj)) (s : Shared) (σ : St) (H : Hp) (x : V) (v vl vu : Value) (lo hi : Option Int) (sl : Addr) (Q : VK), Inv X pins σ H s → RelV x v → s.heap.IsSliceOf sl vl vu .none → IsPart vl lo → IsPart vu hi → r x lo hi H Q →
    ∃ T id, typeLookup (.type T) "__getitem__" = pure (some (.builtin id)) ∧ s.TypeIs v T ∧ wpAny (model X.prog X.w) X.A (getItem v (.ref sl)) (EP X pins σ Q) X.xe s
def tSl (r : V → Option Int → Option Int → Hp → VK → Prop) (te : TE) (tl th : TO) : TE := fun σ H Q => te σ H fun x H1 => tl σ H1 fun l H2 => th σ H2 fun u H3 => r x l u H3 Q
theorem pe_slice {r : V → Option Int → Option Int → Hp → VK → Prop} (hr : SlR X r) (he : PE X e te) (hl : PO X lo tl) (hu : PO X hi th) : PE X (.Subscript e (.Slice lo hi none p2) pos) (tSl r te tl th) := by
  intro pins s σ H Q I h
  refine Subscript_ (thn (he pins s σ H _ I h) fun v s1 ⟨x, H1, I1, r1, q1⟩ => ?_)
  refine wpAny_Slice (thn (hl pins s1 σ H1 _ I1 q1) fun vl s2 ⟨l, H2, I2, pl, q2⟩ => thn (hu pins s2 σ H2 _ I2 q2) fun vu s3 ⟨u, H3, I3, pu, q3⟩ => ?_)
  rw [evalPart_none]
  refine wpAny_pure ?_
  have I4 : Inv X pins σ H3 { s3 with heap := s3.heap.push { cls := .type "slice", data := .fields #[vl, vu, .none] } } := I3.kept (t' := s3.toks) fun b ob q => Heap.get?_push_of_some _ q
  obtain ⟨T, id, hT, ht, hg⟩ := hr pins { s3 with heap := s3.heap.push { cls := .type "slice", data := .fields #[vl, vu, .none] } } σ H3 x v vl vu l u s3.heap.objs.size Q I4 r1 (Heap.IsSliceOf.new ..) pl pu q3
  show wpAny (model X.prog X.w) X.A (subscriptTail e (.Slice lo hi none p2) v (.ref s3.heap.objs.size)) (EP X pins σ Q) X.xe { s3 with heap := s3.heap.push { cls := .type "slice", data := .fields #[vl, vu, .none] } }
  exact tail_any (ops := [.ref s3.heap.objs.size, v]) ht hT hg (by with_unfolding_all rfl)
def cutV (xs : List V) (lo hi : Option Int) : List V := (xs.drop (HT.sIx xs.length 0 lo)).take (HT.sIx xs.length xs.length hi - HT.sIx xs.length 0 lo)
theorem cutV_length (xs : List V) (lo hi : Option Int) : (cutV xs lo hi).length ≤ xs.length := by
  unfold cutV
  rw [List.length_take, List.length_drop]
  omega
end
end L2
namespace L2
open PySem PySem.Spec PyProof.Rows
def ixN (n : Nat) (i : Int) : Option Nat := if 0 ≤ i then (if i < n then some i.toNat else none) else if -(n : Int) ≤ i then some (i + n).toNat else none
def atI {α : Type} (xs : List α) (i : Int) : Option α := (ixN xs.length i).bind fun j => xs[j]?
theorem ixN_seq {n : Nat} {i : Int} {j : Nat} (h : ixN n i = some j) : seqIndex? i n = some j ∧ j < n ∧ -(n : Int) ≤ i ∧ i < n := by
  unfold ixN at h
  by_cases h0 : 0 ≤ i
  · rw [if_pos h0] at h
    by_cases h1 : i < n
    · rw [if_pos h1] at h
      have e : i.toNat = j := Option.some.inj h
      exact ⟨by rw [seqIndex_of h0 h1, e], by omega, by omega, h1⟩
    · rw [if_neg h1] at h; cases h
  · rw [if_neg h0] at h
    by_cases h1 : -(n : Int) ≤ i
    · rw [if_pos h1] at h
      have e : (i + n).toNat = j := Option.some.inj h
      exact ⟨by rw [seqIndex_neg (by omega) h1, e], by omega, h1, by omega⟩
    · rw [if_neg h1] at h; cases h
theorem atI_get {α : Type} {xs : List α} {i : Int} {v : α} (h : atI xs i = some v) : ∃ j, seqIndex? i xs.length = some j ∧ xs[j]? = some v ∧ j < xs.length ∧ -(xs.length : Int) ≤ i ∧ i < xs.length := by
  unfold atI at h
  cases e : ixN xs.length i with
  | none => rw [e] at h; cases h
  | some j =>
    rw [e] at h
    obtain ⟨h1, h2, h3, h4⟩ := ixN_seq e
    exact ⟨j, h1, h, h2, h3, h4⟩
theorem atI_nat {α : Type} {xs : List α} {j : Nat} {v : α} (h : xs[j]? = some v) : atI xs (j : Int) = some v := by
  have hj : j < xs.length := (List.getElem?_eq_some_iff.mp h).1
  have e : ixN xs.length (j : Int) = some j := by
    unfold ixN
    rw [if_pos (by omega), if_pos (by omega)]; simp
  unfold atI; rw [e]; exact h
theorem atI_last {α : Type} (xs : List α) (v : α) : atI (xs ++ [v]) (-1) = some v := by
  have hl : (xs ++ [v]).length = xs.length + 1 := by simp
  have e : ixN (xs ++ [v]).length (-1) = some xs.length := by
    unfold ixN
    rw [hl, if_neg (by decide), if_pos (by omega)]
    congr 1
    omega
  unfold atI
  rw [e]
  show (xs ++ [v])[xs.length]? = some v
  simp
def PlainIx (b : Expr) : Prop := ∀ o i, subscripted b false o i = operate [o, i] (getItem o i)
def IxR (X : Cx) (r : R2) : Prop :=
  ∀ (value slice : Expr) (pins : List (Addr × Obj)) (s : Shared) (σ : St) (H : Hp) (x y : V) (v u : Value) (Q : VK), Inv X pins σ H s → RelV x v → RelV y u → r x y H Q →
    subscripted slice false v u = operate [v, u] (getItem v u) → wpAny (model X.prog X.w) X.A (subscriptTail value slice v u) (EP X pins σ Q) X.xe s
def MtR (X : Cx) (id : String) (r : V → List V → Hp → VK → Prop) : Prop :=
  ∀ (pins : List (Addr × Obj)) (s : Shared) (σ : St) (H : Hp) (x : V) (xs : List V) (v : Value) (us : List Value) (Q : VK), Inv X pins σ H s → RelV x v → Vals xs us → r x xs H Q →
    wpAny (model X.prog X.w) X.A (call (.builtin id) (v :: us)) (EP X pins σ Q) X.xe s
section
variable {X : Cx} {a b : Expr} {ta tb : TE} {pos : Pos}
theorem pe_ix {r : R2} (hr : IxR X r) (ha : PE X a ta) (hb : PE X b tb) (hs : PlainIx b) : PE X (.Subscript a b pos) (tOp r ta tb) := by
  intro pins s σ H Q I h
  exact Subscript_ (binT ha hb I h fun v u s2 x y H2 I2 rx ry q => hr a b pins s2 σ H2 x y v u Q I2 rx ry q (hs _ _))
def rIxL (K : PySem.W.Frag) : R2 := fun x y H Q => ∃ p xs i v, x = .ref p ∧ y = .int i ∧ SqL K H p xs ∧ atI xs i = some v ∧ Q v H
def rIxT (K : PySem.W.Frag) : R2 := fun x y H Q => ∃ p xs i v, x = .ref p ∧ y = .int i ∧ SqT K H p xs ∧ atI xs i = some v ∧ Q v H
theorem ix_list : IxR X (rIxL X.K) := by
  intro value slice pins s σ H x y v u Q I rx ry h hs
  obtain ⟨p, xs, i, z, rfl, rfl, hq, he, q⟩ := h
  cases rx
  obtain ⟨t, rfl⟩ := ry
  obtain ⟨its, r, pl, hz⟩ := I.list hq
  obtain ⟨j, h1, h2, h3, h4, h5⟩ := atI_get he
  obtain ⟨w, ew, rw'⟩ := r.get h2
  have hl := r.length
  have hn := line63
  have fin : EP X pins σ Q w s := ⟨z, H, I, rw', q⟩
  by_cases h0 : 0 ≤ i
  · have hj : i.toNat = j := by
      rw [seqIndex_of h0 h5] at h1
      exact Option.some.inj h1
    exact item_listR pl.isList h0 (by omega) (by rw [hj]; simpa using ew) fin hs
  · have hj : (i + (its.toArray.size : Int)).toNat = j := by
      rw [seqIndex_neg (by omega) h4] at h1
      rw [List.size_toArray, ← hl]
      exact Option.some.inj h1
    exact subscriptTail_builtinR (x := w) pl.isList.typeIs slot_list_getitem.lookup
      (wpAny_getItem_list_neg (Q := fun r s' => r = w ∧ EP X pins σ Q r s') pl.isList (by omega) (by rw [List.size_toArray] <;> omega) (by omega) (by rw [hj]; simpa using ew) ⟨rfl, fin⟩) hs
theorem ix_tup : IxR X (rIxT X.K) := by
  intro value slice pins s σ H x y v u Q I rx ry h hs
  obtain ⟨p, xs, i, z, rfl, rfl, hq, he, q⟩ := h
  cases rx
  obtain ⟨t, rfl⟩ := ry
  obtain ⟨its, r, pl, hz⟩ := I.tuple hq
  obtain ⟨j, h1, h2, h3, h4, h5⟩ := atI_get he
  obtain ⟨w, ew, rw'⟩ := r.get h2
  have hl := r.length
  have hn := line63
  have fin : EP X pins σ Q w s := ⟨z, H, I, rw', q⟩
  exact subscriptTail_builtinR (x := w) pl.typeIs slot_tuple_getitem.lookup
    (getItem_tuple (j := j) (Q := fun r s' => r = w ∧ EP X pins σ Q r s') pl (by omega) (by omega) (by rw [List.size_toArray, ← hl]; exact h1) (by simpa using ew) ⟨rfl, fin⟩) hs
theorem slice_bounds (lo hi : Option Int) (n : Nat) : (sliceBounds lo hi none n).1 = ((HT.sIx n 0 lo : Nat) : Int) ∧ (sliceBounds lo hi none n).2.1 = ((HT.sIx n n hi : Nat) : Int) ∧ (sliceBounds lo hi none n).2.2 = 1 := by
  refine ⟨?_, ?_, rfl⟩
  · cases lo with
    | none => simp [sliceBounds, HT.sIx]
    | some i =>
      simp only [sliceBounds, HT.sIx, Option.getD_none, show (1 : Int) > 0 by decide, if_true]
      by_cases h : i < 0
      · simp only [h, if_true] <;> omega
      · simp only [h, if_false] <;> omega
  · cases hi with
    | none => simp [sliceBounds, HT.sIx]
    | some i =>
      simp only [sliceBounds, HT.sIx, Option.getD_none, show (1 : Int) > 0 by decide, if_true]
      by_cases h : i < 0
      · simp only [h, if_true] <;> omega
      · simp only [h, if_false] <;> omega
theorem slicePick_cut (its : List Value) (lo hi : Option Int) : slicePick its.toArray lo hi none = ((its.drop (HT.sIx its.length 0 lo)).take (HT.sIx its.length its.length hi - HT.sIx its.length 0 lo)).toArray := by
  obtain ⟨h1, h2, h3⟩ := slice_bounds lo hi its.toArray.size
  unfold slicePick
  rw [h1, h2, h3]
  simp only [sliceRange_one, pick_run, List.size_toArray] <;> rfl
def rSlL (K : PySem.W.Frag) : V → Option Int → Option Int → Hp → VK → Prop := fun x lo hi H Q => ∃ a xs, x = .ref a ∧ SqL K H a xs ∧ ∀ p, H p = none → Q (.ref p) (upd H p (.lst (cutV xs lo hi)))
theorem sl_list : SlR X (rSlL X.K) := by
  intro pins s σ H x v vl vu lo hi sl Q I rx hs pl pu h
  obtain ⟨a, xs, rfl, hx, q⟩ := h
  cases rx
  obtain ⟨its, r, ht, hz⟩ := I.list hx
  have hlen := r.length
  refine ⟨"list", _, slot_list_getitem.lookup, ht.isList.typeIs, ?_⟩
  refine wpAny_getItem_list_slice ht.isList hs pl pu .none (by simp) ?_ (by rw [List.size_toArray] <;> omega)
  rw [slicePick_cut, ← hlen]
  refine ⟨.ref s.heap.objs.size, _, I.laid (t' := s.toks) (o := .lst (cutV xs lo hi)) (fun b ob q => Heap.get?_push_of_some _ q) (Nat.le_refl _) ?_, rfl, q _ (I.hok.fresh (Nat.le_refl _))⟩
  exact ⟨Nat.le_trans (cutV_length xs lo hi) hz, _, 0, (r.drop (HT.sIx xs.length 0 lo)).take (HT.sIx xs.length xs.length hi - HT.sIx xs.length 0 lo), Heap.get?_push_size _ rfl⟩
def flatV : V → Bool
  | .non => true
  | .bl _ => true
  | .int _ => true
  | .str _ => true
  | _ => false
def eqV : V → V → Bool
  | .non, .non => true
  | .bl a, .bl b => a == b
  | .bl a, .int b => (if a then 1 else 0) == b
  | .int a, .bl b => a == (if b then 1 else 0)
  | .int a, .int b => a == b
  | .str a, .str b => a == b
  | _, _ => false
theorem eqAt_V {A : Around} {s : Shared} {y x : V} {u v : Value} (ry : RelV y u) (rx : RelV x v) (fy : flatV y = true) (fx : flatV x = true) : SeqAt.EqAt A s u v (eqV y x) := by
  cases y with
  | non =>
    cases ry
    cases x with
    | non => cases rx; exact SeqAt.EqAt.same _
    | bl b => cases rx; exact SeqAt.EqAt.none_bool b
    | int b => obtain ⟨t, rfl⟩ := rx; exact SeqAt.EqAt.none_int b t
    | str b => obtain ⟨t, rfl⟩ := rx; exact SeqAt.EqAt.none_str b t
    | _ => exact absurd (show false = true from fx) Bool.false_ne_true
  | bl a =>
    cases ry
    cases x with
    | non => cases rx; exact SeqAt.EqAt.bool_none a
    | bl b => cases rx; exact SeqAt.EqAt.bool_bool a b
    | int b => obtain ⟨t, rfl⟩ := rx; exact SeqAt.EqAt.bool_int a b t
    | str b => obtain ⟨t, rfl⟩ := rx; exact SeqAt.EqAt.bool_str a b t
    | _ => exact absurd (show false = true from fx) Bool.false_ne_true
  | int a =>
    obtain ⟨t', rfl⟩ := ry
    cases x with
    | non => cases rx; exact SeqAt.EqAt.int_none a t'
    | bl b => cases rx; exact SeqAt.EqAt.int_bool a t' b
    | int b => obtain ⟨t, rfl⟩ := rx; exact SeqAt.EqAt.int_int a t' b t
    | str b => obtain ⟨t, rfl⟩ := rx; exact SeqAt.EqAt.int_str a t' b t
    | _ => exact absurd (show false = true from fx) Bool.false_ne_true
  | str a =>
    obtain ⟨t', rfl⟩ := ry
    cases x with
    | non => cases rx; exact SeqAt.EqAt.str_none a t'
    | bl b => cases rx; exact SeqAt.EqAt.str_bool a t' b
    | int b => obtain ⟨t, rfl⟩ := rx; exact SeqAt.EqAt.str_int a t' b t
    | str b => obtain ⟨t, rfl⟩ := rx; exact SeqAt.EqAt.str_str a t' b t
    | _ => exact absurd (show false = true from fx) Bool.false_ne_true
  | _ => exact absurd (show false = true from fy) Bool.false_ne_true
def eqU (x : V) (u : Value) : Bool := match u with
  | .none => eqV .non x
  | .bool b => eqV (.bl b) x
  | .int i _ => eqV (.int i) x
  | .str z _ => eqV (.str z) x
  | _ => false
theorem eqU_of {x y : V} {u : Value} (r : RelV y u) (f : flatV y = true) : eqU x u = eqV y x := by
  cases y with
  | non => cases r; rfl
  | bl b => cases r; rfl
  | int i => obtain ⟨t, rfl⟩ := r; rfl
  | str z => obtain ⟨t, rfl⟩ := r; rfl
  | _ => exact absurd (show false = true from f) Bool.false_ne_true
theorem any_eqU {x : V} : ∀ {xs : List V} {us : List Value}, Vals xs us → xs.all flatV = true → us.any (eqU x) = xs.any fun y => eqV y x
  | _, _, .nil, _ => rfl
  | y :: xs, u :: us, .cons r t, f => by
    rw [List.all_cons, Bool.and_eq_true] at f
    rw [List.any_cons, List.any_cons, eqU_of r f.1, any_eqU t f.2]
theorem mem_eqAt {A : Around} {s : Shared} {x : V} {v : Value} (rx : RelV x v) (fx : flatV x = true) : ∀ {xs : List V} {us : List Value}, Vals xs us → xs.all flatV = true → ∀ u ∈ us, SeqAt.EqAt A s u v (eqU x u)
  | _, _, .nil, _ => fun u hu => by cases hu
  | y :: xs, u :: us, .cons r t, f => fun u' hu => by
    rw [List.all_cons, Bool.and_eq_true] at f
    rcases List.mem_cons.mp hu with rfl | hu
    · rw [eqU_of r f.1]; exact eqAt_V r rx f.1 fx
    · exact mem_eqAt rx fx t f.2 u' hu
def inV (x : V) (xs : List V) : Bool := xs.any fun y => eqV y x
def rIn (K : PySem.W.Frag) (neg : Bool) : R2 := fun x y H Q => ∃ p xs, y = .ref p ∧ (SqL K H p xs ∨ SqT K H p xs) ∧ flatV x = true ∧ xs.all flatV = true ∧ Q (.bl (if neg then !inV x xs else inV x xs)) H
theorem op_in_seq : OpR X (compareOp .In) (rIn X.K false) := by
  intro pins s σ H x y v u Q I rx ry h
  obtain ⟨p, xs, rfl, hq, fx, fs, q⟩ := h
  cases ry
  rcases hq with hq | hq
  · obtain ⟨its, r, pl, hz⟩ := I.list hq
    refine SeqAt.in_listAt (eqU x) pl.isList (fun w hw => mem_eqAt rx fx r fs w (by simpa using hw)) ⟨.bl _, H, I, rfl, ?_⟩
    rw [show its.toArray.any (eqU x) = its.any (eqU x) by simp, any_eqU r fs]
    exact q
  · obtain ⟨its, r, pl, hz⟩ := I.tuple hq
    refine SeqAt.in_tupleAt (eqU x) pl (fun w hw => mem_eqAt rx fx r fs w (by simpa using hw)) ⟨.bl _, H, I, rfl, ?_⟩
    rw [show its.toArray.any (eqU x) = its.any (eqU x) by simp, any_eqU r fs]
    exact q
theorem op_notIn_seq : OpR X (compareOp .NotIn) (rIn X.K true) := by
  intro pins s σ H x y v u Q I rx ry h
  obtain ⟨p, xs, rfl, hq, fx, fs, q⟩ := h
  cases ry
  rcases hq with hq | hq
  · obtain ⟨its, r, pl, hz⟩ := I.list hq
    refine SeqAt.notIn_listAt (eqU x) pl.isList (fun w hw => mem_eqAt rx fx r fs w (by simpa using hw)) ⟨.bl _, H, I, rfl, ?_⟩
    rw [show its.toArray.any (eqU x) = its.any (eqU x) by simp, any_eqU r fs]
    exact q
  · obtain ⟨its, r, pl, hz⟩ := I.tuple hq
    refine SeqAt.notIn_tupleAt (eqU x) pl (fun w hw => mem_eqAt rx fx r fs w (by simpa using hw)) ⟨.bl _, H, I, rfl, ?_⟩
    rw [show its.toArray.any (eqU x) = its.any (eqU x) by simp, any_eqU r fs]
    exact q
theorem call_len_seq : CallR X (.builtin "len") (fun xs H Q => ∃ p ys, xs = [.ref p] ∧ (SqL X.K H p ys ∨ SqT X.K H p ys) ∧ Q (.int ys.length) H) := by
  intro pins s σ H xs us Q I r h
  obtain ⟨p, ys, rfl, hq, q⟩ := h
  obtain ⟨u, rfl, rx⟩ := vals1 r
  cases rx
  have hn := line63
  rcases hq with hq | hq
  · obtain ⟨its, r', pl, hz⟩ := I.list hq
    have hlen := r'.length
    exact Calls.call_len_list pl.isList (by simp only [List.size_toArray] <;> omega) ⟨.int ys.length, H, I.tok _, ⟨s.toks + 1, by rw [List.size_toArray, hlen]⟩, q⟩
  · obtain ⟨its, r', pl, hz⟩ := I.tuple hq
    have hlen := r'.length
    exact len_tuple pl (by simp only [List.size_toArray] <;> omega) ⟨.int ys.length, H, I.tok _, ⟨s.toks + 1, by rw [List.size_toArray, hlen]⟩, q⟩
theorem call_list_of : CallR X (.type "list") (fun xs H Q => ∃ p ys, xs = [.ref p] ∧ (SqL X.K H p ys ∨ SqT X.K H p ys) ∧ ∀ l, H l = none → Q (.ref l) (upd H l (.lst ys))) := by
  intro pins s σ H xs us Q I r h
  obtain ⟨p, ys, rfl, hq, q⟩ := h
  obtain ⟨u, rfl, rx⟩ := vals1 r
  cases rx
  have fin : ∀ (its : List Value), Vals ys its → ys.length ≤ sizeLine → ∀ (h' : Heap) (c' : Nat), (∀ b o', s.heap.get? b = some o' → h'.get? b = some o') →
      h'.get? s.heap.objs.size = some { cls := .type "list", dict := none, data := .seq its.toArray c', slots := #[] } → EP X pins σ Q (.ref s.heap.objs.size) { s with heap := h' } := fun its r' hz h' c' kp e =>
    ⟨.ref s.heap.objs.size, _, I.laid (t' := s.toks) kp (Nat.le_refl _) (show ObjOk X.prog X.w _ h' _ (.lst ys) from ⟨hz, its, c', r', e⟩), rfl, q _ (I.hok.fresh (Nat.le_refl _))⟩
  rcases hq with hq | hq
  · obtain ⟨its, r', pl, hz⟩ := I.list hq
    have hlen := r'.length
    obtain ⟨o, ho, hc, n, hd⟩ := pl.isList
    exact call_list_seq p (.inl rfl) ho hc hd (fun h' c' kp e => fin its r' hz h' c' kp e) (by simp only [List.size_toArray] <;> omega)
  · obtain ⟨its, r', pl, hz⟩ := I.tuple hq
    have hlen := r'.length
    obtain ⟨o, ho, hc, n, hd⟩ := pl
    exact call_list_seq p (.inr rfl) ho hc hd (fun h' c' kp e => fin its r' hz h' c' kp e) (by simp only [List.size_toArray] <;> omega)
def tyV (K : PySem.W.Frag) (T : String) (x : V) (H : Hp) : Prop := match x with
  | .str _ => T = "str"
  | .int _ => T = "int"
  | .ref p => (T = "list" ∧ ∃ xs, SqL K H p xs) ∨ (T = "tuple" ∧ ∃ o, K.lookup p = some o ∧ o.cls = .type "tuple" ∧ o.dict = none) ∨
      (T = "dict" ∧ ((∃ kvs, H p = some (.dK kvs)) ∨ ∃ kvs, H p = some (.dT kvs))) ∨ (T = "set" ∧ ∃ S n, H p = some (.set S n))
  | _ => False
theorem tyV_is {pins : List (Addr × Obj)} {σ : St} {H : Hp} {s : Shared} {T : String} {x : V} {v : Value} (I : Inv X pins σ H s) (r : RelV x v) (ty : tyV X.K T x H) :
    s.TypeIs v T ∧ ∀ a, v = .ref a → ∃ ob, s.heap.get? a = some ob ∧ ob.dict = none := by
  cases x with
  | str z =>
    obtain ⟨t, rfl⟩ := r
    cases (show T = "str" from ty)
    exact ⟨typeIs_str s z t, fun _ e => nomatch e⟩
  | int i =>
    obtain ⟨t, rfl⟩ := r
    cases (show T = "int" from ty)
    exact ⟨typeIs_int s i t, fun _ e => nomatch e⟩
  | ref p =>
    cases r
    rcases ty with ⟨rfl, xs, hq⟩ | ⟨rfl, o, hk, hc, hd⟩ | ⟨rfl, hk⟩ | ⟨rfl, S, n, hk⟩
    · obtain ⟨its, _, pl, _⟩ := I.list hq
      refine ⟨pl.isList.typeIs, fun a e => ?_⟩
      cases e
      obtain ⟨o, n, e, c, hd, _⟩ := pl
      exact ⟨o, e, hd⟩
    · refine ⟨⟨o, I.kIn p o hk, hc⟩, fun a e => ?_⟩
      cases e
      exact ⟨o, I.kIn _ o hk, hd⟩
    · have z : ∃ o, s.heap.get? p = some o ∧ o.ExactDict := by
        rcases hk with ⟨kvs, hk⟩ | ⟨kvs, hk⟩
        · obtain ⟨_, _, _, _, o, _, _, e, ex, _⟩ := I.hok p _ hk
          exact ⟨o, e, ex⟩
        · obtain ⟨_, _, _, _, o, _, _, e, ex, _⟩ := I.hok p _ hk
          exact ⟨o, e, ex⟩
      obtain ⟨o, e, ex⟩ := z
      refine ⟨⟨o, e, ex.1⟩, fun a e2 => ?_⟩
      cases e2
      exact ⟨o, e, ex.2.1⟩
    · obtain ⟨o, _, _, _, e, ex, _⟩ := I.hok p _ hk
      refine ⟨⟨o, e, ex.1⟩, fun a e2 => ?_⟩
      cases e2
      exact ⟨o, e, ex.2.1⟩
  | _ => exact False.elim ty
def tBM (K : PySem.W.Frag) (T : String) (r : V → List V → Hp → VK → Prop) (to : TE) (t : TA) : TE := fun σ H Q => to σ H fun x H1 => tyV K T x H1 ∧ t σ H1 fun xs H2 => r x xs H2 Q
variable {o e : Expr} {es : List Expr} {to : TE} {t : TA} {name : Str} {apos cpos : Pos} {T id : String} {r : V → List V → Hp → VK → Prop}
theorem pe_bm (pa : PlainAttrs T) (slot : Slot T name id) (hty : typeOf (.builtin id) = pure (.type "method_descriptor")) (hm : MtR X id r) (ho : PE X o to) (ha : PA X (e :: es) t)
    (hbase : attributeBase o name X.env (eval o X.env) = eval o X.env := by rfl)
    (hfew : ((backTo cpos (starEach (e :: es) X.env)).all (fun x => !x.1) && (backToKw cpos (keywordEach [] X.env)).all (fun x => x.1.isSome)
      && decide ((e :: es).length + ([] : List Keyword).length + (if ([] : List Keyword).isEmpty then 0 else 1) < 30)) = true := by rfl)
    (hline : (apos.endLine == cpos.line) = true := by rfl) (hs : starEach (e :: es) X.env = (false, eval e X.env) :: starEach es X.env := by rfl) (hplain : (backTo cpos (starEach es X.env)).any (·.1) = false := by rfl) :
    PE X (.Call (.Attribute o name apos) (e :: es) [] cpos) (tBM X.K T r to t) := by
  intro pins s σ H Q I h
  refine wpAny_Call_method_late hbase hfew hline rfl (thn (ho pins s σ H _ I h) fun v s1 ⟨x, H1, I1, r1, ty, q1⟩ => ?_)
  obtain ⟨h1, h2⟩ := tyV_is I1 r1 ty
  refine ⟨T, id, pa, slot, hty, h1, h2, ?_⟩
  have hA := ha cpos pins s1 σ H1 _ I1 q1
  rw [hs] at hA ⊢
  refine Calls.callWith_builtin (by show (false || (backTo cpos (starEach es X.env)).any (·.1)) = false; rw [hplain] <;> rfl) (Calls.evalArgs_plain ?_)
  exact thn hA fun us s2 ⟨vs, H2, I2, r2, q2⟩ => hm pins s2 σ H2 x vs v us Q I2 r1 r2 q2
end
end L2
namespace L2
open PySem PySem.Spec PyProof.Rows
def MtM (X : Cx) (id : String) (r : V → List V → Hp → VK → Prop) : Prop :=
  ∀ (pins : List (Addr × Obj)) (s : Shared) (σ : St) (H : Hp) (x : V) (xs : List V) (v : Value) (us : List Value) (Q : VK), Inv X pins σ H s → RelV x v → Vals xs us → r x xs H Q →
    wpAny (model X.prog X.w) X.A (call (.builtin id) (v :: us)) (EP X pins σ Q) X.xe s
theorem Vals.one : ∀ {x : V} {us : List Value}, Vals [x] us → ∃ u, us = [u] ∧ RelV x u
  | _, _, .cons r .nil => ⟨_, rfl, r⟩
theorem Vals.rep {xs : List V} {us : List Value} (h : Vals xs us) : ∀ k : Nat, Vals (List.replicate k xs).flatten (List.replicate k us).flatten
  | 0 => .nil
  | k + 1 => by
    rw [List.replicate_succ, List.replicate_succ, List.flatten_cons, List.flatten_cons]
    exact Vals.append h (Vals.rep h k)
theorem foldl_rep (its : List Value) : ∀ (k : Nat) (acc : List Value),
    List.foldl (fun x1 x2 => x1 ++ x2) acc.toArray (List.replicate k its.toArray) = (acc ++ (List.replicate k its).flatten).toArray
  | 0, acc => by simp
  | k + 1, acc => by
    have e : acc.toArray ++ its.toArray = (acc ++ its).toArray := by simp
    have e2 : (acc ++ its) ++ (List.replicate k its).flatten = acc ++ (List.replicate (k + 1) its).flatten := by
      rw [List.replicate_succ, List.flatten_cons, List.append_assoc]
    rw [← e2, ← foldl_rep its k (acc ++ its), ← e, List.replicate_succ, List.foldl_cons]
section
variable {X : Cx} {pins : List (Addr × Obj)} {σ : St} {H : Hp} {s : Shared} {l b : Addr} {xs ys zs : List V}
theorem Inv.lset {its its' : List Value} {n : Nat} {f : Array Value → Array Value} {t' : Nat} (I : Inv X pins σ H s) (hH : H l = some (.lst xs))
    (e : s.heap.get? l = some { cls := .type "list", data := .seq its.toArray n }) (hf : f its.toArray = its'.toArray) (hv : Vals ys its') (hz : ys.length ≤ sizeLine) :
    Inv X pins σ (upd H l (.lst ys)) { s with heap := s.heap.update l (Obj.mapSeq f), toks := t' } := by
  have q := PySem.IsL.update e f
  rw [hf] at q
  refine I.write (x := l) (e := l) (by rw [hH]; exact trivial) (.inl rfl) (fun b' u hb hu => (Heap.get?_update_other s.heap (Obj.mapSeq f) (Ne.symm hb)).trans hu) ⟨_, q⟩ ?_
  exact ⟨hz, its', _, hv, q⟩
theorem Inv.lnew {its : List Value} {t' : Nat} (I : Inv X pins σ H s) (hv : Vals ys its) (hz : ys.length ≤ sizeLine) :
    Inv X pins σ (upd H s.heap.objs.size (.lst ys)) { s with heap := s.heap.push { cls := .type "list", data := .seq its.toArray }, toks := t' } :=
  I.laid (fun _ _ q => Heap.get?_push_of_some _ q) (Nat.le_refl _) ⟨hz, its, 0, hv, Heap.get?_push_size _ rfl⟩
theorem Inv.fresh (I : Inv X pins σ H s) : H s.heap.objs.size = none := I.hok.fresh (Nat.le_refl _)
theorem Inv.lstM (I : Inv X pins σ H s) (hH : H l = some (.lst xs)) : xs.length ≤ sizeLine ∧ ∃ (its : List Value) (n : Nat), Vals xs its ∧ xs.length = its.length ∧ s.heap.get? l = some { cls := .type "list", data := .seq its.toArray n } := by
  obtain ⟨z, its, n, r, e⟩ := I.hok l _ hH
  exact ⟨z, its, n, r, r.length, e⟩
theorem notLongL {n : Nat} (h : n ≤ sizeLine) : Builtin.List.listTooLong n = false := by
  unfold Builtin.List.listTooLong
  exact decide_eq_false (by omega)
end
section
variable {X : Cx}
def rAppend : V → List V → Hp → VK → Prop := fun x vs H Q => ∃ l xs y, x = .ref l ∧ vs = [y] ∧ H l = some (.lst xs) ∧ xs.length < sizeLine ∧ Q .non (upd H l (.lst (xs ++ [y])))
theorem mt_append : MtM X "list.append" rAppend := by
  intro pins s σ H x vs v us Q I rx rv h
  obtain ⟨l, xs, y, rfl, rfl, hH, hz, q⟩ := h
  cases rx
  obtain ⟨u, rfl, ru⟩ := rv.one
  obtain ⟨z, its, n, r, hl, e⟩ := I.lstM hH
  refine call_meets F.slot_list_append ⟨_, e, rfl⟩ F.entry_list_append (F.args_list_append_2 _ _) (PySem.list_append l its.toArray n u (by rw [List.size_toArray]; omega)) ⟨e, ?_⟩
  refine ⟨.non, _, I.lset (its' := its ++ [u]) hH e (by simp) (r.append (.cons ru .nil)) ?_, rfl, q⟩
  rw [List.length_append, List.length_singleton]
  omega
def rExtend : V → List V → Hp → VK → Prop := fun x vs H Q => ∃ l b xs zs, x = .ref l ∧ vs = [.ref b] ∧ H l = some (.lst xs) ∧ H b = some (.lst zs) ∧ xs.length + zs.length ≤ sizeLine ∧ Q .non (upd H l (.lst (xs ++ zs)))
theorem mt_extend : MtM X "list.extend" rExtend := by
  intro pins s σ H x vs v us Q I rx rv h
  obtain ⟨l, b, xs, zs, rfl, rfl, hH, hB, hz, q⟩ := h
  cases rx
  obtain ⟨u, rfl, ru⟩ := rv.one
  cases ru
  obtain ⟨z, its, n, r, hl, e⟩ := I.lstM hH
  obtain ⟨z2, its2, n2, r2, hl2, e2⟩ := I.lstM hB
  have hsz : its.toArray.size + its2.toArray.size ≤ sizeLine := by rw [List.size_toArray, List.size_toArray]; omega
  have hlong : ¬ (!its.toArray.isEmpty && Builtin.List.listTooLong (its.toArray.size + its2.toArray.size)) = true := by
    rw [notLongL hsz, Bool.and_false]
    exact Bool.false_ne_true
  refine call_meets F.slot_list_extend ⟨_, e, rfl⟩ F.entry_list_extend (F.args_list_extend_2 _ _)
    (AutoSeq1.list_extend_list_list_0 l its.toArray n b its2.toArray n2 hlong (by rw [List.size_toArray]; omega) (by omega)) ⟨e, e2, ?_⟩
  refine ⟨.non, _, I.lset (its' := its ++ its2) hH e (by simp) (r.append r2) ?_, rfl, q⟩
  rw [List.length_append]
  omega
def rCat : R2 := fun x y H Q => ∃ l b xs zs, x = .ref l ∧ y = .ref b ∧ H l = some (.lst xs) ∧ H b = some (.lst zs) ∧ xs.length + zs.length ≤ sizeLine ∧ ∀ p, H p = none → Q (.ref p) (upd H p (.lst (xs ++ zs)))
theorem op_cat : OpR X (binaryOp .Add) rCat := by
  intro pins s σ H x y v u Q I rx ry h
  obtain ⟨l, b, xs, zs, rfl, rfl, hH, hB, hz, q⟩ := h
  cases rx
  cases ry
  obtain ⟨z, its, n, r, hl, e⟩ := I.lstM hH
  obtain ⟨z2, its2, n2, r2, hl2, e2⟩ := I.lstM hB
  refine PySem.P.add_list e e2 ?_ (by rw [List.size_toArray, List.size_toArray]; omega)
  have ea : its.toArray ++ its2.toArray = (its ++ its2).toArray := by simp
  rw [ea]
  exact ⟨.ref _, _, I.lnew (t' := s.toks) (r.append r2) (by rw [List.length_append]; omega), rfl, q _ I.fresh⟩
def rRep : R2 := fun x y H Q => ∃ l k xs, x = .ref l ∧ y = .int k ∧ H l = some (.lst xs) ∧ -(2 ^ 63) ≤ k ∧ k < 2 ^ 63 ∧ xs.length * k.toNat ≤ sizeLine ∧
  ∀ p, H p = none → Q (.ref p) (upd H p (.lst (List.replicate k.toNat xs).flatten))
theorem len_rep {α : Type} (xs : List α) (k : Nat) : (List.replicate k xs).flatten.length = k * xs.length := by
  induction k with
  | zero => simp
  | succ k ih => rw [List.replicate_succ, List.flatten_cons, List.length_append, ih, Nat.succ_mul, Nat.add_comm]
theorem op_rep : OpR X (binaryOp .Mult) rRep := by
  intro pins s σ H x y v u Q I rx ry h
  obtain ⟨l, k, xs, rfl, rfl, hH, h1, h2, hz, q⟩ := h
  cases rx
  obtain ⟨t, rfl⟩ := ry
  obtain ⟨z, its, n, r, hl, e⟩ := I.lstM hH
  have hlen : its.toArray.size * k.toNat ≤ sizeLine := by rw [List.size_toArray, ← hl]; exact hz
  have hcap : ¬ its.toArray.size * k.toNat > (2 ^ 63 - 1) / 8 := by
    have : (sizeLine : Nat) ≤ (2 ^ 63 - 1) / 8 := by decide
    omega
  have hfit : ¬ (!Builtin.List.listFitsIndex k) = true := by
    rw [fitsIndex_both h1 h2]
    exact Bool.false_ne_true
  have hlong : ¬ Builtin.List.listTooLong (its.toArray.size * k.toNat) = true := by
    rw [notLongL hlen]
    exact Bool.false_ne_true
  have hnew : List.foldl (fun x1 x2 => x1 ++ x2) #[] (List.replicate (if its.toArray.isEmpty = true then 0 else k.toNat) its.toArray) = (List.replicate k.toNat its).flatten.toArray := by
    have f0 : ∀ m : Nat, List.foldl (fun x1 x2 => x1 ++ x2) #[] (List.replicate m its.toArray) = (List.replicate m its).flatten.toArray := fun m => by
      have := foldl_rep its m []
      rw [List.nil_append] at this
      exact this
    rw [f0]
    cases its with
    | nil => simp
    | cons a r' => rw [if_neg (by simp)]
  refine wpAny_binaryOp_repeat_ref (T := "list") (U := "int") (by decide) ⟨_, e, rfl⟩ (fun s' => typeIs_int s' k t) noFill_list_mul F.fills_int_mul F.slot_int_rmul repeat_list F.slot_int_index.lookup
    (call_meets F.slot_int_rmul (typeIs_int s k t) F.entry_int_rmul (F.args_int_rmul_2 _ _) (int___rmul___int_list k t l its.toArray n)
      ⟨e, rfl, ⟨_, e, rfl⟩, call_meets F.slot_list_mul ⟨_, e, rfl⟩ F.entry_list_mul (F.args_list_mul_2 _ _) (AutoListH.list___mul___list_int_3 l its.toArray n k t hfit hcap hlong) ⟨e, ?_⟩⟩)
  rw [hnew]
  exact ⟨.ref _, _, I.lnew (t' := s.toks) (r.rep k.toNat) (by rw [len_rep, Nat.mul_comm]; exact hz), rfl, q _ I.fresh⟩
end
section
variable {prog : Program} {w : World} {A : Around} {E : Value → Shared → Prop} {s : Shared}
end
section
variable {X : Cx}
end
end L2
namespace L2
open PySem PySem.Spec PyProof.Rows
theorem Vals.ints : ∀ {ns : List Int} {us : List Value}, Vals (ns.map V.int) us → IntsAre us ns
  | [], us, h => by
    rw [List.map_nil] at h
    cases h
    exact IntsAre.nil
  | n :: ns, us, h => by
    rw [List.map_cons] at h
    cases h with
    | cons r t =>
      obtain ⟨k, rfl⟩ := r
      exact IntsAre.cons n k (Vals.ints t)
theorem Vals.bls : ∀ {bs : List Bool} {us : List Value}, Vals (bs.map V.bl) us → us = bs.map Value.bool
  | [], us, h => by
    rw [List.map_nil] at h
    cases h
    rfl
  | b :: bs, us, h => by
    rw [List.map_cons] at h
    cases h with
    | cons r t =>
      cases r
      rw [Vals.bls t, List.map_cons]
theorem Vals.ref1 {a : Addr} {us : List Value} (r : Vals [V.ref a] us) : us = [Value.ref a] := by
  cases r with
  | cons r t =>
    cases t
    cases r
    rfl
section
variable {prog : Program} {w : World} {A : Around} {E : Value → Shared → Prop} {s : Shared} {l : Addr} {its : List Value} {ns : List Int} {Q : Value → Shared → Prop}
theorem sum_raw (hh : A.handled = none) (hl : s.heap.IsList l its.toArray) (hi : IntsAre its ns)
    (h : ∀ h' tk t', (∀ b o, s.heap.get? b = some o → h'.get? b = some o) → Q (.int ns.sum t') { s with heap := h', toks := tk }) : wpAny (model prog w) A (call (.builtin "sum") [.ref l]) Q E s := by
  obtain ⟨xs, e⟩ := hi.allInts.items
  have hn : numsOf (intItems xs).toList = ns := by rw [← e]; exact hi.numsOf
  rw [nums_intItems] at hn
  rw [e] at hl
  refine PySem.sum_intListG hh hl fun h' tk t' hk => ?_
  have := h h' tk t' hk
  rw [preSum_eq, List.take_of_length_le (by simp), hn]; exact this
theorem max_raw (hh : A.handled = none) (hl : s.heap.IsList l its.toArray) (hi : IntsAre its ns) (hne : 0 < ns.length)
    (h : ∀ h' tk M t', (∀ b o, s.heap.get? b = some o → h'.get? b = some o) → M ∈ ns → (∀ a, a ∈ ns → a ≤ M) → Q (.int M t') { s with heap := h', toks := tk }) : wpAny (model prog w) A (call (.builtin "max") [.ref l]) Q E s := by
  obtain ⟨xs, e⟩ := hi.allInts.items
  have hn : numsOf (intItems xs).toList = ns := by rw [← e]; exact hi.numsOf
  rw [nums_intItems] at hn
  subst hn
  rw [e] at hl
  have hsz : 0 < xs.size := by simpa using hne
  refine PySem.max_intList hh hl hsz fun v h' tk hv hk => ?_
  obtain ⟨t, rfl⟩ := intItems_at hv
  obtain ⟨h1, h2⟩ := argBest_gt (numAt xs) (xs.size - 1)
  refine h h' tk _ t hk ?_ fun a ha => ?_
  · rw [numAt_eq]; exact PySem.getD_mem (by rw [List.length_map, Array.length_toList]; omega)
  · obtain ⟨j, hj, rfl⟩ := mem_getD ha
    rw [List.length_map, Array.length_toList] at hj
    rw [← numAt_eq]; exact h2 j (by omega)
theorem min_raw (hh : A.handled = none) (hl : s.heap.IsList l its.toArray) (hi : IntsAre its ns) (hne : 0 < ns.length)
    (h : ∀ h' tk M t', (∀ b o, s.heap.get? b = some o → h'.get? b = some o) → M ∈ ns → (∀ a, a ∈ ns → M ≤ a) → Q (.int M t') { s with heap := h', toks := tk }) : wpAny (model prog w) A (call (.builtin "min") [.ref l]) Q E s := by
  obtain ⟨xs, e⟩ := hi.allInts.items
  have hn : numsOf (intItems xs).toList = ns := by rw [← e]; exact hi.numsOf
  rw [nums_intItems] at hn
  subst hn
  rw [e] at hl
  have hsz : 0 < xs.size := by simpa using hne
  refine PySem.min_intList hh hl hsz fun v h' tk hv hk => ?_
  obtain ⟨t, rfl⟩ := intItems_at hv
  obtain ⟨h1, h2⟩ := argBest_lt (numAt xs) (xs.size - 1)
  refine h h' tk _ t hk ?_ fun a ha => ?_
  · rw [numAt_eq]; exact PySem.getD_mem (by rw [List.length_map, Array.length_toList]; omega)
  · obtain ⟨j, hj, rfl⟩ := mem_getD ha
    rw [List.length_map, Array.length_toList] at hj
    rw [← numAt_eq]; exact h2 j (by omega)
end
section
variable {X : Cx}
def rSum (K : PySem.W.Frag) : List V → Hp → VK → Prop := fun vs H Q => ∃ (a : Addr) (ns : List Int), vs = [V.ref a] ∧ SqL K H a (ns.map V.int) ∧ Q (.int ns.sum) H
def rMax (K : PySem.W.Frag) : List V → Hp → VK → Prop := fun vs H Q => ∃ (a : Addr) (ns : List Int), vs = [V.ref a] ∧ SqL K H a (ns.map V.int) ∧ 0 < ns.length ∧ ∀ m, m ∈ ns → (∀ y, y ∈ ns → y ≤ m) → Q (.int m) H
def rMin (K : PySem.W.Frag) : List V → Hp → VK → Prop := fun vs H Q => ∃ (a : Addr) (ns : List Int), vs = [V.ref a] ∧ SqL K H a (ns.map V.int) ∧ 0 < ns.length ∧ ∀ m, m ∈ ns → (∀ y, y ∈ ns → m ≤ y) → Q (.int m) H
theorem cr_sum (hc : X.calm = true) : CallR X (.builtin "sum") (rSum X.K) := by
  intro pins s σ H vs us Q I r h
  obtain ⟨a, ns, rfl, hs, q⟩ := h
  obtain ⟨its, rv, hl, _⟩ := I.list hs
  rw [Vals.ref1 r]
  exact sum_raw (I.ok.hd hc) hl.isList rv.ints fun h' tk t' hk => ⟨.int _, H, I.kept hk, ⟨_, rfl⟩, q⟩
theorem cr_max (hc : X.calm = true) : CallR X (.builtin "max") (rMax X.K) := by
  intro pins s σ H vs us Q I r h
  obtain ⟨a, ns, rfl, hs, hne, q⟩ := h
  obtain ⟨its, rv, hl, _⟩ := I.list hs
  rw [Vals.ref1 r]
  exact max_raw (I.ok.hd hc) hl.isList rv.ints hne fun h' tk m t' hk h1 h2 => ⟨.int _, H, I.kept hk, ⟨_, rfl⟩, q m h1 h2⟩
theorem cr_min (hc : X.calm = true) : CallR X (.builtin "min") (rMin X.K) := by
  intro pins s σ H vs us Q I r h
  obtain ⟨a, ns, rfl, hs, hne, q⟩ := h
  obtain ⟨its, rv, hl, _⟩ := I.list hs
  rw [Vals.ref1 r]
  exact min_raw (I.ok.hd hc) hl.isList rv.ints hne fun h' tk m t' hk h1 h2 => ⟨.int _, H, I.kept hk, ⟨_, rfl⟩, q m h1 h2⟩
end
section
variable {X : Cx}
def rIndex (K : PySem.W.Frag) : V → List V → Hp → VK → Prop := fun x xs H Q => ∃ (a : Addr) (ys : List V) (y : V) (j : Nat) (z : V), x = V.ref a ∧ xs = [y] ∧ SqL K H a ys ∧ flatV y = true ∧ ys.all flatV = true ∧ ys[j]? = some z ∧ eqV z y = true ∧
  (∀ (m : Nat) (z' : V), m < j → ys[m]? = some z' → eqV z' y = false) ∧ Q (.int (j : Nat)) H
theorem flat_at {ys : List V} (f : ys.all flatV = true) {j : Nat} {z : V} (h : ys[j]? = some z) : flatV z = true := List.all_eq_true.mp f z (List.mem_of_getElem? h)
theorem mt_index : MtR X "list.index" (rIndex X.K) := by
  intro pins s σ H x xs v us Q I rx rxs h
  obtain ⟨a, ys, y, j, z, rfl, rfl, hs, fy, fys, hz, hzj, hno, q⟩ := h
  cases rx
  cases rxs with
  | cons ry rt =>
    rename_i uy ut
    cases rt
    obtain ⟨its, rv, ⟨⟨cls, dd, data, sl⟩, n, ho, hc, hdn, hd⟩, hlen⟩ := I.list hs
    simp only at hc hd
    subst hc hd
    obtain ⟨u, hu, ru⟩ := rv.get hz
    obtain ⟨hjl, hje⟩ := List.getElem?_eq_some_iff.mp hu
    have hvl := rv.length
    have hj : j < its.toArray.size := by simpa using hjl
    have hsl := sizeLine_eq
    refine call_meets PySem.F.slot_list_index ⟨_, ho, rfl⟩ PySem.F.entry_list_index (PySem.F.args_list_index_2 _ _)
      (SeqAt.list_indexAt a its.toArray n dd sl uy (eqU y) j hj (by omega) ?_ ?_) ⟨ho, fun u' hu' => mem_eqAt ry fy rv fys u' (by simpa using hu'), ?_⟩
    · have e1 : its.toArray[j] = u := by simpa using hje
      rw [e1, eqU_of ru (flat_at fys hz)]
      exact hzj
    · intro m hm hmj
      have hml : m < its.length := by simpa using hm
      have hmy : m < ys.length := by omega
      have hy' : ys[m]? = some ys[m] := List.getElem?_eq_getElem hmy
      obtain ⟨u2, hu2, ru2⟩ := rv.get hy'
      obtain ⟨_, hme⟩ := List.getElem?_eq_some_iff.mp hu2
      have e1 : its.toArray[m] = u2 := by simpa using hme
      rw [e1, eqU_of ru2 (flat_at fys hy')]
      exact hno m _ hmj hy'
    · exact ⟨.int (j : Nat), H, I.tok _, ⟨_, rfl⟩, q⟩
end
section
variable {X : Cx}
end
theorem iter_any {prog : Program} {w : World} {A : Around} {E : Value → Shared → Prop} {s : Shared} {l : Addr} {items : Array Value} {Q : Value → Shared → Prop} (hl : s.heap.IsList l items)
    (h : ∀ s₂ : Shared, s₂ = { s with heap := s.heap.push { cls := .type "list_iterator", data := .fields #[.ref l, .int 0 0] } } →
      (s₂.heap.IsListIter s.heap.objs.size l 0 ∧ s₂.heap.IsList l items) → l ≠ s.heap.objs.size → Q (.ref s.heap.objs.size) s₂) : wpAny (model prog w) A (pyIter (.ref l)) Q E s := by
  have hlt : l < s.heap.objs.size := by obtain ⟨_, e, _⟩ := hl; exact Heap.lt_size e
  exact wpAny_pyIter_list hl (h _ rfl ⟨⟨_, Heap.get?_push_size _ rfl, rfl, rfl⟩, hl.push _⟩ (Nat.ne_of_lt hlt))
theorem truth_bools {prog : Program} {w : World} {A : Around} {bs : List Bool} {its : List Value} (e : its = bs.map Value.bool) :
    TruthOf prog w A (fun i v => its.toArray[i]? = some v) (fun i => bs.getD i false) := fun i v s Q E hv hq => by
  have hv' : its[i]? = some v := by simpa using hv
  rw [e, List.getElem?_map] at hv'
  obtain ⟨b, hb, rfl⟩ := Option.map_eq_some_iff.mp hv'
  have hg : bs.getD i false = b := by rw [List.getD_eq_getElem?_getD, hb] <;> rfl
  have hq' : Q (bs.getD i false) s := hq
  rw [hg] at hq'
  exact wpAny_truthy_bool hq'
theorem all_range : ∀ bs : List Bool, (List.range bs.length).all (fun i => bs.getD i false) = bs.all id
  | [] => rfl
  | b :: bs => by
    rw [List.length_cons, List.range_succ_eq_map, List.all_cons, List.all_map, List.all_cons, ← all_range bs]
    all_goals rfl
section
variable {X : Cx}
def rAll (K : PySem.W.Frag) : List V → Hp → VK → Prop := fun vs H Q => ∃ (a : Addr) (bs : List Bool), vs = [V.ref a] ∧ SqL K H a (bs.map V.bl) ∧ Q (.bl (bs.all id)) H
theorem cr_all (hc : X.calm = true) : CallR X (.builtin "all") (rAll X.K) := by
  intro pins s σ H vs us Q I r h
  obtain ⟨a, bs, rfl, hs, q⟩ := h
  obtain ⟨its, rv, hl, _⟩ := I.list hs
  rw [Vals.ref1 r]
  have hb := rv.bls
  refine call_all_walk (iter_any hl.isList fun s₂ e2 st hne => ?_)
  subst e2
  refine ⟨_, _, _, _, _, _, _, rfl, Walks.list (A := X.A.in1) (I.ok.hd hc) _ a hne its.toArray, st, truth_bools hb, fun h' tk hk => ?_⟩
  refine ⟨.bl _, H, I.kept fun b o eo => hk b o (fun hmem => ?_) (Heap.get?_push_of_some _ eo), ?_, q⟩
  · rcases List.mem_cons.mp hmem with e1 | hmem
    · exact absurd (e1 ▸ Heap.lt_size eo) (Nat.lt_irrefl _)
    · cases hmem
  · show Value.bool _ = Value.bool _
    rw [← all_range, hb, List.size_toArray, List.length_map]
end
section
variable {X : Cx} {pins : List (Addr × Obj)} {σ : St} {H : Hp} {s : Shared}
end
section
variable {X : Cx}
end
end L2
namespace L2
open PySem PySem.Spec PyProof.Rows
abbrev CellAt (h : Heap) (c : Addr) (v : Option Value) : Prop := h.IsCell c v
def relS (scope sc : Scope) : Scope :=
  { scope with names := scope.names.map fun (n, k) => if (k == .free && sc.kind == .function && sc.names.lookup n == some .cell) then (n, .cell) else (n, k) }
def cloFrom (cells : List (Str × Addr)) : List (Str × NameKind) → List (Str × Addr) → List (Str × Addr)
  | [], acc => acc
  | (n, k) :: r, acc => if k == .free then cloFrom cells r ((n, (cells.lookup n).getD 0) :: acc) else cloFrom cells r acc
theorem closure_loop (env : Env) (f : Str × NameKind → List (Str × Addr) → Sem (ForInStep (List (Str × Addr))))
    (hf : ∀ n k c, f (n, k) c = if k == .free then (do let a ← cellOf env n; pure (.yield ((n, a) :: c))) else pure (.yield c)) :
    ∀ (names : List (Str × NameKind)) (acc : List (Str × Addr)), (∀ y ∈ names, y.2 = .free → ∃ c, env.cells.lookup y.1 = some c) → forIn names acc f = pure (cloFrom env.cells names acc)
  | [], acc, _ => by rw [List.forIn_nil]; rfl
  | (n, k) :: r, acc, h => by
    rw [List.forIn_cons, hf]
    have ih := fun acc => closure_loop env f hf r acc fun y hy => h y (List.mem_cons_of_mem _ hy)
    unfold cloFrom
    by_cases hk : (k == NameKind.free) = true
    · rw [if_pos hk, if_pos hk]
      obtain ⟨c, hc⟩ := h (n, k) List.mem_cons_self (by simpa using hk)
      have e : cellOf env n = pure c := by unfold cellOf; rw [hc]
      rw [e]
      have e2 : (env.cells.lookup n).getD 0 = c := by rw [hc]; rfl
      rw [e2]
      exact ih _
    · rw [if_neg hk, if_neg hk]
      exact ih _
theorem closure_ok {scope : Scope} {env : Env} (h : ∀ y ∈ scope.names, y.2 = .free → ∃ c, env.cells.lookup y.1 = some c) : closureFor scope env = pure (cloFrom env.cells scope.names []) := by
  simp only [closureFor]
  rw [closure_loop env _ (fun n k c => rfl) scope.names [] h]
  rfl
theorem mem_lookup {α : Type} : ∀ {l : List (Str × α)} {n : Str} {c : α}, (n, c) ∈ l → ∃ c', l.lookup n = some c'
  | (k, v) :: r, n, c, h => by
    rw [List.lookup_cons]
    cases hb : n == k with
    | true => exact ⟨_, rfl⟩
    | false =>
      rcases List.mem_cons.mp h with e | h
      · cases e; simp at hb
      · exact mem_lookup h
theorem cloFrom_mem {cells : List (Str × Addr)} : ∀ {names : List (Str × NameKind)} {acc : List (Str × Addr)} {n : Str} {c : Addr}, (n, c) ∈ cloFrom cells names acc → (n, c) ∈ acc ∨ ((n, .free) ∈ names ∧ c = (cells.lookup n).getD 0)
  | [], _, _, _, h => .inl h
  | (m, k) :: r, acc, n, c, h => by
    unfold cloFrom at h
    split at h
    · rename_i hk
      have hk : k = .free := by simpa using hk
      rcases cloFrom_mem h with h | ⟨h1, h2⟩
      · rcases List.mem_cons.mp h with e | h
        · cases e; exact .inr ⟨hk ▸ List.mem_cons_self, rfl⟩
        · exact .inl h
      · exact .inr ⟨List.mem_cons_of_mem _ h1, h2⟩
    · rcases cloFrom_mem h with h | ⟨h1, h2⟩
      · exact .inl h
      · exact .inr ⟨List.mem_cons_of_mem _ h1, h2⟩
theorem cloFrom_acc {cells : List (Str × Addr)} : ∀ {names : List (Str × NameKind)} {acc : List (Str × Addr)} {p : Str × Addr}, p ∈ acc → p ∈ cloFrom cells names acc
  | [], _, _, h => h
  | (m, k) :: r, acc, p, h => by
    unfold cloFrom
    split
    · exact cloFrom_acc (List.mem_cons_of_mem _ h)
    · exact cloFrom_acc h
theorem cloFrom_has {cells : List (Str × Addr)} : ∀ {names : List (Str × NameKind)} {acc : List (Str × Addr)} {n : Str}, (n, .free) ∈ names → (n, (cells.lookup n).getD 0) ∈ cloFrom cells names acc
  | (m, k) :: r, acc, n, h => by
    unfold cloFrom
    rcases List.mem_cons.mp h with e | h
    · cases e
      exact cloFrom_acc List.mem_cons_self
    · split
      · exact cloFrom_has h
      · exact cloFrom_has h
theorem cells_mem : ∀ {names : List (Str × NameKind)} {h : Heap} {acc : List (Str × Addr)} {x : Str} {c : Addr}, (x, c) ∈ cellsFrom h.objs.size names acc →
    (x, c) ∈ acc ∨ ((x, .cell) ∈ names ∧ h.objs.size ≤ c ∧ CellAt (pushCells h names) c none)
  | [], _, _, _, _, h => .inl h
  | (n, k) :: r, h, acc, x, c, hm => by
    unfold cellsFrom at hm
    unfold pushCells
    split at hm
    · rename_i hk
      rw [if_pos hk]
      have hk : k = .cell := by simpa using hk
      rw [← Heap.size_push h { cls := .type "cell", data := .cell none }] at hm
      rcases cells_mem hm with hm | ⟨h1, h2, h3⟩
      · rcases List.mem_cons.mp hm with e | hm
        · cases e
          exact .inr ⟨hk ▸ List.mem_cons_self, Nat.le_refl _, _, pushCells_keeps r _ _ _ (Heap.get?_push_size _ rfl), rfl⟩
        · exact .inl hm
      · rw [Heap.size_push] at h2
        exact .inr ⟨List.mem_cons_of_mem _ h1, Nat.le_of_succ_le h2, h3⟩
    · rename_i hk
      rw [if_neg hk]
      rcases cells_mem hm with hm | ⟨h1, h2, h3⟩
      · exact .inl hm
      · exact .inr ⟨List.mem_cons_of_mem _ h1, h2, h3⟩
theorem cells_acc : ∀ {names : List (Str × NameKind)} {n : Nat} {acc : List (Str × Addr)} {p : Str × Addr}, p ∈ acc → p ∈ cellsFrom n names acc
  | [], _, _, _, h => h
  | (m, k) :: r, n, acc, p, h => by
    unfold cellsFrom
    split
    · exact cells_acc (List.mem_cons_of_mem _ h)
    · exact cells_acc h
theorem cells_has : ∀ {names : List (Str × NameKind)} {n : Nat} {acc : List (Str × Addr)} {x : Str}, (x, .cell) ∈ names → ∃ c, (x, c) ∈ cellsFrom n names acc
  | (m, k) :: r, n, acc, x, h => by
    unfold cellsFrom
    rcases List.mem_cons.mp h with e | h
    · cases e
      exact ⟨n, cells_acc List.mem_cons_self⟩
    · split
      · exact cells_has h
      · exact cells_has h
theorem cells_inj : ∀ {names : List (Str × NameKind)} {h : Heap} {acc : List (Str × Addr)} {x y : Str} {c : Addr}, (∀ p ∈ acc, p.2 < h.objs.size) → (∀ x y c, (x, c) ∈ acc → (y, c) ∈ acc → x = y) →
    (x, c) ∈ cellsFrom h.objs.size names acc → (y, c) ∈ cellsFrom h.objs.size names acc → x = y
  | [], _, _, _, _, _, _, hi, h1, h2 => hi _ _ _ h1 h2
  | (n, k) :: r, h, acc, x, y, c, hl, hi, h1, h2 => by
    unfold cellsFrom at h1 h2
    split at h1
    · rename_i hk
      rw [if_pos hk] at h2
      rw [← Heap.size_push h { cls := .type "cell", data := .cell none }] at h1 h2
      refine cells_inj (h := h.push _) (fun p hp => ?_) (fun x y c a b => ?_) h1 h2
      · rw [Heap.size_push]
        rcases List.mem_cons.mp hp with rfl | hp
        · exact Nat.lt_succ_self _
        · exact Nat.lt_succ_of_lt (hl p hp)
      · rcases List.mem_cons.mp a with e | a <;> rcases List.mem_cons.mp b with e' | b
        · cases e; cases e'; rfl
        · cases e; exact absurd (hl _ b) (Nat.lt_irrefl _)
        · cases e'; exact absurd (hl _ a) (Nat.lt_irrefl _)
        · exact hi _ _ _ a b
    · rename_i hk
      rw [if_neg hk] at h2
      exact cells_inj hl hi h1 h2
theorem newEnv_comp {M : Model} {A : Around} {E : Value → Shared → Prop} {s : Shared} {scope : Scope} {globals : Addr} {closure : List (Str × Addr)} {qual : Str} {func : Option Addr} {code : Value} {around : Env} {builtins : Addr} {Q : Env → Shared → Prop}
    (h : Q (newEnv scope s.heap.objs.size globals (cellsFrom (s.heap.objs.size + 1) scope.names closure) qual func code (some around) builtins)
      { s with heap := pushCells (s.heap.push { cls := .type "dict", data := .dict #[] }) scope.names }) :
    wpAny M A (newFunctionEnv scope globals closure [] qual func code (some around) builtins) Q E s := by
  simp only [newFunctionEnv, Option.isSome_some, if_true]
  refine wpAny_bind (wpAny_alloc ?_)
  refine wpAny_bind (wpAny_layCells _ (fun n k c => rfl) scope.names closure _ _ ?_)
  rw [show ({ s with heap := s.heap.push { cls := .type "dict", data := .dict #[] } } : Shared).heap.objs.size = s.heap.objs.size + 1 from Heap.size_push ..]
  rw [List.forIn_nil]
  exact wpAny_bind (wpAny_pure (wpAny_pure h))
theorem lookup_relS {sc : Scope} : ∀ {names : List (Str × NameKind)} {x : Str} {k : NameKind},
    (names.map fun (n, k) => if (k == NameKind.free && sc.kind == .function && sc.names.lookup n == some .cell) then (n, NameKind.cell) else (n, k)).lookup x = some k →
    ∃ k', names.lookup x = some k' ∧ (k = k' ∨ (k' = .free ∧ k = .cell))
  | [], _, _, h => by simp at h
  | (n, k₀) :: r, x, k, h => by
    have ih := @lookup_relS sc r x k
    have h' : List.lookup x ((if (k₀ == NameKind.free && sc.kind == .function && sc.names.lookup n == some .cell) = true then (n, NameKind.cell) else (n, k₀)) :: (r.map _)) = some k := h
    cases hx : x == n with
    | true =>
      simp only [List.lookup_cons, hx]
      by_cases hc : (k₀ == NameKind.free && sc.kind == .function && sc.names.lookup n == some .cell) = true
      · rw [if_pos hc] at h'
        simp only [List.lookup_cons, hx] at h'
        cases h'
        simp only [Bool.and_eq_true, beq_iff_eq] at hc
        exact ⟨k₀, rfl, .inr ⟨hc.1.1, rfl⟩⟩
      · rw [if_neg hc] at h'
        simp only [List.lookup_cons, hx] at h'
        cases h'
        exact ⟨_, rfl, .inl rfl⟩
    | false =>
      simp only [List.lookup_cons, hx]
      by_cases hc : (k₀ == NameKind.free && sc.kind == .function && sc.names.lookup n == some .cell) = true
      · rw [if_pos hc] at h'
        simp only [List.lookup_cons, hx] at h'
        exact ih h'
      · rw [if_neg hc] at h'
        simp only [List.lookup_cons, hx] at h'
        exact ih h'
structure BlkOk (N : List Str) (sc scope : Scope) (own : List (Str × Nat)) : Prop where
  kind : scope.kind = .function
  uniq : ∀ y ∈ scope.names, scope.names.lookup y.1 = some y.2
  ix : ∀ p ∈ own, N[p.2]? = some p.1
  free : ∀ y ∈ scope.names, y.2 = .free → sc.names.lookup y.1 = some .cell ∨ sc.names.lookup y.1 = some .free
  own : ∀ y ∈ scope.names, y.2 = .local ∨ y.2 = .cell → y.1 ∈ own.map (·.1) ∨ y.1 ∉ N
def wipe (σ : St) : List Nat → St
  | [] => σ
  | v :: vs => (wipe σ vs).set v none
theorem wipe_length (σ : St) : ∀ vs : List Nat, (wipe σ vs).length = σ.length
  | [] => rfl
  | v :: vs => by unfold wipe; rw [List.length_set, wipe_length σ vs]
theorem wipe_some {σ : St} {i : Nat} {x : V} : ∀ {vs : List Nat}, (wipe σ vs)[i]? = some (some x) → σ[i]? = some (some x) ∧ i ∉ vs
  | [], h => ⟨h, by simp⟩
  | v :: vs, h => by
    unfold wipe at h
    by_cases hi : v = i
    · subst hi
      by_cases hv : v < (wipe σ vs).length
      · rw [List.getElem?_set_self hv] at h; cases h
      · rw [List.getElem?_eq_none (by simpa using hv)] at h; cases h
    · rw [List.getElem?_set_ne hi] at h
      obtain ⟨h1, h2⟩ := wipe_some h
      exact ⟨h1, by simp only [List.mem_cons, not_or]; exact ⟨fun e => hi e.symm, h2⟩⟩
abbrev Cx.blk (X : Cx) (s : Shared) (H : Hp) (scope : Scope) (cenv : Env) (fp : List Addr) : Cx := { X with s_0 := s, H_0 := H, env := cenv, outer := X.stack, ex := fp, fn := fun x => scope.names.lookup x == some .cell, pn := [], xe := fun _ _ => False }
section
variable {X : Cx} {pins : List (Addr × Obj)} {σ : St} {H : Hp} {s : Shared}
theorem block_start {scope : Scope} {own : List (Str × Nat)} {fp : List Addr} (I : Inv X pins σ H s) (ok : BlkOk X.N X.env.scope scope own) (hN : X.N.Nodup) (hfp : ∀ b ∈ fp, FpOk X pins H b ∧ b < s.heap.objs.size) :
    Inv (X.blk s H scope (compEnvC scope (cellsFrom (s.heap.objs.size + 1) scope.names (cloFrom X.env.cells scope.names [])) s.heap.objs.size X.env) fp) [] (wipe σ (own.map (·.2))) H { s with heap := pushCells (s.heap.push { cls := .type "dict", data := .dict #[] }) scope.names } := by
  have hfree : ∀ y ∈ scope.names, y.2 = .free → ∃ c, X.env.cells.lookup y.1 = some c := fun y hy e => by
    rcases ok.free y hy e with k | k
    · exact I.ok.has _ (.inl k)
    · exact I.ok.has _ (.inr k)
  generalize hcenv : compEnvC scope (cellsFrom (s.heap.objs.size + 1) scope.names (cloFrom X.env.cells scope.names [])) s.heap.objs.size X.env = cenv
  have kp : ∀ b o, s.heap.get? b = some o → (pushCells (s.heap.push { cls := .type "dict", data := .dict #[] }) scope.names).get? b = some o := fun b o e => pushCells_keeps _ _ _ _ (Heap.get?_push_of_some _ e)
  have hL : cenv.locals = s.heap.objs.size := by rw [← hcenv]; rfl
  have hcl : cenv.cells = cellsFrom (s.heap.objs.size + 1) scope.names (cloFrom X.env.cells scope.names []) := by rw [← hcenv]; rfl
  have hsc : cenv.scope = relS scope X.env.scope := by rw [← hcenv]; rfl
  rw [← Heap.size_push s.heap { cls := .type "dict", data := .dict #[] }] at hcl
  have cm : ∀ {y c}, (y, c) ∈ cloFrom X.env.cells scope.names [] → X.env.cells.lookup y = some c ∧ c < s.heap.objs.size := fun {y c} hm => by
    rcases cloFrom_mem hm with hm | ⟨h1, rfl⟩
    · cases hm
    · obtain ⟨c, hc⟩ := hfree _ h1 rfl
      rw [hc]
      obtain ⟨w, z⟩ := I.cell _ _ hc
      exact ⟨rfl, z.lt⟩
  have mem : ∀ {y c}, cenv.cells.lookup y = some c → (X.env.cells.lookup y = some c ∧ c < s.heap.objs.size) ∨ (s.heap.objs.size + 1 ≤ c ∧ CellAt (pushCells (s.heap.push { cls := .type "dict", data := .dict #[] }) scope.names) c none) := fun {y c} e => by
    rw [hcl] at e
    rcases cells_mem (PySem.mem_of_lookup e) with hm | ⟨_, h2, h3⟩
    · exact .inl (cm hm)
    · rw [Heap.size_push] at h2; exact .inr ⟨h2, h3⟩
  have look : ∀ {y}, scope.names.lookup y = some .free → ∃ c, cenv.cells.lookup y = some c ∧ X.env.cells.lookup y = some c := fun {y} hl => by
    have hy : (y, NameKind.free) ∈ scope.names := PySem.mem_of_lookup hl
    obtain ⟨c', e'⟩ := mem_lookup (cells_acc (names := scope.names) (n := (s.heap.push { cls := .type "dict", data := .dict #[] }).objs.size) (cloFrom_has (cells := X.env.cells) (acc := []) hy))
    rw [← hcl] at e'
    refine ⟨c', e', ?_⟩
    rw [hcl] at e'
    rcases cells_mem (PySem.mem_of_lookup e') with hm | ⟨h1, _, _⟩
    · exact (cm hm).1
    · have := ok.uniq _ h1
      rw [hl] at this; cases this
  have okB : (X.blk s H scope cenv fp).Ok := by
    refine ⟨I.ok.mod, by show cenv.scope.kind = _; rw [hsc]; exact ok.kind, by show cenv.globals = _; rw [← hcenv]; exact I.ok.glob, by show cenv.builtins = _; rw [← hcenv]; exact I.ok.blt, by show s.heap.objs.size ≤ cenv.locals; rw [hL]; exact Nat.le_refl _,
      fun y z c e1 e2 => ?_, fun y hy => ?_, fun y c z e => ?_, I.ok.hd, I.ok.frames, .inl rfl, fun b hb => ⟨?_, fun y c e z => ?_⟩, I.bs, Nat.le_trans I.ok.bsz I.sz, fun b o e hb => ?_, fun b hb z => ?_, I.stack, I.stkFree⟩
    · have e1 : cenv.cells.lookup y = some c := e1
      have e2 : cenv.cells.lookup z = some c := e2
      rw [hcl] at e1 e2
      refine cells_inj (fun p hp => ?_) (fun y z c a b => I.ok.inj y z c (cm a).1 (cm b).1) (PySem.mem_of_lookup e1) (PySem.mem_of_lookup e2)
      rw [Heap.size_push]
      exact Nat.lt_succ_of_lt (cm (y := p.1) (c := p.2) hp).2
    · show ∃ c, cenv.cells.lookup y = some c
      have key : ∀ k, cenv.kindOf y = some k → (k = .cell ∨ k = .free) → ∃ c, cenv.cells.lookup y = some c := fun k hk hk' => by
        unfold Env.kindOf at hk
        rw [hsc] at hk
        obtain ⟨k', e, r⟩ := lookup_relS hk
        have : k' = .cell ∨ k' = .free := by
          rcases r with rfl | ⟨rfl, _⟩
          · exact hk'
          · exact .inr rfl
        rcases this with rfl | rfl
        · obtain ⟨c, hm⟩ := cells_has (n := (s.heap.push { cls := .type "dict", data := .dict #[] }).objs.size) (acc := cloFrom X.env.cells scope.names []) (PySem.mem_of_lookup e)
          obtain ⟨c', e'⟩ := mem_lookup hm
          exact ⟨c', by rw [hcl]; exact e'⟩
        · obtain ⟨c, h1, _⟩ := look e
          exact ⟨c, h1⟩
      rcases hy with hy | hy
      · exact key _ hy (.inl rfl)
      · exact key _ hy (.inr rfl)
    · have z : (scope.names.lookup y == some NameKind.cell) = true := z
      have z : scope.names.lookup y = some .cell := by simpa using z
      have e : cenv.cells.lookup y = some c := e
      rw [hcl] at e
      rcases cells_mem (PySem.mem_of_lookup e) with hm | ⟨_, h2, _⟩
      · rcases cloFrom_mem hm with hm | ⟨h1, _⟩
        · cases hm
        · have q := ok.uniq _ h1
          rw [z] at q; cases q
      · rw [Heap.size_push] at h2
        exact Nat.le_of_succ_le h2
    · show b ≠ cenv.locals
      rw [hL]; exact Nat.ne_of_lt (hfp b hb).2
    · have e : cenv.cells.lookup y = some c := e
      rcases mem e with ⟨h1, _⟩ | ⟨h1, _⟩
      · exact (hfp b hb).1.2.2.2.2.1 y c h1 z
      · have h2 : s.heap.objs.size + 1 ≤ b := by rw [← z]; exact h1
        exact absurd (Nat.lt_of_lt_of_le (hfp b hb).2 (Nat.le_of_succ_le h2)) (Nat.lt_irrefl _)
    · rcases (hfp b hb).1.2.2.2.1 with z | z
      · exact I.ok.noex b o e z
      · exact absurd (Nat.lt_of_lt_of_le (Heap.lt_size e) (Nat.le_trans I.ok.bsz z)) (Nat.lt_irrefl _)
    · rcases List.mem_cons.mp (I.stkSub b z) with z | z
      · exact (hfp b hb).1.2.1 z
      · exact (hfp b hb).1.2.2.1 z
  refine ⟨okB, rfl, I.bare, Un.kept kp, ⟨fun _ => none, ?_, fun i y av e1 e2 e3 => ?_⟩, fun y c e => ?_, ?_, fun y c e => ?_, fun p hp => ?_, I.hok.kept kp, by rw [wipe_length]; exact I.len⟩
  · show Heap.Ns _ cenv.locals _
    rw [hL]
    exact Heap.Ns.keeps (Heap.Ns.new ..) fun b o e => pushCells_keeps _ _ _ _ e
  · obtain ⟨e2, hne⟩ := wipe_some e2
    have hfr : scope.names.lookup y = some .free ∧ (cenv.kindOf y = some .cell ∨ cenv.kindOf y = some .free) := by
      have key : ∀ k, cenv.scope.names.lookup y = some k → k = .local ∨ k = .cell ∨ k = .free → scope.names.lookup y = some .free ∧ (cenv.kindOf y = some .cell ∨ cenv.kindOf y = some .free) := fun k hk hk' => by
        have hk0 := hk
        rw [hsc] at hk
        obtain ⟨k', e, r⟩ := lookup_relS hk
        have no : ¬ (k' = .local ∨ k' = .cell) := fun hh => by
          rcases ok.own _ (PySem.mem_of_lookup e) hh with e' | e'
          · obtain ⟨p, hp, hpy⟩ := List.mem_map.mp e'
            have e3 := ok.ix p hp
            have : p.1 = y := hpy
            rw [this] at e3
            exact hne (List.mem_map.mpr ⟨p, hp, nodup_ix hN e3 e1⟩)
          · exact e' (List.mem_of_getElem? e1)
        rcases r with rfl | ⟨rfl, rfl⟩
        · rcases hk' with rfl | rfl | rfl
          · exact absurd (.inl rfl) no
          · exact absurd (.inr rfl) no
          · exact ⟨e, .inr hk0⟩
        · exact ⟨e, .inl hk0⟩
      have e3 : Vis cenv.scope y := e3
      rcases e3 with e3 | e3 | e3
      · exact key _ e3 (.inl rfl)
      · exact key _ e3 (.inr (.inl rfl))
      · exact key _ e3 (.inr (.inr rfl))
    obtain ⟨m, hn, hl⟩ := I.loc
    have hvis : Vis X.env.scope y := (ok.free _ (PySem.mem_of_lookup hfr.1) rfl).elim (fun k => .inr (.inl k)) (fun k => .inr (.inr k))
    obtain ⟨w, r, q⟩ := hl i y av e1 e2 hvis
    refine ⟨w, r, .inr ⟨hfr.2, ?_⟩⟩
    obtain ⟨c, h1, h2⟩ := look hfr.1
    rcases q with ⟨k, _⟩ | ⟨_, c', e', z⟩
    · have k : X.env.scope.names.lookup y = some .local := k
      rcases ok.free _ (PySem.mem_of_lookup hfr.1) rfl with k' | k' <;> rw [show X.env.scope.names.lookup y = _ from k'] at k <;> cases k
    · rw [h2] at e'; cases e'
      exact ⟨c, h1, z.keeps kp⟩
  · have e : cenv.cells.lookup y = some c := e
    rcases mem e with ⟨h1, _⟩ | ⟨_, z⟩
    · obtain ⟨w, z⟩ := I.cell y c h1
      exact ⟨w, z.keeps kp⟩
    · exact ⟨_, z⟩
  · show H cenv.locals = none
    rw [hL]; exact I.hok.fresh (Nat.le_refl _)
  · have e : cenv.cells.lookup y = some c := e
    rcases mem e with ⟨h1, _⟩ | ⟨h1, _⟩
    · exact I.freeC y c h1
    · exact I.hok.fresh (Nat.le_of_succ_le h1)
  · exact absurd (show p ∈ ([] : List (Addr × Obj)) ++ [] from hp) (by simp)
theorem app_ok {E : Value → Shared → Prop} {D : Addr} {xs : List V} {y : V} {v : Value} {Q : Value → Shared → Prop} (I : Inv X pins σ H s) (hD : H D = some (.lst xs)) (hz : xs.length < sizeLine) (r : RelV y v)
    (h : ∀ s', Inv X pins σ (upd H D (.lst (xs ++ [y]))) s' → Q .none s') : wpAny (model X.prog X.w) X.A (call (.builtin "list.append") [.ref D, v]) Q E s := by
  obtain ⟨hz', its, n, ri, e⟩ := I.hok D _ hD
  have hl := ri.length
  refine append_at (hsz := by rw [List.size_toArray]; omega) e fun h' sb ho' => ?_
  refine h { s with heap := h' } (I.write (t' := s.toks) (by rw [hD]; trivial) (.inl rfl) (fun b u hb q => (sb.2 b hb).trans q) ⟨_, ho'⟩ ⟨by rw [List.length_append]; exact hz, its ++ [v], n + 1, ri.append (.cons r .nil), ?_⟩)
  rw [ho']
  simp
def PTs (X : Cx) (ifs : List Expr) (t : TT) : Prop :=
  ∀ (pins : List (Addr × Obj)) (s : Shared) (σ : St) (H : Hp) (Q : Bool → Hp → Prop), Inv X pins σ H s → t σ H Q →
    wpAny (model X.prog X.w) X.A (forIn ifs true fun c r => if r = true then do let ok ← isTrue c X.env (eval c X.env); pure (ForInStep.yield ok) else pure (ForInStep.yield r)) (TP X pins σ Q) X.xe s
def tYes : TT := fun _ H Q => Q true H
theorem pts_nil : PTs X [] tYes := fun _ _ _ H _ I h => wpAny_tests_nil ⟨H, I, h⟩
theorem pts_one {c : Expr} {t : TT} (h : PT X c t) : PTs X [c] t := fun pins s σ H Q I hw => wpAny_tests_one (h pins s σ H Q I hw)
end
theorem thnF {α : Type} {t : Sem α} {Q Q' : α → Shared → Prop} {M : Model} {A : Around} {E : Value → Shared → Prop} {s : Shared} (h : wpAny M A t Q (fun _ _ => False) s) (hQ : ∀ a s, Q a s → Q' a s) : wpAny M A t Q' E s := wpAny_mono h hQ fun _ _ z => False.elim z
theorem compLoop_any {prog : Program} {w : World} {A : Around} {R : Result → Shared → Prop} {s : Shared} {elt target iter : Expr} {ifs : List Expr} {scope : Scope} {pos : Pos} {it acc : Value} {env : Env} (I : Nat → Shared → Prop)
    (turn : ∀ n s, I n s → wpAny (model prog w) A (pyNext it) (fun r s₁ => match r with
      | none => R (.ok .next) s₁
      | some v => wpAny (model prog w) A (letOwnedTupleGo target it v) (fun _ s₁' => wpAny (model prog w) A (assign target env v) (fun _ s₂ =>
          wpAny (model prog w) A (forIn ifs true fun c r => if r = true then do let ok ← isTrue c env (eval c env); pure (ForInStep.yield ok) else pure (ForInStep.yield r)) (fun ok s₃ =>
            if ok = true then wpAny (model prog w) A (eval elt env) (fun x s₄ =>
              wpAny (model prog w) A (call (.builtin "list.append") [acc, x]) (fun _ s₅ => ∃ m, m < n ∧ I m s₅) (notedBy (model prog w) A env fun e s' => R (.error e) s') s₄) (notedBy (model prog w) A env fun e s' => R (.error e) s') s₃
            else ∃ m, m < n ∧ I m s₃) (notedBy (model prog w) A env fun e s' => R (.error e) s') s₂) (notedBy (model prog w) A env fun e s' => R (.error e) s') s₁') (notedBy (model prog w) A env fun e s' => R (.error e) s') s₁) (notedBy (model prog w) A env fun e s' => R (.error e) s') s)
    (n : Nat) (h : I n s) :
    codeAny (model prog w) A (.compLoop (.ListComp elt [⟨target, iter, ifs, 0⟩] scope pos) 0 it acc env) R s := by
  refine codeAny_loop rfl I (fun n s hI => ?_) n h
  show wpAny _ A ((compTurn (.ListComp elt [⟨target, iter, ifs, 0⟩] scope pos) 0 it acc env).onRaise (fun x => do noteFrame x env; theTreesLotGoes x)) _ _ s
  refine wpAny_noted ?_
  rw [compTurn_list]
  refine wpAny_bind (wpAny_standAt (wpAny_bind (wpAny_mono (turn n s hI) (fun r s₁ h₁ => ?_) fun _ _ h' => h')))
  cases r with
  | none => exact wpAny_pure h₁
  | some v =>
    refine wpAny_bind (wpAny_mono h₁ (fun _ s₁' h₁' => ?_) fun _ _ h' => h')
    refine wpAny_bind (wpAny_mono h₁' (fun _ s₂ h₂ => wpAny_bind (wpAny_mono h₂ (fun ok s₃ h₃ => ?_) fun _ _ h' => h')) fun _ _ h' => h')
    cases ok with
    | false => exact wpAny_pure ⟨rfl, h₃⟩
    | true =>
      exact wpAny_bind (wpAny_bind (wpAny_mono h₃ (fun x s₄ h₄ => wpAny_bind (wpAny_mono h₄ (fun _ s₅ h₅ => wpAny_pure (wpAny_pure ⟨rfl, h₅⟩)) fun _ _ h' => h')) fun _ _ h' => h'))
section
variable {X : Cx}
def tLc (wi : TI) (g : TG) (tt : TT) (te : TE) (vs : List Nat) : TE := fun σ H Q => wi σ H fun J H1 => ∀ D, H1 D = none → ∃ W : Nat → Nat → Hp → Prop, (∃ m, W 0 m (upd H1 D (.lst []))) ∧ ∀ i m H, W i m H →
  (J.stop i H ∧ Q (.ref D) H) ∨ (J.go i H ∧ ∃ Nx : Hp → Prop, (∀ H', Nx H' → ∃ m', m' < m ∧ W (i + 1) m' H') ∧ ∀ x H', J.yld i H x H' → g x (wipe σ vs) H' fun σ2 H2 => wipe σ2 vs = wipe σ vs ∧ tt σ2 H2 fun b H3 =>
    if b = true then te σ2 H3 fun y H4 => ∃ acc, H4 D = some (.lst acc) ∧ acc.length < sizeLine ∧ Nx (upd H4 D (.lst (acc ++ [y]))) else Nx H3)
theorem lc_core {pins : List (Addr × Obj)} {s : Shared} {σ : St} {H : Hp} {Q : VK} {elt tg iter : Expr} {ifs : List Expr} {scope : Scope} {own : List (Str × Nat)} {pos pos' : Pos} {wi : TI} {g : TG} {tt : TT} {te : TE} {use : Option (Value → Sem Unit)} {Qf : Value → Shared → Prop}
    (hc : X.calm = true) (hN : X.N.Nodup) (I : Inv X pins σ H s) (hi : PI X tg iter wi) (ok : BlkOk X.N X.env.scope scope own)
    (hg : ∀ (s : Shared) (H : Hp) (C : Addr) (cl : List (Str × Addr)) (fp : List Addr), PG (X.blk s H scope (compEnvC scope cl C X.env) fp) tg g) (ht : ∀ (s : Shared) (H : Hp) (C : Addr) (cl : List (Str × Addr)) (fp : List Addr), PTs (X.blk s H scope (compEnvC scope cl C X.env) fp) ifs tt)
    (he : ∀ (s : Shared) (H : Hp) (C : Addr) (cl : List (Str × Addr)) (fp : List Addr), PE (X.blk s H scope (compEnvC scope cl C X.env) fp) elt te) (hs : ∀ x, foldedSetIterable iter X.env x = pure x)
    (h : tLc wi g tt te (own.map (·.2)) σ H Q)
    (hRR : ∀ D C s' m H', Inv X pins σ H' s' → Q (.ref D) H' → s'.heap.Ns C m → FpOk X pins H' C → compPost (model X.prog X.w) X.A X.xe use Qf (.ref D) C (.ok .next) s') :
    wpAny (model X.prog X.w) X.A (comprehension (.ListComp elt [⟨tg, iter, ifs, 0⟩] scope pos) scope X.env pos' (newList []) false (eval iter X.env) use) Qf X.xe s := by
  have hfree : ∀ y ∈ scope.names, y.2 = .free → ∃ c, X.env.cells.lookup y.1 = some c := fun y hy e => by
    rcases ok.free y hy e with k | k
    · exact I.ok.has _ (.inl k)
    · exact I.ok.has _ (.inr k)
  refine wpAny_comprehension_free (use := use) rfl hs (closure_ok hfree) ok.kind (fun y hy e => by rw [ok.uniq y hy, e])
    (thn (hi pins s σ H _ I h) fun xv s1 hx => thn hx fun itv s2 h2 => ?_)
  obtain ⟨it, fp, tn, J, H2, e, I2, T, st2, f2, q⟩ := h2
  subst e
  refine wpAny_newObj_type (newEnv_comp ?_) (by show 0 ≤ sizeLine; decide)
  generalize hD : s2.heap.objs.size = D
  have hDn : H2 D = none := I2.hok.fresh (Nat.le_of_eq hD)
  obtain ⟨W, ⟨m0, w0⟩, turn⟩ := q D hDn
  -- the new list
  generalize hs3 : ({ s2 with heap := s2.heap.push { cls := .type "list", data := .seq ([] : List Value).toArray } } : Shared) = s3
  have I3 : Inv X pins σ (upd H2 D (.lst [])) s3 := by
    rw [← hs3]
    refine I2.laid (t' := s2.toks) (fun b o e => Heap.get?_push_of_some _ e) (Nat.le_of_eq hD) ⟨Nat.zero_le _, [], 0, .nil, ?_⟩
    rw [← hD]
    exact Heap.get?_push_size _ rfl
  have h3 : s3.heap = s2.heap.push { cls := .type "list", data := .seq ([] : List Value).toArray } := by rw [← hs3]
  have sz : ∀ b ∈ fp, b < s2.heap.objs.size := fun b hb => by
    obtain ⟨o, e, _⟩ := T.obj _ _ st2 b hb
    exact Heap.lt_size e
  have f3 : ∀ b ∈ fp, FpOk X pins (upd H2 D (.lst [])) b ∧ b < s3.heap.objs.size := fun b hb => by
    have hlt := sz b hb
    refine ⟨⟨?_, (f2 b hb).2⟩, by rw [h3, Heap.size_push]; exact Nat.lt_succ_of_lt hlt⟩
    rw [upd_ne (by rw [← hD]; exact Nat.ne_of_lt hlt)]
    exact (f2 b hb).1
  have st3 : tn 0 s3.heap := T.keep _ _ _ st2 fun b _ o e => by rw [h3]; exact Heap.get?_push_of_some _ e
  have I4 := block_start I3 ok hN f3
  have pg := hg s3 (upd H2 D (.lst [])) s3.heap.objs.size (cellsFrom (s3.heap.objs.size + 1) scope.names (cloFrom X.env.cells scope.names [])) fp
  have pt := ht s3 (upd H2 D (.lst [])) s3.heap.objs.size (cellsFrom (s3.heap.objs.size + 1) scope.names (cloFrom X.env.cells scope.names [])) fp
  have pe := he s3 (upd H2 D (.lst [])) s3.heap.objs.size (cellsFrom (s3.heap.objs.size + 1) scope.names (cloFrom X.env.cells scope.names [])) fp
  show codeAny _ _ (.compStart (.ListComp elt [⟨tg, iter, ifs, 0⟩] scope pos) 0 (.ref it) (.ref D) (compEnvC scope (cellsFrom (s3.heap.objs.size + 1) scope.names (cloFrom X.env.cells scope.names [])) s3.heap.objs.size X.env)) (compPost (model X.prog X.w) X.A X.xe use Qf (.ref D) s3.heap.objs.size) { s3 with heap := pushCells (s3.heap.push { cls := .type "dict", data := .dict #[] }) scope.names }
  have nfp : ∀ b ∈ fp, (upd H2 D (.lst [])) b = none := fun b hb => (f3 b hb).1.1
  generalize hce : compEnvC scope (cellsFrom (s3.heap.objs.size + 1) scope.names (cloFrom X.env.cells scope.names [])) s3.heap.objs.size X.env = ce at I4 pg pt pe ⊢
  have cL : ce.locals = s3.heap.objs.size := by subst hce; rfl
  generalize hH3 : upd H2 D (.lst []) = H3 at I3 I4 pg pt pe w0 nfp f3
  generalize hs4 : ({ s3 with heap := pushCells (s3.heap.push { cls := .type "dict", data := .dict #[] }) scope.names } : Shared) = s4 at I4 ⊢
  have st4 : tn 0 s4.heap := T.keep _ _ _ st3 fun b _ o e => by rw [← hs4]; exact pushCells_keeps _ _ _ _ (Heap.get?_push_of_some _ e)
  have stat : ∀ {σ' : St} {H' : Hp} {s' : Shared}, Inv (X.blk s3 H3 scope ce fp) [] σ' H' s' → (∀ b ∈ fp, H' b = none) → ∀ b ∈ fp, FpOk (X.blk s3 H3 scope ce fp) [] H' b := fun {σ' H' s'} I' hn b hb =>
    ⟨hn b hb, (I'.ok.exf b hb).1, I'.ok.exfs b hb, .inl hb, fun x c e => (I'.ok.exf b hb).2 x c e, fun p hp => absurd (show p ∈ ([] : List (Addr × Obj)) ++ [] from hp) (by simp)⟩
  have loop : codeAny (model X.prog X.w) X.A (.compLoop (.ListComp elt [⟨tg, iter, ifs, 0⟩] scope pos) 0 (.ref it) (.ref D) ce) (compPost (model X.prog X.w) X.A X.xe use Qf (.ref D) s3.heap.objs.size) s4 := by
    refine compLoop_any (fun n s' => ∃ i H', Inv (X.blk s3 H3 scope ce fp) [] (wipe σ (own.map (·.2))) H' s' ∧ tn i s'.heap ∧ (∀ b ∈ fp, H' b = none) ∧ W i n H') ?_ m0 ⟨0, H3, I4, st4, nfp, w0⟩
    rintro n s5 ⟨i, H5, I5, st5, n5, w5⟩
    rcases turn i n H5 w5 with ⟨stop, qq⟩ | ⟨go, Nx, hNx, step⟩
    · have td := T.done (X.blk s3 H3 scope ce fp) rfl rfl rfl hc i [] s5 _ H5 (fun _ _ => False) I5 (stat I5 n5) st5 stop
      refine thnF td fun r s6 ⟨hr, I6⟩ => ?_
      subst hr
      -- back in the def's context
      have I7 : Inv X pins σ H5 s6 := I3.call' (ch := fp) I6.os I6.base I6.hok I6.bare fun b hb => ⟨(f3 b hb).1.2.2.2.1, (f3 b hb).1.2.1, (f3 b hb).1.2.2.2.2.1, (f3 b hb).1.2.2.2.2.2⟩
      have nC : H5 s3.heap.objs.size = none := by
        have z : H5 ce.locals = none := I6.free
        rw [cL] at z
        exact z
      obtain ⟨m, hn, _⟩ := I6.loc
      have hn : s6.heap.Ns ce.locals m := hn
      rw [cL] at hn
      exact hRR D s3.heap.objs.size s6 m H5 I7 qq hn (I3.fpOk (Nat.le_refl _) nC)
    · have ti := T.item (X.blk s3 H3 scope ce fp) rfl rfl rfl hc i [] s5 _ H5 (fun _ _ => False) I5 (stat I5 n5) st5 go
      refine thnF ti fun r s6 ⟨u, hr, h6⟩ => ?_
      subst hr
      refine thnF h6 fun _ s7 ⟨x, H7, I7, r7, y7, st7, n7⟩ => ?_
      have I7' := I7.pinned (stat I7 n7) (T.obj _ _ st7)
      refine thnF (pg _ s7 _ H7 x u _ I7' r7 (step x H7 y7)) fun _ s8 ⟨σ8, H8, I8, hw8, q8⟩ => ?_
      refine thnF (pt _ s8 σ8 H8 _ I8 q8) fun b s9 ⟨H9, I9, q9⟩ => ?_
      -- the turn's end
      have fin : ∀ {s' : Shared} {H' : Hp}, Inv (X.blk s3 H3 scope ce fp) ([] ++ pinsAt fp s7.heap) σ8 H' s' → Nx H' → ∃ m, m < n ∧ ∃ i H', Inv (X.blk s3 H3 scope ce fp) [] (wipe σ (own.map (·.2))) H' s' ∧ tn i s'.heap ∧ (∀ b ∈ fp, H' b = none) ∧ W i m H' := fun {s' H'} I' nx => by
        obtain ⟨m', hm, w'⟩ := hNx H' nx
        have pin' : ∀ b ∈ fp, ∀ o, s7.heap.get? b = some o → s'.heap.get? b = some o ∧ H' b = none := fun b hb o e =>
          let z := I'.pin (b, o) (List.mem_append_right _ (List.mem_append_right _ (mem_pinsAt hb e)))
          ⟨z.1, z.2.1⟩
        have hl : (wipe σ (own.map (·.2))).length = σ8.length := by rw [← hw8, wipe_length]
        refine ⟨m', hm, i + 1, H', (I'.unpinned (pins := [])).weak hl (fun j v e => ?_), T.keep _ _ _ st7 fun b hb o e => (pin' b hb o e).1, fun b hb => ?_, w'⟩
        · rw [← hw8] at e
          exact (wipe_some e).1
        · obtain ⟨o, e, _⟩ := T.obj _ _ st7 b hb
          exact (pin' b hb o e).2
      cases b with
      | false =>
        simp only [Bool.false_eq_true, if_false] at q9 ⊢
        exact fin I9 q9
      | true =>
        simp only [if_true] at q9 ⊢
        refine thnF (pe _ s9 σ8 H9 _ I9 q9) fun z s10 ⟨yv, H10, I10, r10, acc, hD10, hz10, nx⟩ => ?_
        exact app_ok (X := X.blk s3 H3 scope ce fp) I10 hD10 hz10 r10 fun s11 I11 => fin I11 nx
  exact codeAny_compStart_list loop (T.self X.A 0 _ _ _ st4 loop)
theorem pe_lc {elt tg iter : Expr} {ifs : List Expr} {scope : Scope} {own : List (Str × Nat)} {pos : Pos} {wi : TI} {g : TG} {tt : TT} {te : TE} (hc : X.calm = true) (hN : X.N.Nodup) (hi : PI X tg iter wi) (ok : BlkOk X.N X.env.scope scope own)
    (hg : ∀ (s : Shared) (H : Hp) (C : Addr) (cl : List (Str × Addr)) (fp : List Addr), PG (X.blk s H scope (compEnvC scope cl C X.env) fp) tg g) (ht : ∀ (s : Shared) (H : Hp) (C : Addr) (cl : List (Str × Addr)) (fp : List Addr), PTs (X.blk s H scope (compEnvC scope cl C X.env) fp) ifs tt)
    (he : ∀ (s : Shared) (H : Hp) (C : Addr) (cl : List (Str × Addr)) (fp : List Addr), PE (X.blk s H scope (compEnvC scope cl C X.env) fp) elt te) (hs : ∀ x, foldedSetIterable iter X.env x = pure x := by intro _; rfl) :
    PE X (.ListComp elt [⟨tg, iter, ifs, 0⟩] scope pos) (tLc wi g tt te (own.map (·.2))) := by
  intro pins s σ H Q I h
  rw [eval_ListComp]
  refine lc_core hc hN I hi ok hg ht he hs h fun D C s' m H' I' q hn f => ⟨m, hn, fun h'' sb => ?_⟩
  obtain ⟨f0, f1, f2, f3, f4, f5⟩ := f
  exact ⟨.ref D, H', I'.turned (t' := s'.toks) (fun b o hb e => (sb.2 b hb).trans e) f0 f1 f3 f4 f5, rfl, q⟩
theorem ps_setLc {i : Nat} {y : Str} {py : Pos} {elt tg iter : Expr} {ifs : List Expr} {scope : Scope} {own : List (Str × Nat)} {pos spos : Pos} {wi : TI} {g : TG} {tt : TT} {te : TE} (hc : X.calm = true) (hN : X.N.Nodup) (hy : X.N[i]? = some y) (hyl : X.env.scope.names.lookup y = some .local)
    (hsw : swapsWith (.ListComp elt [⟨tg, iter, ifs, 0⟩] scope pos) (some (.Name y py)) spos.line X.env = pure true) (hi : PI X tg iter wi) (ok : BlkOk X.N X.env.scope scope own)
    (hg : ∀ (s : Shared) (H : Hp) (C : Addr) (cl : List (Str × Addr)) (fp : List Addr), PG (X.blk s H scope (compEnvC scope cl C X.env) fp) tg g) (ht : ∀ (s : Shared) (H : Hp) (C : Addr) (cl : List (Str × Addr)) (fp : List Addr), PTs (X.blk s H scope (compEnvC scope cl C X.env) fp) ifs tt)
    (he : ∀ (s : Shared) (H : Hp) (C : Addr) (cl : List (Str × Addr)) (fp : List Addr), PE (X.blk s H scope (compEnvC scope cl C X.env) fp) elt te) (hs : ∀ x, foldedSetIterable iter X.env x = pure x := by intro _; rfl) :
    PS X (.Assign [.Name y py] (.ListComp elt [⟨tg, iter, ifs, 0⟩] scope pos) spos) (tAsg (tLc wi g tt te (own.map (·.2))) (gName i)) := by
  intro pins s σ H D I h
  rw [exec_Assign_Name_used _ _ _ _ hsw]
  refine wpAny_bind (wpAny_standAt (wpAny_bind ?_))
  show wpAny _ X.A (do let _ ← comprehension (.ListComp elt [⟨tg, iter, ifs, 0⟩] scope pos) scope X.env (firstIterPos [⟨tg, iter, ifs, 0⟩] pos) (newList []) false (eval iter X.env) (some (assign (.Name y py) X.env))) _ _ s
  have h : tLc wi g tt te (own.map (·.2)) σ H (fun x H1 => gName i x σ H1 D.nx) := h
  refine wpAny_bind (thn (lc_core (Qf := fun _ s' => SP X pins D .next s') hc hN I hi ok hg ht he hs h fun L C s' m H' I' q hn f => ?_) fun _ s' hq => wpAny_pure (wpAny_pure hq))
  show wpAny _ _ (assign (.Name y py) X.env (.ref L)) _ _ _
  refine wpAny_assign_Name (store_ok2 (v := V.ref L) I' hN hy (.inl hyl) rfl (fun s2 I2 ⟨a, sb, ha⟩ => ?_) (.inr hyl))
  obtain ⟨f0, f1, f2, f3, f4, f5⟩ := f
  have haC : C ≠ a := by
    rcases ha with z | z
    · rw [z]; exact f1
    · exact fun e => f4 y a z e.symm
  refine ⟨m, hn.sameBut sb haC, fun h3 sb3 => ?_⟩
  exact ⟨_, H', I2.turned (t' := s2.toks) (fun b o hb e => (sb3.2 b hb).trans e) f0 f1 f3 f4 f5, q⟩
theorem sw_true {elt : Expr} {gs : List Comprehension} {scope : Scope} {pos py : Pos} {y : Str} {l : Nat} {env : Env} (hk : env.scope.kind = .function) (hy : env.scope.names.lookup y = some .local) (hl : (py.line == pos.line) = true)
    (ha : (scope.names.any fun (n, k) => n == y && (k == .local || k == .cell)) = false) : swapsWith (.ListComp elt gs scope pos) (some (.Name y py)) l env = pure true := by
  have ky : env.kindOf y = some .local := hy
  have hb : env.blockKind = .function := by unfold Env.blockKind; rw [hk]; rfl
  unfold swapsWith
  simp only [hb, ky, ha, Expr.pos, hl]
  rfl
end
theorem lc_list {K : PySem.W.Frag} {a : Addr} {xs : List V} {g : TG} {tt : TT} {te : TE} {vs : List Nat} {σ : St} {H1 : Hp} {D : Addr} {Qd : Hp → Prop} (Pv : Nat → Hp → Prop) (h0 : Pv 0 (upd H1 D (.lst []))) (hl : ∀ i H, i ≤ xs.length → Pv i H → SqL K H a xs)
    (hs : ∀ i x H, xs[i]? = some x → Pv i H → g x (wipe σ vs) H fun σ2 H2 => wipe σ2 vs = wipe σ vs ∧ tt σ2 H2 fun b H3 =>
      if b = true then te σ2 H3 fun y H4 => ∃ acc, H4 D = some (.lst acc) ∧ acc.length < sizeLine ∧ Pv (i + 1) (upd H4 D (.lst (acc ++ [y]))) else Pv (i + 1) H3) (hd : ∀ H, Pv xs.length H → Qd H) :
    ∃ W : Nat → Nat → Hp → Prop, (∃ m, W 0 m (upd H1 D (.lst []))) ∧ ∀ i m H, W i m H →
      ((Itl K a).stop i H ∧ Qd H) ∨ ((Itl K a).go i H ∧ ∃ Nx : Hp → Prop, (∀ H', Nx H' → ∃ m', m' < m ∧ W (i + 1) m' H') ∧ ∀ x H', (Itl K a).yld i H x H' → g x (wipe σ vs) H' fun σ2 H2 => wipe σ2 vs = wipe σ vs ∧ tt σ2 H2 fun b H3 =>
        if b = true then te σ2 H3 fun y H4 => ∃ acc, H4 D = some (.lst acc) ∧ acc.length < sizeLine ∧ Nx (upd H4 D (.lst (acc ++ [y]))) else Nx H3) := by
  refine ⟨fun i m H => m = xs.length - i ∧ i ≤ xs.length ∧ Pv i H, ⟨xs.length, by simp, Nat.zero_le _, h0⟩, ?_⟩
  rintro i m H ⟨rfl, hi, p⟩
  have q := hl i H hi p
  by_cases hlt : i < xs.length
  · refine .inr ⟨⟨xs, xs[i], q, by simp [hlt]⟩, Pv (i + 1), fun H' p' => ⟨xs.length - (i + 1), by omega, rfl, hlt, p'⟩, fun x H' y => ?_⟩
    obtain ⟨e, y⟩ := y
    subst e
    exact hs i x _ (y xs q) p
  · have e : i = xs.length := by omega
    subst e
    exact .inl ⟨⟨xs, q, Nat.le_refl _⟩, hd H p⟩
def blkC (N : List Str) (sc scope : Scope) (own : List (Str × Nat)) : Bool :=
  (match scope.kind with | .function => true | _ => false) && (scope.names.all fun y => decide (scope.names.lookup y.1 = some y.2)) && (own.all fun p => decide (N[p.2]? = some p.1)) &&
    (scope.names.all fun y => match y.2 with
      | .free => (match sc.names.lookup y.1 with | some .cell => true | some .free => true | _ => false)
      | .local => decide (y.1 ∈ own.map (·.1)) || decide (y.1 ∉ N)
      | .cell => decide (y.1 ∈ own.map (·.1)) || decide (y.1 ∉ N)
      | _ => true)
theorem blkOk_by {N : List Str} {sc scope : Scope} {own : List (Str × Nat)} (h : blkC N sc scope own = true) : BlkOk N sc scope own := by
  unfold blkC at h
  simp only [Bool.and_eq_true, List.all_eq_true, decide_eq_true_eq] at h
  obtain ⟨⟨⟨h1, h2⟩, h3⟩, h4⟩ := h
  refine ⟨?_, h2, h3, fun y hy e => ?_, fun y hy e => ?_⟩
  · split at h1
    · assumption
    · cases h1
  · have q := h4 y hy
    simp only [e] at q
    split at q <;> first | exact .inl (by assumption) | exact .inr (by assumption) | cases q
  · have q := h4 y hy
    rcases e with e | e <;> (simp only [e, Bool.or_eq_true, decide_eq_true_eq] at q; exact q)
end L2
namespace L2
open PySem PySem.Spec PyProof.Rows
section
variable {prog : Program} {w : World} {A : Around} {R : Result → Shared → Prop} {s : Shared} {elt t0 i0 t1 i1 : Expr} {ifs0 ifs1 : List Expr} {scope : Scope} {pos : Pos} {it acc : Value} {env : Env}
end
section
variable {X : Cx}
end
end L2
namespace L2
open PySem PySem.Spec PyProof.Rows
section
variable {κ : Type} [DecidableEq κ]
def valV (kvs : List (κ × V)) (k : κ) : Option V := (kvs.find? fun kv => decide (kv.1 = k)).map (·.2)
def putK (kvs : List (κ × V)) (k : κ) (v : V) : List (κ × V) :=
  if (kvs.any fun kv => decide (kv.1 = k)) = true then kvs.map (fun kv => if kv.1 = k then (kv.1, v) else kv) else kvs ++ [(k, v)]
theorem valV_pos {p : κ × V} {r : List (κ × V)} {k : κ} (e : p.1 = k) : valV (p :: r) k = some p.2 := by simp [valV, List.find?_cons, e]
theorem valV_neg {p : κ × V} {r : List (κ × V)} {k : κ} (e : ¬ p.1 = k) : valV (p :: r) k = valV r k := by simp [valV, List.find?_cons, e]
theorem valV_any (k : κ) : ∀ kvs : List (κ × V), (kvs.any fun kv => decide (kv.1 = k)) = (valV kvs k).isSome
  | [] => rfl
  | p :: r => by
    rw [List.any_cons]
    by_cases e : p.1 = k
    · simp only [valV_pos e, decide_eq_true e, Bool.true_or, Option.isSome_some]
    · rw [valV_neg e, decide_eq_false e, Bool.false_or]; exact valV_any k r
theorem length_putK (kvs : List (κ × V)) (k : κ) (v : V) : (putK kvs k v).length ≤ kvs.length + 1 := by
  unfold putK
  split
  · rw [List.length_map]; omega
  · rw [List.length_append, List.length_cons, List.length_nil]; omega
theorem putK_new {kvs : List (κ × V)} {k : κ} (v : V) (h : valV kvs k = none) : putK kvs k v = kvs ++ [(k, v)] := by
  unfold putK
  rw [valV_any, h]
  exact if_neg (by decide)
theorem RelO.isSome_eq {o : Option V} {u : Option Value} (r : RelO o u) : o.isSome = u.isSome := by
  cases o with
  | none => cases u with
    | none => rfl
    | some _ => exact (show False from r).elim
  | some _ => cases u with
    | none => exact (show False from r).elim
    | some _ => rfl
theorem KV.val {kvs : List (κ × V)} {vs : List (κ × Value)} (r : KV kvs vs) (k : κ) : RelO (valV kvs k) (valueAt vs k) := by
  unfold KV at r
  induction r with
  | nil => exact True.intro
  | @cons p q ps qs h t ih =>
    obtain ⟨h1, h2⟩ := h
    by_cases e : p.1 = k
    · have e' : q.1 = k := h1.symm.trans e
      have b : valueAt (q :: qs) k = some q.2 := by simp [valueAt, List.find?_cons, e']
      rw [valV_pos e, b]; exact h2
    · have e' : ¬ q.1 = k := fun z => e (h1.trans z)
      have b : valueAt (q :: qs) k = valueAt qs k := by simp [valueAt, List.find?_cons, e']
      rw [valV_neg e, b]; exact ih
theorem KV.any {kvs : List (κ × V)} {vs : List (κ × Value)} (r : KV kvs vs) (k : κ) : (kvs.any fun kv => decide (kv.1 = k)) = vs.any fun kv => decide (kv.1 = k) := by
  unfold KV at r
  induction r with
  | nil => rfl
  | cons h t ih => rw [List.any_cons, List.any_cons, ih, h.1]
theorem KV.repl {kvs : List (κ × V)} {vs : List (κ × Value)} (r : KV kvs vs) (k : κ) {y : V} {u : Value} (ry : RelV y u) :
    KV (kvs.map fun kv => if kv.1 = k then (kv.1, y) else kv) (vs.map fun kv => if kv.1 = k then (kv.1, u) else kv) := by
  unfold KV at r ⊢
  induction r with
  | nil => exact .nil
  | @cons p q ps qs h t ih =>
    rw [List.map_cons, List.map_cons]
    refine .cons ?_ ih
    obtain ⟨h1, h2⟩ := h
    by_cases e : p.1 = k
    · rw [if_pos e, if_pos (h1.symm.trans e)]; exact ⟨h1, ry⟩
    · rw [if_neg e, if_neg (fun z => e (h1.trans z))]; exact ⟨h1, h2⟩
theorem KV.put {kvs : List (κ × V)} {vs : List (κ × Value)} (r : KV kvs vs) (k : κ) {y : V} {u : Value} (ry : RelV y u) : KV (putK kvs k y) (stored vs k u) := by
  unfold putK stored
  rw [r.any k]
  by_cases e : (vs.any fun kv => decide (kv.1 = k)) = true
  · rw [if_pos e, if_pos e]; exact r.repl k ry
  · rw [if_neg e, if_neg e]; exact Paired.snoc r ⟨rfl, ry⟩
theorem KV.length {kvs : List (κ × V)} {vs : List (κ × Value)} (r : KV kvs vs) : kvs.length = vs.length := Paired.length r
end
theorem kV_is {P : Program} {w : World} {k : Key} {u : Value} (r : RelV (kV k) u) : (mixKind P w).is k u = true := by
  cases k with
  | inl i => obtain ⟨t, e⟩ := (show ∃ t, u = Value.int i t from r); subst e; exact mixKind_int P w i t
  | inr x => obtain ⟨t, e⟩ := (show ∃ t, u = Value.str x t from r); subst e; exact mixKind_str P w x t
theorem items_are {P : Program} {w : World} : ∀ {ks : List Key} {us : List Value}, Vals (ks.map kV) us → ItemsAre (mixKind P w) ks us
  | [], _, r => by rw [List.map_nil] at r; cases r; exact .nil
  | k :: ks, _, r => by
    rw [List.map_cons] at r
    cases r with
    | cons h t => exact .cons (kV_is h) (items_are t)
abbrev KT (H : Hp) : List (List Key × V) → List (List Key × Addr × Value) → Prop := Paired fun p q => p.1 = q.1 ∧ H q.2.1 = some (.tup (p.1.map kV)) ∧ RelV p.2 q.2.2
theorem KT.val {H : Hp} {kvs : List (List Key × V)} {xs : List (List Key × Addr × Value)} (r : KT H kvs xs) (k : List Key) : RelO (valV kvs k) ((atKey xs k).map (·.2)) := by
  induction r with
  | nil => exact True.intro
  | @cons p q ps qs h t ih =>
    obtain ⟨h1, _, h2⟩ := h
    by_cases e : p.1 = k
    · have e' : q.1 = k := h1.symm.trans e
      have b : atKey (q :: qs) k = some q.2 := by simp [atKey, List.find?_cons, e']
      rw [valV_pos e, b]; exact h2
    · have e' : ¬ q.1 = k := fun z => e (h1.trans z)
      have b : atKey (q :: qs) k = atKey qs k := by simp [atKey, List.find?_cons, e']
      rw [valV_neg e, b]; exact ih
theorem KT.repl {H : Hp} {kvs : List (List Key × V)} {xs : List (List Key × Addr × Value)} (r : KT H kvs xs) (k : List Key) {y : V} {u : Value} (ry : RelV y u) :
    KT H (kvs.map fun kv => if kv.1 = k then (kv.1, y) else kv) (xs.map (putAt k u)) := by
  induction r with
  | nil => exact .nil
  | @cons p q ps qs h t ih =>
    rw [List.map_cons, List.map_cons]
    refine .cons ?_ ih
    obtain ⟨h1, h2, h3⟩ := h
    unfold putAt
    by_cases e : p.1 = k
    · rw [if_pos e, if_pos (h1.symm.trans e)]; exact ⟨h1, h2, ry⟩
    · rw [if_neg e, if_neg (fun z => e (h1.trans z))]; exact ⟨h1, h2, h3⟩
theorem KT.put {H : Hp} {kvs : List (List Key × V)} {xs : List (List Key × Addr × Value)} (r : KT H kvs xs) (k : List Key) {b : Addr} {y : V} {u : Value} (hb : H b = some (.tup (k.map kV))) (ry : RelV y u) :
    KT H (putK kvs k y) (storedH xs k b u) := by
  have e : (kvs.any fun kv => decide (kv.1 = k)) = (atKey xs k).isSome := by
    rw [valV_any, (r.val k).isSome_eq, Option.isSome_map]
  unfold putK storedH
  rw [e]
  by_cases q : (atKey xs k).isSome = true
  · rw [if_pos q, if_pos q]; exact r.repl k ry
  · rw [if_neg q, if_neg q]; exact Paired.snoc r ⟨rfl, hb, ry⟩
theorem KT.keeps {H H' : Hp} {kvs : List (List Key × V)} {xs : List (List Key × Addr × Value)} (r : KT H kvs xs) (ht : ∀ b ys, H b = some (.tup ys) → H' b = some (.tup ys)) : KT H' kvs xs :=
  Paired.mapP r fun _ _ z => ⟨z.1, ht _ _ z.2.1, z.2.2⟩
section
variable {P : Program} {w : World} {H : Hp} {h : Heap} {a : Addr}
theorem rd_of {u : HO} (ok : HOk P w H h) (e : Rd H a u) : ObjOk P w H h a u := e.ok ok
theorem dk_rd {kvs : List (Key × V)} (ok : HOk P w H h) (e : Rd H a (.dK kvs)) : kvs.length ≤ sizeLine ∧ (a == sysModules) = false ∧ ∃ vs, KV kvs vs ∧ h.DictOf (mixKind P w) a vs :=
  show ObjOk P w H h a (.dK kvs) from rd_of ok e
theorem dk_of {kvs : List (Key × V)} (ok : HOk P w H h) (e : H a = some (.dK kvs)) : kvs.length ≤ sizeLine ∧ (a == sysModules) = false ∧ ∃ vs, KV kvs vs ∧ h.DictOf (mixKind P w) a vs := dk_rd ok (.inl e)
theorem key_of {ks : List Key} (ok : HOk P w H h) (e : H a = some (.tup (ks.map kV))) : (tupleKind (mixKind P w)).is h ks a := by
  obtain ⟨_, its, r, o, h1, h2, n, h3⟩ := (show ObjOk P w H h a (.tup (ks.map kV)) from ok a _ e)
  exact ⟨o, its.toArray, n, h1, h2, h3, by simpa using items_are r⟩
theorem dt_rd {kvs : List (List Key × V)} (ok : HOk P w H h) (e : Rd H a (.dT kvs)) : kvs.length ≤ sizeLine ∧ (a == sysModules) = false ∧
    ∃ xs, KT H kvs xs ∧ h.DictOfH (tupleKind (mixKind P w)) a xs := by
  obtain ⟨z, y, xs, r, o, es, ep, h1, h2, h3, h4, h5⟩ := (show ObjOk P w H h a (.dT kvs) from rd_of ok e)
  refine ⟨z, y, xs, r, o, es, ep, h1, h2, h3, h4, fun x hx => ?_, h5⟩
  have all : ∀ {l : List (List Key × V)} {m : List (List Key × Addr × Value)}, KT H l m → ∀ x ∈ m, (tupleKind (mixKind P w)).is h x.1 x.2.1 := by
    intro l m q
    induction q with
    | nil => intro x hx; exact nomatch hx
    | @cons p q ps qs hq t ih =>
      intro x hx
      rcases List.mem_cons.mp hx with e | hx
      · subst e
        exact key_of ok (by rw [← hq.1]; exact hq.2.1)
      · exact ih x hx
  exact all r x hx
theorem dt_of {kvs : List (List Key × V)} (ok : HOk P w H h) (e : H a = some (.dT kvs)) : kvs.length ≤ sizeLine ∧ (a == sysModules) = false ∧
    ∃ xs, KT H kvs xs ∧ h.DictOfH (tupleKind (mixKind P w)) a xs := dt_rd ok (.inl e)
end
def DGet (H : Hp) (a : Addr) (y : V) (r : Option V) : Prop :=
  (∃ kvs k, Rd H a (.dK kvs) ∧ y = kV k ∧ r = valV kvs k) ∨ ∃ kvs k b, Rd H a (.dT kvs) ∧ y = .ref b ∧ H b = some (.tup (k.map kV)) ∧ r = valV kvs k
def DPut (H : Hp) (a : Addr) (y v : V) (H' : Hp) : Prop :=
  (∃ kvs k, H a = some (.dK kvs) ∧ y = kV k ∧ kvs.length < sizeLine ∧ H' = upd H a (.dK (putK kvs k v))) ∨
  ∃ kvs k b, H a = some (.dT kvs) ∧ y = .ref b ∧ H b = some (.tup (k.map kV)) ∧ kvs.length < sizeLine ∧ H' = upd H a (.dT (putK kvs k v))
theorem DGet.k {H : Hp} {a : Addr} {kvs : List (Key × V)} {k : Key} (e : H a = some (.dK kvs)) : DGet H a (kV k) (valV kvs k) := .inl ⟨kvs, k, .inl e, rfl, rfl⟩
theorem DPut.k {H : Hp} {a : Addr} {kvs : List (Key × V)} {k : Key} {v : V} (e : H a = some (.dK kvs)) (hl : kvs.length < sizeLine) : DPut H a (kV k) v (upd H a (.dK (putK kvs k v))) := .inl ⟨kvs, k, e, rfl, hl, rfl⟩
theorem DPut.t {H : Hp} {a b : Addr} {kvs : List (List Key × V)} {k : List Key} {v : V} (e : H a = some (.dT kvs)) (eb : H b = some (.tup (k.map kV))) (hl : kvs.length < sizeLine) :
    DPut H a (.ref b) v (upd H a (.dT (putK kvs k v))) := .inr ⟨kvs, k, b, e, rfl, eb, hl, rfl⟩
section
variable {X : Cx} {pins : List (Addr × Obj)} {σ : St} {H : Hp} {s : Shared} {a : Addr} {y v : V} {u r : Value} {o : Option V} {A : Around} {E : Value → Shared → Prop}
theorem Inv.big (I : Inv X pins σ H s) : sysModules < s.heap.objs.size := by
  have h : mainGlobals < s.heap.objs.size := (I.mod.glob.keeps I.bk).lt
  exact Nat.lt_trans (by decide) h
theorem d_getItem {Q : Value → Shared → Prop} (hu : A.units + 1 < cLine) (I : Inv X pins σ H s) (g : DGet H a y (some v)) (ry : RelV y u) (h : ∀ w' s', Inv X pins σ H s' → RelV v w' → Q w' s') :
    wpAny (model X.prog X.w) A (getItem (.ref a) u) Q E s := by
  rcases g with ⟨kvs, k, e, ey, l⟩ | ⟨kvs, k, b, e, ey, eb, l⟩
  · subst ey
    obtain ⟨z, hd, vs, rel, dd⟩ := dk_rd I.hok e
    obtain ⟨w', hw, rw'⟩ := RelO.some_of (v := v) (o := valueAt vs k) (by rw [l]; exact rel.val k)
    exact wpAny_getItem_of (kV_is ry) dd.mapOf hw (h w' _ (I.tok _) rw')
  · subst ey
    cases (show u = Value.ref b from ry)
    obtain ⟨z, hd, xs, rel, dd⟩ := dt_rd I.hok e
    obtain ⟨w', hw, rw'⟩ := RelO.some_of (v := v) (o := (atKey xs k).map (·.2)) (by rw [l]; exact rel.val k)
    obtain ⟨p, hp, hp2⟩ := Option.map_eq_some_iff.mp hw
    refine wpAny_getItem_heap (tupleKind_room_in1 hu) (key_of I.hok eb) dd hp ?_
    rw [hp2]
    exact h w' _ (I.tok _) rw'
theorem d_notIn {Q : Value → Shared → Prop} (hu : A.units + 1 < cLine) (I : Inv X pins σ H s) (g : DGet H a y o) (ry : RelV y u) (h : ∀ s', Inv X pins σ H s' → Q (.bool (!o.isSome)) s') :
    wpAny (model X.prog X.w) A (compareOp .NotIn u (.ref a)) Q E s := by
  rcases g with ⟨kvs, k, e, ey, l⟩ | ⟨kvs, k, b, e, ey, eb, l⟩
  · subst ey
    obtain ⟨z, hd, vs, rel, dd⟩ := dk_rd I.hok e
    refine wpAny_notIn_of (kV_is ry) hd dd.mapOf ?_
    rw [← (rel.val k).isSome_eq, ← l]
    exact h _ (I.tok _)
  · subst ey
    cases (show u = Value.ref b from ry)
    obtain ⟨z, hd, xs, rel, dd⟩ := dt_rd I.hok e
    refine wpAny_notIn_heap (tupleKind_room_in1 hu) (key_of I.hok eb) hd dd ?_
    have q := (rel.val k).isSome_eq
    rw [Option.isSome_map] at q
    rw [← q, ← l]
    exact h _ (I.tok _)
theorem d_write {h' : Heap} {t' : Nat} {ob : HO} (I : Inv X pins σ H s) (mu : Mut (H a)) (hs : Heap.SameBut a s.heap h') (he : ∃ q, h'.get? a = some q) (new : ObjOk X.prog X.w (upd H a ob) h' a ob) :
    Inv X pins σ (upd H a ob) { s with heap := h', toks := t' } :=
  I.write (x := a) (e := a) mu (.inl rfl) (fun b q hb z => (hs.2 b hb).trans z) he new
theorem dk_new {P : Program} {w : World} {H' : Hp} {h' : Heap} {kvs : List (Key × V)} {vs : List (Key × Value)} (z : kvs.length ≤ sizeLine) (hd : (a == sysModules) = false) (rel : KV kvs vs) (dd : h'.DictOf (mixKind P w) a vs) :
    ObjOk P w H' h' a (.dK kvs) := ⟨z, hd, vs, rel, dd⟩
theorem d_setItem {H' : Hp} {Q : Unit → Shared → Prop} (hu : A.units + 1 < cLine) (I : Inv X pins σ H s) (g : DPut H a y v H') (ry : RelV y u) (rv : RelV v r) (h : ∀ s', Inv X pins σ H' s' → Q () s') :
    wpAny (model X.prog X.w) A (setItem (.ref a) u r) Q E s := by
  rcases g with ⟨kvs, k, e, ey, l, eH⟩ | ⟨kvs, k, b, e, ey, eb, l, eH⟩
  · subst ey eH
    obtain ⟨z, hd, vs, rel, dd⟩ := dk_of I.hok e
    have hz : vs.length ≤ sizeLine := by rw [← rel.length]; exact z
    have hl : (putK kvs k v).length ≤ sizeLine := by have := length_putK kvs k v; omega
    refine wpAny_setItem_pairs (hsz := hz) (kV_is ry) dd fun h' dd' hs => h _ ?_
    have he : ∃ q, h'.get? a = some q := let ⟨q, _, _, hq, _⟩ := dd'; ⟨q, hq⟩
    exact d_write I (by rw [e]; exact True.intro) hs he (dk_new hl hd (rel.put k rv) dd')
  · subst ey eH
    cases (show u = Value.ref b from ry)
    obtain ⟨z, hd, xs, rel, dd⟩ := dt_of I.hok e
    have hz : xs.length ≤ sizeLine := by rw [← Paired.length rel]; exact z
    have hl : (putK kvs k v).length ≤ sizeLine := by have := length_putK kvs k v; omega
    refine wpAny_setItem_heap (hsz := hz) (tupleKind_room_in1 hu) (key_of I.hok eb) dd fun h' dd' hs => h _ ?_
    obtain ⟨q, es, ep, hq, h2, h3, h4, _, h5⟩ := dd'
    refine d_write I (by rw [e]; exact True.intro) hs ⟨q, hq⟩ ⟨hl, hd, _, (rel.put k eb rv).keeps fun c ys ec => ?_, q, es, ep, hq, h2, h3, h4, h5⟩
    rw [upd_ne (ne_of ec e (fun z => nomatch z))]
    exact ec
end
section
variable {X : Cx} {pins : List (Addr × Obj)} {σ : St} {H : Hp} {s : Shared} {a : Addr} {kvs : List (Key × V)} {k : Key} {u : Value} {A : Around} {E : Value → Shared → Prop}
end
def NoSl (i : Expr) : Prop := ∀ ov iv, subscripted i false ov iv = operate [ov, iv] (getItem ov iv)
theorem subD_of {prog : Program} {w : World} {A : Around} {E : Value → Shared → Prop} {s : Shared} {env : Env} {value slice : Expr} {pos : Pos} {T id : String} {Q : Value → Shared → Prop}
    (hl : typeLookup (.type T) "__getitem__" = pure (some (.builtin id))) (hs : NoSl slice)
    (h : wpAny (model prog w) A (eval value env) (fun o s₁ => wpAny (model prog w) A (eval slice env) (fun i s₂ => s₂.TypeIs o T ∧ wpAny (model prog w) A (getItem o i) Q E s₂) E s₁) E s) :
    wpAny (model prog w) A (eval (.Subscript value slice pos) env) Q E s := by
  refine Subscript_ (wpAny_mono h (fun o s₁ h₁ => wpAny_mono h₁ (fun i s₂ h₂ => ?_) fun _ _ x => x) fun _ _ x => x)
  obtain ⟨hT, h₂⟩ := h₂
  unfold subscriptTail
  refine wpAny_bind ?_
  rw [getitemInPython_of_ne hT.not_modules]
  refine wpAny_bind (wpAny_specialOf hT hl ?_)
  have fin : wpAny (model prog w) A (subscripted slice false o i) (fun r s₃ => wpAny (model prog w) A (letTemporaryGo value o r >>= fun _ => pure r) Q E s₃) E s₂ := by
    rw [hs o i]
    exact wpAny_operating (wpAny_mono h₂ (fun r s₃ h₃ => wpAny_bind (wpAny_letTemporaryGo (wpAny_pure h₃))) fun _ _ x => x)
  first
    | exact wpAny_pure (wpAny_bind fin)
    | exact wpAny_bind (wpAny_pure (wpAny_bind fin))
    | exact wpAny_bind fin
theorem dict_typeIs {X : Cx} {pins : List (Addr × Obj)} {σ : St} {H : Hp} {s : Shared} {a : Addr} {y : V} {o : Option V} (I : Inv X pins σ H s) (g : DGet H a y o) : s.TypeIs (.ref a) "dict" := by
  rcases g with ⟨kvs, k, e, _, _⟩ | ⟨kvs, k, b, e, _, _, _⟩
  · obtain ⟨_, _, vs, _, dd⟩ := dk_rd I.hok e
    exact dd.typeIs
  · obtain ⟨_, _, xs, _, dd⟩ := dt_rd I.hok e
    exact dd.typeIs
def tDGet (td ty : TE) : TE := fun σ H Q => td σ H fun x H1 => ty σ H1 fun y H2 => ∃ a v, x = .ref a ∧ DGet H2 a y (some v) ∧ Q v H2
def tDNotIn (ty td : TE) : TE := fun σ H Q => ty σ H fun y H1 => td σ H1 fun x H2 => ∃ a o, x = .ref a ∧ DGet H2 a y o ∧ Q (.bl (!o.isSome)) H2
def sDPut (td ty tv : TE) : TS := fun D σ H => tv σ H fun v H1 => td σ H1 fun x H2 => ty σ H2 fun y H3 => ∃ a H4, x = .ref a ∧ DPut H3 a y v H4 ∧ D.nx σ H4
section
variable {X : Cx} {o i e value : Expr} {pos pos' tpos : Pos} {td ty tv : TE}
theorem pe_dget (hu : X.A.units + 1 < cLine) (ho : PE X o td) (hi : PE X i ty) (hs : NoSl i) : PE X (.Subscript o i pos) (tDGet td ty) := by
  intro pins s σ H Q I h
  refine subD_of PySem.F.slot_dict_getitem.lookup hs (thn (ho pins s σ H _ I h) fun u s1 ⟨x, H1, I1, rx, q1⟩ => thn (hi pins s1 σ H1 _ I1 q1) fun iv s2 ⟨y, H2, I2, ry, a, v, ex, g, q2⟩ => ?_)
  subst ex
  obtain rfl : u = Value.ref a := rx
  exact ⟨dict_typeIs I2 g, d_getItem hu I2 g ry fun w' s3 I3 rw' => ⟨v, H2, I3, rw', q2⟩⟩
theorem pc_dnotin (hu : X.A.units + 1 < cLine) (hi : PE X i ty) (ho : PE X o td) : PC X .NotIn i o (tDNotIn ty td) := by
  intro pins s σ H Q I h
  refine thn (hi pins s σ H _ I h) fun iv s1 ⟨y, H1, I1, ry, q1⟩ => thn (ho pins s1 σ H1 _ I1 q1) fun u s2 ⟨x, H2, I2, rx, a, ov, ex, g, q2⟩ => ?_
  subst ex
  obtain rfl : u = Value.ref a := rx
  exact d_notIn hu I2 g ry fun s3 I3 => ⟨.bl (!ov.isSome), H2, I3, rfl, q2⟩
theorem ps_dput (hu : X.A.units + 1 < cLine) (ho : PE X o td) (hi : PE X i ty) (hv : PE X value tv) (hs : swapsWith value (some (.Subscript o i pos')) pos.line X.env = pure false) :
    PS X (.Assign [.Subscript o i pos'] value pos) (sDPut td ty tv) := by
  intro pins s σ H D I h
  refine wpAny_Assign_Subscript (thn (hv pins s σ H _ I h) fun r s1 ⟨v, H1, I1, rv, q1⟩ => thn (ho pins s1 σ H1 _ I1 q1) fun u s2 ⟨x, H2, I2, rx, q2⟩ => thn (hi pins s2 σ H2 _ I2 q2) fun iv s3 ⟨y, H3, I3, ry, a, H4, ex, g, q3⟩ => ?_) hs
  subst ex
  obtain rfl : u = Value.ref a := rx
  exact d_setItem hu I3 g ry rv fun s4 I4 => ⟨σ, H4, I4, q3⟩
end
theorem dk_empty {P : Program} {w : World} {H : Hp} (h : Heap) (hb : sysModules < h.objs.size) : ObjOk P w H (h.push { cls := .type "dict", data := .dict #[] }) h.objs.size (.dK []) :=
  ⟨Nat.zero_le _, beq_eq_false_iff_ne.mpr (Ne.symm (Nat.ne_of_lt hb)), [], .nil, Heap.DictOf.new h⟩
theorem dt_empty {P : Program} {w : World} {H : Hp} (h : Heap) (hb : sysModules < h.objs.size) : ObjOk P w H (h.push { cls := .type "dict", data := .dict #[] }) h.objs.size (.dT []) :=
  ⟨Nat.zero_le _, beq_eq_false_iff_ne.mpr (Ne.symm (Nat.ne_of_lt hb)), [], .nil, _, #[], 0, Heap.get?_push_size _ rfl, ⟨rfl, rfl, rfl⟩, rfl, rfl, List.nodup_nil⟩
def tDNewK : TE := fun _ H Q => ∀ p, H p = none → Q (.ref p) (upd H p (.dK []))
def tDNewT : TE := fun _ H Q => ∀ p, H p = none → Q (.ref p) (upd H p (.dT []))
section
variable {X : Cx} {pos : Pos}
theorem pe_dnewK : PE X (.Dict [] [] pos) tDNewK := fun pins s σ H Q I h =>
  wpAny_Dict_empty ⟨.ref s.heap.objs.size, _, I.laid (a := s.heap.objs.size) (o := .dK []) (t' := s.toks) (fun _ _ q => Heap.get?_push_of_some _ q) (Nat.le_refl _) (dk_empty s.heap I.big), rfl, h _ (I.hok.fresh (Nat.le_refl _))⟩
theorem pe_dnewT : PE X (.Dict [] [] pos) tDNewT := fun pins s σ H Q I h =>
  wpAny_Dict_empty ⟨.ref s.heap.objs.size, _, I.laid (a := s.heap.objs.size) (o := .dT []) (t' := s.toks) (fun _ _ q => Heap.get?_push_of_some _ q) (Nat.le_refl _) (dt_empty s.heap I.big), rfl, h _ (I.hok.fresh (Nat.le_refl _))⟩
end
section
variable {X : Cx} {pins : List (Addr × Obj)} {σ : St} {H : Hp} {s : Shared} {a : Addr} {y d : V} {u r : Value} {o : Option V} {A : Around} {E : Value → Shared → Prop}
end
section
variable {X : Cx} {o e f : Expr} {apos cpos : Pos} {td ty tx : TE}
end
section
variable {X : Cx} {pins : List (Addr × Obj)} {σ : St} {H : Hp} {s : Shared} {a : Addr} {kvs : List (Key × V)} {A : Around} {E : Value → Shared → Prop}
end
section
variable {X : Cx} {pins : List (Addr × Obj)} {σ : St} {H : Hp} {s : Shared} {a : Addr} {y : V} {u : Value} {A : Around} {E : Value → Shared → Prop}
end
end L2
namespace L2
open PySem PySem.Spec PyProof.Rows
section
variable {prog : Program} {w : World} {A : Around} {E : Value → Shared → Prop}
end
section
variable {X : Cx}
end
end L2
namespace L2
open PySem PySem.Spec PyProof.Rows
theorem boot_reversed5 : bootBuiltins "reversed" = some (.type "reversed") := by decide +kernel
section
variable {X : Cx} {pins : List (Addr × Obj)} {σ : St} {H : Hp} {s : Shared} {h' : Heap}
theorem Inv.turnedL {t' : Nat} {ch : List Addr} (I : Inv X pins σ H s) (k : ∀ b o, b ∉ ch → s.heap.get? b = some o → h'.get? b = some o) (hf : ∀ b ∈ ch, FpOk X pins H b) : Inv X pins σ H { s with heap := h', toks := t' } := by
  have nit : ∀ b u, H b = some u → b ∉ ch := fun b u e z => by
    have q := (hf b z).1
    rw [q] at e; cases e
  refine I.step (g' := s.gens) (d' := s.drawn) (ch := ch) (fun b hb => ⟨(hf b hb).2.2.2.1, (hf b hb).2.1, (hf b hb).2.2.2.2.1, (hf b hb).2.2.2.2.2⟩) (fun b o _ _ hc e _ => k b o hc e) (fun b o _ _ hc e _ => ⟨o.slots, k b o hc e⟩)
    (fun _ _ _ _ n => n) (fun b o hc e => ⟨o, k b o hc e⟩) (fun _ _ e => e) (fun _ _ _ e => e) (fun b ps e => ⟨#[], by rw [e]; simp⟩) (fun m hm => ?_) (fun b u e => ?_) I.bare
  · obtain ⟨o, es, ep, ho, r⟩ := hm
    exact ⟨o, es, ep, k _ o (fun z => (hf _ z).2.1 rfl) ho, r⟩
  · refine (I.hok b u e).stay (fun c v hc q => k c v ?_ q) (fun _ q => q) fun _ _ q => q
    rcases hc with z | z
    · rw [z]; exact nit b u e
    · exact nit c _ z
theorem Inv.turnedNew {t' : Nat} {ch : List Addr} {T : Addr} {ob : HO} (I : Inv X pins σ H s) (k : ∀ b o, b ∉ ch → s.heap.get? b = some o → h'.get? b = some o) (hf : ∀ b ∈ ch, FpOk X pins H b) (hT : s.heap.objs.size ≤ T)
    (new : ObjOk X.prog X.w (upd H T ob) h' T ob) : Inv X pins σ (upd H T ob) { s with heap := h', toks := t' } := by
  have hn : H T = none := I.hok.fresh hT
  have nit : ∀ b u, H b = some u → b ∉ ch := fun b u e z => by
    have q := (hf b z).1
    rw [q] at e; cases e
  refine I.step (g' := s.gens) (d' := s.drawn) (ch := ch) (fun b hb => ⟨(hf b hb).2.2.2.1, (hf b hb).2.1, (hf b hb).2.2.2.2.1, (hf b hb).2.2.2.2.2⟩) (fun b o _ _ hc e _ => k b o hc e) (fun b o _ _ hc e _ => ⟨o.slots, k b o hc e⟩)
    (fun b o _ e n => ?_) (fun b o hc e => ⟨o, k b o hc e⟩) (fun b xs e => ?_) (fun b o u e => ?_) (fun b ps e => ⟨#[], ?_⟩) (fun m hm => ?_) (fun b u e => ?_) I.bare
  · rw [upd_ne (Nat.ne_of_lt (Nat.lt_of_lt_of_le (Heap.lt_size e) hT))]; exact n
  · rw [upd_ne (ne_of_none e hn)]; exact e
  · rw [upd_ne (ne_of_none e hn)]; exact e
  · rw [upd_ne (ne_of_none e hn), e]; simp
  · obtain ⟨o, es, ep, ho, r⟩ := hm
    exact ⟨o, es, ep, k _ o (fun z => (hf _ z).2.1 rfl) ho, r⟩
  · by_cases hb : b = T
    · subst hb
      rw [upd_same] at e
      cases e
      exact new
    · rw [upd_ne hb] at e
      refine (I.hok b u e).stay (fun c v hc q => k c v ?_ q) (fun c q => by rw [upd_ne (ne_of_none q hn)]; exact q) fun c xs q => by rw [upd_ne (ne_of_none q hn)]; exact q
      rcases hc with z | z
      · rw [z]; exact nit b u e
      · exact nit c _ z
theorem Inv.lock {d : Addr} {u : HO} (I : Inv X pins σ H s) (h : H d = some u) (mu : Mut (some u)) : ∃ od, Inv X pins σ (upd H d (.frz od u)) s := by
  have x := I.hok d u h
  have ex : ∃ od, s.heap.get? d = some od := by
    cases u with
    | lst xs => obtain ⟨_, _, _, _, e⟩ := x; exact ⟨_, e⟩
    | dK kvs => obtain ⟨_, _, _, _, o, _, _, e, _⟩ := x; exact ⟨o, e⟩
    | dT kvs => obtain ⟨_, _, _, _, o, _, _, e, _⟩ := x; exact ⟨o, e⟩
    | set S n => obtain ⟨o, _, _, _, e, _⟩ := x; exact ⟨o, e⟩
    | ins C dx fs => obtain ⟨_, _, _, e, _⟩ := x; exact ⟨_, e⟩
    | ext φ => obtain ⟨_, ⟨_, e⟩, _⟩ := x; exact ⟨_, e⟩
    | _ => exact False.elim mu
  obtain ⟨od, e⟩ := ex
  have new : ObjOk X.prog X.w (upd H d (.frz od u)) s.heap d (.frz od u) := by
    refine ⟨e, x.stay (fun b v _ q => q) (fun b q => ?_) fun b xs q => ?_⟩
    · rw [upd_ne (fun z => by rw [z, h] at q; cases q; exact mu)]; exact q
    · rw [upd_ne (fun z => by rw [z, h] at q; cases q; exact mu)]; exact q
  exact ⟨od, I.write (x := d) (e := d) (t' := s.toks) (h' := s.heap) (by rw [h]; exact mu) (.inl rfl) (fun b v _ q => q) ⟨od, e⟩ new⟩
theorem Inv.nofrz {d : Addr} {u : HO} (I : Inv X pins σ H s) (h : H d = some u) (mu : Mut (some u)) : ∀ o' u', X.H_0 d ≠ some (.frz o' u') := fun o' u' e => by
  have q := I.base.frzs d o' u' e
  rw [h] at q
  cases q
  exact mu
theorem Inv.unlock {d : Addr} {od : Obj} {u : HO} (I : Inv X pins σ H s) (h : H d = some (.frz od u)) (hn : ∀ o' u', X.H_0 d ≠ some (.frz o' u')) : Inv X pins σ (upd H d u) s := by
  have neH : ∀ b o, H b = some o → (∀ o' u', o ≠ .frz o' u') → b ≠ d := fun b o e hne z => by
    rw [z, h] at e
    cases e
    exact hne _ _ rfl
  have neN : ∀ b, H b = none → b ≠ d := fun b e z => by rw [z, h] at e; cases e
  refine ⟨I.ok, I.os, I.bare, ⟨I.base.keep, I.base.slot, fun b o e n hx => ?_, I.base.there, fun b xs e => ?_, fun b o x e => ?_, fun b ps e => ?_⟩, I.loc, I.cell, ?_, fun x c e => ?_, fun p hp => ?_, fun b o e => ?_, I.len⟩
  · rw [upd_ne (neN b (I.base.free b o e n hx))]; exact I.base.free b o e n hx
  · have q := I.base.tups b xs e
    rw [upd_ne (neH b _ q (fun _ _ z => nomatch z))]; exact q
  · have q := I.base.frzs b o x e
    rw [upd_ne (fun z => by rw [z] at e; exact hn _ _ e)]; exact q
  · obtain ⟨m, q⟩ := I.base.tbls b ps e
    exact ⟨m, by rw [upd_ne (neH b _ q (fun _ _ z => nomatch z))]; exact q⟩
  · rw [upd_ne (neN _ I.free)]; exact I.free
  · rw [upd_ne (neN c (I.freeC x c e))]; exact I.freeC x c e
  · obtain ⟨e, n, r⟩ := I.pin p hp
    exact ⟨e, by rw [upd_ne (neN _ n)]; exact n, r⟩
  · by_cases hb : b = d
    · rw [hb, upd_same] at e
      cases e
      rw [hb]
      obtain ⟨_, x⟩ := I.hok d _ h
      exact x.stay (fun c v _ q => q) (fun c q => by rw [upd_ne (neH c _ q (fun _ _ z => nomatch z))]; exact q) fun c xs q => by rw [upd_ne (neH c _ q (fun _ _ z => nomatch z))]; exact q
    · rw [upd_ne hb] at e
      exact (I.hok b o e).stay (fun c v _ q => q) (fun c q => by rw [upd_ne (neH c _ q (fun _ _ z => nomatch z))]; exact q) fun c xs q => by rw [upd_ne (neH c _ q (fun _ _ z => nomatch z))]; exact q
end
def tLock (t : TS) : TS := fun D σ H => ∃ d u, H d = some u ∧ Mut (some u) ∧ ∀ od, t ⟨fun σ' H' => H' d = some (.frz od u) ∧ D.nx σ' (upd H' d u), fun v H' => H' d = some (.frz od u) ∧ D.rt v (upd H' d u), fun σ' H' => H' d = some (.frz od u) ∧ D.bk σ' (upd H' d u), fun σ' H' => H' d = some (.frz od u) ∧ D.ct σ' (upd H' d u)⟩ σ (upd H d (.frz od u))
def tLockE (t : TE) : TE := fun σ H Q => ∃ d u, H d = some u ∧ Mut (some u) ∧ ∀ od, t σ (upd H d (.frz od u)) fun v H' => H' d = some (.frz od u) ∧ Q v (upd H' d u)
section
variable {X : Cx}
theorem ps_lock {st : Stmt} {t : TS} (h : PS X st t) : PS X st (tLock t) := by
  intro pins s σ H D I hw
  obtain ⟨d, u, hd, mu, hw⟩ := hw
  obtain ⟨od, I1⟩ := I.lock hd mu
  refine thn (h pins s σ _ _ I1 (hw od)) fun f s1 q => ?_
  cases f with
  | next => obtain ⟨σ', H', I2, e, q⟩ := q; exact ⟨σ', _, I2.unlock e (I.nofrz hd mu), q⟩
  | brk => obtain ⟨σ', H', I2, e, q⟩ := q; exact ⟨σ', _, I2.unlock e (I.nofrz hd mu), q⟩
  | cont => obtain ⟨σ', H', I2, e, q⟩ := q; exact ⟨σ', _, I2.unlock e (I.nofrz hd mu), q⟩
  | ret v => obtain ⟨x, σ', H', I2, r, e, q⟩ := q; exact ⟨x, σ', _, I2.unlock e (I.nofrz hd mu), r, q⟩
theorem pe_lock {e : Expr} {t : TE} (h : PE X e t) : PE X e (tLockE t) := by
  intro pins s σ H Q I hw
  obtain ⟨d, u, hd, mu, hw⟩ := hw
  obtain ⟨od, I1⟩ := I.lock hd mu
  refine thn (h pins s σ _ _ I1 (hw od)) fun v s1 ⟨x, H1, I2, r, e2, q⟩ => ?_
  exact ⟨x, _, I2.unlock e2 (I.nofrz hd mu), r, q⟩
theorem pi_one {tg : Expr} {pins : List (Addr × Obj)} {σ : St} {H : Hp} {s : Shared} {R : It → Hp → Prop} {J : It} {tn : Nat → Heap → Prop} {tk : Nat} (I : Inv X pins σ H s) (o : Obj)
    (T : Turn X.prog X.w X.K tg J [s.heap.objs.size] s.heap.objs.size tn) (st : tn 0 (s.heap.push o)) (q : R J H) : PIE X pins σ tg R (.ref s.heap.objs.size) { s with heap := s.heap.push o, toks := tk } := by
  refine ⟨s.heap.objs.size, [s.heap.objs.size], tn, J, H, rfl, I.kept fun b ob e => Heap.get?_push_of_some _ e, T, st, fun b hb => ?_, q⟩
  have e : b = s.heap.objs.size := by simpa using hb
  subst e
  exact I.fpOk (Nat.le_refl _) (I.hok.fresh (Nat.le_refl _))
end
section
variable {X : Cx} {tg : Expr}
end
def Itv (K : PySem.W.Frag) (a : Addr) (n : Nat) : It :=
  ⟨fun i H => i < n ∧ ∃ (xs : List V) (x : V), SqL K H a xs ∧ xs[n - 1 - i]? = some x, fun i H x H' => H' = H ∧ ∀ xs, SqL K H a xs → xs[n - 1 - i]? = some x, fun i _ => n ≤ i⟩
theorem turn_rev {P : Program} {w : World} {K : PySem.W.Frag} {tg : Expr} (a it : Addr) (n : Nat) : Turn P w K tg (Itv K a n) [it] it (fun i h => i ≤ n ∧ h.IsRevIter it a ((n : Int) - 1 - (i : Nat))) where
  mem := by simp
  obj := fun i h st b hb => by
    have e : b = it := by simpa using hb
    subst e
    obtain ⟨_, o, e, c, d⟩ := st
    exact ⟨o, e, fun v z => by rw [d] at z; cases z⟩
  keep := fun i h h' st k => ⟨st.1, st.2.at fun o e => k it (by simp) o e⟩
  item := by
    intro X hP hw hK hc i pins s σ H E I hf st hg
    subst hP hw hK
    obtain ⟨hin, xs, x, hq, hx⟩ := hg
    obtain ⟨its, rv, p, hz⟩ := I.list hq
    obtain ⟨u, hu, ru⟩ := rv.get hx
    obtain ⟨f0, f1, f2, f3, f4, f5⟩ := hf it (by simp)
    obtain ⟨_, hit⟩ := st
    have e1 : (n : Int) - 1 - ((i : Nat) : Int) = ((n - 1 - i : Nat) : Int) := by omega
    rw [e1] at hit
    refine wpAny_pyNext_rev_item hit p.isList (x := u) (by simpa using hu) fun h' st' sb => ?_
    have e2 : ((n - 1 - i : Nat) : Int) - 1 = (n : Int) - 1 - ((i + 1 : Nat) : Int) := by omega
    rw [e2] at st'
    have I1 : Inv X pins σ H { s with heap := h' } := I.turned (t' := s.toks) (fun b o hb e => (sb.2 b hb).trans e) f0 f1 f3 f4 f5
    obtain ⟨o, e, c, d⟩ := id st'
    exact ⟨u, rfl, go_of (s := { s with heap := h' }) e c d (by decide) ⟨x, H, I1, ru, ⟨rfl, fun ys hy => by rw [I.list_inj hy hq]; exact hx⟩, ⟨hin, st'⟩, fun b hb => (hf b hb).1⟩⟩
  done := by
    intro X hP hw hK hc i pins s σ H E I hf st hg
    subst hP hw hK
    obtain ⟨f0, f1, f2, f3, f4, f5⟩ := hf it (by simp)
    obtain ⟨hin, hit⟩ := st
    have hge : n ≤ i := hg
    have e1 : (n : Int) - 1 - ((i : Nat) : Int) = -1 := by omega
    rw [e1] at hit
    exact wpAny_pyNext_rev_end (I.ok.hd hc) hit fun h' eb => ⟨rfl, I.turned (t' := s.toks) (fun b o hb e => eb b o hb e) f0 f1 f3 f4 f5⟩
  self := fun A i s Q E st h => wpAny_pyIter_revIter st.2 h
def iRev (K : PySem.W.Frag) (ta : TA) : TI := fun σ H R => ta σ H fun vs H1 => ∃ (a : Addr) (xs : List V), vs = [.ref a] ∧ SqL K H1 a xs ∧ R (Itv K a xs.length) H1
section
variable {X : Cx} {tg : Expr}
theorem pi_reversed {e : Expr} {ta : TA} {p pos : Pos} (hg : Gl X "reversed") (hm : X.mg "reversed" = none) (ha : PA X [e] ta) (hs : starEach [e] X.env = [(false, eval e X.env)] := by rfl) : PI X tg (.Call (.Name "reversed" p) [e] [] pos) (iRev X.K ta) := by
  intro pins s σ H R I h
  refine Call_ (ld_blt I hg hm boot_reversed5 (PyProof.Rows.callWith_type1 (thn (ha pos pins s σ H _ I h) fun us s1 ⟨vs, H1, I1, r1, q1⟩ => ?_) hs rfl))
  obtain ⟨a, xs, e, hq, q⟩ := q1
  subst e
  cases r1 with
  | cons r rr =>
    cases rr
    cases r
    obtain ⟨its, rv, p', hz⟩ := I1.list hq
    have hl := rv.length
    have e1 : ((its.toArray.size : Nat) : Int) - 1 = (xs.length : Int) - 1 - ((0 : Nat) : Int) := by simp only [List.size_toArray]; omega
    refine call_reversed_list p'.isList (wpAny_pyIter_revIter (l := a) (i := ((its.toArray.size : Nat) : Int) - 1) ⟨_, Heap.get?_push_size _ rfl, rfl, rfl⟩ ?_)
    refine pi_one (tk := s1.toks) I1 _ (turn_rev a _ xs.length) ⟨Nat.zero_le _, ?_⟩ q
    rw [← e1]
    exact ⟨_, Heap.get?_push_size _ rfl, rfl, rfl⟩
end
section
variable {prog : Program} {w : World} {A : Around} {E : Value → Shared → Prop} {s : Shared}
theorem iter_keys {d : Addr} {o : Obj} {es : Array DictEntry} {ep : Nat} {Q : Value → Shared → Prop} (hd : (d == sysModules) = false) (ho : s.heap.get? d = some o) (hc : o.ExactDict) (hdat : o.data = .dict es ep)
    (hQ : Q (.ref s.heap.objs.size) { s with heap := s.heap.push { cls := .type "dict_keyiterator", data := .fields #[.ref d, .int 0 0, .int es.size 0, .int ep 0] } }) :
    wpAny (model prog w) A (pyIter (.ref d)) Q E s := by
  have hT : s.TypeIs (.ref d) "dict" := ⟨o, ho, hc.1⟩
  refine wpAny_pyIter_slot hT F.slot_dict_iter (wpAny_call_entry F.slot_dict_iter hT F.entry_dict_iter ?_ (F.args_dict_iter_1 _))
  unfold Builtin.«dict.__iter__»
  refine wpAny_bind ?_
  unfold Builtin.Dict.dictSlotNone
  refine wpAny_bind (wpAny_notOrdered_dict hT ?_)
  show wpAny _ _ (pure (Value.ref d)) _ _ s
  refine wpAny_pure ?_
  show wpAny _ _ (Builtin.Dict.showsAll d >>= _) _ _ s
  unfold Builtin.Dict.showsAll
  rw [if_neg (by rw [hd]; exact Bool.false_ne_true)]
  refine wpAny_bind (wpAny_pure ?_)
  refine wpAny_bind (wpAny_dictEntries ho hdat ?_)
  refine wpAny_bind (wpAny_dictEpoch ho hdat ?_)
  refine wpAny_bind (wpAny_newObj_type (wpAny_pure ⟨_, rfl, "dict_keyiterator", _, ⟨_, Heap.get?_push_size _ rfl, rfl⟩, F.slot_dict_keyiterator_next.lookup, ?_⟩))
  simpa [rawInt] using hQ
theorem next_key_item {it d : Addr} {i n ep : Nat} {od : Obj} {es : Array DictEntry} {en : DictEntry} {Q : Option Value → Shared → Prop} (hit : s.heap.IsKeyIter it d i n ep) (hod : s.heap.get? d = some od) (hdd : od.data = .dict es ep)
    (hsz : es.size = n) (hx : es[i]? = some en) (hQ : ∀ h', h'.IsKeyIter it d (i + 1) n ep → Heap.SameBut it s.heap h' → Q (some en.key) { s with heap := h' }) : wpAny (model prog w) A (pyNext (.ref it)) Q E s := by
  obtain ⟨o, ho, hc, hd⟩ := id hit
  unfold pyNext
  refine wpAny_bind (wpAny_attempt (wpAny_callSpecial?_slot (name := Str.ofString "__next__") hit.typeIs F.slot_dict_keyiterator_next
    (wpAny_call_entry F.slot_dict_keyiterator_next hit.typeIs F.entry_dict_keyiterator_next ?_ (F.args_dict_keyiterator_next_1 _))))
  refine wpAny_bind (wpAny_pure ?_)
  refine wpAny_bind ?_
  refine wpAny_bind ?_
  first | refine wpAny_bind (wpAny_typeNameOfWhole_keyiter hit.typeIs (wpAny_pure ?_)) | refine wpAny_bind (wpAny_typeNameOf_keyiter hit.typeIs (wpAny_pure ?_))
  refine wpAny_bind (wpAny_fieldsOf ho hd ?_)
  have hown : Builtin.Dict_items.ownsTuple "dict_keyiterator" = false := by decide
  simp only [hown, Bool.false_eq_true, if_false]
  show wpAny _ _ (if (Value.ref d == Value.none) = true then _ else _) _ _ s
  rw [if_neg (show ¬ ((Value.ref d == Value.none) = true) from Bool.false_ne_true)]
  refine wpAny_bind (wpAny_pure ?_)
  refine wpAny_bind (wpAny_dictEntries hod hdd ?_)
  rw [if_neg (by rw [hsz]; simp)]
  refine wpAny_bind (wpAny_pure ?_)
  refine wpAny_bind (wpAny_dictEpoch hod hdd ?_)
  rw [if_neg (by simp)]
  refine wpAny_pure ?_
  obtain ⟨hlt', hen⟩ := Array.getElem?_eq_some_iff.mp hx
  simp only [show ¬ ((i : Int) < 0) from by omega, if_false, Int.toNat_natCast, Array.getElem?_eq_getElem hlt']
  refine wpAny_bind ?_
  first | refine wpAny_bind (wpAny_typeNameOfWhole_keyiter hit.typeIs (wpAny_pure ?_)) | refine wpAny_bind (wpAny_typeNameOf_keyiter hit.typeIs (wpAny_pure ?_))
  refine wpAny_bind (wpAny_isOneOf_keyiter hit.typeIs ?_)
  show wpAny _ _ (setField (.ref it) 1 (rawInt ((i : Int) + 1)) >>= _) _ _ s
  refine wpAny_bind (wpAny_setField ho hd (by simp) ?_)
  have hit' : (s.heap.update it (Obj.mapFields (·.setIfInBounds 1 (rawInt ((i : Int) + 1))))).IsKeyIter it d (i + 1) n ep :=
    ⟨_, Heap.get?_update_self _ ho (Obj.isFreed_of_fields (Obj.data_mapFields hd _)), (Obj.cls_mapFields ..).trans hc, by rw [Obj.data_mapFields hd]; simp [rawInt]⟩
  refine wpAny_bind (wpAny_holding ?_)
  refine wpAny_bind (wpAny_isOneOf_keyiter (s := { s with heap := s.heap.update it (Obj.mapFields (·.setIfInBounds 1 (rawInt ((i : Int) + 1)))) }) hit'.typeIs ?_)
  show wpAny _ _ (pure es[i].key) _ _ _
  rw [hen]
  exact wpAny_pure (wpAny_pure ⟨_, rfl, wpAny_pure (hQ _ hit' (Heap.SameBut.update ..))⟩)
theorem next_key_end {it d : Addr} {i n ep : Nat} {od : Obj} {es : Array DictEntry} {Q : Option Value → Shared → Prop} (hh : A.handled = none) (hit : s.heap.IsKeyIter it d i n ep) (hod : s.heap.get? d = some od) (hdd : od.data = .dict es ep)
    (hsz : es.size = n) (hge : n ≤ i) (hQ : ∀ h', Heap.ExtBut it s.heap h' → Q none { s with heap := h' }) : wpAny (model prog w) A (pyNext (.ref it)) Q E s := by
  obtain ⟨o, ho, hc, hd⟩ := id hit
  unfold pyNext
  refine wpAny_bind (wpAny_attempt (wpAny_callSpecial?_slot (name := Str.ofString "__next__") hit.typeIs F.slot_dict_keyiterator_next
    (wpAny_call_entry F.slot_dict_keyiterator_next hit.typeIs F.entry_dict_keyiterator_next ?_ (F.args_dict_keyiterator_next_1 _))))
  refine wpAny_bind (wpAny_pure ?_)
  refine wpAny_bind ?_
  refine wpAny_bind ?_
  first | refine wpAny_bind (wpAny_typeNameOfWhole_keyiter hit.typeIs (wpAny_pure ?_)) | refine wpAny_bind (wpAny_typeNameOf_keyiter hit.typeIs (wpAny_pure ?_))
  refine wpAny_bind (wpAny_fieldsOf ho hd ?_)
  have hown : Builtin.Dict_items.ownsTuple "dict_keyiterator" = false := by decide
  simp only [hown, Bool.false_eq_true, if_false]
  show wpAny _ _ (if (Value.ref d == Value.none) = true then _ else _) _ _ s
  rw [if_neg (show ¬ ((Value.ref d == Value.none) = true) from Bool.false_ne_true)]
  refine wpAny_bind (wpAny_pure ?_)
  refine wpAny_bind (wpAny_dictEntries hod hdd ?_)
  rw [if_neg (by rw [hsz]; simp)]
  refine wpAny_bind (wpAny_pure ?_)
  refine wpAny_bind (wpAny_dictEpoch hod hdd ?_)
  rw [if_neg (by simp)]
  refine wpAny_pure ?_
  have hge' : es.size ≤ i := by rw [hsz]; exact hge
  simp only [show ¬ ((i : Int) < 0) from by omega, if_false, Int.toNat_natCast, Array.getElem?_eq_none hge']
  refine wpAny_bind ?_
  first | refine wpAny_bind (wpAny_typeNameOfWhole_keyiter hit.typeIs (wpAny_pure ?_)) | refine wpAny_bind (wpAny_typeNameOf_keyiter hit.typeIs (wpAny_pure ?_))
  show wpAny _ _ (setField (.ref it) 0 .none >>= _) _ _ s
  refine wpAny_bind (wpAny_setField ho hd (by simp) ?_)
  show wpAny _ _ (newExc (.type "StopIteration") [] >>= _) _ _ _
  refine wpAny_bind ?_
  simp only [newExc, newTuple]
  refine wpAny_bind (wpAny_newObj_type ?_ (by size_fits))
  refine wpAny_bind (m := firstArgMember _ _) (wpAny_of_eq (a := Value.none) (by first | rfl | (simp only [firstArgMember]; rfl)) ?_)
  refine wpAny_newObj_type ?_ (by size_fits)
  simp only [raiseNew]
  refine wpAny_bind (wpAny_handled ?_)
  rw [show A.in1.handled = none from hh]
  refine wpAny_bind (wpAny_pure (wpAny_throw ?_))
  refine wpAny_bind (wpAny_isInstance (T := "StopIteration") (b := true) ⟨_, Heap.get?_push_size _ rfl, rfl⟩ isSubtype_stop ?_)
  exact wpAny_pure (hQ _ (((Heap.SameBut.update ..).extBut.push _).push _))
end
theorem kv_get {κ : Type} {kvs : List (κ × V)} {vs : List (κ × Value)} (h : KV kvs vs) : ∀ {i : Nat} {k : κ} {v : V}, kvs[i]? = some (k, v) → ∃ u, vs[i]? = some (k, u) ∧ RelV v u := by
  unfold KV at h
  induction h with
  | nil => intro i k v e; simp at e
  | @cons a b l₁ l₂ r t ih =>
    intro i k v e
    cases i with
    | zero =>
      simp only [List.getElem?_cons_zero, Option.some.injEq] at e
      subst e
      refine ⟨b.2, ?_, r.2⟩
      simp only [List.getElem?_cons_zero]
      exact congrArg some (Prod.ext r.1.symm rfl)
    | succ j =>
      simp only [List.getElem?_cons_succ] at e ⊢
      exact ih e
theorem paired_get {α β : Type} {G : α → β → Prop} {l₁ : List α} {l₂ : List β} (h : Paired G l₁ l₂) : ∀ {i : Nat} {a : α}, l₁[i]? = some a → ∃ b, l₂[i]? = some b ∧ G a b := by
  induction h with
  | nil => intro i a e; simp at e
  | @cons a b l₁ l₂ r t ih =>
    intro i a' e
    cases i with
    | zero =>
      simp only [List.getElem?_cons_zero, Option.some.injEq] at e
      subst e
      exact ⟨b, rfl, r⟩
    | succ j =>
      simp only [List.getElem?_cons_succ] at e ⊢
      exact ih e
theorem relV_key {k : Key} {u : Value} (h : keyIs k u = true) : RelV (kV k) u := by
  rcases keyIs_shape h with ⟨i, t, rfl, rfl⟩ | ⟨x, t, rfl, rfl⟩
  · exact ⟨t, rfl⟩
  · exact ⟨t, rfl⟩
section
variable {X : Cx} {pins : List (Addr × Obj)} {σ : St} {H : Hp} {s : Shared} {d : Addr} {o : Obj}
theorem Inv.frzK {kvs : List (Key × V)} (I : Inv X pins σ H s) (h : H d = some (.frz o (.dK kvs))) :
    (d == sysModules) = false ∧ s.heap.get? d = some o ∧ o.ExactDict ∧ ∃ (es : Array DictEntry) (ep : Nat) (vs : List (Key × Value)), o.data = .dict es ep ∧ es.size = kvs.length ∧ KV kvs vs ∧ s.heap.DictAt (mixKind X.prog X.w) d vs ep := by
  obtain ⟨hd, z, hs, vs, kv, o', es, ep, ho, hx, hdt, r⟩ := I.hok d _ h
  rw [hd] at ho
  cases ho
  refine ⟨hs, hd, hx, es, ep, vs, hdt, ?_, kv, o, es, hd, hx, hdt, r⟩
  have l1 := r.2.1.length
  have l2 : kvs.length = vs.length := Paired.length kv
  rw [Array.length_toList] at l1
  omega
theorem Inv.frzT {kvs : List (List Key × V)} (I : Inv X pins σ H s) (h : H d = some (.frz o (.dT kvs))) :
    (d == sysModules) = false ∧ s.heap.get? d = some o ∧ o.ExactDict ∧ ∃ (es : Array DictEntry) (ep : Nat), o.data = .dict es ep ∧ es.size = kvs.length ∧
      ∀ (i : Nat) (k : List Key) (v : V), kvs[i]? = some (k, v) → ∃ (en : DictEntry) (q : Addr), es[i]? = some en ∧ en.key = .ref q ∧ H q = some (.tup (k.map kV)) := by
  obtain ⟨hd, z, hs, xs, pr, o', es, ep, ho, hx, hdt, he, _⟩ := I.hok d _ h
  rw [hd] at ho
  cases ho
  refine ⟨hs, hd, hx, es, ep, hdt, ?_, fun i k v e => ?_⟩
  · have l1 : es.size = xs.length := size_of_entries he
    have l2 : kvs.length = xs.length := Paired.length pr
    omega
  · obtain ⟨b, hb, e1, e2, _⟩ := paired_get pr e
    have q := entry_at he i
    rw [hb] at q
    exact ⟨_, b.2.1, q, rfl, e2⟩
end
def Itk (d : Addr) (o : Obj) (kvs : List (Key × V)) : It :=
  ⟨fun i H => H d = some (.frz o (.dK kvs)) ∧ i < kvs.length, fun i H x H' => H' = H ∧ ∃ k v, kvs[i]? = some (k, v) ∧ x = kV k, fun i H => H d = some (.frz o (.dK kvs)) ∧ kvs.length ≤ i⟩
def Itkt (d : Addr) (o : Obj) (kvs : List (List Key × V)) : It :=
  ⟨fun i H => H d = some (.frz o (.dT kvs)) ∧ i < kvs.length, fun i H x H' => H' = H ∧ ∃ (k : List Key) (v : V) (q : Addr), kvs[i]? = some (k, v) ∧ x = .ref q ∧ H q = some (.tup (k.map kV)), fun i H => H d = some (.frz o (.dT kvs)) ∧ kvs.length ≤ i⟩
def Iti (d : Addr) (o : Obj) (kvs : List (Key × V)) : It :=
  ⟨fun i H => H d = some (.frz o (.dK kvs)) ∧ i < kvs.length, fun i H x H' => ∃ T k v, kvs[i]? = some (k, v) ∧ x = .ref T ∧ H T = none ∧ H' = upd H T (.tup [kV k, v]), fun i H => H d = some (.frz o (.dK kvs)) ∧ kvs.length ≤ i⟩
theorem dict_ep {o : Obj} {es es' : Array DictEntry} {ep ep' : Nat} (h : o.data = .dict es ep) (h' : o.data = .dict es' ep') : es' = es ∧ ep' = ep := by
  rw [h] at h'
  cases h'
  exact ⟨rfl, rfl⟩
section
variable {P : Program} {w : World} {K : PySem.W.Frag} {tg : Expr} {d : Addr} {o : Obj} {es : Array DictEntry} {ep : Nat}
theorem turn_keys {kvs : List (Key × V)} (it : Addr) (hod : o.data = .dict es ep) : Turn P w K tg (Itk d o kvs) [it] it (fun i h => h.IsKeyIter it d i kvs.length ep) where
  mem := by simp
  obj := fun i h st b hb => by
    have e : b = it := by simpa using hb
    subst e
    obtain ⟨oi, e, c, dd⟩ := st
    exact ⟨oi, e, fun v z => by rw [dd] at z; cases z⟩
  keep := fun i h h' st k => st.at fun oi e => k it (by simp) oi e
  item := by
    intro X hP hw hK hc i pins s σ H E I hf st hg
    subst hP hw hK
    obtain ⟨hd, hi⟩ := hg
    obtain ⟨f0, f1, f2, f3, f4, f5⟩ := hf it (by simp)
    obtain ⟨hs, hgd, hx, es', ep', vs, hdt, hsz, kv, hm⟩ := I.frzK hd
    obtain ⟨rfl, rfl⟩ := dict_ep hod hdt
    obtain ⟨⟨k, v⟩, hkv⟩ : ∃ p, kvs[i]? = some p := ⟨kvs[i], List.getElem?_eq_getElem hi⟩
    obtain ⟨u, hu, ru⟩ := kv_get kv hkv
    have hl : kvs.length = vs.length := Paired.length kv
    rw [hl] at st
    refine wpAny_pyNext_dict_item st hm hu fun key h' hkey st' sb => ?_
    have I1 : Inv X pins σ H { s with heap := h' } := I.turned (t' := s.toks) (fun b ob hb e => (sb.2 b hb).trans e) f0 f1 f3 f4 f5
    obtain ⟨oi, e, c, dd⟩ := id st'
    refine ⟨key, rfl, go_of (s := { s with heap := h' }) e c dd (by decide) ⟨kV k, H, I1, relV_key (show keyIs k key = true from hkey), ⟨rfl, k, v, hkv, rfl⟩, ?_, fun b hb => (hf b hb).1⟩⟩
    show h'.IsKeyIter it d (i + 1) kvs.length _
    rw [hl]
    exact st'
  done := by
    intro X hP hw hK hc i pins s σ H E I hf st hg
    subst hP hw hK
    obtain ⟨hd, hi⟩ := hg
    obtain ⟨f0, f1, f2, f3, f4, f5⟩ := hf it (by simp)
    obtain ⟨hs, hgd, hx, es', ep', vs, hdt, hsz, kv, hm⟩ := I.frzK hd
    obtain ⟨rfl, rfl⟩ := dict_ep hod hdt
    exact next_key_end (I.ok.hd hc) st hgd hdt hsz hi fun h' eb => ⟨rfl, I.turned (t' := s.toks) (fun b ob hb e => eb b ob hb e) f0 f1 f3 f4 f5⟩
  self := fun A i s Q E st h => wpAny_pyIter_keyiter st h
theorem turn_keysT {kvs : List (List Key × V)} (it : Addr) (hod : o.data = .dict es ep) : Turn P w K tg (Itkt d o kvs) [it] it (fun i h => h.IsKeyIter it d i kvs.length ep) where
  mem := by simp
  obj := fun i h st b hb => by
    have e : b = it := by simpa using hb
    subst e
    obtain ⟨oi, e, c, dd⟩ := st
    exact ⟨oi, e, fun v z => by rw [dd] at z; cases z⟩
  keep := fun i h h' st k => st.at fun oi e => k it (by simp) oi e
  item := by
    intro X hP hw hK hc i pins s σ H E I hf st hg
    subst hP hw hK
    obtain ⟨hd, hi⟩ := hg
    obtain ⟨f0, f1, f2, f3, f4, f5⟩ := hf it (by simp)
    obtain ⟨hs, hgd, hx, es', ep', hdt, hsz, ent⟩ := I.frzT hd
    obtain ⟨rfl, rfl⟩ := dict_ep hod hdt
    obtain ⟨⟨k, v⟩, hkv⟩ : ∃ p, kvs[i]? = some p := ⟨kvs[i], List.getElem?_eq_getElem hi⟩
    obtain ⟨en, q, hen, hkey, hq⟩ := ent i k v hkv
    refine next_key_item st hgd hdt hsz hen fun h' st' sb => ?_
    have I1 : Inv X pins σ H { s with heap := h' } := I.turned (t' := s.toks) (fun b ob hb e => (sb.2 b hb).trans e) f0 f1 f3 f4 f5
    obtain ⟨oi, e, c, dd⟩ := id st'
    exact ⟨en.key, rfl, go_of (s := { s with heap := h' }) e c dd (by decide) ⟨.ref q, H, I1, hkey, ⟨rfl, k, v, q, hkv, rfl, hq⟩, st', fun b hb => (hf b hb).1⟩⟩
  done := by
    intro X hP hw hK hc i pins s σ H E I hf st hg
    subst hP hw hK
    obtain ⟨hd, hi⟩ := hg
    obtain ⟨f0, f1, f2, f3, f4, f5⟩ := hf it (by simp)
    obtain ⟨hs, hgd, hx, es', ep', hdt, hsz, ent⟩ := I.frzT hd
    obtain ⟨rfl, rfl⟩ := dict_ep hod hdt
    exact next_key_end (I.ok.hd hc) st hgd hdt hsz hi fun h' eb => ⟨rfl, I.turned (t' := s.toks) (fun b ob hb e => eb b ob hb e) f0 f1 f3 f4 f5⟩
  self := fun A i s Q E st h => by
    refine wpAny_pyIter_slot st.typeIs F.slot_dict_keyiterator_iter (wpAny_call_entry F.slot_dict_keyiterator_iter st.typeIs F.entry_dict_keyiterator_iter ?_ (F.args_dict_keyiterator_iter_1 _))
    show wpAny _ _ (ret (.ref it)) _ _ s
    exact wpAny_pure ⟨_, rfl, "dict_keyiterator", _, st.typeIs, F.slot_dict_keyiterator_next.lookup, h⟩
theorem turn_items {kvs : List (Key × V)} {elts : List Expr} {kk : Nat} {tpos : Pos} (it : Addr) (hod : o.data = .dict es ep) :
    Turn P w K (.Tuple elts kk tpos) (Iti d o kvs) [it] it (fun i h => ∃ ok ov, IsItemIter h it d i kvs.length ep ok ov) where
  mem := by simp
  obj := fun i h st b hb => by
    have e : b = it := by simpa using hb
    subst e
    obtain ⟨ok, ov, e⟩ := st
    exact ⟨_, e, fun v z => nomatch z⟩
  keep := fun i h h' st k => let ⟨ok, ov, e⟩ := st; ⟨ok, ov, k it (by simp) _ e⟩
  item := by
    intro X hP hw hK hc i pins s σ H E I hf st hg
    subst hP hw hK
    obtain ⟨hd, hi⟩ := hg
    obtain ⟨hs, hgd, hx, es', ep', vs, hdt, hsz, kv, hm⟩ := I.frzK hd
    obtain ⟨rfl, rfl⟩ := dict_ep hod hdt
    obtain ⟨⟨k, v⟩, hkv⟩ : ∃ p, kvs[i]? = some p := ⟨kvs[i], List.getElem?_eq_getElem hi⟩
    obtain ⟨u, hu, ru⟩ := kv_get kv hkv
    have hl : kvs.length = vs.length := Paired.length kv
    obtain ⟨ok, ov, he⟩ := st
    rw [hl] at he
    have hlt : it < s.heap.objs.size := Heap.lt_size he
    refine wpAny_pyNext_items_item he hm hu fun key h' hkey ho hT hz hk => ?_
    refine ⟨_, rfl, wpAny_letOwnedTupleGo_items (s := { s with heap := h' }) ho fun h'' he' sb => ?_⟩
    have hT2 : h''.get? s.heap.objs.size = some { cls := .type "tuple", data := .seq #[key, u] } := (sb.2 _ (Nat.ne_of_gt hlt)).trans hT
    have new : ObjOk X.prog X.w (upd H s.heap.objs.size (.tup [kV k, v])) h'' s.heap.objs.size (.tup [kV k, v]) :=
      ⟨by show 2 ≤ sizeLine; decide, [key, u], .cons (relV_key (show keyIs k key = true from hkey)) (.cons ru .nil), ⟨_, hT2, rfl, _, rfl⟩⟩
    have I1 : Inv X pins σ (upd H s.heap.objs.size (.tup [kV k, v])) { s with heap := h'' } :=
      I.turnedNew (t' := s.toks) (ch := [it]) (fun b ob hb e => (sb.2 b (by simpa using hb)).trans (hk b ob (by simpa using hb) e)) hf (Nat.le_refl _) new
    refine ⟨.ref s.heap.objs.size, _, I1, rfl, ⟨_, k, v, hkv, rfl, I.hok.fresh (Nat.le_refl _), rfl⟩, ⟨key, u, ?_⟩, fun b hb => ?_⟩
    · rw [hl]; exact he'
    · have e : b = it := by simpa using hb
      rw [e, upd_ne (Nat.ne_of_lt hlt)]
      exact (hf it (by simp)).1
  done := by
    intro X hP hw hK hc i pins s σ H E I hf st hg
    subst hP hw hK
    obtain ⟨hd, hi⟩ := hg
    obtain ⟨f0, f1, f2, f3, f4, f5⟩ := hf it (by simp)
    obtain ⟨hs, hgd, hx, es', ep', vs, hdt, hsz, kv, hm⟩ := I.frzK hd
    obtain ⟨rfl, rfl⟩ := dict_ep hod hdt
    have hl : kvs.length = vs.length := Paired.length kv
    obtain ⟨ok, ov, he⟩ := st
    rw [hl] at he
    exact wpAny_pyNext_items_end (I.ok.hd hc) he hm (List.getElem?_eq_none (by omega)) fun h' eb => ⟨rfl, I.turned (t' := s.toks) (fun b ob hb e => eb b ob hb e) f0 f1 f3 f4 f5⟩
  self := fun A i s Q E st h => let ⟨_, _, e⟩ := st; PySem.W.kcp_self e h
end
def iKeys (td : TE) : TI := fun σ H R => td σ H fun x H1 => ∃ d o, x = .ref d ∧ ((∃ kvs, H1 d = some (.frz o (.dK kvs)) ∧ R (Itk d o kvs) H1) ∨ ∃ kvs, H1 d = some (.frz o (.dT kvs)) ∧ R (Itkt d o kvs) H1)
def iItems (td : TE) : TI := fun σ H R => td σ H fun x H1 => ∃ d o kvs, x = .ref d ∧ H1 d = some (.frz o (.dK kvs)) ∧ R (Iti d o kvs) H1
section
variable {X : Cx} {tg e : Expr} {td : TE} {apos cpos : Pos}
theorem pi_keys (he : PE X e td) : PI X tg e (iKeys td) := by
  intro pins s σ H R I h
  refine thn (he pins s σ H _ I h) fun u s1 ⟨x, H1, I1, rx, d, o, ex, q⟩ => ?_
  subst ex
  obtain rfl : u = Value.ref d := rx
  rcases q with ⟨kvs, hd, q⟩ | ⟨kvs, hd, q⟩
  · obtain ⟨hs, hgd, hx, es, ep, vs, hdt, hsz, kv, hm⟩ := I1.frzK hd
    refine iter_keys hs hgd hx hdt (pi_one (tk := s1.toks) I1 _ (turn_keys _ hdt) ⟨_, Heap.get?_push_size _ rfl, rfl, ?_⟩ q)
    rw [hsz] <;> rfl
  · obtain ⟨hs, hgd, hx, es, ep, hdt, hsz, ent⟩ := I1.frzT hd
    refine iter_keys hs hgd hx hdt (pi_one (tk := s1.toks) I1 _ (turn_keysT _ hdt) ⟨_, Heap.get?_push_size _ rfl, rfl, ?_⟩ q)
    rw [hsz] <;> rfl
theorem pi_items {elts : List Expr} {kk : Nat} {tpos : Pos} (he : PE X e td) (hbase : attributeBase e "items" X.env (eval e X.env) = eval e X.env := by rfl) (hline : (apos.endLine == cpos.line) = true := by rfl) :
    PI X (.Tuple elts kk tpos) (.Call (.Attribute e "items" apos) [] [] cpos) (iItems td) := by
  intro pins s σ H R I h
  refine wpAny_Call_method (T := "dict") (id := "dict.items") hbase rfl hline F.plainAttrs_dict F.slot_dict_items F.type_dict_items (thn (he pins s σ H _ I h) fun u s1 ⟨x, H1, I1, rx, d, o, kvs, ex, hd, q⟩ => ?_)
  subst ex
  obtain rfl : u = Value.ref d := rx
  obtain ⟨hs, hgd, hx, es, ep, vs, hdt, hsz, kv, hm⟩ := I1.frzK hd
  have hl : kvs.length = vs.length := Paired.length kv
  refine ⟨hm.dictOf.typeIs, hm.dictOf.mapOf.noDict, ?_⟩
  have I2 : Inv X pins σ H1 { s1 with heap := s1.heap.push { cls := .type "dict_items", data := .fields #[.ref d] } } := I1.kept (t' := s1.toks) fun b ob q => Heap.get?_push_of_some _ q
  have fin : wpAny (model X.prog X.w) X.A (pyIter (.ref s1.heap.objs.size)) (PIE X pins σ (.Tuple elts kk tpos) R) X.xe { s1 with heap := s1.heap.push { cls := .type "dict_items", data := .fields #[.ref d] } } := by
    refine wpAny_pyIter_items (d := d) (knd := mixKind X.prog X.w) ⟨_, Heap.get?_push_size _ rfl, rfl, rfl⟩ (hm.push _) (pi_one (tk := s1.toks) I2 _ (turn_items _ hdt) ⟨.none, .none, ?_⟩ q)
    rw [hl]
    exact Heap.get?_push_size _ rfl
  show wpAny _ _ (callWith cpos (.builtin "dict.items") [.ref d] [] []) _ X.xe s1
  exact method_meetsIn F.slot_dict_items F.entry_dict_items rfl (PySem.evalArgs_none ⟨rfl, hm.dictOf.typeIs, F.args_dict_items_1 _, _, meets_dict_items (mixKind X.prog X.w) d hs, ⟨vs, hm.dictOf⟩, fin⟩)
end
theorem boot_zip5 : bootBuiltins "zip" = some (.type "zip") := by decide +kernel
def Itz (K : PySem.W.Frag) (a b : Addr) : It :=
  ⟨fun i H => ∃ (xs ys : List V) (x y : V), SqL K H a xs ∧ SqL K H b ys ∧ xs[i]? = some x ∧ ys[i]? = some y,
    fun i H v H' => ∃ T x y, v = .ref T ∧ H T = none ∧ H' = upd H T (.tup [x, y]) ∧ (∀ xs, SqL K H a xs → xs[i]? = some x) ∧ ∀ ys, SqL K H b ys → ys[i]? = some y,
    fun i H => ∃ xs ys : List V, SqL K H a xs ∧ SqL K H b ys ∧ (xs.length ≤ i ∨ ys.length ≤ i)⟩
theorem turn_zip {P : Program} {w : World} {K : PySem.W.Frag} {elts : List Expr} {kk : Nat} {tpos : Pos} {a b z TI TO i1 i2 : Addr} (D : ZipApart z TI TO i1 i2 a b) :
    Turn P w K (.Tuple elts kk tpos) (Itz K a b) [z, TI, TO, i1, i2] z (fun i h => IsZip h z TI TO .none ∧ IsPair h TI (.ref i1) (.ref i2) ∧ (∃ x y, IsPair h TO x y) ∧ h.IsListIter i1 a i ∧ h.IsListIter i2 b i) where
  mem := by simp
  obj := fun i h st c hc => by
    obtain ⟨hz, hTI, ⟨x, y, hTO⟩, ⟨o1, e1, _, d1⟩, ⟨o2, e2, _, d2⟩⟩ := st
    have e' : c = z ∨ c = TI ∨ c = TO ∨ c = i1 ∨ c = i2 := by simpa using hc
    rcases e' with q | q | q | q | q
    · rw [q]; exact ⟨_, hz, fun v q => nomatch q⟩
    · rw [q]; exact ⟨_, hTI, fun v q => nomatch q⟩
    · rw [q]; exact ⟨_, hTO, fun v q => nomatch q⟩
    · rw [q]; exact ⟨o1, e1, fun v q => by rw [d1] at q; cases q⟩
    · rw [q]; exact ⟨o2, e2, fun v q => by rw [d2] at q; cases q⟩
  keep := fun i h h' st k => by
    obtain ⟨hz, hTI, ⟨x, y, hTO⟩, h1, h2⟩ := st
    exact ⟨k z (by simp) _ hz, k TI (by simp) _ hTI, ⟨x, y, k TO (by simp) _ hTO⟩, h1.at fun o q => k i1 (by simp) o q, h2.at fun o q => k i2 (by simp) o q⟩
  item := by
    intro X hP hw hK hc i pins s σ H E I hf st hg
    subst hP hw hK
    obtain ⟨hz, hTI, ⟨x0, y0, hTO⟩, h1, h2⟩ := st
    obtain ⟨xs, ys, x, y, hqx, hqy, hx, hy⟩ := hg
    obtain ⟨its, rv, p, _⟩ := I.list hqx
    obtain ⟨its2, rv2, p2, _⟩ := I.list hqy
    obtain ⟨u, hu, ru⟩ := rv.get hx
    obtain ⟨u2, hu2, ru2⟩ := rv2.get hy
    have hzl : z < s.heap.objs.size := Heap.lt_size hz
    refine wpAny_pyNext_zip_item D hz hTI hTO h1 h2 p.isList p2.isList (x := u) (y := u2) (by simpa using hu) (by simpa using hu2) fun h' z' TO' h1' h2' hT hsz hk => ?_
    refine ⟨_, rfl, wpAny_letOwnedTupleGo_zip (s := { s with heap := h' }) z' fun h'' z'' sb => ?_⟩
    have hT2 : h''.get? s.heap.objs.size = some { cls := .type "tuple", data := .seq #[u, u2] } := (sb.2 _ (Nat.ne_of_gt hzl)).trans hT
    have new : ObjOk X.prog X.w (upd H s.heap.objs.size (.tup [x, y])) h'' s.heap.objs.size (.tup [x, y]) :=
      ⟨by show 2 ≤ sizeLine; decide, [u, u2], .cons ru (.cons ru2 .nil), ⟨_, hT2, rfl, _, rfl⟩⟩
    have I1 : Inv X pins σ (upd H s.heap.objs.size (.tup [x, y])) { s with heap := h'' } :=
      I.turnedNew (t' := s.toks) (ch := [z, TI, TO, i1, i2]) (fun c o hb q => (sb.2 c (fun q' => hb (by simp [q']))).trans (hk c o (fun q' => hb (by simp [q'])) (fun q' => hb (by simp [q'])) (fun q' => hb (by simp [q'])) (fun q' => hb (by simp [q'])) q)) hf (Nat.le_refl _) new
    refine ⟨.ref s.heap.objs.size, _, I1, rfl, ⟨_, x, y, rfl, I.hok.fresh (Nat.le_refl _), rfl, fun l hl => by rw [I.list_inj hl hqx]; exact hx, fun l hl => by rw [I.list_inj hl hqy]; exact hy⟩, ⟨z'', ?_, ⟨u, u2, ?_⟩, ?_, ?_⟩, fun c hcm => ?_⟩
    · exact (sb.2 _ D.TIz).trans (hk _ _ D.TIz D.TITO D.TIi1 D.TIi2 hTI)
    · exact (sb.2 _ D.TOz).trans TO'
    · exact h1'.at fun o q => (sb.2 _ D.i1z).trans q
    · exact h2'.at fun o q => (sb.2 _ D.i2z).trans q
    · have hlt : c < s.heap.objs.size := by
        have e' : c = z ∨ c = TI ∨ c = TO ∨ c = i1 ∨ c = i2 := by simpa using hcm
        rcases e' with q | q | q | q | q
        · rw [q]; exact hzl
        · rw [q]; exact Heap.lt_size hTI
        · rw [q]; exact Heap.lt_size hTO
        · rw [q]; obtain ⟨_, e1, _⟩ := h1; exact Heap.lt_size e1
        · rw [q]; obtain ⟨_, e2, _⟩ := h2; exact Heap.lt_size e2
      rw [upd_ne (Nat.ne_of_lt hlt)]
      exact (hf c hcm).1
  done := by
    intro X hP hw hK hc i pins s σ H E I hf st hg
    subst hP hw hK
    obtain ⟨hz, hTI, ⟨x0, y0, hTO⟩, h1, h2⟩ := st
    obtain ⟨xs, ys, hqx, hqy, hend⟩ := hg
    obtain ⟨its, rv, p, _⟩ := I.list hqx
    obtain ⟨its2, rv2, p2, _⟩ := I.list hqy
    have l1 := rv.length
    have l2 := rv2.length
    have he : its.toArray[i]? = none ∨ its2.toArray[i]? = none := by
      rcases hend with q | q
      · exact .inl (by simp; omega)
      · exact .inr (by simp; omega)
    exact wpAny_pyNext_zip_end (I.ok.hd hc) D hz hTI hTO h1 h2 p.isList p2.isList he fun h' hk => ⟨rfl, I.turnedL (t' := s.toks) (ch := [z, TI, TO, i1, i2]) (fun c o hb q =>
      hk c o (fun q' => hb (by simp [q'])) (fun q' => hb (by simp [q'])) (fun q' => hb (by simp [q'])) (fun q' => hb (by simp [q'])) q) hf⟩
  self := fun A i s Q E st h => wpAny_pyIter_zip st.1 h
def iZip (K : PySem.W.Frag) (ta : TA) : TI := fun σ H R => ta σ H fun vs H1 => ∃ a b xs ys, vs = [.ref a, .ref b] ∧ SqL K H1 a xs ∧ SqL K H1 b ys ∧ R (Itz K a b) H1
theorem pi_zip {X : Cx} {e e2 : Expr} {ta : TA} {p pos tpos : Pos} {elts : List Expr} {kk : Nat} (hg : Gl X "zip") (hm : X.mg "zip" = none) (ha : PA X [e, e2] ta)
    (hs : starEach [e, e2] X.env = (false, eval e X.env) :: starEach [e2] X.env := by rfl) (hpl : (backTo pos (starEach [e2] X.env)).any (·.1) = false := by rfl) :
    PI X (.Tuple elts kk tpos) (.Call (.Name "zip" p) [e, e2] [] pos) (iZip X.K ta) := by
  intro pins s σ H R I h
  refine Call_ (ld_blt I hg hm boot_zip5 (PyProof.Rows.callWith_type1 (thn (ha pos pins s σ H _ I h) fun us s1 ⟨vs, H1, I1, r1, q1⟩ => ?_) hs hpl))
  obtain ⟨a, b, xs, ys, ex, hqx, hqy, q⟩ := q1
  subst ex
  cases r1 with
  | cons r rr =>
    cases rr with
    | cons r' rr =>
      cases rr
      cases r
      cases r'
      obtain ⟨its, rv, p1, _⟩ := I1.list hqx
      obtain ⟨its2, rv2, p2, _⟩ := I1.list hqy
      have la : a < s1.heap.objs.size := p1.lt
      have lb : b < s1.heap.objs.size := p2.lt
      refine call_zip_2 p1.isList p2.isList fun h' hz hTI hTO h1 h2 hsz hk => wpAny_pyIter_zip hz ?_
      have I2 : Inv X pins σ H1 { s1 with heap := h' } := I1.kept (t' := s1.toks) hk
      refine ⟨s1.heap.objs.size + 4, [s1.heap.objs.size + 4, s1.heap.objs.size + 2, s1.heap.objs.size + 3, s1.heap.objs.size, s1.heap.objs.size + 1], _, _, H1, rfl, I2, turn_zip (PySem.W.ktu_apart s1.heap.objs.size a b la lb), ⟨hz, hTI, ⟨_, _, hTO⟩, h1, h2⟩, fun c hcm => ?_, q⟩
      have e' : c = s1.heap.objs.size + 4 ∨ c = s1.heap.objs.size + 2 ∨ c = s1.heap.objs.size + 3 ∨ c = s1.heap.objs.size ∨ c = s1.heap.objs.size + 1 := by simpa using hcm
      have hle : s1.heap.objs.size ≤ c := by
        rcases e' with z | z | z | z | z
        · rw [z]; exact Nat.le_add_right _ _
        · rw [z]; exact Nat.le_add_right _ _
        · rw [z]; exact Nat.le_add_right _ _
        · rw [z]; exact Nat.le_refl _
        · rw [z]; exact Nat.le_add_right _ _
      exact I1.fpOk hle (I1.hok.fresh hle)
end L2
section 
namespace Bits
open PySem PyProof.Rows
end Bits
end 
section 
namespace TL
open PySem PySem.Builtin PySem.Builtin.Str PySem.StrLaws
end TL
end 
namespace L2
open PySem PySem.Spec PyProof.Rows
section
variable {X : Cx} {pins : List (Addr × Obj)} {σ : St} {H : Hp} {s : Shared} {Q : VK}
end
section
variable {X : Cx}
end
section
variable {X : Cx} {o e : Expr} {to te : TE}
end
end L2
namespace L2
open PySem PySem.Spec PyProof.Rows
section
variable {X : Cx}
end
end L2
namespace Att
open PySem PySem.W PySem.Calls PyProof.Rows
section
variable {prog : Program} {w : World} {A : Around} {E : Value → Shared → Prop} {s : Shared} {K : Frag}
end
end Att
namespace L2
open PySem PySem.Spec PyProof.Rows
end L2
namespace L2
open PySem PySem.Spec PyProof.Rows
end L2
section
set_option maxRecDepth 100000
set_option maxHeartbeats 2000000
namespace L2
open PySem PySem.Spec PyProof.Rows
open PySem.W (WData Codec OpenSpec Well WellAll ReadsW ReadsAllW)
mutual
/-- x stands for the datum d, lists and tuples all the way -/
inductive Dw (K : PySem.W.Frag) (H : Hp) : V → WData → Prop
  | non : Dw K H .non .none
  | bl (b : Bool) : Dw K H (.bl b) (.bool b)
  | int (i : Int) : Dw K H (.int i) (.int i)
  | str (x : Str) : Dw K H (.str x) (.str x)
  | byt (b : Array UInt8) : Dw K H (.byt b) (.bytes b.toList)
  | lst {a : Addr} {xs : List V} {ds : List WData} : SqL K H a xs → DwAll K H xs ds → Dw K H (.ref a) (.list ds)
  | tup {a : Addr} {xs : List V} {ds : List WData} : SqT K H a xs → DwAll K H xs ds → Dw K H (.ref a) (.tuple ds)
inductive DwAll (K : PySem.W.Frag) (H : Hp) : List V → List WData → Prop
  | nil : DwAll K H [] []
  | cons {v : V} {vs : List V} {d : WData} {ds : List WData} : Dw K H v d → DwAll K H vs ds → DwAll K H (v :: vs) (d :: ds)
end
theorem dw_ints {K : PySem.W.Frag} {H : Hp} : ∀ ns : List Int, DwAll K H (ns.map V.int) (ns.map WData.int)
  | [] => .nil
  | n :: r => .cons (.int n) (dw_ints r)
theorem ints_dw {K : PySem.W.Frag} {H : Hp} : ∀ (ns : List Int) (xs : List V), DwAll K H xs (ns.map WData.int) → xs = ns.map V.int
  | [], xs, h => by
    cases h
    rfl
  | n :: r, xs, h => by
    cases h with
    | cons h1 h2 =>
      cases h1
      rw [ints_dw r _ h2] <;> rfl
section
variable {P : Program} {w : World} {K : PySem.W.Frag} {H : Hp} {h : Heap} {R : PySem.W.WRecords} {cl : Str → Option Addr}
theorem sqL_at {a : Addr} {xs : List V} (hok : HOk P w H h) (KX : K.In h) (q : SqL K H a xs) : ∃ (its : List Value) (o : Obj) (n : Nat), Vals xs its ∧ h.get? a = some o ∧ o.cls = .type "list" ∧ o.data = .seq its.toArray n := by
  rcases q with q | ⟨o, its, n, e, hc, _, hd, _, hv⟩
  · obtain ⟨_, its, n, hv, e⟩ := (show ObjOk P w H h a (.lst xs) from q.ok hok)
    exact ⟨its, _, n, hv, e, rfl, rfl⟩
  · exact ⟨its.toList, o, n, hv, KX _ _ e, hc, by simp [hd]⟩
theorem sqT_at {a : Addr} {xs : List V} (hok : HOk P w H h) (KX : K.In h) (q : SqT K H a xs) : ∃ (its : List Value) (o : Obj) (n : Nat), Vals xs its ∧ h.get? a = some o ∧ o.cls = .type "tuple" ∧ o.data = .seq its.toArray n := by
  rcases q with q | ⟨o, its, n, e, hc, hd, _, hv⟩
  · obtain ⟨_, its, hv, o, e, hc, n, hd⟩ := (show ObjOk P w H h a (.tup xs) from q.ok hok)
    exact ⟨its, o, n, hv, e, hc, hd⟩
  · exact ⟨its.toList, o, n, hv, KX _ _ e, hc, by simp [hd]⟩
mutual
theorem Dw.reads (hok : HOk P w H h) (KX : K.In h) : ∀ (d : WData) (v : V) (u : Value), Dw K H v d → RelV v u → ∃ as, ReadsW R cl h u d as
  | .none, _, _, x, r => by
    cases x
    cases r
    exact ⟨_, ReadsW.none⟩
  | .bool b, _, _, x, r => by
    cases x
    cases r
    exact ⟨_, ReadsW.bool b⟩
  | .int i, _, _, x, r => by
    cases x
    obtain ⟨t, rfl⟩ := r
    exact ⟨_, ReadsW.int i t⟩
  | .str s, _, _, x, r => by
    cases x
    obtain ⟨t, rfl⟩ := r
    exact ⟨_, ReadsW.str s t⟩
  | .bytes b, _, _, x, r => by
    cases x
    obtain ⟨t, rfl⟩ := r
    exact ⟨_, ReadsW.bytes _ t⟩
  | .list ds, _, _, x, r => by
    cases x with
    | lst hs ha =>
      cases r
      obtain ⟨its, o, n, rv, ho, hc, hd⟩ := sqL_at hok KX hs
      obtain ⟨as, hr⟩ := Dw.readsAll hok KX ds _ its ha rv
      exact ⟨_, ReadsW.list ho hc hd hr⟩
  | .tuple ds, _, _, x, r => by
    cases x with
    | tup hs ha =>
      cases r
      obtain ⟨its, o, n, rv, ho, hc, hd⟩ := sqT_at hok KX hs
      obtain ⟨as, hr⟩ := Dw.readsAll hok KX ds _ its ha rv
      exact ⟨_, ReadsW.tuple ho hc hd hr⟩
  | .float _, _, _, x, _ => by cases x
  | .dict _, _, _, x, _ => by cases x
  | .bytearray _, _, _, x, _ => by cases x
  | .set _, _, _, x, _ => by cases x
  | .frozenset _, _, _, x, _ => by cases x
  | .obj _ _, _, _, x, _ => by cases x
theorem Dw.readsAll (hok : HOk P w H h) (KX : K.In h) : ∀ (ds : List WData) (vs : List V) (us : List Value), DwAll K H vs ds → Vals vs us → ∃ as, ReadsAllW R cl h us ds as
  | [], _, _, x, r => by
    cases x
    cases r
    exact ⟨_, ReadsAllW.nil⟩
  | d :: ds, _, _, x, r => by
    cases x with
    | cons h1 h2 =>
      cases r with
      | cons r1 r2 =>
        obtain ⟨as, q1⟩ := Dw.reads hok KX d _ _ h1 r1
        obtain ⟨bs, q2⟩ := Dw.readsAll hok KX ds _ _ h2 r2
        exact ⟨_, ReadsAllW.cons q1 q2⟩
end
end
mutual
/-- data that a codec tells -/
def plW : WData → Bool
  | .none => true
  | .bool _ => true
  | .int _ => true
  | .str _ => true
  | .bytes _ => true
  | .list xs => plWs xs
  | .tuple xs => plWs xs
  | _ => false
def plWs : List WData → Bool
  | [] => true
  | x :: r => plW x && plWs r
end
theorem plWs_map {α : Type} {f : α → WData} (h : ∀ a, plW (f a) = true) : ∀ l : List α, plWs (l.map f) = true
  | [] => rfl
  | x :: r => by
    show (plW (f x) && plWs (r.map f)) = true
    rw [h x, plWs_map h r] <;> rfl
theorem pl_enc : ∀ (c : Codec) (a : c.denote), plW (c.enc a) = true
  | .unit, _ => rfl
  | .bool, _ => rfl
  | .int _ _, _ => rfl
  | .nat _ _, _ => rfl
  | .u8, _ => rfl
  | .bytes _ _, _ => rfl
  | .text _ _ _ _, _ => rfl
  | .list _ _ c, a => plWs_map (fun x => pl_enc c x) a
  | .pair c d, a => by
    show (plW (c.enc a.1) && (plW (d.enc a.2) && true)) = true
    rw [pl_enc c a.1, pl_enc d a.2] <;> rfl
  | .triple c d e, a => by
    show (plW (c.enc a.1) && (plW (d.enc a.2.1) && (plW (e.enc a.2.2) && true))) = true
    rw [pl_enc c a.1, pl_enc d a.2.1, pl_enc e a.2.2] <;> rfl
  | .option c, none => rfl
  | .option c, some x => pl_enc c x
theorem pl_encAll : ∀ (cs : List Codec) (a : Codec.denoteAll cs), plWs (Codec.encAll cs a) = true
  | [], _ => rfl
  | c :: cs, a => by
    show (plW (c.enc a.1) && plWs (Codec.encAll cs a.2)) = true
    rw [pl_enc c a.1, pl_encAll cs a.2] <;> rfl
theorem weight_mem : ∀ {xs : List WData} {d : WData}, d ∈ xs → d.weight ≤ WData.weightAll xs
  | [], d, h => absurd h (by simp)
  | x :: r, d, h => by
    show d.weight ≤ x.weight + 1 + WData.weightAll r
    rcases List.mem_cons.mp h with e | m
    · rw [e]
      omega
    · have z := weight_mem m
      omega
def toV : Value → V
  | .none => .non
  | .bool b => .bl b
  | .int i _ => .int i
  | .str x _ => .str x
  | .bytes b _ => .byt b
  | .ref a => .ref a
  | _ => .non
def OkU (A : List Addr) : Value → Prop
  | .none => True
  | .bool _ => True
  | .int _ _ => True
  | .str _ _ => True
  | .bytes _ _ => True
  | .ref a => a ∈ A
  | _ => False
theorem OkU.mono {A B : List Addr} (h : ∀ a ∈ A, a ∈ B) : ∀ {u : Value}, OkU A u → OkU B u := fun {u} x => by
  cases u with
  | ref a => exact h a x
  | none => trivial
  | bool b => trivial
  | int i t => trivial
  | str s t => trivial
  | bytes b t => trivial
  | _ => exact False.elim x
theorem relV_toV {A : List Addr} {u : Value} (x : OkU A u) : RelV (toV u) u := by
  cases u with
  | ref a => rfl
  | none => rfl
  | bool b => rfl
  | int i t => exact ⟨t, rfl⟩
  | str s t => exact ⟨t, rfl⟩
  | bytes b t => exact ⟨t, rfl⟩
  | _ => exact False.elim x
theorem vals_toV {A : List Addr} : ∀ {vs : List Value}, (∀ u ∈ vs, OkU A u) → Vals (vs.map toV) vs
  | [], _ => .nil
  | u :: r, h => .cons (relV_toV (h u (List.mem_cons_self ..))) (vals_toV fun x hx => h x (List.mem_cons_of_mem _ hx))
def ArgOb (h : Heap) (A : List Addr) (a : Addr) : Prop := ∃ vs : List Value, vs.length ≤ sizeLine ∧ (∀ u ∈ vs, OkU A u) ∧
  (h.get? a = some { cls := .type "list", data := .seq vs.toArray } ∨ h.get? a = some { cls := .type "tuple", data := .seq vs.toArray })
theorem ArgOb.mono {h : Heap} {A B : List Addr} {a : Addr} (k : ∀ a ∈ A, a ∈ B) (x : ArgOb h A a) : ArgOb h B a := by
  obtain ⟨vs, h1, h2, h3⟩ := x
  exact ⟨vs, h1, fun u hu => (h2 u hu).mono k, h3⟩
theorem wellAll_len {P : Params} {h : Heap} : ∀ {vs : List Value} {ds : List WData}, WellAll P h vs ds → vs.length = ds.length
  | _, _, .nil => rfl
  | _, _, .cons _ b => by
    show _ + 1 = _ + 1
    rw [wellAll_len b]
theorem well_list {P : Params} {h : Heap} {v : Value} {ds : List WData} (x : Well P h v (.list ds)) : ∃ (a : Addr) (vs : List Value), v = .ref a ∧ h.get? a = some { cls := .type "list", data := .seq vs.toArray } ∧ WellAll P h vs ds := by
  cases x with
  | list ho hall => exact ⟨_, _, rfl, ho, hall⟩
theorem well_tuple {P : Params} {h : Heap} {v : Value} {ds : List WData} (x : Well P h v (.tuple ds)) : ∃ (a : Addr) (vs : List Value), v = .ref a ∧ h.get? a = some { cls := .type "tuple", data := .seq vs.toArray } ∧ WellAll P h vs ds := by
  cases x with
  | tuple ho hall => exact ⟨_, _, rfl, ho, hall⟩
theorem well_cons {P : Params} {h : Heap} {us : List Value} {d : WData} {ds : List WData} (x : WellAll P h us (d :: ds)) : ∃ (v : Value) (vs : List Value), us = v :: vs ∧ Well P h v d ∧ WellAll P h vs ds := by
  cases x with
  | cons a b => exact ⟨_, _, rfl, a, b⟩
theorem line_of {n : Nat} (h : n ≤ 1048576) : n ≤ sizeLine := Nat.le_trans h (by decide)
section
variable {P : Params} {h : Heap}
mutual
theorem area_one : ∀ (d : WData) (v : Value), Well P h v d → plW d = true → d.weight ≤ 1048576 → ∃ A : List Addr, OkU A v ∧ ∀ a ∈ A, ArgOb h A a
  | .none, _, x, _, _ => by
    cases x
    exact ⟨[], trivial, fun a m => absurd m (by simp)⟩
  | .bool b, _, x, _, _ => by
    cases x
    exact ⟨[], trivial, fun a m => absurd m (by simp)⟩
  | .int i, _, x, _, _ => by
    cases x
    exact ⟨[], trivial, fun a m => absurd m (by simp)⟩
  | .str s, _, x, _, _ => by
    cases x
    exact ⟨[], trivial, fun a m => absurd m (by simp)⟩
  | .bytes b, _, x, _, _ => by
    cases x
    exact ⟨[], trivial, fun a m => absurd m (by simp)⟩
  | .list ds, _, x, p, z => by
    obtain ⟨a, vs, rfl, ho, hall⟩ := well_list x
    have z2 : WData.weightAll ds ≤ 1048576 := z
    obtain ⟨A, h1, h2⟩ := area_all ds _ hall p fun d hd => Nat.le_trans (weight_mem hd) z2
    have k : ∀ b ∈ A, b ∈ a :: A := fun b hb => List.mem_cons_of_mem _ hb
    refine ⟨a :: A, List.mem_cons_self .., fun b hb => ?_⟩
    rcases List.mem_cons.mp hb with e | m
    · rw [e]
      exact ⟨vs, line_of (by rw [wellAll_len hall]; exact Nat.le_trans (PySem.W.length_le_weightAllW ds) z2), fun u hu => (h1 u hu).mono k, .inl ho⟩
    · exact (h2 b m).mono k
  | .tuple ds, _, x, p, z => by
    obtain ⟨a, vs, rfl, ho, hall⟩ := well_tuple x
    have z2 : WData.weightAll ds ≤ 1048576 := z
    obtain ⟨A, h1, h2⟩ := area_all ds _ hall p fun d hd => Nat.le_trans (weight_mem hd) z2
    have k : ∀ b ∈ A, b ∈ a :: A := fun b hb => List.mem_cons_of_mem _ hb
    refine ⟨a :: A, List.mem_cons_self .., fun b hb => ?_⟩
    rcases List.mem_cons.mp hb with e | m
    · rw [e]
      exact ⟨vs, line_of (by rw [wellAll_len hall]; exact Nat.le_trans (PySem.W.length_le_weightAllW ds) z2), fun u hu => (h1 u hu).mono k, .inr ho⟩
    · exact (h2 b m).mono k
  | .float _, _, _, p, _ => Bool.noConfusion (show false = true from p)
  | .dict _, _, _, p, _ => Bool.noConfusion (show false = true from p)
  | .bytearray _, _, _, p, _ => Bool.noConfusion (show false = true from p)
  | .set _, _, _, p, _ => Bool.noConfusion (show false = true from p)
  | .frozenset _, _, _, p, _ => Bool.noConfusion (show false = true from p)
  | .obj _ _, _, _, p, _ => Bool.noConfusion (show false = true from p)
theorem area_all : ∀ (ds : List WData) (vs : List Value), WellAll P h vs ds → plWs ds = true → (∀ d ∈ ds, d.weight ≤ 1048576) → ∃ A : List Addr, (∀ u ∈ vs, OkU A u) ∧ ∀ a ∈ A, ArgOb h A a
  | [], _, x, _, _ => by
    cases x
    exact ⟨[], fun u m => absurd m (by simp), fun a m => absurd m (by simp)⟩
  | d :: ds, _, x, p, z => by
    obtain ⟨v, vs, rfl, x1, x2⟩ := well_cons x
    have q : plW d = true ∧ plWs ds = true := Bool.and_eq_true_iff.mp p
    obtain ⟨A, a1, a2⟩ := area_one d v x1 q.1 (z d (List.mem_cons_self ..))
    obtain ⟨B, b1, b2⟩ := area_all ds vs x2 q.2 fun e he => z e (List.mem_cons_of_mem _ he)
    have kA : ∀ b ∈ A, b ∈ A ++ B := fun b hb => List.mem_append.mpr (.inl hb)
    have kB : ∀ b ∈ B, b ∈ A ++ B := fun b hb => List.mem_append.mpr (.inr hb)
    refine ⟨A ++ B, fun u hu => ?_, fun b hb => ?_⟩
    · rcases List.mem_cons.mp hu with e | m
      · rw [e]
        exact a1.mono kA
      · exact (b1 u m).mono kB
    · rcases List.mem_append.mp hb with m | m
      · exact (a2 b m).mono kA
      · exact (b2 b m).mono kB
end
end
def hoOf (o : Obj) : Option HO := match o.data with
  | .seq vs _ => if (o.cls == Value.type "list") = true then some (.frz o (.lst (vs.toList.map toV))) else some (.frz o (.tup (vs.toList.map toV)))
  | _ => none
def argH (K : PySem.W.Frag) (h : Heap) (A : List Addr) : Hp := fun b => if b ∈ A then (if (K.lookup b).isNone = true then (h.get? b).bind hoOf else none) else none
def OnlyF (H : Hp) : Prop := ∀ b, H b = none ∨ ∃ o u, H b = some (.frz o u)
theorem hoOf_lst (vs : List Value) : hoOf { cls := .type "list", data := .seq vs.toArray } = some (.frz { cls := .type "list", data := .seq vs.toArray } (.lst (vs.map toV))) := by
  show (if (Value.type "list" == Value.type "list") = true then some (HO.frz { cls := .type "list", data := .seq vs.toArray } (.lst (vs.toArray.toList.map toV))) else some (HO.frz { cls := .type "list", data := .seq vs.toArray } (.tup (vs.toArray.toList.map toV)))) = _
  rw [if_pos (beq_self_eq_true _)]
theorem hoOf_tup (vs : List Value) : hoOf { cls := .type "tuple", data := .seq vs.toArray } = some (.frz { cls := .type "tuple", data := .seq vs.toArray } (.tup (vs.map toV))) := by
  show (if (Value.type "tuple" == Value.type "list") = true then some (HO.frz { cls := .type "tuple", data := .seq vs.toArray } (.lst (vs.toArray.toList.map toV))) else some (HO.frz { cls := .type "tuple", data := .seq vs.toArray } (.tup (vs.toArray.toList.map toV)))) = _
  rw [if_neg (by decide)]
section
variable {P : Program} {w : World} {K : PySem.W.Frag} {h : Heap} {A : List Addr}
theorem argH_at {b : Addr} {o : Obj} (hb : b ∈ A) (hk : K.lookup b = none) (e : h.get? b = some o) : argH K h A b = hoOf o := by
  unfold argH
  rw [if_pos hb, hk, if_pos (show (none : Option Obj).isNone = true from rfl), e] <;> rfl
theorem of_argH {b : Addr} {u : HO} (q : argH K h A b = some u) : b ∈ A ∧ K.lookup b = none := by
  unfold argH at q
  by_cases hb : b ∈ A
  · rw [if_pos hb] at q
    cases hk : K.lookup b with
    | none => exact ⟨hb, rfl⟩
    | some o =>
      rw [hk, if_neg (by simp)] at q
      cases q
  · rw [if_neg hb] at q
    cases q
theorem argH_is (ar : ∀ a ∈ A, ArgOb h A a) {b : Addr} {u : HO} (q : argH K h A b = some u) : K.lookup b = none ∧ ∃ vs : List Value, vs.length ≤ sizeLine ∧ (∀ u ∈ vs, OkU A u) ∧
    ((h.get? b = some { cls := .type "list", data := .seq vs.toArray } ∧ u = .frz { cls := .type "list", data := .seq vs.toArray } (.lst (vs.map toV))) ∨
     (h.get? b = some { cls := .type "tuple", data := .seq vs.toArray } ∧ u = .frz { cls := .type "tuple", data := .seq vs.toArray } (.tup (vs.map toV)))) := by
  obtain ⟨hb, hk⟩ := of_argH q
  obtain ⟨vs, h1, h2, h3⟩ := ar b hb
  refine ⟨hk, vs, h1, h2, ?_⟩
  rcases h3 with e | e
  · rw [argH_at hb hk e, hoOf_lst] at q
    exact .inl ⟨e, (Option.some.inj q).symm⟩
  · rw [argH_at hb hk e, hoOf_tup] at q
    exact .inr ⟨e, (Option.some.inj q).symm⟩
theorem argH_only (ar : ∀ a ∈ A, ArgOb h A a) : OnlyF (argH K h A) := fun b => by
  cases q : argH K h A b with
  | none => exact .inl rfl
  | some u =>
    obtain ⟨_, vs, _, _, ⟨_, e⟩ | ⟨_, e⟩⟩ := argH_is ar q
    · exact .inr ⟨_, _, by rw [e]⟩
    · exact .inr ⟨_, _, by rw [e]⟩
theorem argH_ok (ar : ∀ a ∈ A, ArgOb h A a) : HOk P w (argH K h A) h := fun b u q => by
  obtain ⟨_, vs, h1, h2, ⟨e, rfl⟩ | ⟨e, rfl⟩⟩ := argH_is ar q
  · exact ⟨e, by rw [List.length_map]; exact h1, vs, _, vals_toV h2, e⟩
  · exact ⟨e, by rw [List.length_map]; exact h1, vs, vals_toV h2, _, e, rfl, _, rfl⟩
theorem seq_inj {c c' : Value} {vs us : List Value} (e : (some { cls := c, data := .seq vs.toArray } : Option Obj) = some { cls := c', data := .seq us.toArray }) : c = c' ∧ vs = us := by
  have e1 := Option.some.inj e
  have e2 : c = c' := congrArg Obj.cls e1
  have e3 : Data.seq vs.toArray = Data.seq us.toArray := congrArg Obj.data e1
  injection e3 with e4
  refine ⟨e2, ?_⟩
  have e5 := congrArg Array.toList e4
  simpa using e5
theorem argL (KX : K.In h) (ar : ∀ a ∈ A, ArgOb h A a) {a : Addr} {vs : List Value} (ha : a ∈ A) (e : h.get? a = some { cls := .type "list", data := .seq vs.toArray }) : (∀ u ∈ vs, OkU A u) ∧ SqL K (argH K h A) a (vs.map toV) := by
  obtain ⟨us, h1, h2, h3⟩ := ar a ha
  have hu : us = vs := by
    rcases h3 with q | q
    · rw [e] at q
      exact (seq_inj q).2.symm
    · rw [e] at q
      exact absurd (Value.type.inj (seq_inj q).1) (by decide)
  subst hu
  refine ⟨h2, ?_⟩
  cases hk : K.lookup a with
  | none => exact .inl (.inr ⟨_, by rw [argH_at ha hk e, hoOf_lst]⟩)
  | some o =>
    have e2 := KX a o hk
    rw [e] at e2
    obtain rfl := Option.some.inj e2
    exact .inr ⟨_, us.toArray, _, hk, rfl, rfl, rfl, by rw [List.size_toArray]; exact h1, by simpa using vals_toV h2⟩
theorem argT (KX : K.In h) (ar : ∀ a ∈ A, ArgOb h A a) {a : Addr} {vs : List Value} (ha : a ∈ A) (e : h.get? a = some { cls := .type "tuple", data := .seq vs.toArray }) : (∀ u ∈ vs, OkU A u) ∧ SqT K (argH K h A) a (vs.map toV) := by
  obtain ⟨us, h1, h2, h3⟩ := ar a ha
  have hu : us = vs := by
    rcases h3 with q | q
    · rw [e] at q
      exact absurd (Value.type.inj (seq_inj q).1) (by decide)
    · rw [e] at q
      exact (seq_inj q).2.symm
  subst hu
  refine ⟨h2, ?_⟩
  cases hk : K.lookup a with
  | none => exact .inl (.inr ⟨_, by rw [argH_at ha hk e, hoOf_tup]⟩)
  | some o =>
    have e2 := KX a o hk
    rw [e] at e2
    obtain rfl := Option.some.inj e2
    exact .inr ⟨_, us.toArray, _, hk, rfl, rfl, by rw [List.size_toArray]; exact h1, by simpa using vals_toV h2⟩
mutual
theorem dw_one {Pm : Params} (KX : K.In h) (ar : ∀ a ∈ A, ArgOb h A a) : ∀ (d : WData) (v : Value), Well Pm h v d → plW d = true → OkU A v → Dw K (argH K h A) (toV v) d
  | .none, _, x, _, _ => by
    cases x
    exact .non
  | .bool b, _, x, _, _ => by
    cases x
    exact .bl b
  | .int i, _, x, _, _ => by
    cases x
    exact .int i
  | .str s, _, x, _, _ => by
    cases x
    exact .str s
  | .bytes b, _, x, _, _ => by
    cases x
    have z := Dw.byt (K := K) (H := argH K h A) b.toArray
    exact z
  | .list ds, _, x, p, hu => by
    obtain ⟨a, vs, rfl, ho, hall⟩ := well_list x
    obtain ⟨h2, hs⟩ := argL KX ar hu ho
    exact .lst hs (dw_all KX ar ds _ hall p h2)
  | .tuple ds, _, x, p, hu => by
    obtain ⟨a, vs, rfl, ho, hall⟩ := well_tuple x
    obtain ⟨h2, hs⟩ := argT KX ar hu ho
    exact .tup hs (dw_all KX ar ds _ hall p h2)
  | .float _, _, _, p, _ => Bool.noConfusion (show false = true from p)
  | .dict _, _, _, p, _ => Bool.noConfusion (show false = true from p)
  | .bytearray _, _, _, p, _ => Bool.noConfusion (show false = true from p)
  | .set _, _, _, p, _ => Bool.noConfusion (show false = true from p)
  | .frozenset _, _, _, p, _ => Bool.noConfusion (show false = true from p)
  | .obj _ _, _, _, p, _ => Bool.noConfusion (show false = true from p)
theorem dw_all {Pm : Params} (KX : K.In h) (ar : ∀ a ∈ A, ArgOb h A a) : ∀ (ds : List WData) (vs : List Value), WellAll Pm h vs ds → plWs ds = true → (∀ u ∈ vs, OkU A u) → DwAll K (argH K h A) (vs.map toV) ds
  | [], _, x, _, _ => by
    cases x
    exact .nil
  | d :: ds, _, x, p, hu => by
    obtain ⟨v, vs, rfl, x1, x2⟩ := well_cons x
    have q : plW d = true ∧ plWs ds = true := Bool.and_eq_true_iff.mp p
    exact .cons (dw_one KX ar d v x1 q.1 (hu _ (List.mem_cons_self ..))) (dw_all KX ar ds vs x2 q.2 fun u m => hu u (List.mem_cons_of_mem _ m))
end
end
theorem spec_call {P : Program} {w : World} {K : PySem.W.Frag} {mg mb : Str → Option Value} {CX : CXT} {k : Nat} {fa : Addr} {fd : FuncData} {ps : List Str} {sp : Sp} {s₁ : Shared} {vals : List Value} {ds : List WData} {R : PySem.W.WRecords} {cl : Str → Option Addr} {d0 : WData}
    (KX : K.In s₁.heap) (hns : s₁.heap.Ns mainGlobals mg) (hb : s₁.heap.Ns builtinsNs mb) (hbb : ∀ x : Str, x ≠ "__name__" → mb x = bootBuiltins x) (hlim : s₁.heap.NoLimit) (hg : s₁.gens = #[])
    (hwl : WellAll w.params s₁.heap vals ds) (hpl : plWs ds = true) (hwt : ∀ d ∈ ds, d.weight ≤ 1048576) (hr : Room k callerA)
    (F : ∀ base : Heap, K.In base → base.Ns mainGlobals mg → FnOk P w K mg base CX k fa fd ps sp) (hbind : ∀ (s : Shared) (us : List Value), us.length = ps.length → BindsTo s fd ⟨us, []⟩ (ps.zip us)) (hlen : ds.length = ps.length)
    (hsp : ∀ (H : Hp) (xs : List V), OnlyF H → DwAll K H xs ds → sp xs H (fun v H' => Dw K H' v d0) fun _ _ _ => False)
    (hCX : ∀ H e s', CX [] H s₁ (fun _ _ _ => False) e s' → False) :
    codeAny (model P w) callerA (.call (.ref fa) ⟨vals, []⟩) (fun r s' => ∃ u as, r = .ok (.ret u) ∧ ReadsW R cl s'.heap u d0 as ∧ OldK s₁.heap s'.heap ∧ s'.os = s₁.os ∧ AllBare s'.gens) s₁ := by
  obtain ⟨A, ho, ar⟩ := area_all ds vals hwl hpl hwt
  have hO : OnlyF (argH K s₁.heap A) := argH_only ar
  have hok : HOk P w (argH K s₁.heap A) s₁.heap := argH_ok ar
  have hS := dw_all KX ar ds vals hwl hpl ho
  have hV := vals_toV ho
  have hK : ∀ b u, argH K s₁.heap A b = some u → K.lookup b = none := fun b u q => (argH_is ar q).1
  have noA : ∀ {b : Addr} {o : Obj} {es : Array DictEntry} {ep : Nat}, s₁.heap.get? b = some o → o.data = .dict es ep → argH K s₁.heap A b = none := fun {b o es ep} e d => by
    cases q : argH K s₁.heap A b with
    | none => rfl
    | some u =>
      obtain ⟨_, vs, _, _, ⟨e2, _⟩ | ⟨e2, _⟩⟩ := argH_is ar q
      · rw [e2] at e
        cases e
        have d' : Data.seq vs.toArray _ = Data.dict es ep := d
        cases d'
      · rw [e2] at e
        cases e
        have d' : Data.seq vs.toArray _ = Data.dict es ep := d
        cases d'
  generalize argH K s₁.heap A = H at hO hok hS hK noA
  have base_of : ∀ {b : Addr} {o : Obj}, s₁.heap.get? b = some o → H b = none → (hidT s₁.heap H).get? b = some o := fun e n => hidT_get e n
  have nsK : ∀ {b : Addr} {m : Str → Option Value}, s₁.heap.Ns b m → (hidT s₁.heap H).Ns b m := fun {b m} ⟨o, es, ep, e, d, r⟩ => ⟨o, es, ep, base_of e (noA e d), d, r⟩
  have nK : ∀ b o, K.lookup b = some o → H b = none := fun b o e => by
    cases q : H b with
    | none => rfl
    | some u =>
      rw [hK b u q] at e
      cases e
  have hKb : K.In (hidT s₁.heap H) := fun b o e => base_of (KX b o e) (nK b o e)
  have hM : Mod K mg (hidT s₁.heap H) := ⟨hKb, nsK hns, ⟨mb, nsK hb, hbb⟩, let ⟨mc, h1, h2⟩ := hlim; ⟨mc, nsK h1, h2⟩⟩
  have e0 : Env0 P w K mg (hidT s₁.heap H) callerA [] s₁ H := ⟨rfl, hM, fun b o e => of_hidT e, Nat.le_of_eq (hidT_size _ _), trivial, fun b hb => absurd (show b ∈ ([] : List Addr) from hb) (by simp), hok, .of_eq hg⟩
  have hl : vals.length = ps.length := by rw [wellAll_len hwl]; exact hlen
  refine codeAny_mono ((F _ hKb (nsK hns)).run callerA [] s₁ H ⟨vals, []⟩ vals (vals.map toV) _ _ hr e0 (hbind s₁ vals hl) hV (hsp H _ hO hS)) fun r s' x => ?_
  cases r with
  | error e => exact (hCX H e s' x).elim
  | ok fl =>
    cases fl with
    | next => exact False.elim x
    | brk => exact False.elim x
    | cont => exact False.elim x
    | ret u =>
      obtain ⟨v, H', os, bare, un, hok', r', q⟩ := x
      have kept : ∀ b o, s₁.heap.get? b = some o → s'.heap.get? b = some o := fun b o e => by
        cases q2 : H b with
        | none => exact un.keep b o e q2 (by intro z; exact absurd (show b ∈ ([] : List Addr) from z) (by simp)) (by simp)
        | some u2 =>
          rcases hO b with z | ⟨ob, u3, z⟩
          · rw [q2] at z
            cases z
          · have z2 := un.frzs b ob _ z
            obtain ⟨e1, _⟩ := hok b _ z
            obtain ⟨e2, _⟩ := hok' b _ z2
            rw [e] at e1
            cases e1
            exact e2
      have KX' : K.In s'.heap := fun b o e => kept b o (KX b o e)
      obtain ⟨as, hrd⟩ := Dw.reads (R := R) (cl := cl) hok' KX' d0 v u q r'
      exact ⟨u, as, rfl, hrd, OldK.of_keep kept, os, bare⟩
theorem layable_weight {ds : List WData} (h : WData.layableAll ds = true) : ∀ d ∈ ds, d.weight ≤ 1048576 := fun d hd =>
  (PySem.W.layableW_iff.mp (List.all_eq_true.mp h d hd)).2.2
theorem encAll_len : ∀ (cs : List Codec) (a : Codec.denoteAll cs), (Codec.encAll cs a).length = cs.length
  | [], _ => rfl
  | c :: cs, a => by
    show (Codec.encAll cs a.2).length + 1 = cs.length + 1
    rw [encAll_len cs a.2]
theorem walk_spec {r : OpenSpec} {k : Nat} {q : Program} {loose : List Str} {XP : (Str → Option Value) → Heap → Prop} {YP : World → Heap → Prop} {d : DefRec} {K : Params → PySem.W.Frag} {CX : World → CXT} {ps : List Str} {sp : World → Sp}
    (hwell : r.wellSaid = true) (hdf : d.params.defaults = []) (hlen : r.args.length = ps.length) (hr : Room k callerA)
    (hY : ∀ (w : World) (h : Heap), YP w h → (K w.params).In h)
    (F : ∀ (w : World) (mg : Str → Option Value) (fa : Addr) (h : Heap), YP w h → (K w.params).In h → h.Ns mainGlobals mg → mg d.name = some (.ref fa) →
      ∃ fd : FuncData, (∀ (s : Shared) (us : List Value), us.length = ps.length → BindsTo s fd ⟨us, []⟩ (ps.zip us)) ∧
        ∀ base : Heap, (K w.params).In base → base.Ns mainGlobals mg → FnOk r.prog w (K w.params) mg base (CX w) k fa fd ps (sp w))
    (hsp : ∀ (w : World) (H : Hp) (xs : List V) (a : Codec.denoteAll r.args), OnlyF H → Codec.withinAll r.args a = true → Codec.app r.args r.asked a = true → DwAll (K w.params) H xs (Codec.encAll r.args a) →
      sp w xs H (fun v H' => Dw (K w.params) H' v (r.ret.enc (Codec.app r.args r.f a))) fun _ _ _ => False)
    (hCX : ∀ (w : World) (H : Hp) (s : Shared) (e : Value) (s' : Shared), CX w [] H s (fun _ _ _ => False) e s' → False) :
    PySem.W.WalkOS q loose XP YP r d [] (fun f vs => PySem.call f vs) := by
  intro w s_0 s₁ mg mb G Y fa o pm cd doc dV kV ho hd hcd hD hmg hg args vals as hpre hlay hrd hwl hlo
  obtain ⟨a, e1, e2⟩ := PySem.W.os_pre_some hpre
  obtain ⟨e3, hwi⟩ := Codec.encAll_of_decAll r.args args a e1
  subst e3
  have KX := hY w _ Y
  obtain ⟨fd, hb, hF⟩ := F w mg fa _ Y KX G.T.g hmg
  refine PySem.W.enter_call (codeAny_mono (spec_call (R := []) (cl := classAt s_0.heap) (d0 := r.ret.enc (Codec.app r.args r.f a)) KX G.T.g G.T.b G.T.builtins G.T.nolimit hg hwl (pl_encAll _ _) (layable_weight hlay) hr hF hb (by rw [encAll_len]; exact hlen)
    (fun H xs hO hS => hsp w H xs a hO hwi e2 hS) fun H e s' => hCX w H s₁ e s') fun r' s' hq => ?_)
  obtain ⟨u, as', rfl, h1, h2, h3, h4⟩ := hq
  exact ⟨.inl ⟨u, _, as', rfl, fun _ => rfl, h1, (OpenSpec.post_iff hwell hwi _ _).mpr rfl, fun z => Bool.noConfusion (show false = true from z)⟩, h2, h3, h4⟩
theorem walk_specK {r : OpenSpec} {k : Nat} {q : Program} {loose : List Str} {XP : (Str → Option Value) → Heap → Prop} {YP : World → Heap → Prop} {d : DefRec} {K : Params → PySem.W.Frag} {CX : CXT} {ps : List Str} {sp : PySem.W.Frag → Sp}
    (hwell : r.wellSaid = true) (hdf : d.params.defaults = []) (hlen : r.args.length = ps.length) (hr : Room k callerA)
    (hY : ∀ (w : World) (h : Heap), YP w h → (K w.params).In h)
    (F : ∀ (w : World) (mg : Str → Option Value) (fa : Addr) (h : Heap), YP w h → (K w.params).In h → h.Ns mainGlobals mg → mg d.name = some (.ref fa) →
      ∃ fd : FuncData, (∀ (s : Shared) (us : List Value), us.length = ps.length → BindsTo s fd ⟨us, []⟩ (ps.zip us)) ∧
        ∀ base : Heap, (K w.params).In base → base.Ns mainGlobals mg → FnOk r.prog w (K w.params) mg base CX k fa fd ps (sp (K w.params)))
    (hsp : ∀ (K : PySem.W.Frag) (H : Hp) (xs : List V) (a : Codec.denoteAll r.args), OnlyF H → Codec.withinAll r.args a = true → Codec.app r.args r.asked a = true → DwAll K H xs (Codec.encAll r.args a) →
      sp K xs H (fun v H' => Dw K H' v (r.ret.enc (Codec.app r.args r.f a))) fun _ _ _ => False)
    (hCX : ∀ (H : Hp) (s : Shared) (e : Value) (s' : Shared), CX [] H s (fun _ _ _ => False) e s' → False) :
    PySem.W.WalkOS q loose XP YP r d [] (fun f vs => PySem.call f vs) :=
  walk_spec (K := K) (CX := fun _ => CX) (sp := fun w => sp (K w.params)) hwell hdf hlen hr hY F (fun w H xs a h1 h2 h3 h4 => hsp (K w.params) H xs a h1 h2 h3 h4) fun _ H s e s' => hCX H s e s'
end L2
end
namespace L2
open PySem PySem.Spec PyProof.Rows
def inClass (s : Stmt) (j : Nat) : Stmt := match s with
  | .ClassDef _ _ _ body _ _ _ _ _ _ _ => body.getD j (.Pass ⟨0, 0, 0, 0⟩)
  | _ => .Pass ⟨0, 0, 0, 0⟩
def defArgs (s : Stmt) : Arguments := match s with
  | .FunctionDef _ a _ _ _ _ _ _ _ _ => a
  | _ => { posonlyargs := [], args := [], vararg := none, kwonlyargs := [], kw_defaults := [], kwarg := none, defaults := [] }
def defBody (s : Stmt) : List Stmt := match s with
  | .FunctionDef _ _ b _ _ _ _ _ _ _ => b
  | _ => []
def defScope (s : Stmt) : Scope := match s with
  | .FunctionDef _ _ _ _ _ _ sc _ _ _ => sc
  | _ => { kind := .function, names := [], isGenerator := false, isCoroutine := false }
abbrev CX0 : CXT := fun _ _ _ _ _ _ => False
abbrev E0 : XK := fun _ _ _ => False
theorem pass0 {X : Cx} : Passes CX0 X E0 := fun _ _ _ _ _ _ _ h => h.elim
structure Fun (K : PySem.W.Frag) (x qual : Str) (st : Stmt) (f : Addr) (fd : FuncData) : Prop where
  ex : ∃ (oc : Value) (od : Option Addr) (kV doc pm : Value) (an : Option Addr) (cdv ct : Value) (osl : Array (Option Value)),
    fd = PySem.W.fnOf x qual (defArgs st) (defBody st) (defScope st) .none kV doc pm an cdv ct ∧ K.lookup f = some ⟨oc, od, .func fd, osl⟩ ∧ PySem.W.codeIn K cdv qual = true
  kp : PySem.W.keepIn K (.ref f) = true
section
variable {P : Program} {w : World} {K : PySem.W.Frag} {mg : Str → Option Value} {base : Heap}
theorem Fun.ok {x qual : Str} {st : Stmt} {f : Addr} {fd : FuncData} {N ps : List Str} {k : Nat} {sp : Sp} (F : Fun K x qual st f fd) (S : FnScope N ps (defScope st)) (len : ∀ vs H Q E, sp vs H Q E → vs.length = ps.length)
    (hbody : ∀ (cdv : Value) (A : Around) (outer : List Env) (s : Shared) (H : Hp) (vs : List V) (Q : VK) (E : XK), Room k (A.deeper (envOfC qual (defScope st) s.heap.objs.size f cdv)) → sp vs H Q E →
      ∃ t, PSs (cxOf CX0 P w K mg base N qual (defScope st) f cdv A outer s H E).nox (defBody st) t ∧ t { nx := fun _ H' => Q .non H', rt := Q } (start N vs) H) : FnOk P w K mg base CX0 (k + 1) f fd ps sp := by
  obtain ⟨oc, od, kV, doc, pm, an, cdv, ct, osl, rfl, lk, hcd⟩ := F.ex
  refine fn_of lk hcd S len fun A outer s H vs Q E hr hsp => ?_
  obtain ⟨t, h, q⟩ := hbody cdv A outer s H vs Q E hr hsp
  exact ⟨t, h.nox, q⟩
theorem Fun.binds {x qual : Str} {st : Stmt} {f : Addr} {fd : FuncData} {ps : List Str} (F : Fun K x qual st f fd)
    (h : ∀ (kV doc pm : Value) (an : Option Addr) (cdv ct : Value) (us : List Value), us.length = ps.length → bindArgs (PySem.W.fnOf x qual (defArgs st) (defBody st) (defScope st) .none kV doc pm an cdv ct) ⟨us, []⟩ = pure (ps.zip us)) : Binds K fd ps [] := by
  obtain ⟨oc, od, kV, doc, pm, an, cdv, ct, osl, rfl, lk, hcd⟩ := F.ex
  exact .all (h kV doc pm an cdv ct)
theorem fun_mk {x qual : Str} {st : Stmt} {f : Addr} {oc : Value} {od an : Option Addr} {osl : Array (Option Value)} {kV doc pm cdv ct : Value} (l : K.lookup f = some ⟨oc, od, .func (PySem.W.fnOf x qual (defArgs st) (defBody st) (defScope st) .none kV doc pm an cdv ct), osl⟩)
    (c : PySem.W.codeIn K cdv qual = true) (k : PySem.W.keepIn K (.ref f) = true) : Fun K x qual st f (PySem.W.fnOf x qual (defArgs st) (defBody st) (defScope st) .none kV doc pm an cdv ct) := ⟨⟨oc, od, kV, doc, pm, an, cdv, ct, osl, rfl, l, c⟩, k⟩
end
theorem hu_of {A : Around} {k : Nat} (hr : Room k A) : A.units + 1 < cLine := Nat.lt_of_le_of_lt (Nat.add_le_add_left (by decide : 1 ≤ 64) _) hr.units
section
variable {X : Cx}
theorem pv (i : Nat) {x : Str} {pos : Pos} (hN : X.N[i]? = some x := by rfl) (hv : Vis X.env.scope x := by first | exact Or.inl rfl | exact Or.inr (Or.inl rfl) | exact Or.inr (Or.inr rfl)) (hd : (x == ("__debug__" : Str)) = false := by decide)
    (hcd : (x == ("__classdict__" : Str)) = false := by decide) : PE X (.Name x pos) (tVar i) := pe_var hN hv hd hcd
end
theorem iteF {A B : Prop} (h : B) : if false = true then A else B := by
  rw [if_neg Bool.false_ne_true]
  exact h
theorem iteT {A B : Prop} (h : A) : if true = true then A else B := by
  rw [if_pos rfl]
  exact h
theorem ite2 {c A B : Prop} [Decidable c] (h1 : c → A) (h2 : ¬ c → B) : if c then A else B := by
  by_cases h : c
  · rw [if_pos h]
    exact h1 h
  · rw [if_neg h]
    exact h2 h
def Same (H H' : Hp) : Prop := ∀ b o, H b = some o → H' b = some o
theorem Same.refl (H : Hp) : Same H H := fun _ _ h => h
theorem Same.trans {H H1 H2 : Hp} (a : Same H H1) (b : Same H1 H2) : Same H H2 := fun c o h => b c o (a c o h)
theorem Same.free {H H' : Hp} (e : Same H H') {l : Addr} (h : H' l = Option.none) : H l = Option.none := by
  cases q : H l with
  | none => rfl
  | some o =>
    rw [e l o q] at h
    cases h
theorem Same.seq {K : PySem.W.Frag} {H H' : Hp} {a : Addr} {xs : List V} (e : Same H H') (h : SqL K H a xs) : SqL K H' a xs := by
  rcases h with (h | ⟨o, h⟩) | h
  · exact .inl (.inl (e _ _ h))
  · exact .inl (.inr ⟨o, e _ _ h⟩)
  · exact .inr h
section
variable {κ : Type} [DecidableEq κ]
end
theorem at_of {xs : List V} {z : Int} {j : Nat} {v : V} (e : z = (j : Int)) (h : xs[j]? = some v) : atI xs z = some v := by
  rw [e]
  exact atI_nat h
theorem nd_ix {α : Type} {l : List α} (hN : l.Nodup) {i j : Nat} {x : α} (a : l[i]? = some x) (b : l[j]? = some x) : i = j := by
  obtain ⟨h1, e1⟩ := List.getElem?_eq_some_iff.mp a
  obtain ⟨h2, e2⟩ := List.getElem?_eq_some_iff.mp b
  exact (List.getElem_inj hN).mp (e1.trans e2.symm)
end L2
end
section
namespace CN
open Sw69
def cw : Option (Nat × Nat) → Option (Nat × Nat) → Option (Nat × Nat)
  | none, b => b
  | some x, none => some x
  | some x, some y => if y.1 < x.1 then some y else if x.1 < y.1 then some x else some (x.1, x.2 + y.2)
theorem cw_none_r (a : Option (Nat × Nat)) : cw a none = a := by cases a <;> rfl
theorem cw_ss (x y : Nat × Nat) : cw (some x) (some y) = if y.1 < x.1 then some y else if x.1 < y.1 then some x else some (x.1, x.2 + y.2) := rfl
theorem cw_comm : ∀ a b : Option (Nat × Nat), cw a b = cw b a
  | none, b => by rw [cw_none_r]; rfl
  | some x, none => rfl
  | some (x, m), some (y, n) => by
    simp only [cw_ss]
    by_cases h1 : y < x
    · rw [if_pos h1, if_neg (by omega), if_pos h1]
    · by_cases h2 : x < y
      · rw [if_neg h1, if_pos h2, if_pos h2]
      · have e : x = y := by omega
        subst e
        simp [Nat.add_comm]
theorem cw_assoc : ∀ a b c : Option (Nat × Nat), cw (cw a b) c = cw a (cw b c)
  | none, b, c => rfl
  | some x, none, c => rfl
  | some x, some y, none => by rw [cw_none_r, cw_none_r]
  | some (x, i), some (y, j), some (z, k) => by
    simp only [cw_ss]
    rcases Nat.lt_trichotomy x y with h | h | h <;> rcases Nat.lt_trichotomy y z with h' | h' | h' <;> rcases Nat.lt_trichotomy x z with h'' | h'' | h'' <;> first
      | (exfalso; omega)
      | (subst_vars; simp_all [cw_ss, Nat.lt_asymm, Nat.add_assoc, Nat.not_lt_of_lt, Nat.le_of_lt, Nat.not_lt]; done)
      | (subst_vars; simp_all [cw_ss, Nat.lt_asymm, Nat.add_assoc, Nat.not_lt_of_lt, Nat.le_of_lt, Nat.not_lt]; omega)
def bst : List (Nat × Nat) → Option (Nat × Nat)
  | [] => none
  | x :: r => cw (some x) (bst r)
theorem bst_append : ∀ a b : List (Nat × Nat), bst (a ++ b) = cw (bst a) (bst b)
  | [], b => rfl
  | x :: a, b => by
    show cw (some x) (bst (a ++ b)) = cw (cw (some x) (bst a)) (bst b)
    rw [bst_append a b, cw_assoc]
theorem bst_one (x : Nat × Nat) : bst [x] = some x := rfl
theorem bst_snoc (l : List (Nat × Nat)) (x : Nat × Nat) : bst (l ++ [x]) = cw (bst l) (some x) := by rw [bst_append]; rfl
def shf (k : Nat) (x : Nat × Nat) : Nat × Nat := (k + x.1, x.2)
theorem cw_shf (k : Nat) : ∀ a b : Option (Nat × Nat), cw (a.map (shf k)) (b.map (shf k)) = (cw a b).map (shf k)
  | none, b => rfl
  | some x, none => rfl
  | some (x, i), some (y, j) => by
    simp only [Option.map_some, cw_ss, shf]
    by_cases h1 : y < x
    · rw [if_pos (by omega), if_pos h1]; rfl
    · by_cases h2 : x < y
      · rw [if_neg (by omega), if_pos (by omega), if_neg h1, if_pos h2]; rfl
      · rw [if_neg (by omega), if_neg (by omega), if_neg h1, if_neg h2]; rfl
theorem bst_shf (k : Nat) : ∀ l : List (Nat × Nat), bst (l.map (shf k)) = (bst l).map (shf k)
  | [] => rfl
  | x :: r => by
    show cw (some (shf k x)) (bst (r.map (shf k))) = (cw (some x) (bst r)).map (shf k)
    rw [bst_shf k r, ← cw_shf]; rfl
def val (l : List (Nat × Nat)) (m : Nat) : Nat := ((l.filter fun x => x.1 == m).map (·.2)).sum
theorem val_cons (x : Nat × Nat) (r : List (Nat × Nat)) (m : Nat) : val (x :: r) m = (if x.1 = m then x.2 else 0) + val r m := by
  unfold val
  rw [List.filter_cons]
  by_cases h : x.1 = m
  · simp [h]
  · simp [h]
theorem val_none : ∀ {l : List (Nat × Nat)} {m : Nat}, (∀ x ∈ l, m < x.1) → val l m = 0
  | [], m, _ => rfl
  | x :: r, m, h => by
    have h1 := h x List.mem_cons_self
    rw [val_cons, if_neg (by omega), val_none fun y hy => h y (List.mem_cons_of_mem _ hy)]
theorem bst_val : ∀ l : List (Nat × Nat), l ≠ [] → ∃ m, bst l = some (m, val l m) ∧ (∃ x ∈ l, x.1 = m) ∧ ∀ x ∈ l, m ≤ x.1
  | [], h => absurd rfl h
  | [x], _ => ⟨x.1, by rw [bst_one, val_cons, if_pos rfl]; rfl, ⟨x, List.mem_cons_self, rfl⟩, fun y hy => by rw [List.mem_singleton.mp hy]; exact Nat.le_refl _⟩
  | x :: y :: r, _ => by
    obtain ⟨m, hb, ⟨z, hz, hzm⟩, hm⟩ := bst_val (y :: r) (by simp)
    show ∃ m', cw (some x) (bst (y :: r)) = _ ∧ _
    rw [hb, cw_ss]
    by_cases h1 : m < x.1
    · refine ⟨m, ?_, ⟨z, List.mem_cons_of_mem _ hz, hzm⟩, fun w hw => ?_⟩
      · rw [if_pos h1, val_cons x, if_neg (by omega), Nat.zero_add]
      · rcases List.mem_cons.mp hw with e | hw
        · rw [e]; omega
        · exact hm w hw
    · rw [if_neg h1]
      by_cases h2 : x.1 < m
      · refine ⟨x.1, ?_, ⟨x, List.mem_cons_self, rfl⟩, fun w hw => ?_⟩
        · rw [if_pos h2, val_cons x, if_pos rfl, val_none fun w hw => Nat.lt_of_lt_of_le h2 (hm w hw)]; rfl
        · rcases List.mem_cons.mp hw with e | hw
          · rw [e]; exact Nat.le_refl _
          · exact Nat.le_of_lt (Nat.lt_of_lt_of_le h2 (hm w hw))
      · have e : x.1 = m := by omega
        refine ⟨m, ?_, ⟨z, List.mem_cons_of_mem _ hz, hzm⟩, fun w hw => ?_⟩
        · rw [if_neg h2, val_cons x, if_pos e, e]
        · rcases List.mem_cons.mp hw with e' | hw
          · rw [e']; omega
          · exact hm w hw
theorem bst_of {l : List (Nat × Nat)} {m : Nat} (hm : ∃ x ∈ l, x.1 = m) (hl : ∀ x ∈ l, m ≤ x.1) : bst l = some (m, val l m) := by
  obtain ⟨x, hx, e⟩ := hm
  obtain ⟨m', hb, ⟨z, hz, hzm⟩, h2⟩ := bst_val l (List.ne_nil_of_mem hx)
  have e' : m' = m := by
    have a := hl z hz
    have b := h2 x hx
    omega
  rw [hb, e']
theorem bst_le {l : List (Nat × Nat)} {m c : Nat} (h : bst l = some (m, c)) {x : Nat × Nat} (hx : x ∈ l) : m ≤ x.1 := by
  obtain ⟨m', hb, _, h2⟩ := bst_val l (List.ne_nil_of_mem hx)
  rw [hb] at h
  have : m' = m := congrArg Prod.fst (Option.some.inj h)
  rw [← this]; exact h2 x hx
theorem bst_ne {l : List (Nat × Nat)} (h : l ≠ []) : ∃ p, bst l = some p := by
  obtain ⟨m, hb, _⟩ := bst_val l h
  exact ⟨_, hb⟩
theorem cw_absorb {l : List (Nat × Nat)} {x y : Nat × Nat} (hx : x ∈ l) (h : x.1 < y.1) : cw (bst l) (some y) = bst l := by
  obtain ⟨⟨m, c⟩, hb⟩ := bst_ne (List.ne_nil_of_mem hx)
  have := bst_le hb hx
  rw [hb, cw_ss, if_neg (by omega), if_pos (by show m < y.1; omega)]
theorem bst_mid (a b : List (Nat × Nat)) (y z e : Nat × Nat) (h : cw (some y) (some e) = some z) : bst (a ++ z :: b) = cw (bst (a ++ y :: b)) (some e) := by
  rw [bst_append, bst_append]
  show cw (bst a) (cw (some z) (bst b)) = cw (cw (bst a) (cw (some y) (bst b))) (some e)
  rw [← h, cw_assoc, cw_assoc, cw_assoc, cw_comm (some e) (bst b)]
def bstO : List (Option (Nat × Nat)) → Option (Nat × Nat)
  | [] => none
  | x :: r => cw x (bstO r)
theorem bst_flat {α : Type} (f : α → List (Nat × Nat)) : ∀ l : List α, bst (l.flatMap f) = bstO (l.map fun a => bst (f a))
  | [] => rfl
  | a :: l => by
    rw [List.flatMap_cons, bst_append, bst_flat f l]; rfl
theorem bstO_some {α : Type} (f : α → Option (Nat × Nat)) (g : α → Nat × Nat) : ∀ l : List α, (∀ a ∈ l, f a = some (g a)) → bstO (l.map f) = bst (l.map g)
  | [], _ => rfl
  | a :: l, h => by
    show cw (f a) (bstO (l.map f)) = cw (some (g a)) (bst (l.map g))
    rw [h a List.mem_cons_self, bstO_some f g l fun b hb => h b (List.mem_cons_of_mem _ hb)]
end CN
end
section
namespace CN
open Sw69
theorem before_iff {a b : Name} : before a b = true ↔ a.cost < b.cost ∨ (a.cost = b.cost ∧ (@LT.lt Int _ a.root b.root ∨ (@Eq Int a.root b.root ∧ a.kind < b.kind))) := by
  unfold before
  simp only [Bool.or_eq_true, Bool.and_eq_true, decide_eq_true_eq, beq_iff_eq]
theorem before_trans {a b c : Name} (h1 : before a b = true) (h2 : before b c = true) : before a c = true := by
  rw [before_iff] at *
  omega
theorem before_irr {a : Name} : ¬ before a a = true := by rw [before_iff]; omega
theorem before_asymm {a b : Name} (h1 : before a b = true) : ¬ before b a = true := fun h2 => before_irr (before_trans h1 h2)
theorem before_tri {a b : Name} (h : ¬ (a.root = b.root ∧ a.kind = b.kind)) : before a b = true ∨ before b a = true := by
  rw [before_iff, before_iff]
  have h : ¬ (@Eq Int a.root b.root ∧ a.kind = b.kind) := h
  omega
theorem before_cost {a b : Name} (h1 : before a b = true) : a.cost ≤ b.cost := by
  rw [before_iff] at h1
  omega
abbrev Ord (l : List Name) : Prop := l.Pairwise fun a b => before a b = true
theorem put_perm (x : Name) : ∀ l : List Name, (put x l).Perm (x :: l)
  | [] => .refl _
  | y :: l => by
    unfold put
    split
    · exact .refl _
    · exact ((put_perm x l).cons y).trans (.swap x y l)
theorem put_ord (x : Name) : ∀ l : List Name, Ord l → (∀ y ∈ l, ¬ (x.root = y.root ∧ x.kind = y.kind)) → Ord (put x l)
  | [], _, _ => List.pairwise_singleton _ _
  | y :: l, h, hd => by
    obtain ⟨h1, h2⟩ := List.pairwise_cons.mp h
    unfold put
    split
    · rename_i hb
      refine List.pairwise_cons.mpr ⟨fun z hz => ?_, h⟩
      rcases List.mem_cons.mp hz with e | hz
      · rw [e]; exact hb
      · exact before_trans hb (h1 z hz)
    · rename_i hb
      refine List.pairwise_cons.mpr ⟨fun z hz => ?_, put_ord x l h2 fun z hz => hd z (List.mem_cons_of_mem _ hz)⟩
      rcases List.mem_cons.mp ((put_perm x l).mem_iff.mp hz) with e | hz
      · rw [e]; exact (before_tri (hd y List.mem_cons_self)).resolve_left hb
      · exact h1 z hz
abbrev Apt (l : List Name) : Prop := l.Pairwise fun a b => ¬ (a.root = b.root ∧ a.kind = b.kind)
theorem fold_put : ∀ (l acc : List Name), Ord acc → Apt (acc ++ l) → Ord (l.foldl (fun l x => put x l) acc) ∧ (l.foldl (fun l x => put x l) acc).Perm (acc ++ l)
  | [], acc, h, _ => ⟨h, by rw [List.append_nil]; exact .refl _⟩
  | x :: l, acc, h, ha => by
    have hp : (put x acc ++ l).Perm (acc ++ x :: l) := ((put_perm x acc).append_right l).trans (by
      show (x :: (acc ++ l)).Perm (acc ++ x :: l)
      exact List.perm_middle.symm)
    have ha' : Apt (put x acc ++ l) := (hp.pairwise_iff (fun {a b} h h' => h ⟨h'.1.symm, h'.2.symm⟩)).mpr ha
    have hd : ∀ y ∈ acc, ¬ (x.root = y.root ∧ x.kind = y.kind) := fun y hy h' => by
      obtain ⟨_, _, h3⟩ := List.pairwise_append.mp ha
      exact h3 y hy x List.mem_cons_self ⟨h'.1.symm, h'.2.symm⟩
    obtain ⟨r1, r2⟩ := fold_put l (put x acc) (put_ord x acc h hd) ha'
    exact ⟨r1, r2.trans hp⟩
def raw (s : St) (most : Nat) (c : Chord) : List Name := (c.flatMap fun r => s.kinds.zipIdx.map fun k => named s c r k.2 k.1).filter fun x => decide (x.cost ≤ most)
theorem zipIdx_apt {α : Type} : ∀ (l : List α) (i : Nat), (l.zipIdx i).Pairwise fun a b => a.2 < b.2
  | [], _ => List.Pairwise.nil
  | x :: l, i => by
    rw [List.zipIdx_cons]
    refine List.pairwise_cons.mpr ⟨fun y hy => ?_, zipIdx_apt l (i + 1)⟩
    have := List.le_snd_of_mem_zipIdx hy
    show i < y.2
    omega
theorem row_apt (s : St) (c : Chord) (r : Int) : Apt (s.kinds.zipIdx.map fun k => named s c r k.2 k.1) := by
  rw [Apt, List.pairwise_map]
  refine (zipIdx_apt s.kinds 0).imp fun {a b} h => ?_
  rintro ⟨_, h'⟩
  have : a.2 = b.2 := h'
  omega
theorem all_apt (s : St) (c : Chord) : ∀ (rs : List Int), rs.Nodup → Apt (rs.flatMap fun r => s.kinds.zipIdx.map fun k => named s c r k.2 k.1)
  | [], _ => List.Pairwise.nil
  | r :: rs, h => by
    obtain ⟨h1, h2⟩ := List.nodup_cons.mp h
    rw [List.flatMap_cons]
    refine List.pairwise_append.mpr ⟨row_apt s c r, all_apt s c rs h2, fun a ha b hb => ?_⟩
    obtain ⟨k, _, rfl⟩ := List.mem_map.mp ha
    obtain ⟨r', hr', hb⟩ := List.mem_flatMap.mp hb
    obtain ⟨k', _, rfl⟩ := List.mem_map.mp hb
    rintro ⟨e, _⟩
    have e' : r = r' := e
    exact h1 (e' ▸ hr')
theorem raw_apt (s : St) (most : Nat) {c : Chord} (h : c.Nodup) : Apt (raw s most c) := (all_apt s c c h).filter _
theorem names_raw (s : St) (most : Nat) {c : Chord} (h : c.Nodup) : Ord (names s most c) ∧ (names s most c).Perm (raw s most c) := by
  have := fold_put (raw s most c) [] List.Pairwise.nil (by rw [List.nil_append]; exact raw_apt s most h)
  rw [List.nil_append] at this
  exact this
theorem ord_uniq : ∀ {a b : List Name}, Ord a → Ord b → a.Perm b → a = b
  | [], b, _, _, h => (List.nil_perm.mp h).symm
  | x :: a, [], _, _, h => by have := h.length_eq; simp at this
  | x :: a, y :: b, h1, h2, h => by
    obtain ⟨u1, u2⟩ := List.pairwise_cons.mp h1
    obtain ⟨v1, v2⟩ := List.pairwise_cons.mp h2
    have e : x = y := by
      have hx := h.mem_iff.mp (List.mem_cons_self (a := x))
      have hy := h.mem_iff.mpr (List.mem_cons_self (a := y))
      rcases List.mem_cons.mp hx with e | hx
      · exact e
      · rcases List.mem_cons.mp hy with e | hy
        · exact e.symm
        · exact absurd (v1 x hx) (before_asymm (u1 y hy))
    subst e
    rw [ord_uniq u2 v2 (List.perm_cons x |>.mp h)]
abbrev BB := List (Int × Name × Nat)
def bbStep (B : BB) (n : Name) : BB := match B.find? fun e => decide (e.1 = n.root) with
  | none => B ++ [(n.root, n, 1)]
  | some e => if n.cost = e.2.1.cost then B.map (fun f => if f.1 = n.root then (f.1, f.2.1, e.2.2 + 1) else f) else B
def bbr (ns : List Name) : BB := ns.foldl bbStep []
def entC (C M : Int → Nat) (e : Int × Name × Nat) : Nat × Nat := (e.2.1.cost + C e.1, e.2.2 * M e.1)
def namC (C M : Int → Nat) (n : Name) : Nat × Nat := (n.cost + C n.root, M n.root)
structure BInv (B : BB) (pre : List Name) : Prop where
  nd : (B.map (·.1)).Nodup
  cov : ∀ n ∈ pre, ∃ e ∈ B, e.1 = n.root
  mem : ∀ e ∈ B, e.2.1 ∈ pre ∧ e.2.1.root = e.1
  fst : ∀ e ∈ B, ∀ n ∈ pre, n.root = e.1 → e.2.1 = n ∨ before e.2.1 n = true
  eq : ∀ C M, bst (B.map (entC C M)) = bst (pre.map (namC C M))
theorem nd_key : ∀ {B : BB}, (B.map (·.1)).Nodup → ∀ {e f}, e ∈ B → f ∈ B → e.1 = f.1 → e = f
  | [], _, e, f, he, _, _ => by simp at he
  | b :: B, h, e, f, he, hf, k => by
    have h : (b.1 :: B.map (·.1)).Nodup := h
    obtain ⟨h1, h2⟩ := List.nodup_cons.mp h
    rcases List.mem_cons.mp he with rfl | he
    · rcases List.mem_cons.mp hf with rfl | hf
      · rfl
      · exact absurd (List.mem_map.mpr ⟨f, hf, k.symm⟩) h1
    · rcases List.mem_cons.mp hf with q | hf
      · exact absurd (List.mem_map.mpr ⟨e, he, k.trans (congrArg (·.1) q)⟩) h1
      · exact nd_key h2 he hf k
theorem bump_split : ∀ {B : BB}, (B.map (·.1)).Nodup → ∀ {e}, e ∈ B → ∀ m : Nat, ∃ a b, B = a ++ e :: b ∧ B.map (fun f => if f.1 = e.1 then (f.1, f.2.1, m) else f) = a ++ (e.1, e.2.1, m) :: b
  | [], _, e, he, m => by simp at he
  | x :: B, h, e, he, m => by
    have h : (x.1 :: B.map (·.1)).Nodup := h
    obtain ⟨h1, h2⟩ := List.nodup_cons.mp h
    rcases List.mem_cons.mp he with rfl | he
    · refine ⟨[], B, rfl, ?_⟩
      rw [List.map_cons, if_pos rfl, List.nil_append]
      congr 1
      refine (List.map_congr_left fun f hf => ?_).trans (List.map_id' B)
      rw [if_neg fun k => h1 (List.mem_map.mpr ⟨f, hf, k⟩)]
    · obtain ⟨a, b, e1, e2⟩ := bump_split h2 he m
      refine ⟨x :: a, b, by rw [e1]; rfl, ?_⟩
      rw [List.map_cons, if_neg fun k => h1 (List.mem_map.mpr ⟨e, he, k.symm⟩), e2]
      rfl
theorem bb_step {B : BB} {pre : List Name} {n : Name} (I : BInv B pre) (hn : ∀ p ∈ pre, before p n = true) : BInv (bbStep B n) (pre ++ [n]) := by
  unfold bbStep
  split
  · rename_i hf
    have hno : ∀ e ∈ B, e.1 ≠ n.root := fun e he k => by
      have := List.find?_eq_none.mp hf e he
      simp [k] at this
    refine ⟨?_, ?_, ?_, ?_, ?_⟩
    · rw [List.map_append]
      refine List.nodup_append.mpr ⟨I.nd, by simp, fun a ha b hb => ?_⟩
      obtain ⟨e, he, rfl⟩ := List.mem_map.mp ha
      rw [List.mem_singleton.mp hb]
      exact hno e he
    · intro p hp
      rcases List.mem_append.mp hp with hp | hp
      · obtain ⟨e, he, k⟩ := I.cov p hp
        exact ⟨e, List.mem_append_left _ he, k⟩
      · rw [List.mem_singleton.mp hp]
        exact ⟨_, List.mem_append_right _ (List.mem_singleton.mpr rfl), rfl⟩
    · intro e he
      rcases List.mem_append.mp he with he | he
      · exact ⟨List.mem_append_left _ (I.mem e he).1, (I.mem e he).2⟩
      · rw [List.mem_singleton.mp he]
        exact ⟨List.mem_append_right _ (List.mem_singleton.mpr rfl), rfl⟩
    · intro e he p hp k
      rcases List.mem_append.mp he with he | he
      · rcases List.mem_append.mp hp with hp | hp
        · exact I.fst e he p hp k
        · rw [List.mem_singleton.mp hp] at k
          exact absurd k.symm (hno e he)
      · rw [List.mem_singleton.mp he] at k ⊢
        rcases List.mem_append.mp hp with hp | hp
        · obtain ⟨e', he', k'⟩ := I.cov p hp
          exact absurd (k'.trans k) (hno e' he')
        · exact .inl (List.mem_singleton.mp hp).symm
    · intro C M
      rw [List.map_append, List.map_append, List.map_singleton, List.map_singleton, bst_snoc, bst_snoc, I.eq C M]
      congr 1
      unfold entC namC
      rw [Nat.one_mul]
  · rename_i e hf
    have he : e ∈ B := List.mem_of_find?_eq_some hf
    have hk : e.1 = n.root := by
      have := List.find?_some hf
      simpa using this
    have hb : before e.2.1 n = true := hn _ (I.mem e he).1
    split
    · rename_i hc
      obtain ⟨a, b, e1, e2⟩ := bump_split I.nd he (e.2.2 + 1)
      rw [hk] at e2
      have hm : ∀ f ∈ B.map (fun f => if f.1 = n.root then (f.1, f.2.1, e.2.2 + 1) else f), ∃ f' ∈ B, f'.1 = f.1 ∧ f'.2.1 = f.2.1 := fun f hf => by
        obtain ⟨f', h1, h2⟩ := List.mem_map.mp hf
        refine ⟨f', h1, ?_⟩
        by_cases q : f'.1 = n.root
        · rw [if_pos q] at h2; rw [← h2]; exact ⟨rfl, rfl⟩
        · rw [if_neg q] at h2; rw [← h2]; exact ⟨rfl, rfl⟩
      have hkeys : (B.map (fun f => if f.1 = n.root then (f.1, f.2.1, e.2.2 + 1) else f)).map (·.1) = B.map (·.1) := by
        rw [List.map_map]
        refine List.map_congr_left fun f _ => ?_
        show (if f.1 = n.root then (f.1, f.2.1, e.2.2 + 1) else f).1 = f.1
        split <;> rfl
      refine ⟨by rw [hkeys]; exact I.nd, ?_, ?_, ?_, ?_⟩
      · intro p hp
        have : ∃ g ∈ B, g.1 = p.root := by
          rcases List.mem_append.mp hp with hp | hp
          · exact I.cov p hp
          · rw [List.mem_singleton.mp hp]; exact ⟨e, he, hk⟩
        obtain ⟨g, hg, k⟩ := this
        have hg' : g.1 ∈ (B.map (fun f => if f.1 = n.root then (f.1, f.2.1, e.2.2 + 1) else f)).map (·.1) := by rw [hkeys]; exact List.mem_map.mpr ⟨g, hg, rfl⟩
        obtain ⟨g', h1, h2⟩ := List.mem_map.mp hg'
        exact ⟨g', h1, h2.trans k⟩
      · intro f hf
        obtain ⟨f', h1, h2, h3⟩ := hm f hf
        rw [← h2, ← h3]
        exact ⟨List.mem_append_left _ (I.mem f' h1).1, (I.mem f' h1).2⟩
      · intro f hf p hp k
        obtain ⟨f', h1, h2, h3⟩ := hm f hf
        rw [← h3]
        rcases List.mem_append.mp hp with hp | hp
        · exact I.fst f' h1 p hp (k.trans h2.symm)
        · rw [List.mem_singleton.mp hp] at k ⊢
          exact .inr (hn _ (I.mem f' h1).1)
      · intro C M
        rw [e2, List.map_append (l₁ := pre), List.map_singleton, bst_snoc, ← I.eq C M, e1, List.map_append, List.map_cons, List.map_append, List.map_cons]
        refine bst_mid _ _ _ _ _ ?_
        unfold entC namC
        rw [cw_ss, hk, hc]
        simp [Nat.add_mul]
    · rename_i hc
      have hlt : e.2.1.cost < n.cost := by have := before_cost hb; omega
      refine ⟨I.nd, ?_, ?_, ?_, ?_⟩
      · intro p hp
        rcases List.mem_append.mp hp with hp | hp
        · exact I.cov p hp
        · rw [List.mem_singleton.mp hp]; exact ⟨e, he, hk⟩
      · intro f hf
        exact ⟨List.mem_append_left _ (I.mem f hf).1, (I.mem f hf).2⟩
      · intro f hf p hp k
        rcases List.mem_append.mp hp with hp | hp
        · exact I.fst f hf p hp k
        · rw [List.mem_singleton.mp hp] at k ⊢
          exact .inr (hn _ (I.mem f hf).1)
      · intro C M
        rw [List.map_append (l₁ := pre), List.map_singleton, bst_snoc, ← I.eq C M]
        refine (cw_absorb (x := entC C M e) (List.mem_map.mpr ⟨e, he, rfl⟩) ?_).symm
        show e.2.1.cost + C e.1 < n.cost + C n.root
        rw [hk]
        omega
theorem bb_fold : ∀ (ns pre : List Name) (B : BB), BInv B pre → Ord (pre ++ ns) → BInv (ns.foldl bbStep B) (pre ++ ns)
  | [], pre, B, I, _ => by rw [List.append_nil]; exact I
  | n :: ns, pre, B, I, h => by
    have e : pre ++ n :: ns = (pre ++ [n]) ++ ns := by simp
    rw [e] at h ⊢
    refine bb_fold ns (pre ++ [n]) (bbStep B n) (bb_step I fun p hp => ?_) h
    obtain ⟨h1, _, _⟩ := List.pairwise_append.mp h
    obtain ⟨_, _, h3⟩ := List.pairwise_append.mp h1
    exact h3 p hp n (List.mem_singleton.mpr rfl)
theorem bbr_inv {ns : List Name} (h : Ord ns) : BInv (bbr ns) ns := by
  have := bb_fold ns [] [] ⟨List.nodup_nil, by simp, by simp, by simp, fun _ _ => rfl⟩ (by rw [List.nil_append]; exact h)
  rw [List.nil_append] at this
  exact this
end CN
end
section
namespace CN
open Sw69
def pr (b : Best) : Nat × Nat := (b.cost, b.many)
theorem cheaper_pr : ∀ a b : Option Best, (cheaper a b).map pr = cw (a.map pr) (b.map pr)
  | none, b => by cases b <;> rfl
  | some x, none => rfl
  | some x, some y => by
    show (if y.cost < x.cost then some y else if x.cost < y.cost then some x else some ⟨x.cost, x.many + y.many, x.way⟩ : Option Best).map pr = cw (some (pr x)) (some (pr y))
    rw [cw_ss]
    unfold pr
    by_cases h1 : y.cost < x.cost
    · rw [if_pos h1, if_pos h1]; rfl
    · by_cases h2 : x.cost < y.cost
      · rw [if_neg h1, if_pos h2, if_neg h1, if_pos h2]; rfl
      · rw [if_neg h1, if_neg h2, if_neg h1, if_neg h2]; rfl
theorem fold_pr : ∀ (L : List Best) (a : Option Best), ((L.map some).foldl cheaper a).map pr = cw (a.map pr) (bst (L.map pr))
  | [], a => by show a.map pr = cw (a.map pr) none; rw [cw_none_r]
  | x :: L, a => by
    show ((L.map some).foldl cheaper (cheaper a (some x))).map pr = cw (a.map pr) (cw (some (pr x)) (bst (L.map pr)))
    rw [fold_pr L, cheaper_pr, cw_assoc]; rfl
theorem fold_pr0 (L : List Best) : ((L.map some).foldl cheaper none).map pr = bst (L.map pr) := fold_pr L none
def chB (k : Nat) (x : Step) (b : Best) : Best := ⟨k + b.cost, b.many, x :: b.way⟩
theorem cheaper_ch (k : Nat) (x : Step) : ∀ a b : Option Best, cheaper (a.map (chB k x)) (b.map (chB k x)) = (cheaper a b).map (chB k x)
  | none, b => by cases b <;> rfl
  | some u, none => rfl
  | some u, some v => by
    show (if k + v.cost < k + u.cost then some (chB k x v) else if k + u.cost < k + v.cost then some (chB k x u) else some ⟨k + u.cost, u.many + v.many, x :: u.way⟩ : Option Best) =
      (if v.cost < u.cost then some v else if u.cost < v.cost then some u else some ⟨u.cost, u.many + v.many, u.way⟩ : Option Best).map (chB k x)
    by_cases h1 : v.cost < u.cost
    · rw [if_pos h1, if_pos (by omega)]; rfl
    · by_cases h2 : u.cost < v.cost
      · rw [if_neg h1, if_pos h2, if_neg (by omega), if_pos (by omega)]; rfl
      · rw [if_neg h1, if_neg h2, if_neg (by omega), if_neg (by omega)]; rfl
theorem fold_ch (k : Nat) (x : Step) : ∀ (L : List Best) (a : Option Best), ((L.map (chB k x)).map some).foldl cheaper (a.map (chB k x)) = ((L.map some).foldl cheaper a).map (chB k x)
  | [], a => rfl
  | y :: L, a => by
    show ((L.map (chB k x)).map some).foldl cheaper (cheaper (a.map (chB k x)) (some (chB k x y))) = ((L.map some).foldl cheaper (cheaper a (some y))).map (chB k x)
    rw [← fold_ch k x L, ← cheaper_ch]; rfl
structure FB (L : List Best) (a : Option Best) : Prop where
  no : L = [] → a = none
  ex : L ≠ [] → ∃ pre b post m, L = pre ++ b :: post ∧ (∀ x ∈ pre, b.cost < x.cost) ∧ (∀ x ∈ post, b.cost ≤ x.cost) ∧ a = some ⟨b.cost, m, b.way⟩
theorem fb_step {L : List Best} {a : Option Best} (h : FB L a) (x : Best) : FB (L ++ [x]) (cheaper a (some x)) := by
  refine ⟨fun e => by simp at e, fun _ => ?_⟩
  by_cases hL : L = []
  · subst hL
    rw [h.no rfl]
    exact ⟨[], x, [], x.many, rfl, by simp, by simp, rfl⟩
  · obtain ⟨pre, b, post, m, rfl, h1, h2, rfl⟩ := h.ex hL
    show ∃ pre' b' post' m', _ ∧ _ ∧ _ ∧ (if x.cost < b.cost then some x else if b.cost < x.cost then some ⟨b.cost, m, b.way⟩ else some ⟨b.cost, m + x.many, b.way⟩ : Option Best) = _
    by_cases c1 : x.cost < b.cost
    · refine ⟨pre ++ b :: post, x, [], x.many, rfl, fun y hy => ?_, by simp, by rw [if_pos c1]⟩
      rcases List.mem_append.mp hy with hy | hy
      · have := h1 y hy; omega
      · rcases List.mem_cons.mp hy with e | hy
        · rw [e]; exact c1
        · have := h2 y hy; omega
    · have key : ∀ y ∈ post ++ [x], b.cost ≤ y.cost := fun y hy => by
        rcases List.mem_append.mp hy with hy | hy
        · exact h2 y hy
        · rw [List.mem_singleton.mp hy]; omega
      by_cases c2 : b.cost < x.cost
      · exact ⟨pre, b, post ++ [x], m, by simp, h1, key, by rw [if_neg c1, if_pos c2]⟩
      · exact ⟨pre, b, post ++ [x], m + x.many, by simp, h1, key, by rw [if_neg c1, if_neg c2]⟩
theorem fb_fold : ∀ (L done : List Best) (a : Option Best), FB done a → FB (done ++ L) ((L.map some).foldl cheaper a)
  | [], done, a, h => by rw [List.append_nil]; exact h
  | x :: L, done, a, h => by
    have e : done ++ x :: L = (done ++ [x]) ++ L := by simp
    rw [e]
    exact fb_fold L _ _ (fb_step h x)
theorem fb_of (L : List Best) : FB L ((L.map some).foldl cheaper none) := by
  have := fb_fold L [] none ⟨fun _ => rfl, fun h => absurd rfl h⟩
  rwa [List.nil_append] at this
def stp (k : Key) (r : Int) : Step := ⟨k, ⟨r, 0, 0, 0⟩⟩
def addB (k : Nat) (b : Best) : Best := ⟨k + b.cost, b.many, b.way⟩
def restB (s : St) (most : Nat) : List Chord → Key → Int → Option Best
  | [], _, _ => some ⟨0, 1, []⟩
  | d :: l, k, r => (((tails s most (d :: l)).map fun y => addB (move s (stp k r) y.1) y.2).map some).foldl cheaper none
theorem tails_rest (s : St) (most : Nat) (c : Chord) : ∀ l : List Chord, tails s most (c :: l) = (stepsOf s most c).filterMap fun x => (restB s most l x.key x.name.root).map fun b => (x, chB (own s c x) x b)
  | [] => by
    show (stepsOf s most c).map (fun x => (x, (⟨own s c x, 1, [x]⟩ : Best))) = _
    rw [← List.filterMap_eq_map]
    rfl
  | d :: l => by
    show ((stepsOf s most c).filterMap fun x => (((tails s most (d :: l)).map fun y => some (⟨own s c x + move s x y.1 + y.2.cost, y.2.many, x :: y.2.way⟩ : Best)).foldl cheaper none).map fun b => (x, b)) = _
    congr 1
    funext x
    have h := fold_ch (own s c x) x ((tails s most (d :: l)).map fun y => addB (move s (stp x.key x.name.root) y.1) y.2) none
    rw [List.map_map, List.map_map] at h
    show _ = (((((tails s most (d :: l)).map fun y => addB (move s (stp x.key x.name.root) y.1) y.2).map some).foldl cheaper none).map fun b => (x, chB (own s c x) x b))
    have e : ((tails s most (d :: l)).map fun y => some (⟨own s c x + move s x y.1 + y.2.cost, y.2.many, x :: y.2.way⟩ : Best)) = (tails s most (d :: l)).map (some ∘ chB (own s c x) x ∘ fun y => addB (move s (stp x.key x.name.root) y.1) y.2) := by
      refine List.map_congr_left fun y _ => ?_
      show some (⟨own s c x + move s x y.1 + y.2.cost, y.2.many, x :: y.2.way⟩ : Best) = some ⟨own s c x + (move s x y.1 + y.2.cost), y.2.many, x :: y.2.way⟩
      rw [Nat.add_assoc]
    rw [e]
    have h' : List.foldl cheaper none (List.map (some ∘ chB (own s c x) x ∘ fun y => addB (move s (stp x.key x.name.root) y.1) y.2) (tails s most (d :: l))) = Option.map (chB (own s c x) x) (List.foldl cheaper none (List.map some (List.map (fun y => addB (move s (stp x.key x.name.root) y.fst) y.snd) (tails s most (d :: l))))) := h
    rw [h', Option.map_map]
    rfl
def Good (s : St) (most : Nat) (l : List Chord) : Prop := s.modes ≠ [] ∧ ∀ c ∈ l, c.Nodup ∧ names s most c ≠ []
def rb (s : St) (most : Nat) (l : List Chord) (k : Key) (r : Int) : Best := (restB s most l k r).getD ⟨0, 0, []⟩
theorem keys_ne {s : St} (h : s.modes ≠ []) : keys s ≠ [] := by
  intro e
  have h1 : (⟨-7, 0⟩ : Key) ∈ keys s := by
    unfold keys
    refine List.mem_flatMap.mpr ⟨0, by simp, List.mem_map.mpr ⟨0, List.mem_range.mpr (List.length_pos_iff.mpr h), rfl⟩⟩
  rw [e] at h1
  simp at h1
theorem steps_ne {s : St} {most : Nat} {c : Chord} (h : s.modes ≠ []) (hn : names s most c ≠ []) : stepsOf s most c ≠ [] := by
  obtain ⟨k, hk⟩ := List.exists_mem_of_ne_nil _ (keys_ne h)
  obtain ⟨n, hn⟩ := List.exists_mem_of_ne_nil _ hn
  exact List.ne_nil_of_mem (a := (⟨k, n⟩ : Step)) (List.mem_flatMap.mpr ⟨k, hk, List.mem_map.mpr ⟨n, hn, rfl⟩⟩)
theorem Good.tl {s : St} {most : Nat} {c : Chord} {l : List Chord} (h : Good s most (c :: l)) : Good s most l := ⟨h.1, fun d hd => h.2 d (List.mem_cons_of_mem _ hd)⟩
theorem fold_ne {L : List Best} (h : L ≠ []) : ∃ b, (L.map some).foldl cheaper none = some b := by
  obtain ⟨_, b, _, m, _, _, _, e⟩ := (fb_of L).ex h
  exact ⟨_, e⟩
theorem map_of_filterMap {α β γ : Type} (f : α → Option β) (g : α → β) (j : α → β → γ) (L : List α) (h : ∀ x ∈ L, f x = some (g x)) : L.filterMap (fun x => (f x).map fun b => j x b) = L.map fun x => j x (g x) := by
  induction L with
  | nil => rfl
  | cons x L ih =>
    rw [List.filterMap_cons, h x List.mem_cons_self, List.map_cons, ← ih fun y hy => h y (List.mem_cons_of_mem _ hy)]
    rfl
theorem rest_some {s : St} {most : Nat} : ∀ {l : List Chord}, Good s most l → ∀ k r, restB s most l k r = some (rb s most l k r)
  | [], _, k, r => rfl
  | c :: l, h, k, r => by
    have ih := rest_some h.tl
    have ht : tails s most (c :: l) ≠ [] := by
      rw [tails_rest, map_of_filterMap _ (fun x => rb s most l x.key x.name.root) (fun x b => (x, chB (own s c x) x b)) _ fun x _ => ih x.key x.name.root]
      exact fun e => steps_ne h.1 (h.2 c List.mem_cons_self).2 (List.map_eq_nil_iff.mp e)
    obtain ⟨b, hb⟩ := fold_ne (L := (tails s most (c :: l)).map fun y => addB (move s (stp k r) y.1) y.2) (fun e => ht (List.map_eq_nil_iff.mp e))
    have hb' : restB s most (c :: l) k r = some b := hb
    unfold rb
    rw [hb']
    rfl
theorem tails_good {s : St} {most : Nat} {c : Chord} {l : List Chord} (h : Good s most l) : tails s most (c :: l) = (stepsOf s most c).map fun x => (x, chB (own s c x) x (rb s most l x.key x.name.root)) := by
  rw [tails_rest]
  exact map_of_filterMap _ (fun x => rb s most l x.key x.name.root) (fun x b => (x, chB (own s c x) x b)) _ fun x _ => rest_some h x.key x.name.root
def onw (s : St) (most : Nat) (c : Chord) (l : List Chord) (k : Key) (e : Int × Name × Nat) : Nat × Nat :=
  (s.costs.out * outside s k c + e.2.1.cost + (rb s most l k e.1).cost, e.2.2 * (rb s most l k e.1).many)
theorem entry_sum {s : St} {most : Nat} {c : Chord} {l : List Chord} (h : Good s most (c :: l)) (kc : Key → Nat) (rc : Key → Int → Nat) :
    bst ((tails s most (c :: l)).map fun y => shf (kc y.1.key + rc y.1.key y.1.name.root) (pr y.2)) =
      bst ((keys s).flatMap fun k => ((bbr (names s most c)).map fun e => shf (rc k e.1) (onw s most c l k e)).map (shf (kc k))) := by
  rw [tails_good h.tl, List.map_map]
  unfold stepsOf
  rw [List.map_flatMap, bst_flat, bst_flat]
  congr 1
  refine List.map_congr_left fun k _ => ?_
  rw [List.map_map, List.map_map]
  have B := bbr_inv (names_raw s most (h.2 c List.mem_cons_self).1).1
  have e := B.eq (fun r => kc k + (rc k r + (s.costs.out * outside s k c + (rb s most l k r).cost))) (fun r => (rb s most l k r).many)
  have e1 : (names s most c).map (namC (fun r => kc k + (rc k r + (s.costs.out * outside s k c + (rb s most l k r).cost))) (fun r => (rb s most l k r).many)) = (names s most c).map (((fun y : Step × Best => shf (kc y.1.key + rc y.1.key y.1.name.root) (pr y.2)) ∘ fun x => (x, chB (own s c x) x (rb s most l x.key x.name.root))) ∘ fun n => (⟨k, n⟩ : Step)) := by
    refine List.map_congr_left fun n _ => ?_
    show (n.cost + (kc k + (rc k n.root + (s.costs.out * outside s k c + (rb s most l k n.root).cost))), (rb s most l k n.root).many) = (kc k + rc k n.root + (n.cost + s.costs.out * outside s k c + (rb s most l k n.root).cost), (rb s most l k n.root).many)
    congr 1
    omega
  have e2 : (bbr (names s most c)).map (entC (fun r => kc k + (rc k r + (s.costs.out * outside s k c + (rb s most l k r).cost))) (fun r => (rb s most l k r).many)) = (bbr (names s most c)).map (shf (kc k) ∘ fun e => shf (rc k e.1) (onw s most c l k e)) := by
    refine List.map_congr_left fun e _ => ?_
    show (e.2.1.cost + (kc k + (rc k e.1 + (s.costs.out * outside s k c + (rb s most l k e.1).cost))), _) = (kc k + (rc k e.1 + (s.costs.out * outside s k c + e.2.1.cost + (rb s most l k e.1).cost)), _)
    congr 1
    omega
  rw [← e1, ← e2, ← e]
def kcost (s : St) (k k' : Key) : Nat := s.costs.key * (k'.tonic - k.tonic).natAbs + if k.mode = k'.mode then 0 else s.costs.mode
def rcost (s : St) (k : Key) (r r' : Int) : Nat := s.costs.steps.getD (8 * degree s k r + degree s k r') 0
theorem move_kr (s : St) (k : Key) (r : Int) (y : Step) : move s (stp k r) y = kcost s k y.key + rcost s y.key r y.name.root := by
  unfold move kcost rcost stp
  rw [Nat.add_assoc]
def intoP (s : St) (most : Nat) (c : Chord) (l : List Chord) (r : Int) (k : Key) : Nat × Nat := (bst ((bbr (names s most c)).map fun e => shf (rcost s k r e.1) (onw s most c l k e))).getD (0, 0)
theorem bbr_ne {ns : List Name} (h : Ord ns) (hn : ns ≠ []) : bbr ns ≠ [] := by
  obtain ⟨n, hn⟩ := List.exists_mem_of_ne_nil _ hn
  obtain ⟨e, he, _⟩ := (bbr_inv h).cov n hn
  exact List.ne_nil_of_mem he
theorem getD_some {o : Option (Nat × Nat)} {p : Nat × Nat} (h : ∃ q, o = some q) (hp : o.getD (0, 0) = p) : o = some p := by
  obtain ⟨q, rfl⟩ := h
  rw [← hp]
  rfl
theorem into_some {s : St} {most : Nat} {c : Chord} {l : List Chord} (h : Good s most (c :: l)) (r : Int) (k : Key) :
    bst ((bbr (names s most c)).map fun e => shf (rcost s k r e.1) (onw s most c l k e)) = some (intoP s most c l r k) :=
  getD_some (bst_ne fun e => bbr_ne (names_raw s most (h.2 c List.mem_cons_self).1).1 (h.2 c List.mem_cons_self).2 (List.map_eq_nil_iff.mp e)) rfl
theorem behind_eq {s : St} {most : Nat} {c : Chord} {l : List Chord} (h : Good s most (c :: l)) (k : Key) (r : Int) :
    bst ((keys s).map fun k' => shf (kcost s k k') (intoP s most c l r k')) = some (pr (rb s most (c :: l) k r)) := by
  have e0 := rest_some h k r
  have e1 : (restB s most (c :: l) k r).map pr = bst ((tails s most (c :: l)).map fun y => shf (kcost s k y.1.key + rcost s y.1.key r y.1.name.root) (pr y.2)) := by
    show ((((tails s most (c :: l)).map fun y => addB (move s (stp k r) y.1) y.2).map some).foldl cheaper none).map pr = _
    rw [fold_pr0, List.map_map]
    congr 1
    refine List.map_congr_left fun y _ => ?_
    show (move s (stp k r) y.1 + y.2.cost, y.2.many) = (kcost s k y.1.key + rcost s y.1.key r y.1.name.root + y.2.cost, y.2.many)
    rw [move_kr]
  rw [e0, entry_sum h (fun k' => kcost s k k') (fun k' r' => rcost s k' r r'), bst_flat] at e1
  have e2 : some (pr (rb s most (c :: l) k r)) = _ := e1
  rw [e2]
  refine (bstO_some _ _ _ fun k' _ => ?_).symm
  rw [bst_shf, into_some h r k']
  rfl
theorem through_eq {s : St} {most : Nat} {c : Chord} {l : List Chord} (h : Good s most (c :: l)) :
    ∃ b, through s most (c :: l) = some b ∧ bst ((keys s).flatMap fun k => (bbr (names s most c)).map fun e => onw s most c l k e) = some (pr b) := by
  have e1 : through s most (c :: l) = (((tails s most (c :: l)).map fun x => x.2).map some).foldl cheaper none := by
    unfold through
    rw [if_neg (by simp), List.map_map]
    rfl
  have ht : (tails s most (c :: l)).map (fun x => x.2) ≠ [] := by
    rw [tails_good h.tl]
    exact fun e => steps_ne h.1 (h.2 c List.mem_cons_self).2 (List.map_eq_nil_iff.mp (List.map_eq_nil_iff.mp e))
  obtain ⟨b, hb⟩ := fold_ne ht
  refine ⟨b, by rw [e1, hb], ?_⟩
  have e2 := fold_pr0 ((tails s most (c :: l)).map fun x => x.2)
  rw [hb, List.map_map] at e2
  have e3 := entry_sum h (fun _ => 0) (fun _ _ => 0)
  have z : ∀ p : Nat × Nat, shf 0 p = p := fun p => by unfold shf; rw [Nat.zero_add]
  have e4 : ((tails s most (c :: l)).map fun y => shf (0 + 0) (pr y.2)) = (tails s most (c :: l)).map (pr ∘ fun x => x.2) := List.map_congr_left fun y _ => z _
  have e5 : ((keys s).flatMap fun k => ((bbr (names s most c)).map fun e => shf 0 (onw s most c l k e)).map (shf 0)) = (keys s).flatMap fun k => (bbr (names s most c)).map fun e => onw s most c l k e := by
    congr 1
    funext k
    rw [List.map_map]
    exact List.map_congr_left fun e _ => (z _).trans (z _)
  rw [e4, e5] at e3
  rw [← e3, ← e2]
  rfl
end CN
end
section
namespace CN
open Sw69
def klt (a b : Key) : Prop := @LT.lt Int _ a.tonic b.tonic ∨ (@Eq Int a.tonic b.tonic ∧ a.mode < b.mode)
theorem klt_irr {a : Key} : ¬ klt a a := by unfold klt; omega
theorem klt_asymm {a b : Key} (h : klt a b) : ¬ klt b a := by unfold klt at *; omega
theorem range_lt (n : Nat) : (List.range n).Pairwise (· < ·) := List.pairwise_lt_range
theorem keys_ord (s : St) : (keys s).Pairwise klt := by
  unfold keys
  suffices h : ∀ is : List Nat, is.Pairwise (· < ·) → (is.flatMap fun (i : Nat) => (List.range s.modes.length).map fun m => (⟨(i : Int) - TONIC, m⟩ : Key)).Pairwise klt from h _ (range_lt 15)
  intro is h
  induction is with
  | nil => exact List.Pairwise.nil
  | cons i is ih =>
    obtain ⟨h1, h2⟩ := List.pairwise_cons.mp h
    rw [List.flatMap_cons]
    refine List.pairwise_append.mpr ⟨?_, ih h2, fun a ha b hb => ?_⟩
    · rw [List.pairwise_map]
      exact (range_lt _).imp fun {a b} h => .inr ⟨rfl, h⟩
    · obtain ⟨m, _, rfl⟩ := List.mem_map.mp ha
      obtain ⟨j, hj, hb⟩ := List.mem_flatMap.mp hb
      obtain ⟨m', _, rfl⟩ := List.mem_map.mp hb
      have := h1 j hj
      left
      show (i : Int) - 7 < (j : Int) - 7
      omega
def slt (a b : Step) : Prop := klt a.key b.key ∨ (a.key = b.key ∧ before a.name b.name = true)
theorem steps_ord (s : St) (most : Nat) {c : Chord} (h : c.Nodup) : (stepsOf s most c).Pairwise slt := by
  unfold stepsOf
  suffices h' : ∀ ks : List Key, ks.Pairwise klt → (ks.flatMap fun k => (names s most c).map fun n => (⟨k, n⟩ : Step)).Pairwise slt from h' _ (keys_ord s)
  intro ks hk
  induction ks with
  | nil => exact List.Pairwise.nil
  | cons k ks ih =>
    obtain ⟨h1, h2⟩ := List.pairwise_cons.mp hk
    rw [List.flatMap_cons]
    refine List.pairwise_append.mpr ⟨?_, ih h2, fun a ha b hb => ?_⟩
    · rw [List.pairwise_map]
      exact (names_raw s most h).1.imp fun {a b} h => .inr ⟨rfl, h⟩
    · obtain ⟨n, _, rfl⟩ := List.mem_map.mp ha
      obtain ⟨k', hk', hb⟩ := List.mem_flatMap.mp hb
      obtain ⟨n', _, rfl⟩ := List.mem_map.mp hb
      exact .inl (h1 k' hk')
def chLe (t : Nat) (k : Key) (n : Name) (t' : Nat) (k' : Key) (n' : Name) : Prop := t < t' ∨ (t = t' ∧ (klt k k' ∨ (k = k' ∧ (n = n' ∨ before n n' = true))))
theorem first_of {s : St} {most : Nat} {c : Chord} {l : List Chord} (h : Good s most (c :: l)) (kc : Key → Nat) (rc : Key → Int → Nat) {b : Best}
    (hb : (((tails s most (c :: l)).map fun y => addB (kc y.1.key + rc y.1.key y.1.name.root) y.2).map some).foldl cheaper none = some b) :
    ∃ (k : Key) (e : Int × Name × Nat), k ∈ keys s ∧ e ∈ bbr (names s most c) ∧ b.way = ⟨k, e.2.1⟩ :: (rb s most l k e.1).way ∧
      ∀ k' ∈ keys s, ∀ e' ∈ bbr (names s most c), chLe (kc k + rc k e.1 + (onw s most c l k e).1) k e.2.1 (kc k' + rc k' e'.1 + (onw s most c l k' e').1) k' e'.2.1 := by
  have hn := h.2 c List.mem_cons_self
  have B := bbr_inv (names_raw s most hn.1).1
  rw [tails_good h.tl, List.map_map (l := stepsOf s most c)] at hb
  have ne : (stepsOf s most c).map ((fun y : Step × Best => addB (kc y.1.key + rc y.1.key y.1.name.root) y.2) ∘ fun x => (x, chB (own s c x) x (rb s most l x.key x.name.root))) ≠ [] :=
    fun e => steps_ne h.1 hn.2 (List.map_eq_nil_iff.mp e)
  obtain ⟨pre, b0, post, m, e1, p1, p2, e2⟩ := (fb_of _).ex ne
  rw [hb] at e2
  obtain ⟨spre, srest, q1, q2, q3⟩ := List.map_eq_append_iff.mp e1
  obtain ⟨x, spost, q4, q5, q6⟩ := List.map_eq_cons_iff.mp q3
  subst q2 q6 q4
  have so := steps_ord s most hn.1
  rw [q1] at so
  obtain ⟨_, so2, so3⟩ := List.pairwise_append.mp so
  obtain ⟨so4, _⟩ := List.pairwise_cons.mp so2
  -- the cost of a step, by what hangs on it
  have cst : ∀ y : Step, (addB (kc y.key + rc y.key y.name.root) (chB (own s c y) y (rb s most l y.key y.name.root))).cost = kc y.key + rc y.key y.name.root + (y.name.cost + s.costs.out * outside s y.key c + (rb s most l y.key y.name.root).cost) := fun _ => rfl
  have hx0 : (addB (kc x.key + rc x.key x.name.root) (chB (own s c x) x (rb s most l x.key x.name.root))) = b0 := q5
  have hxm : x ∈ stepsOf s most c := by rw [q1]; exact List.mem_append_right _ List.mem_cons_self
  have hle : ∀ y ∈ stepsOf s most c, b0.cost ≤ (addB (kc y.key + rc y.key y.name.root) (chB (own s c y) y (rb s most l y.key y.name.root))).cost ∧ (b0.cost = (addB (kc y.key + rc y.key y.name.root) (chB (own s c y) y (rb s most l y.key y.name.root))).cost → y = x ∨ slt x y) := fun y hy => by
    rw [q1] at hy
    rcases List.mem_append.mp hy with hy | hy
    · have := p1 _ (List.mem_map.mpr ⟨y, hy, rfl⟩)
      have this : b0.cost < (addB (kc y.key + rc y.key y.name.root) (chB (own s c y) y (rb s most l y.key y.name.root))).cost := this
      exact ⟨Nat.le_of_lt this, fun e => by omega⟩
    · rcases List.mem_cons.mp hy with e | hy
      · rw [e]
        refine ⟨?_, fun _ => .inl rfl⟩
        rw [← hx0]
        exact Nat.le_refl _
      · exact ⟨p2 _ (List.mem_map.mpr ⟨y, hy, rfl⟩), fun _ => .inr (so4 y hy)⟩
  obtain ⟨k, hk, hx⟩ := List.mem_flatMap.mp hxm
  obtain ⟨n, hnm, rfl⟩ := List.mem_map.mp hx
  -- its name is the first on its root
  obtain ⟨e, he, hek⟩ := B.cov n hnm
  have hen : e.2.1 = n := by
    rcases B.fst e he n hnm hek.symm with q | q
    · exact q
    · exfalso
      have hy : (⟨k, e.2.1⟩ : Step) ∈ stepsOf s most c := List.mem_flatMap.mpr ⟨k, hk, List.mem_map.mpr ⟨_, (B.mem e he).1, rfl⟩⟩
      obtain ⟨l1, l2⟩ := hle _ hy
      rw [← hx0, cst, cst] at l1 l2
      have hr : @Eq Int e.2.1.root n.root := (B.mem e he).2.trans hek
      dsimp only at l1 l2
      rw [hr] at l1 l2
      have hc := before_cost q
      have := l2 (by omega)
      rcases this with z | z | ⟨_, z⟩
      · have z' : e.2.1 = n := congrArg Step.name z
        rw [z'] at q
        exact before_irr q
      · exact klt_irr z
      · exact before_asymm q z
  refine ⟨k, e, hk, he, ?_, fun k' hk' e' he' => ?_⟩
  · have eb : b = ⟨b0.cost, m, b0.way⟩ := Option.some.inj e2
    have : b.way = b0.way := by rw [eb]
    rw [this, ← hx0, hen, hek]
    rfl
  · have hy : (⟨k', e'.2.1⟩ : Step) ∈ stepsOf s most c := List.mem_flatMap.mpr ⟨k', hk', List.mem_map.mpr ⟨_, (B.mem e' he').1, rfl⟩⟩
    obtain ⟨l1, l2⟩ := hle _ hy
    rw [← hx0, cst, cst] at l1 l2
    dsimp only at l1 l2
    have hr' : @Eq Int e'.2.1.root e'.1 := (B.mem e' he').2
    rw [hr'] at l1 l2
    rw [hen]
    unfold onw chLe
    dsimp only
    rw [hen, hek]
    by_cases hlt : kc k + rc k n.root + (n.cost + s.costs.out * outside s k c + (rb s most l k n.root).cost) < kc k' + rc k' e'.1 + (e'.2.1.cost + s.costs.out * outside s k' c + (rb s most l k' e'.1).cost)
    · left; omega
    · right
      refine ⟨by omega, ?_⟩
      rcases l2 (by omega) with z | z | ⟨z, z'⟩
      · have z1 : k' = k := congrArg Step.key z
        have z2 : e'.2.1 = n := congrArg Step.name z
        exact .inr ⟨z1.symm, .inl z2.symm⟩
      · exact .inl z
      · exact .inr ⟨z, .inr z'⟩
theorem rest_first {s : St} {most : Nat} {c : Chord} {l : List Chord} (h : Good s most (c :: l)) (k0 : Key) (r0 : Int) :
    ∃ (k : Key) (e : Int × Name × Nat), k ∈ keys s ∧ e ∈ bbr (names s most c) ∧ (rb s most (c :: l) k0 r0).way = ⟨k, e.2.1⟩ :: (rb s most l k e.1).way ∧
      ∀ k' ∈ keys s, ∀ e' ∈ bbr (names s most c), chLe (kcost s k0 k + rcost s k r0 e.1 + (onw s most c l k e).1) k e.2.1 (kcost s k0 k' + rcost s k' r0 e'.1 + (onw s most c l k' e').1) k' e'.2.1 := by
  refine first_of h (fun k => kcost s k0 k) (fun k r => rcost s k r0 r) ?_
  have e0 := rest_some h k0 r0
  rw [← e0]
  show _ = (((tails s most (c :: l)).map fun y => addB (move s (stp k0 r0) y.1) y.2).map some).foldl cheaper none
  congr 2
  refine List.map_congr_left fun y _ => ?_
  rw [move_kr]
theorem through_first {s : St} {most : Nat} {c : Chord} {l : List Chord} {b : Best} (h : Good s most (c :: l)) (hb : through s most (c :: l) = some b) :
    ∃ (k : Key) (e : Int × Name × Nat), k ∈ keys s ∧ e ∈ bbr (names s most c) ∧ b.way = ⟨k, e.2.1⟩ :: (rb s most l k e.1).way ∧
      ∀ k' ∈ keys s, ∀ e' ∈ bbr (names s most c), chLe (0 + 0 + (onw s most c l k e).1) k e.2.1 (0 + 0 + (onw s most c l k' e').1) k' e'.2.1 := by
  refine first_of h (fun _ => 0) (fun _ _ => 0) ?_
  rw [← hb]
  unfold through
  rw [if_neg (by simp), List.map_map]
  congr 1
  refine List.map_congr_left fun y _ => ?_
  show some (addB (0 + 0) y.2) = some y.2
  unfold addB
  rw [Nat.zero_add]
theorem chLe_antisymm {t t' : Nat} {k k' : Key} {n n' : Name} (h1 : chLe t k n t' k' n') (h2 : chLe t' k' n' t k n) : t = t' ∧ k = k' ∧ n = n' := by
  rcases h1 with h1 | ⟨rfl, h1⟩
  · rcases h2 with h2 | ⟨h2, _⟩ <;> omega
  · rcases h2 with h2 | ⟨_, h2⟩
    · omega
    · rcases h1 with h1 | ⟨rfl, h1⟩
      · rcases h2 with h2 | ⟨rfl, _⟩
        · exact absurd h2 (klt_asymm h1)
        · exact absurd h1 klt_irr
      · refine ⟨rfl, rfl, ?_⟩
        rcases h2 with h2 | ⟨_, h2⟩
        · exact absurd h2 klt_irr
        · rcases h1 with h1 | h1
          · exact h1
          · rcases h2 with h2 | h2
            · exact h2.symm
            · exact absurd h2 (before_asymm h1)
theorem tails_none {s : St} {most : Nat} : ∀ {l : List Chord}, (∃ c ∈ l, names s most c = []) ∨ s.modes = [] → tails s most l = []
  | [], h => rfl
  | [c], h => by
    have hs : stepsOf s most c = [] := by
      unfold stepsOf
      rcases h with ⟨d, hd, e⟩ | e
      · rw [List.mem_singleton.mp hd] at e
        rw [e]
        simp
      · unfold keys
        rw [e]
        simp
    show (stepsOf s most c).map _ = []
    rw [hs]
    rfl
  | c :: d :: l, h => by
    by_cases hc : (∃ c ∈ d :: l, names s most c = []) ∨ s.modes = []
    · have ih := tails_none hc
      show ((stepsOf s most c).filterMap fun x => (((tails s most (d :: l)).map fun y => some (⟨own s c x + move s x y.1 + y.2.cost, y.2.many, x :: y.2.way⟩ : Best)).foldl cheaper none).map fun b => (x, b)) = []
      rw [ih]
      exact List.filterMap_eq_nil_iff.mpr fun x _ => rfl
    · have hs : stepsOf s most c = [] := by
        unfold stepsOf
        rcases h with ⟨c', hc', e⟩ | e
        · rcases List.mem_cons.mp hc' with q | q
          · rw [q] at e
            rw [e]
            simp
          · exact absurd (.inl ⟨c', q, e⟩) hc
        · exact absurd (.inr e) hc
      show (stepsOf s most c).filterMap _ = []
      rw [hs]
      rfl
theorem through_none {s : St} {most : Nat} {l : List Chord} (hl : l ≠ []) (h : (∃ c ∈ l, names s most c = []) ∨ s.modes = []) : through s most l = none := by
  unfold through
  rw [if_neg hl, tails_none h]
  rfl
end CN
end
section
set_option maxRecDepth 100000
namespace CN
open PySem PyProof.Rows
abbrev Kh (h h' : Heap) : Prop := ∀ b o, h.get? b = some o → h'.get? b = some o
theorem Kh.ne {h h' : Heap} {x : Addr} (k : ∀ b o, b ≠ x → h.get? b = some o → h'.get? b = some o) {h0 : Heap} (n : h0.get? x = none) (k0 : Kh h0 h) : Kh h0 h' := fun b o e =>
  k b o (fun q => by rw [q, n] at e; cases e) (k0 b o e)
section
variable {prog : Program} {w : World} {A : Around} {R : Result → Shared → Prop} {h0 : Heap} {I l S : Addr} {its : Array Value}
theorem min_turns (bt : Nat → Nat → Bool) (hh : A.handled = none) (hlI : l ≠ I) (hSI : S ≠ I) (hSl : S ≠ l) (nI : h0.get? I = none) (nS : h0.get? S = none)
    (hcmp : ∀ i j u v (s : Shared) (Q : Value → Shared → Prop) (E : Value → Shared → Prop), its[i]? = some u → its[j]? = some v → Kh h0 s.heap → Q (.bool (bt i j)) s → wpAny (model prog w) A.in1 (richCompare .Lt u v) Q E s) :
    ∀ (k j : Nat) (s : Shared) (vb : Value) (c : Nat), its.size - (j + 1) = k → j + 1 ≤ its.size → (s.heap.IsListIter I l (j + 1) ∧ s.heap.IsList l its) → Kh h0 s.heap → its[argBest bt j]? = some vb →
    s.heap.get? S = some { cls := .type "list", dict := none, data := .seq #[vb, vb] c, slots := #[] } →
    (∀ v h' tk, its[argBest bt (its.size - 1)]? = some v → Kh h0 h' → R (.ok (.ret v)) { s with heap := h', toks := tk }) →
    codeAny (model prog w) A (.builtin "min.loop" ⟨[.ref I, .none, .ref S], []⟩) R s := by
  have nm : (toString "min" ++ toString ".loop" : String) = "min.loop" := by decide
  have W := Walks.list (prog := prog) (w := w) (A := A.in1) hh I l hlI its
  have hSf : S ∉ [I, l] := by simp [hSI, hSl]
  have hSw : S ∉ [I] := by simp [hSI]
  have nw : ∀ {b : Addr}, b ≠ I → b ∉ [I] := fun h => by simpa using h
  intro k
  induction k with
  | zero =>
    intro j s vb c e1 e2 st kh hb hS fin
    have e3 : j + 1 = its.size := by omega
    refine codeAny_builtin PySem.F.entry_min_loop ?_
    rw [Around.under_plainId PySem.F.plain_min_loop _]
    show wpAny _ A.in1 (seqItems? (.ref S) >>= _) _ _ s
    refine wpAny_bind (wpAny_seqItems hS rfl ?_)
    show wpAny _ A.in1 (tryCatch (pyNext (.ref I)) _ >>= _) _ _ s
    refine wpAny_bind (wpAny_tryCatch (W.done s _ _ (e3 ▸ st) fun h1 t1 k1 => ?_))
    have hS1 := k1 S _ hSw hS
    show wpAny _ A.in1 (updateSeq S (fun _ => #[]) >>= _) _ _ _
    refine wpAny_bind ?_
    refine wpAny_updateSeq hS1 rfl (wpAny_bind (wpAny_letGo (wpAny_pure ?_)))
    have a1 : Kh h0 h1 := Kh.ne (fun b o q e => k1 b o (nw q) e) nI kh
    exact fin vb _ t1 (by rw [← e3]; exact hb) (Kh.ne (fun b o q e => (Heap.get?_update_other _ _ (Ne.symm q)).trans e) nS a1)
  | succ k ih =>
    intro j s vb c e1 e2 st kh hb hS fin
    have e3 : j + 1 < its.size := by omega
    refine codeAny_builtin PySem.F.entry_min_loop ?_
    rw [Around.under_plainId PySem.F.plain_min_loop _]
    show wpAny _ A.in1 (seqItems? (.ref S) >>= _) _ _ s
    refine wpAny_bind (wpAny_seqItems hS rfl ?_)
    show wpAny _ A.in1 (tryCatch (pyNext (.ref I)) _ >>= _) _ _ s
    refine wpAny_bind (wpAny_tryCatch (W.item (j + 1) s _ _ e3 st fun v h1 t1 hP st1 k1 => ?_))
    have hS1 := k1 S _ hSw hS
    have a1 : Kh h0 h1 := Kh.ne (fun b o q e => k1 b o (nw q) e) nI kh
    show wpAny _ A.in1 (tryCatch (holding [v, v] (richCompare .Lt v vb >>= _)) _ >>= _) _ _ _
    refine wpAny_bind (wpAny_tryCatch (wpAny_holding (wpAny_bind (hcmp (j + 1) (argBest bt j) v vb { s with heap := h1, toks := t1 } _ _ hP hb a1 ?_))))
    refine wpAny_bind (wpAny_holding (wpAny_truthy_bool ?_))
    refine wpAny_bind (wpAny_letGo (wpAny_pure ?_))
    cases hq : bt (j + 1) (argBest bt j) with
    | true =>
      simp only [if_true]
      refine wpAny_bind ?_
      refine wpAny_updateSeq hS1 rfl (wpAny_bind (wpAny_letGo ?_))
      rw [nm]
      refine wpAny_pure ⟨plainId_quiet PySem.F.plain_min_loop _, ih (j + 1) _ v _ (by omega) e3 (W.frame _ _ _ st1 fun b hbf o e => ?_) (Kh.ne (fun b o q e => (Heap.get?_update_other _ _ (Ne.symm q)).trans e) nS a1) (by simp only [argBest, hq, if_true]; exact hP) (Heap.get?_update_self _ hS1 rfl) fun v' h2 t2 hP' k2 => fin v' h2 t2 hP' k2⟩
      exact (Heap.get?_update_other _ _ (fun h : S = b => hSf (by rw [h]; exact hbf))).trans e
    | false =>
      simp only [Bool.false_eq_true, if_false]
      refine wpAny_bind (wpAny_letGo ?_)
      rw [nm]
      exact wpAny_pure ⟨plainId_quiet PySem.F.plain_min_loop _, ih (j + 1) _ vb c (by omega) e3 st1 a1 (by simp only [argBest, hq, Bool.false_eq_true, if_false]; exact hb) hS1 fun v' h2 t2 hP' k2 => fin v' h2 t2 hP' k2⟩
end
section
variable {prog : Program} {w : World} {A : Around} {E : Value → Shared → Prop} {s : Shared} {l : Addr} {its : Array Value}
theorem min_by {Q : Value → Shared → Prop} (bt : Nat → Nat → Bool) (hh : A.handled = none) (hl : s.heap.IsList l its) (hne : 0 < its.size)
    (hcmp : ∀ i j u v (s' : Shared) (Q : Value → Shared → Prop) (E : Value → Shared → Prop), its[i]? = some u → its[j]? = some v → Kh s.heap s'.heap → Q (.bool (bt i j)) s' → wpAny (model prog w) A.in1 (richCompare .Lt u v) Q E s')
    (fin : ∀ v h' tk, its[argBest bt (its.size - 1)]? = some v → Kh s.heap h' → Q v { s with heap := h', toks := tk }) : wpAny (model prog w) A (call (.builtin "min") [.ref l]) Q E s := by
  have nm : (toString "min" ++ toString ".loop" : String) = "min.loop" := by decide
  have hll : l < s.heap.objs.size := by obtain ⟨_, e, _⟩ := hl; exact Heap.lt_size e
  refine call_function_tree PySem.F.kind_min PySem.F.plain_min PySem.F.entry_min (PySem.F.args_min1 _) ?_
  show wpAny _ A.in1 (Builtin.Builtins.bindParams "min" ["key", "default"] 0 ⟨[], []⟩ >>= _) _ _ s
  refine wpAny_bind (wpAny_of_eq (show Builtin.Builtins.bindParams "min" ["key", "default"] 0 ⟨[], []⟩ = pure [none, none] from rfl) ?_)
  refine wpAny_bind (wpAny_pure ?_)
  refine wpAny_bind (wpAny_pyIter_list hl ?_)
  refine wpAny_bind (wpAny_newObj_type ?_)
  rw [nm]
  refine wpAny_pure ⟨plainId_quiet PySem.F.plain_min_loop _, ?_⟩
  -- the first turn
  have z1 : (s.heap.push { cls := .type "list_iterator", data := .fields #[.ref l, .int 0 0] }).objs.size = s.heap.objs.size + 1 := Heap.size_push ..
  have hlI : l ≠ s.heap.objs.size := Nat.ne_of_lt hll
  have W := Walks.list (prog := prog) (w := w) (A := A.in1) hh s.heap.objs.size l hlI its
  have hSI : (s.heap.push { cls := .type "list_iterator", data := .fields #[.ref l, .int 0 0] }).objs.size ≠ s.heap.objs.size := by rw [z1]; exact Nat.succ_ne_self _
  have hSl : (s.heap.push { cls := .type "list_iterator", data := .fields #[.ref l, .int 0 0] }).objs.size ≠ l := by rw [z1]; exact Nat.ne_of_gt (Nat.lt_succ_of_lt hll)
  have nI : s.heap.get? s.heap.objs.size = none := by
    cases q : s.heap.get? s.heap.objs.size with
    | none => rfl
    | some o => exact absurd (Heap.lt_size q) (Nat.lt_irrefl _)
  have nS : s.heap.get? (s.heap.push { cls := .type "list_iterator", data := .fields #[.ref l, .int 0 0] }).objs.size = none := by
    cases q : s.heap.get? (s.heap.push { cls := .type "list_iterator", data := .fields #[.ref l, .int 0 0] }).objs.size with
    | none => rfl
    | some o =>
      have := Heap.lt_size q
      rw [z1] at this
      exact absurd this (Nat.not_lt.mpr (Nat.le_succ _))
  refine codeAny_builtin PySem.F.entry_min_loop ?_
  rw [Around.under_plainId PySem.F.plain_min_loop _]
  show wpAny _ A.in1 (seqItems? (.ref _) >>= _) _ _ _
  refine wpAny_bind (wpAny_seqItems (Heap.get?_push_size _ rfl) rfl ?_)
  show wpAny _ A.in1 (tryCatch (pyNext (.ref s.heap.objs.size)) _ >>= _) _ _ _
  refine wpAny_bind (wpAny_tryCatch (W.item 0 _ _ _ hne ⟨⟨_, Heap.get?_push_of_some _ (Heap.get?_push_size _ rfl), rfl, rfl⟩, (hl.push _).push _⟩ fun v h1 t1 hP st1 k1 => ?_))
  have hS1 := k1 _ _ (by simpa using hSI) (Heap.get?_push_size _ rfl)
  have a1 : Kh s.heap h1 := fun b o e => k1 b o (by
    rw [List.mem_singleton]
    exact Nat.ne_of_lt (Heap.lt_size e)) (Heap.get?_push_of_some _ (Heap.get?_push_of_some _ e))
  show wpAny _ A.in1 (updateSeq _ (fun _ => #[v, v]) >>= _) _ _ _
  refine wpAny_bind ?_
  refine wpAny_updateSeq hS1 rfl ?_
  rw [nm]
  refine wpAny_pure ⟨plainId_quiet PySem.F.plain_min_loop _, min_turns bt hh hlI hSI hSl nI nS hcmp _ 0 _ v _ rfl hne (W.frame _ _ _ st1 fun b hbf o e => ?_) (Kh.ne (fun b o q e => (Heap.get?_update_other _ _ (Ne.symm q)).trans e) nS a1) hP (Heap.get?_update_self _ hS1 rfl) fun v' h2 t2 hP' k2 => fin v' h2 t2 hP' k2⟩
  exact (Heap.get?_update_other _ _ (fun h => by
    rcases List.mem_cons.mp hbf with q | q
    · exact hSI (h.trans q)
    · exact hSl (h.trans (List.mem_singleton.mp q)))).trans e
end
end CN
end
section
set_option maxRecDepth 100000
namespace CN
open PySem PyProof.Rows
section
variable {prog : Program} {w : World} {A : Around} {R : Result → Shared → Prop} {h0 : Heap} {I l : Addr} {its : Array Value}
theorem all_turns (tr : Nat → Bool) (hh : A.handled = none) (hlI : l ≠ I) (nI : h0.get? I = none)
    (htr : ∀ i u (s : Shared) (Q : Bool → Shared → Prop) (E : Value → Shared → Prop), its[i]? = some u → Kh h0 s.heap → (∀ t, Q (tr i) { s with toks := t }) → wpAny (model prog w) A.in1 (truthy u) Q E s) :
    ∀ (k i : Nat) (s : Shared), its.size - i = k → i ≤ its.size → (s.heap.IsListIter I l i ∧ s.heap.IsList l its) → Kh h0 s.heap →
    (∀ h' tk, Kh h0 h' → R (.ok (.ret (.bool (((List.range its.size).drop i).all tr)))) { s with heap := h', toks := tk }) →
    codeAny (model prog w) A (.builtin "all.loop" ⟨[.ref I], []⟩) R s := by
  have W := Walks.list (prog := prog) (w := w) (A := A.in1) hh I l hlI its
  have nw : ∀ {b : Addr}, b ≠ I → b ∉ [I] := fun h => by simpa using h
  intro k
  induction k with
  | zero =>
    intro i s e1 e2 st kh fin
    have e3 : i = its.size := by omega
    subst e3
    refine codeAny_builtin PySem.F.entry_all_loop ?_
    rw [Around.under_plainId PySem.F.plain_all_loop _]
    show wpAny _ A.in1 (pyNext (.ref I) >>= _) _ _ s
    refine wpAny_bind (W.done s _ _ st fun h1 t1 k1 => ?_)
    refine wpAny_bind (wpAny_rule (wpAny_pure ?_))
    have z := fin h1 t1 (Kh.ne (fun b o q e => k1 b o (nw q) e) nI kh)
    rw [List.drop_of_length_le (by simp)] at z
    exact z
  | succ k ih =>
    intro i s e1 e2 st kh fin
    have e3 : i < its.size := by omega
    have hd : (List.range its.size).drop i = i :: (List.range its.size).drop (i + 1) := by
      rw [List.drop_eq_getElem_cons (by simpa using e3)]
      simp
    refine codeAny_builtin PySem.F.entry_all_loop ?_
    rw [Around.under_plainId PySem.F.plain_all_loop _]
    show wpAny _ A.in1 (pyNext (.ref I) >>= _) _ _ s
    refine wpAny_bind (W.item i s _ _ e3 st fun v h1 t1 hP st1 k1 => ?_)
    have a1 : Kh h0 h1 := Kh.ne (fun b o q e => k1 b o (nw q) e) nI kh
    refine wpAny_bind (wpAny_holding (htr i v { s with heap := h1, toks := t1 } _ _ hP a1 fun t => ?_))
    refine wpAny_bind (wpAny_letGo ?_)
    cases hb : tr i with
    | true =>
      simp only [if_true]
      refine wpAny_pure ⟨plainId_quiet PySem.F.plain_all_loop _, ih (i + 1) _ (by omega) e3 st1 a1 fun h2 t2 k2 => ?_⟩
      have z := fin h2 t2 k2
      rw [hd, List.all_cons, hb, Bool.true_and] at z
      exact z
    | false =>
      simp only [Bool.false_eq_true, if_false]
      refine wpAny_bind (wpAny_rule (wpAny_pure ?_))
      have z := fin h1 t a1
      rw [hd, List.all_cons, hb, Bool.false_and] at z
      exact z
end
section
variable {prog : Program} {w : World} {A : Around} {E : Value → Shared → Prop} {s : Shared} {l : Addr} {its : Array Value}
theorem all_by {Q : Value → Shared → Prop} (tr : Nat → Bool) (hh : A.handled = none) (hl : s.heap.IsList l its)
    (htr : ∀ i u (s' : Shared) (Q : Bool → Shared → Prop) (E : Value → Shared → Prop), its[i]? = some u → Kh s.heap s'.heap → (∀ t, Q (tr i) { s' with toks := t }) → wpAny (model prog w) A.in1 (truthy u) Q E s')
    (fin : ∀ h' tk, Kh s.heap h' → Q (.bool ((List.range its.size).all tr)) { s with heap := h', toks := tk }) : wpAny (model prog w) A (call (.builtin "all") [.ref l]) Q E s := by
  have hll : l < s.heap.objs.size := by obtain ⟨_, e, _⟩ := hl; exact Heap.lt_size e
  have nI : s.heap.get? s.heap.objs.size = none := by
    cases q : s.heap.get? s.heap.objs.size with
    | none => rfl
    | some o => exact absurd (Heap.lt_size q) (Nat.lt_irrefl _)
  refine call_function_tree PySem.F.kind_all PySem.F.plain_all PySem.F.entry_all (PySem.F.args_all1 _) ?_
  unfold Builtin.«all»
  refine wpAny_bind (m := oneArg "all" _) (wpAny_pure ?_)
  refine wpAny_bind (wpAny_pyIter_list hl ?_)
  exact wpAny_pure ⟨plainId_quiet PySem.F.plain_all_loop _, all_turns tr hh (Nat.ne_of_lt hll) nI htr its.size 0 _ rfl (Nat.zero_le _) ⟨⟨_, Heap.get?_push_size _ rfl, rfl, rfl⟩, hl.push _⟩ (fun b o e => Heap.get?_push_of_some _ e) fun h1 t1 k1 => by
    have z := fin h1 t1 k1
    simpa using z⟩
end
def LtF (A : Around) (s : Shared) (u v : Value) (r : Bool) : Prop :=
  ∀ (prog : Program) (w : World) (E : Value → Shared → Prop) (Q : Value → Shared → Prop), Q (.bool r) s → wpAny (model prog w) A (richCompare .Lt u v) Q E s
inductive LexF (A : Around) (s : Shared) : List Value → List Value → Bool → Prop
  | nil : LexF A s [] [] false
  | eq {u v : Value} {us vs : List Value} {r : Bool} : SeqAt.EqAt A s u v true → LexF A s us vs r → LexF A s (u :: us) (v :: vs) r
  | ne {u v : Value} {us vs : List Value} {r : Bool} : SeqAt.EqAt A s u v false → LtF A s u v r → us.length = vs.length → LexF A s (u :: us) (v :: vs) r
theorem LexF.len {A : Around} {s : Shared} : ∀ {us vs : List Value} {r : Bool}, LexF A s us vs r → us.length = vs.length
  | _, _, _, .nil => rfl
  | _, _, _, .eq _ t => by rw [List.length_cons, List.length_cons, t.len]
  | _, _, _, .ne _ _ h => by rw [List.length_cons, List.length_cons, h]
section
open PySem.SeqAt
open PySem.AutoSeq1 (wpAny_loadPart')
open PySem.MeetsSeq PySem.MeetsSeq2 PySem.MeetsSeq3
theorem tup_lt_by (l b : Addr) (us vs : Array Value) (n n2 : Nat) (dd dd2 : Option Addr) (sl sl2 : Array (Option Value)) (r : Bool) :
    Meets (Builtin.«tuple.__lt__» ⟨[.ref l, .ref b], []⟩)
      (fun A R s => s.heap.get? l = some { cls := .type "tuple", dict := dd, data := .seq us n, slots := sl } ∧ s.heap.get? b = some { cls := .type "tuple", dict := dd2, data := .seq vs n2, slots := sl2 } ∧
        LexF A.in1 s us.toList vs.toList r ∧ R (.ok (.ret (.bool r))) s) :=
  .of_wp fun prog w A R s h => by
    obtain ⟨hp, g, d, tk, os⟩ := s; obtain ⟨hl, hb, hx, h⟩ := h
    have f2 := AutoSeq1.sub_tuple_tuple
    have z1 : us.size = vs.size := by simpa using hx.len
    wp_walk using wpAny_loadPart' hl, wpAny_loadPart' hb, wpAny_forIn_list _ (fun rest b s' => b.1 = none ∧ s' = ⟨hp, g, d, tk, os⟩ ∧ ∃ (xs ys : List Value), rest = xs.zip ys ∧ LexF A.in1 ⟨hp, g, d, tk, os⟩ xs ys r) _
    case turn =>
      rintro ⟨y, x⟩ rest b s' ⟨hb', rfl, xs, ys, hz, hx'⟩
      cases hx' with
      | nil => rw [List.zip_nil_left] at hz; cases hz
      | eq he ht =>
        rw [List.zip_cons_cons] at hz
        injection hz with hyx hrest
        injection hyx with hy hx2
        subst hy hx2
        refine wpAny_bind (he prog w _ _ ?_)
        wp_walk
        exact ⟨rfl, rfl, _, _, hrest, ht⟩
      | ne he hlt hlen =>
        rw [List.zip_cons_cons] at hz
        injection hz with hyx hrest
        injection hyx with hy hx2
        subst hy hx2
        refine wpAny_bind (he prog w _ _ ?_)
        have hri := hlt prog w
        wp_walk using hri
        exact ⟨_, rfl, by simpa using h⟩
    case fin =>
      rintro ⟨b1, b2⟩ s' ⟨hb', rfl, xs, ys, hz, hx'⟩
      simp only at hb'
      subst hb'
      have hv : r = decide (us.size < vs.size) := by
        cases hx' with
        | nil => exact (decide_eq_false (by omega)).symm
        | eq => rw [List.zip_cons_cons] at hz; cases hz
        | ne => rw [List.zip_cons_cons] at hz; cases hz
      wp_walk
      refine ⟨_, rfl, ?_⟩
      rw [hv] at h
      simpa [Builtin.Tuple.tupleCompareSizes] using h
    case h =>
      exact ⟨rfl, rfl, us.toList, vs.toList, rfl, hx⟩
end
section
variable {prog : Program} {w : World} {A : Around} {E : Value → Shared → Prop} {s : Shared}
theorem lt_tup_by {l b : Addr} {us vs : Array Value} {r : Bool} {Q : Value → Shared → Prop} (hl : IsTup s.heap l us) (hb : IsTup s.heap b vs) (hx : LexF A.in1 s us.toList vs.toList r)
    (hu : A.units < cLine) (h : Q (.bool r) s) : wpAny (model prog w) A (richCompare .Lt (.ref l) (.ref b)) Q E s := by
  obtain ⟨⟨cls, dd, data, sl⟩, ho, hc, n, hd⟩ := id hl
  obtain ⟨⟨cls2, dd2, data2, sl2⟩, ho2, hc2, n2, hd2⟩ := id hb
  simp only at hc hd hc2 hd2
  subst hc hd hc2 hd2
  exact richCompare_meets_room (op := .Lt) ⟨_, ho, rfl⟩ ⟨_, ho2, rfl⟩ PySem.F.slot_tuple_lt PySem.F.entry_tuple_lt (PySem.F.args_tuple_lt_2 _ _) (tup_lt_by l b us vs n n2 dd dd2 sl sl2 r)
    ⟨ho, ho2, hx, show Value.bool r ≠ Value.notImplemented ∧ Q (.bool r) s from ⟨(fun x => nomatch x), h⟩⟩ hu
end
end CN
end
section
set_option maxRecDepth 100000
namespace CN
open PySem PyProof.Rows
theorem lri_no_len : typeLookup (.type "list_reverseiterator") "__len__" = pure none := by rw [typeLookup_type, builtinLookup_eq_fast]; kernel_rfl
theorem lri_hint : typeLookup (.type "list_reverseiterator") "__length_hint__" = pure (some (.builtin "list_reverseiterator.__length_hint__")) := by rw [typeLookup_type, builtinLookup_eq_fast]; kernel_rfl
section
variable {prog : Program} {w : World} {A : Around} {E : Value → Shared → Prop} {s : Shared} {r : Addr} {Q : Bool → Shared → Prop}
theorem hint_rev (hT : s.TypeIs (.ref r) "list_reverseiterator") (h : Q false s) : wpAny (model prog w) A (Builtin.List.listLengthHint (.ref r)) Q E s := by
  unfold Builtin.List.listLengthHint
  refine wpAny_bind (wpAny_specialOf hT lri_no_len ?_)
  show wpAny _ A (specialOf (Value.ref r) (Str.ofString "__length_hint__") >>= _) _ _ _
  refine wpAny_bind (wpAny_specialOf hT lri_hint ?_)
  generalize hid : ("list_reverseiterator.__length_hint__" : String) = id0
  wp_delta
  rw [show splitId id0 = some ("list_reverseiterator", "__length_hint__") from by subst hid; decide +kernel]
  subst hid
  refine wpAny_bind (wpAny_isInstance (T := "list_reverseiterator") (b := true) hT (by rw [isSubtype_type]; kernel_rfl) ?_)
  refine wpAny_ite_split (fun hab => absurd hab (by decide)) (fun _ => ?_)
  refine wpAny_ite_split (fun _ => ?_) (fun hab => absurd (by decide +kernel) hab)
  refine wpAny_ite_split (fun hab => absurd hab (by decide)) (fun _ => ?_)
  exact wpAny_pure h
end
section
variable {prog : Program} {w : World} {A : Around} {E : Value → Shared → Prop} {s : Shared} {l I : Addr} {its : Array Value}
theorem list_rev {Q : Value → Shared → Prop} (hh : A.handled = none) (hl : s.heap.IsList l its) (hI : s.heap.IsRevIter I l ((its.size : Int) - 1)) (hne : l ≠ I) (hn : its.size ≤ sizeLine)
    (fin : ∀ h' tk acc c, (∀ b o, b ≠ I → s.heap.get? b = some o → h'.get? b = some o) → h'.get? s.heap.objs.size = some { cls := .type "list", dict := none, data := .seq acc c, slots := #[] } →
      ItemsOf (fun i v => its[its.size - 1 - i]? = some v) acc its.size → Q (.ref s.heap.objs.size) { s with heap := h', toks := tk }) :
    wpAny (model prog w) A (call (.type "list") [.ref I]) Q E s := by
  have hll : l < s.heap.objs.size := by obtain ⟨_, e, _⟩ := hl; exact Heap.lt_size e
  have hIl : I < s.heap.objs.size := by obtain ⟨_, e, _⟩ := hI; exact Heap.lt_size e
  refine callType_codes (Q₁ := fun obj s1 => obj = .ref s.heap.objs.size ∧ s1 = { s with heap := s.heap.push { cls := .type "list", data := .seq #[] } }) PySem.F.called_list (PySem.F.typeCall_list_1 _) PySem.F.entry_list_init
    (code_list_new _ ⟨rfl, rfl⟩) fun obj s1 h1 => ?_
  obtain ⟨rfl, rfl⟩ := h1
  have hS : (s.heap.push { cls := .type "list", data := .seq #[] }).get? s.heap.objs.size = some { cls := .type "list", data := .seq #[] } := Heap.get?_push_size _ rfl
  have hSI : s.heap.objs.size ≠ I := Nat.ne_of_gt hIl
  have hSl : s.heap.objs.size ≠ l := Nat.ne_of_gt hll
  have hSf : s.heap.objs.size ∉ [I, l] := by simp [hSI, hSl]
  refine ⟨⟨_, hS, rfl⟩, PySem.F.args_list_init_2 _ _, ?_⟩
  show wpAny _ _ (do let old ← Builtin.List.listItems (.ref s.heap.objs.size); Builtin.List.listUpdate (.ref s.heap.objs.size) (fun _ => #[]); letGo old.toList.reverse; Builtin.List.listExtendWith (.ref s.heap.objs.size) (.ref I) .none) _ _ _
  refine wpAny_bind ?_
  unfold Builtin.List.listItems
  refine wpAny_bind (wpAny_seqItems hS rfl (wpAny_pure ?_))
  show wpAny _ _ (updateSeq s.heap.objs.size (fun _ => #[]) >>= fun _ => letGo (#[] : Array Value).toList.reverse >>= fun _ => Builtin.List.listExtendWith (.ref s.heap.objs.size) (.ref I) .none) _ _ _
  refine wpAny_bind (wpAny_updateSeq hS rfl ?_)
  have hS2 := Heap.get?_update_self (Obj.mapSeq (fun _ => (#[] : Array Value))) hS rfl
  have oth : ∀ b o, b ≠ s.heap.objs.size → s.heap.get? b = some o → ((s.heap.push { cls := .type "list", data := .seq #[] }).update s.heap.objs.size (Obj.mapSeq (fun _ => (#[] : Array Value)))).get? b = some o :=
    fun b o hb e => (Heap.get?_update_other _ _ (Ne.symm hb)).trans (Heap.get?_push_of_some _ e)
  refine wpAny_bind (wpAny_letGo ?_)
  have W := (Walks.listRev (prog := prog) (w := w) (A := A.in1.in1) hh I l hne its)
  have hI2 : ((s.heap.push { cls := .type "list", data := .seq #[] }).update s.heap.objs.size (Obj.mapSeq (fun _ => (#[] : Array Value)))).IsRevIter I l ((its.size : Int) - 1) := hI.at fun o e => oth I o (Ne.symm hSI) e
  have hl2 : ((s.heap.push { cls := .type "list", data := .seq #[] }).update s.heap.objs.size (Obj.mapSeq (fun _ => (#[] : Array Value)))).IsList l its := hl.at fun o e => oth l o (Ne.symm hSl) e
  unfold Builtin.List.listExtendWith
  refine wpAny_bind (wpAny_typeOf hI2.typeIs ?_)
  have c1 : Builtin.List.listSameRef (.ref s.heap.objs.size) (.ref I) = false := by simp [Builtin.List.listSameRef, hSI]
  have c2 : (Value.type "list_reverseiterator" == Value.type "list") = false := by decide
  have c3 : (Value.type "list_reverseiterator" == Value.type "tuple") = false := by decide
  simp only [c1, c2, c3, Bool.or_false, Bool.false_eq_true, if_false]
  refine wpAny_bind (wpAny_pyIter_revIter hI2 ?_)
  refine wpAny_bind (wpAny_holding (hint_rev hI2.typeIs ?_))
  refine wpAny_ite_split (fun hab => absurd hab (by decide)) (fun _ => ?_)
  refine wpAny_pure ⟨plainId_quiet PySem.F.plain_extend_loop _, codeAny_extend_loopS W.toS hn _ hSf _ its.size 0 _ _ _ rfl (Nat.zero_le _) ⟨Nat.zero_le _, by simpa using hI2, hl2⟩ hS2 (ItemsOf.nil _) fun s' acc c hm hS' hacc => ?_⟩
  rw [Moved.eq_with hm]
  refine ⟨rfl, fin s'.heap s'.toks acc c (fun b o hb e => hm.heap b o (fun hmem => ?_) (oth b o (Nat.ne_of_lt (Heap.lt_size e)) e)) hS' hacc⟩
  rcases List.mem_cons.mp hmem with q | q
  · exact absurd (q ▸ Heap.lt_size e) (Nat.lt_irrefl _)
  · exact hb (List.mem_singleton.mp q)
end
end CN
end
section
set_option maxRecDepth 100000
namespace CN
open PySem PySem.Spec PyProof.Rows L2
theorem boot_all : bootBuiltins "all" = some (.builtin "all") := by decide +kernel
theorem boot_abs : bootBuiltins "abs" = some (.builtin "abs") := by decide +kernel
theorem boot_sum : bootBuiltins "sum" = some (.builtin "sum") := by decide +kernel
theorem boot_min : bootBuiltins "min" = some (.builtin "min") := by decide +kernel
theorem boot_max : bootBuiltins "max" = some (.builtin "max") := by decide +kernel
theorem boot_sorted : bootBuiltins "sorted" = some (.builtin "sorted") := by decide +kernel
theorem boot_set : bootBuiltins "set" = some (.type "set") := by decide +kernel
theorem boot_list : bootBuiltins "list" = some (.type "list") := by decide +kernel
theorem boot_reversed : bootBuiltins "reversed" = some (.type "reversed") := by decide +kernel
def dd (ns : List Int) : List Int := ns.foldl step_dedup []
theorem range_getD : ∀ ns : List Int, (List.range ns.length).map (fun i => ns.getD i 0) = ns
  | [] => rfl
  | n :: r => by
    rw [List.length_cons, List.range_succ_eq_map, List.map_cons, List.map_map]
    show n :: (List.range r.length).map (fun i => r.getD i 0) = n :: r
    rw [range_getD r]
theorem dd_step_nd {σ : List Int} {k : Int} (h : σ.Nodup) : (step_dedup σ k).Nodup := by
  unfold step_dedup
  split
  · exact h
  · rename_i q
    refine List.nodup_append.mpr ⟨h, by simp, fun a ha b hb e => ?_⟩
    rw [List.mem_singleton.mp hb] at e
    subst e
    exact q (List.any_eq_true.mpr ⟨a, ha, by simp⟩)
theorem dd_len : ∀ (ns σ : List Int), (σ ++ ns).Nodup → ns.foldl step_dedup σ = σ ++ ns
  | [], σ, _ => by simp
  | n :: r, σ, h => by
    have e : σ ++ n :: r = (σ ++ [n]) ++ r := by simp
    have hn : ¬ σ.any (· == n) = true := fun q => by
      obtain ⟨x, hx, he⟩ := List.any_eq_true.mp q
      have he : x = n := by simpa using he
      exact (List.nodup_append.mp h).2.2 x hx n List.mem_cons_self he
    rw [List.foldl_cons, show step_dedup σ n = σ ++ [n] from if_neg hn, dd_len r (σ ++ [n]) (e ▸ h), ← e]
theorem dd_le : ∀ (ns σ : List Int), (ns.foldl step_dedup σ).length ≤ σ.length + ns.length
  | [], σ => by simp
  | n :: r, σ => by
    rw [List.foldl_cons]
    refine Nat.le_trans (dd_le r _) ?_
    have : (step_dedup σ n).length ≤ σ.length + 1 := by
      unfold step_dedup
      split <;> simp
    rw [List.length_cons]
    omega
theorem dd_lt : ∀ (ns σ : List Int), σ.Nodup → ¬ (σ ++ ns).Nodup → (ns.foldl step_dedup σ).length < σ.length + ns.length
  | [], σ, h, q => absurd (by simpa using h) q
  | n :: r, σ, h, q => by
    have e : σ ++ n :: r = (σ ++ [n]) ++ r := by simp
    rw [List.foldl_cons, List.length_cons]
    by_cases hn : σ.any (· == n) = true
    · rw [show step_dedup σ n = σ from if_pos hn]
      have := dd_le r σ
      omega
    · have hs : step_dedup σ n = σ ++ [n] := if_neg hn
      have hd : (σ ++ [n]).Nodup := hs ▸ dd_step_nd h
      rw [hs]
      have := dd_lt r (σ ++ [n]) hd (e ▸ q)
      simp at this
      omega
theorem dd_nodup (ns : List Int) : (dd ns).length = ns.length ↔ ns.Nodup := by
  constructor
  · intro h
    by_cases q : ns.Nodup
    · exact q
    · have := dd_lt ns [] List.nodup_nil (by simpa using q)
      unfold dd at h
      simp at this
      omega
  · intro h
    unfold dd
    rw [dd_len ns [] (by simpa using h)]
    simp
section
variable {X : Cx}
theorem call_setI (hc : X.calm = true) : CallR X (.type "set") (fun xs H Q => ∃ (a : Addr) (ns : List Int), xs = [V.ref a] ∧ SqL X.K H a (ns.map V.int) ∧ ns.length ≤ 1000 ∧
    ∀ p, H p = none → Q (.ref p) (upd H p (.set (fun k => (dd ns).any (· == k)) (dd ns).length))) := by
  intro pins s σ H vs us Q I r h
  obtain ⟨a, ns, rfl, hs, hl, q⟩ := h
  obtain ⟨its, rv, hL, _⟩ := I.list hs
  rw [Vals.ref1 r]
  have hi := rv.ints
  have hn : its.length = ns.length := hi.length
  refine PySem.call_set_list (I.ok.hd hc) hL.isList (ns := ns) (by simpa using hi) (by rw [List.size_toArray, hn]; unfold scanBound; omega) fun h' tk hS hk => ?_
  have e : firstMet (fun i => ns.getD i 0) its.toArray.size = dd ns := by
    unfold firstMet dd
    rw [List.size_toArray, hn, range_getD]
  rw [e] at hS
  exact ⟨.ref _, _, I.laid (t' := tk) (fun b u z => hk b u (Heap.lt_size z) z) (Nat.le_refl _) (show ObjOk X.prog X.w _ h' _ (.set _ _) from hS), rfl, q _ (I.hok.fresh (Nat.le_refl _))⟩
theorem call_lenS : CallR X (.builtin "len") (fun xs H Q => ∃ (a : Addr) (S : Int → Bool) (n : Nat), xs = [V.ref a] ∧ H a = some (.set S n) ∧ Q (.int n) H) := by
  intro pins s σ H vs us Q I r h
  obtain ⟨a, S, n, rfl, hs, q⟩ := h
  rw [Vals.ref1 r]
  have ok : s.heap.SetOf (intKind X.prog X.w) a S n := I.hok a _ hs
  obtain ⟨o, es, ep, t, ho, hex, hd, _, _, hsz, hf, rfl⟩ := ok
  refine call_len_set ho hex hd hf ?_ ⟨.int es.size, H, I.tok _, ⟨_, rfl⟩, q⟩
  have : es.size < 4096 := hsz
  omega
theorem cr_allL (hc : X.calm = true) : CallR X (.builtin "all") (fun xs H Q => ∃ (a : Addr) (ps : List Addr) (bs : List Bool), xs = [V.ref a] ∧ SqL X.K H a (ps.map V.ref) ∧
    Paired (fun p b => ∃ ys, SqL X.K H p ys ∧ b = !ys.isEmpty) ps bs ∧ Q (.bl (bs.all id)) H) := by
  intro pins s σ H vs us Q I r h
  obtain ⟨a, ps, bs, rfl, hs, hp, q⟩ := h
  obtain ⟨its, rv, hL, hz⟩ := I.list hs
  rw [Vals.ref1 r]
  have hlen : its.length = bs.length := by
    have e1 := rv.length
    have e2 := Paired.length hp
    rw [List.length_map] at e1
    omega
  refine all_by (fun i => bs.getD i false) (I.ok.hd hc) hL.isList (fun i u s' Q' E' hu kh hq => ?_) fun h' tk kh => ?_
  · have hu' : its[i]? = some u := by simpa using hu
    have hil : i < its.length := (List.getElem?_eq_some_iff.mp hu').1
    have hpl : ps.length = bs.length := Paired.length hp
    have hb : bs[i]? = some (bs[i]'(by omega)) := List.getElem?_eq_getElem _
    have hpi : ps[i]? = some (ps[i]'(by omega)) := List.getElem?_eq_getElem _
    obtain ⟨b, hb', ys, hys, hbe⟩ := paired_get hp hpi
    obtain ⟨u2, hu2, ru⟩ := rv.get (i := i) (x := V.ref (ps[i]'(by omega))) (by rw [List.getElem?_map, hpi]; rfl)
    rw [hu'] at hu2
    have e3 : u = .ref (ps[i]'(by omega)) := (Option.some.inj hu2).trans ru
    subst e3
    obtain ⟨its2, rv2, hL2, hz2⟩ := I.list hys
    have hg : bs.getD i false = !its2.toArray.isEmpty := by
      rw [List.getD_eq_getElem?_getD, hb', isEmpty_of rv2]
      exact hbe
    refine wpAny_truthy_list (hL2.keeps kh).isList ?_ ?_
    · have e4 := rv2.length
      have := line63
      rw [List.size_toArray, ← e4]
      omega
    · rw [← hg]
      exact hq _
  · refine ⟨.bl _, H, I.kept (t' := tk) kh, ?_, q⟩
    show Value.bool _ = Value.bool _
    rw [← L2.all_range, List.size_toArray, hlen]
end
theorem lexLt_irr : ∀ a : List Int, HT.lexLt a a = false
  | [] => rfl
  | x :: r => by rw [HT.lexLt_cons, if_pos rfl, lexLt_irr r]
theorem lexLt_trans : ∀ a b c : List Int, HT.lexLt a b = true → HT.lexLt b c = true → HT.lexLt a c = true
  | [], [], _, h, _ => by cases h
  | [], _ :: _, [], _, h => by cases h
  | [], _ :: _, _ :: _, _, _ => rfl
  | _ :: _, [], _, h, _ => by cases h
  | _ :: _, _ :: _, [], _, h => by cases h
  | x :: a, y :: b, z :: c, h1, h2 => by
    rw [HT.lexLt_cons] at *
    by_cases e1 : x = y
    · rw [if_pos e1] at h1
      by_cases e2 : y = z
      · rw [if_pos e2] at h2
        rw [if_pos (e1.trans e2)]
        exact lexLt_trans a b c h1 h2
      · rw [if_neg e2] at h2
        rw [if_neg (by omega)]
        have := of_decide_eq_true h2
        exact decide_eq_true (by omega)
    · rw [if_neg e1] at h1
      have d1 := of_decide_eq_true h1
      by_cases e2 : y = z
      · rw [if_neg (by omega)]
        exact decide_eq_true (by omega)
      · rw [if_neg e2] at h2
        have d2 := of_decide_eq_true h2
        rw [if_neg (by omega)]
        exact decide_eq_true (by omega)
theorem lexLt_tot : ∀ a b : List Int, a.length = b.length → a ≠ b → HT.lexLt a b = true ∨ HT.lexLt b a = true
  | [], [], _, h => absurd rfl h
  | [], _ :: _, h, _ => by simp at h
  | _ :: _, [], h, _ => by simp at h
  | x :: a, y :: b, h, hn => by
    rw [HT.lexLt_cons, HT.lexLt_cons]
    by_cases e : x = y
    · subst e
      rw [if_pos rfl, if_pos rfl]
      exact lexLt_tot a b (by simpa using h) fun q => hn (by rw [q])
    · rw [if_neg e, if_neg (Ne.symm e)]
      rcases Int.lt_or_gt_of_ne e with q | q
      · exact .inl (decide_eq_true q)
      · exact .inr (decide_eq_true q)
structure Ch where
  ad : Addr
  t : Int
  ka : Addr
  na : Addr
  kn : List Int
  nn : List Int
def chLt (a b : Ch) : Bool := if a.t = b.t then (if a.kn = b.kn then HT.lexLt a.nn b.nn else HT.lexLt a.kn b.kn) else decide (a.t < b.t)
theorem chLt_irr (a : Ch) : chLt a a = false := by
  unfold chLt
  rw [if_pos rfl, if_pos rfl, lexLt_irr]
theorem chLt_trans {a b c : Ch} (h1 : chLt a b = true) (h2 : chLt b c = true) : chLt a c = true := by
  unfold chLt at *
  by_cases e1 : a.t = b.t
  · rw [if_pos e1] at h1
    by_cases e2 : b.t = c.t
    · rw [if_pos e2] at h2
      rw [if_pos (e1.trans e2)]
      by_cases f1 : a.kn = b.kn
      · rw [if_pos f1] at h1
        by_cases f2 : b.kn = c.kn
        · rw [if_pos f2] at h2
          rw [if_pos (f1.trans f2)]
          exact lexLt_trans _ _ _ h1 h2
        · rw [if_neg f2] at h2
          rw [if_neg (f1 ▸ f2), f1]
          exact h2
      · rw [if_neg f1] at h1
        by_cases f2 : b.kn = c.kn
        · rw [if_neg (f2 ▸ f1), ← f2]
          exact h1
        · rw [if_neg f2] at h2
          have h3 := lexLt_trans _ _ _ h1 h2
          rw [if_neg (fun q => by rw [q, lexLt_irr] at h3; cases h3)]
          exact h3
    · rw [if_neg e2] at h2
      rw [if_neg (e1 ▸ e2), e1]
      exact h2
  · rw [if_neg e1] at h1
    have d1 := of_decide_eq_true h1
    by_cases e2 : b.t = c.t
    · rw [if_neg (e2 ▸ e1), ← e2]
      exact h1
    · rw [if_neg e2] at h2
      have d2 := of_decide_eq_true h2
      rw [if_neg (by omega)]
      exact decide_eq_true (by omega)
theorem argBest_min {bt : Nat → Nat → Bool} (irr : ∀ i, bt i i = false) (tr : ∀ i j k, bt i j = true → bt j k = true → bt i k = true) : ∀ k i, i ≤ k → bt i (argBest bt k) = false
  | 0, i, h => by
    have e : i = 0 := by omega
    subst e
    exact irr 0
  | k + 1, i, h => by
    unfold argBest
    by_cases hb : bt (k + 1) (argBest bt k) = true
    · rw [if_pos hb]
      by_cases e : i = k + 1
      · rw [e]; exact irr _
      · have ih := argBest_min irr tr k i (by omega)
        cases q : bt i (k + 1) with
        | false => rfl
        | true => rw [tr _ _ _ q hb] at ih; cases ih
    · rw [if_neg hb]
      by_cases e : i = k + 1
      · rw [e]; simpa using hb
      · exact argBest_min irr tr k i (by omega)
section
variable {A : Around} {s : Shared}
theorem eqAt_tup {l b : Addr} {us vs : List Value} {ns ms : List Int} (hl : IsTup s.heap l us.toArray) (hb : IsTup s.heap b vs.toArray) (hi : IntsAre us ns) (hj : IntsAre vs ms) (hz : ns.length = ms.length) (hu : A.units < cLine) :
    SeqAt.EqAt A s (.ref l) (.ref b) (decide (ns = ms)) := by
  by_cases e : l = b
  · subst e
    obtain ⟨o, ho, _, n, hd⟩ := hl
    obtain ⟨o', ho', _, n', hd'⟩ := hb
    rw [ho] at ho'
    cases ho'
    rw [hd] at hd'
    have e2 : us.toArray = vs.toArray := by injection hd'
    have e3 : us = vs := by simpa using e2
    subst e3
    have e4 : ns = ms := by
      have : ∀ {us : List Value} {ns ms : List Int}, IntsAre us ns → IntsAre us ms → ns = ms := by
        intro us
        induction us with
        | nil => intro ns ms a b; cases a; cases b; rfl
        | cons u us ih =>
          intro ns ms a b
          cases a with
          | cons n t a' =>
            cases b with
            | cons m t' b' => rw [ih a' b']
      exact this hi hj
    rw [decide_eq_true e4]
    exact SeqAt.EqAt.same _
  · refine SeqAt.EqAt.of_refs e ?_
    have k := SeqAt.RcAt.tuples (A := A) (s := s) (e := fun j => ns.getD j 0 == ms.getD j 0) hl hb hu (fun j h1 h2 => by
      obtain ⟨t, e1⟩ := hi.int_at j us.toArray[j] (by simp at h1; simp [h1])
      obtain ⟨u, e2⟩ := hj.int_at j vs.toArray[j] (by simp at h2; simp [h2])
      rw [e1, e2]
      exact SeqAt.EqAt.int_int _ _ _ _)
    have e5 : ((List.range (min us.toArray.size vs.toArray.size)).all (fun j => ns.getD j 0 == ms.getD j 0) && us.toArray.size == vs.toArray.size) = decide (ns = ms) := by
      rw [List.size_toArray, List.size_toArray, hi.length, hj.length, hz, Nat.min_self]
      simp only [beq_self_eq_true, Bool.and_true]
      by_cases q : ns = ms
      · subst q
        rw [decide_eq_true rfl]
        exact List.all_eq_true.mpr fun j _ => by simp
      · rw [decide_eq_false q]
        cases w : (List.range ms.length).all (fun j => ns.getD j 0 == ms.getD j 0) with
        | false => rfl
        | true =>
          exfalso
          apply q
          have g1 := range_getD ns
          have g2 := range_getD ms
          rw [← g1, ← g2, hz]
          refine List.map_congr_left fun j hj => ?_
          have := List.all_eq_true.mp w j hj
          simpa using this
    rw [e5] at k
    exact k
end
section
variable {X : Cx}
def rMinT (K : PySem.W.Frag) : List V → Hp → VK → Prop := fun vs H Q => ∃ (a : Addr) (cs : List Ch), vs = [V.ref a] ∧ SqL K H a (cs.map fun c => V.ref c.ad) ∧ 0 < cs.length ∧
  (∀ c ∈ cs, H c.ad = some (.tup [.int c.t, .ref c.ka, .ref c.na]) ∧ H c.ka = some (.tup (c.kn.map V.int)) ∧ H c.na = some (.tup (c.nn.map V.int)) ∧ c.kn.length = 2 ∧ c.nn.length = 4) ∧
  ∀ c ∈ cs, (∀ c' ∈ cs, chLt c' c = false) → Q (.ref c.ad) H
theorem cr_minT {k : Nat} (hc : X.calm = true) (hr : Room (k + 3) X.A) : CallR X (.builtin "min") (rMinT X.K) := by
  intro pins s σ H vs us Q I r h
  obtain ⟨a, cs, rfl, hs, hne, hat, q⟩ := h
  obtain ⟨its, rv, hL, _⟩ := I.list hs
  rw [Vals.ref1 r]
  have hlen : its.length = cs.length := by
    have e1 := rv.length
    rw [List.length_map] at e1
    omega
  have item : ∀ (i : Nat) (u : Value), its.toArray[i]? = some u → ∃ c, cs[i]? = some c ∧ c ∈ cs ∧ u = .ref c.ad := fun i u hu => by
    have hu' : its[i]? = some u := by simpa using hu
    have hil : i < its.length := (List.getElem?_eq_some_iff.mp hu').1
    have hci : cs[i]? = some (cs[i]'(by omega)) := List.getElem?_eq_getElem _
    obtain ⟨u2, hu2, ru⟩ := rv.get (i := i) (x := V.ref (cs[i]'(by omega)).ad) (by rw [List.getElem?_map, hci]; rfl)
    rw [hu'] at hu2
    exact ⟨_, hci, List.mem_of_getElem? hci, (Option.some.inj hu2).trans ru⟩
  -- the index's choice
  let cAt : Nat → Ch := fun i => cs.getD i ⟨0, 0, 0, 0, [], []⟩
  have cAt_of : ∀ {i : Nat} {c : Ch}, cs[i]? = some c → cAt i = c := fun {i c} e => by
    show cs.getD i _ = c
    rw [List.getD_eq_getElem?_getD, e]
    rfl
  have hr2 : Room (k + 2) X.A.in1 := hr.in1
  have hr3 : Room (k + 1) X.A.in1.in1 := hr2.in1
  refine min_by (fun i j => chLt (cAt i) (cAt j)) (I.ok.hd hc) hL.isList (by rw [List.size_toArray, hlen]; exact hne) (fun i j u v s' Q' E' hu hv kh hq => ?_) fun v h' tk hv kh => ?_
  · obtain ⟨c, hc1, hc2, rfl⟩ := item i u hu
    obtain ⟨d, hd1, hd2, rfl⟩ := item j v hv
    rw [cAt_of hc1, cAt_of hd1] at hq
    obtain ⟨a1, a2, a3, a4, a5⟩ := hat c hc2
    obtain ⟨b1, b2, b3, b4, b5⟩ := hat d hd2
    obtain ⟨x1, r1, t1, _⟩ := I.tuple (SqT.of a1)
    obtain ⟨y1, w1, u1, _⟩ := I.tuple (SqT.of b1)
    obtain ⟨x2, r2, t2, _⟩ := I.tuple (SqT.of a2)
    obtain ⟨y2, w2, u2, _⟩ := I.tuple (SqT.of b2)
    obtain ⟨x3, r3, t3, _⟩ := I.tuple (SqT.of a3)
    obtain ⟨y3, w3, u3, _⟩ := I.tuple (SqT.of b3)
    refine lt_tup_by (t1.keeps kh) (u1.keeps kh) (r := chLt c d) ?_ hr2.units0 hq
    cases r1 with
    | cons p1 r1 =>
      cases r1 with
      | cons p2 r1 =>
        cases r1 with
        | cons p3 r1 =>
          cases r1
          cases w1 with
          | cons q1 w1 =>
            cases w1 with
            | cons q2 w1 =>
              cases w1 with
              | cons q3 w1 =>
                cases w1
                obtain ⟨k1, rfl⟩ := p1
                obtain ⟨k2, rfl⟩ := q1
                cases p2
                cases p3
                cases q2
                cases q3
                show LexF X.A.in1.in1 s' [.int c.t k1, .ref c.ka, .ref c.na] [.int d.t k2, .ref d.ka, .ref d.na] (chLt c d)
                unfold chLt
                by_cases e1 : c.t = d.t
                · rw [if_pos e1]
                  have he := SeqAt.EqAt.int_int (A := X.A.in1.in1) (s := s') c.t k1 d.t k2
                  rw [show (c.t == d.t) = true by simpa using e1] at he
                  refine .eq he ?_
                  have hk := eqAt_tup (A := X.A.in1.in1) (s := s') (t2.keeps kh) (u2.keeps kh) r2.ints w2.ints (a4.trans b4.symm) hr3.units0
                  by_cases e2 : c.kn = d.kn
                  · rw [if_pos e2]
                    rw [decide_eq_true e2] at hk
                    refine .eq hk ?_
                    have hn := eqAt_tup (A := X.A.in1.in1) (s := s') (t3.keeps kh) (u3.keeps kh) r3.ints w3.ints (a5.trans b5.symm) hr3.units0
                    by_cases e3 : c.nn = d.nn
                    · rw [decide_eq_true e3] at hn
                      rw [e3, lexLt_irr]
                      exact .eq hn .nil
                    · rw [decide_eq_false e3] at hn
                      exact .ne hn (fun prog w E Q h => HT.lt_tupInts (t3.keeps kh) (u3.keeps kh) (by simpa using r3.ints) (by simpa using w3.ints) hr3.units0 h) rfl
                  · rw [if_neg e2]
                    rw [decide_eq_false e2] at hk
                    exact .ne hk (fun prog w E Q h => HT.lt_tupInts (t2.keeps kh) (u2.keeps kh) (by simpa using r2.ints) (by simpa using w2.ints) hr3.units0 h) rfl
                · rw [if_neg e1]
                  have he := SeqAt.EqAt.int_int (A := X.A.in1.in1) (s := s') c.t k1 d.t k2
                  rw [show (c.t == d.t) = false by simpa using e1] at he
                  exact .ne he (fun prog w E Q h => HT.rcLt_int _ _ _ _ _ _ prog w E Q h) rfl
  · have hb := argBest_min (bt := fun i j => chLt (cAt i) (cAt j)) (fun i => chLt_irr _) (fun i j k h1 h2 => chLt_trans h1 h2) (its.toArray.size - 1)
    obtain ⟨c, hc1, hc2, rfl⟩ := item _ v hv
    refine ⟨.ref c.ad, H, I.kept (t' := tk) kh, rfl, q c hc2 fun c' hc' => ?_⟩
    obtain ⟨i, hi, e⟩ := List.getElem_of_mem hc'
    have hi' : cs[i]? = some c' := by rw [List.getElem?_eq_getElem hi, e]
    have z := hb i (by rw [List.size_toArray, hlen]; omega)
    rw [cAt_of hi', cAt_of hc1] at z
    exact z
end
end CN
end
section
set_option maxRecDepth 100000
namespace CN
open PySem PySem.Spec PyProof.Rows L2
section
variable {prog : Program} {w : World} {A : Around} {E : Value → Shared → Prop} {s : Shared}
theorem vals_view {d : Addr} {o : Obj} {es : Array DictEntry} {ep : Nat} (hd : (d == sysModules) = false) :
    MeetsIn prog w (Builtin.«dict.values» ⟨[.ref d], []⟩) (fun _ R s => (s.heap.get? d = some o ∧ o.ExactDict ∧ o.data = .dict es ep) ∧
      R (.ok (.ret (.ref s.heap.objs.size))) { s with heap := s.heap.push { cls := .type "dict_values", data := .fields #[.ref d] } }) :=
  .of_wp fun A R s ⟨⟨ho, hc, hdat⟩, h⟩ => by
    have hT : s.TypeIs (.ref d) "dict" := ⟨o, ho, hc.1⟩
    refine wpAny_bind ?_
    unfold Builtin.Dict.noArgs
    refine wpAny_bind (wpAny_notOrdered_dict hT ?_)
    show wpAny _ _ (pure d) _ _ s
    refine wpAny_pure ?_
    show wpAny _ _ (Builtin.Dict.showsAll d >>= _) _ _ s
    unfold Builtin.Dict.showsAll
    rw [if_neg (by rw [hd]; exact Bool.false_ne_true)]
    refine wpAny_bind (wpAny_pure ?_)
    exact wpAny_bind (wpAny_newObj_type (wpAny_pure ⟨_, rfl, h⟩))
theorem vals_iter {v d : Addr} {o : Obj} {es : Array DictEntry} {ep : Nat} {Q : Value → Shared → Prop} (hv : s.heap.IsValuesView v d) (ho : s.heap.get? d = some o) (hdat : o.data = .dict es ep)
    (hQ : Q (.ref s.heap.objs.size) { s with heap := s.heap.push { cls := .type "dict_valueiterator", data := .fields #[.ref d, .int 0 0, .int es.size 0, .int ep 0] } }) :
    wpAny (model prog w) A (pyIter (.ref v)) Q E s := by
  obtain ⟨ov, hov, hcv, hdv⟩ := id hv
  refine wpAny_pyIter_slot hv.typeIs PySem.F.slot_dict_values_iter (wpAny_call_entry PySem.F.slot_dict_values_iter hv.typeIs PySem.F.entry_dict_values_iter ?_ (PySem.F.args_dict_values_iter_1 _))
  unfold Builtin.«dict_values.__iter__»
  refine wpAny_bind (wpAny_pure ?_)
  refine wpAny_bind ?_
  unfold Builtin.Dict_items.dictOf
  refine wpAny_bind (wpAny_field hov hdv (x := .ref d) rfl (wpAny_pure ?_))
  refine wpAny_bind ?_
  unfold Builtin.Dict_items.newIterator
  refine wpAny_bind (wpAny_dictEntries ho hdat ?_)
  refine wpAny_bind (wpAny_dictEpoch ho hdat ?_)
  have hown : Builtin.Dict_items.ownsTuple "dict_valueiterator" = false := by decide
  simp only [hown, Bool.false_eq_true, if_false]
  refine wpAny_newObj_type (wpAny_pure ⟨_, rfl, "dict_valueiterator", _, ⟨_, Heap.get?_push_size _ rfl, rfl⟩, PySem.F.slot_dict_valueiterator_next.lookup, ?_⟩)
  simpa [rawInt] using hQ
theorem val_item {it d : Addr} {i n ep : Nat} {od : Obj} {es : Array DictEntry} {en : DictEntry} {Q : Option Value → Shared → Prop} (hit : s.heap.IsValIter it d i n ep) (hod : s.heap.get? d = some od) (hdd : od.data = .dict es ep)
    (hsz : es.size = n) (hx : es[i]? = some en) (hQ : ∀ h', h'.IsValIter it d (i + 1) n ep → Heap.SameBut it s.heap h' → Q (some en.val) { s with heap := h' }) : wpAny (model prog w) A (pyNext (.ref it)) Q E s := by
  obtain ⟨o, ho, hc, hd⟩ := id hit
  unfold pyNext
  refine wpAny_bind (wpAny_attempt (wpAny_callSpecial?_slot (name := Str.ofString "__next__") hit.typeIs PySem.F.slot_dict_valueiterator_next
    (wpAny_call_entry PySem.F.slot_dict_valueiterator_next hit.typeIs PySem.F.entry_dict_valueiterator_next ?_ (PySem.F.args_dict_valueiterator_next_1 _))))
  refine wpAny_bind (wpAny_pure ?_)
  refine wpAny_bind ?_
  refine wpAny_bind ?_
  first | refine wpAny_bind (wpAny_typeNameOfWhole_valiter hit.typeIs (wpAny_pure ?_)) | refine wpAny_bind (wpAny_typeNameOf_valiter hit.typeIs (wpAny_pure ?_))
  refine wpAny_bind (wpAny_fieldsOf ho hd ?_)
  have hown : Builtin.Dict_items.ownsTuple "dict_valueiterator" = false := by decide
  simp only [hown, Bool.false_eq_true, if_false]
  show wpAny _ _ (if (Value.ref d == Value.none) = true then _ else _) _ _ s
  rw [if_neg (show ¬ ((Value.ref d == Value.none) = true) from Bool.false_ne_true)]
  refine wpAny_bind (wpAny_pure ?_)
  refine wpAny_bind (wpAny_dictEntries hod hdd ?_)
  rw [if_neg (by rw [hsz]; simp)]
  refine wpAny_bind (wpAny_pure ?_)
  refine wpAny_bind (wpAny_dictEpoch hod hdd ?_)
  rw [if_neg (by simp)]
  refine wpAny_pure ?_
  obtain ⟨hlt', hen⟩ := Array.getElem?_eq_some_iff.mp hx
  simp only [show ¬ ((i : Int) < 0) from by omega, if_false, Int.toNat_natCast, Array.getElem?_eq_getElem hlt']
  refine wpAny_bind ?_
  first | refine wpAny_bind (wpAny_typeNameOfWhole_valiter hit.typeIs (wpAny_pure ?_)) | refine wpAny_bind (wpAny_typeNameOf_valiter hit.typeIs (wpAny_pure ?_))
  refine wpAny_bind (wpAny_isOneOf_valiter hit.typeIs ?_)
  show wpAny _ _ (setField (.ref it) 1 (rawInt ((i : Int) + 1)) >>= _) _ _ s
  refine wpAny_bind (wpAny_setField ho hd (by simp) ?_)
  have hit' : (s.heap.update it (Obj.mapFields (·.setIfInBounds 1 (rawInt ((i : Int) + 1))))).IsValIter it d (i + 1) n ep :=
    ⟨_, Heap.get?_update_self _ ho (Obj.isFreed_of_fields (Obj.data_mapFields hd _)), (Obj.cls_mapFields ..).trans hc, by rw [Obj.data_mapFields hd]; simp [rawInt]⟩
  refine wpAny_bind (wpAny_holding ?_)
  refine wpAny_bind (wpAny_isOneOf_valiter (s := { s with heap := s.heap.update it (Obj.mapFields (·.setIfInBounds 1 (rawInt ((i : Int) + 1)))) }) hit'.typeIs ?_)
  refine wpAny_bind (wpAny_isOneOf_valiter (s := { s with heap := s.heap.update it (Obj.mapFields (·.setIfInBounds 1 (rawInt ((i : Int) + 1)))) }) hit'.typeIs ?_)
  show wpAny _ _ (pure es[i].val) _ _ _
  rw [hen]
  exact wpAny_pure (wpAny_pure ⟨_, rfl, wpAny_pure (hQ _ hit' (Heap.SameBut.update ..))⟩)
theorem val_end {it d : Addr} {i n ep : Nat} {od : Obj} {es : Array DictEntry} {Q : Option Value → Shared → Prop} (hh : A.handled = none) (hit : s.heap.IsValIter it d i n ep) (hod : s.heap.get? d = some od) (hdd : od.data = .dict es ep)
    (hsz : es.size = n) (hge : n ≤ i) (hQ : ∀ h', Heap.ExtBut it s.heap h' → Q none { s with heap := h' }) : wpAny (model prog w) A (pyNext (.ref it)) Q E s := by
  obtain ⟨o, ho, hc, hd⟩ := id hit
  unfold pyNext
  refine wpAny_bind (wpAny_attempt (wpAny_callSpecial?_slot (name := Str.ofString "__next__") hit.typeIs PySem.F.slot_dict_valueiterator_next
    (wpAny_call_entry PySem.F.slot_dict_valueiterator_next hit.typeIs PySem.F.entry_dict_valueiterator_next ?_ (PySem.F.args_dict_valueiterator_next_1 _))))
  refine wpAny_bind (wpAny_pure ?_)
  refine wpAny_bind ?_
  refine wpAny_bind ?_
  first | refine wpAny_bind (wpAny_typeNameOfWhole_valiter hit.typeIs (wpAny_pure ?_)) | refine wpAny_bind (wpAny_typeNameOf_valiter hit.typeIs (wpAny_pure ?_))
  refine wpAny_bind (wpAny_fieldsOf ho hd ?_)
  have hown : Builtin.Dict_items.ownsTuple "dict_valueiterator" = false := by decide
  simp only [hown, Bool.false_eq_true, if_false]
  show wpAny _ _ (if (Value.ref d == Value.none) = true then _ else _) _ _ s
  rw [if_neg (show ¬ ((Value.ref d == Value.none) = true) from Bool.false_ne_true)]
  refine wpAny_bind (wpAny_pure ?_)
  refine wpAny_bind (wpAny_dictEntries hod hdd ?_)
  rw [if_neg (by rw [hsz]; simp)]
  refine wpAny_bind (wpAny_pure ?_)
  refine wpAny_bind (wpAny_dictEpoch hod hdd ?_)
  rw [if_neg (by simp)]
  refine wpAny_pure ?_
  have hge' : es.size ≤ i := by rw [hsz]; exact hge
  simp only [show ¬ ((i : Int) < 0) from by omega, if_false, Int.toNat_natCast, Array.getElem?_eq_none hge']
  refine wpAny_bind ?_
  first | refine wpAny_bind (wpAny_typeNameOfWhole_valiter hit.typeIs (wpAny_pure ?_)) | refine wpAny_bind (wpAny_typeNameOf_valiter hit.typeIs (wpAny_pure ?_))
  show wpAny _ _ (setField (.ref it) 0 .none >>= _) _ _ s
  refine wpAny_bind (wpAny_setField ho hd (by simp) ?_)
  show wpAny _ _ (newExc (.type "StopIteration") [] >>= _) _ _ _
  refine wpAny_bind ?_
  simp only [newExc, newTuple]
  refine wpAny_bind (wpAny_newObj_type ?_ (by size_fits))
  refine wpAny_bind (m := firstArgMember _ _) (wpAny_of_eq (a := Value.none) (by first | rfl | (simp only [firstArgMember]; rfl)) ?_)
  refine wpAny_newObj_type ?_ (by size_fits)
  simp only [raiseNew]
  refine wpAny_bind (wpAny_handled ?_)
  rw [show A.in1.handled = none from hh]
  refine wpAny_bind (wpAny_pure (wpAny_throw ?_))
  refine wpAny_bind (wpAny_isInstance (T := "StopIteration") (b := true) ⟨_, Heap.get?_push_size _ rfl, rfl⟩ isSubtype_stop ?_)
  exact wpAny_pure (hQ _ (((Heap.SameBut.update ..).extBut.push _).push _))
end
def ItdT (d : Addr) (o : Obj) (kvs : List (List Key × V)) : It :=
  ⟨fun i H => H d = some (.frz o (.dT kvs)) ∧ i < kvs.length, fun i H x H' => H' = H ∧ ∃ k, kvs[i]? = some (k, x), fun i H => H d = some (.frz o (.dT kvs)) ∧ kvs.length ≤ i⟩
theorem Inv.frzV {X : Cx} {pins : List (Addr × Obj)} {σ : L2.St} {H : Hp} {s : Shared} {d : Addr} {o : Obj} {kvs : List (List Key × V)} (I : Inv X pins σ H s) (h : H d = some (.frz o (.dT kvs))) :
    (d == sysModules) = false ∧ s.heap.get? d = some o ∧ o.ExactDict ∧ ∃ (es : Array DictEntry) (ep : Nat), o.data = .dict es ep ∧ es.size = kvs.length ∧
      ∀ (i : Nat) (k : List Key) (v : V), kvs[i]? = some (k, v) → ∃ (en : DictEntry), es[i]? = some en ∧ RelV v en.val := by
  obtain ⟨e0, hz, hs, xs, hp, o', es, ep, e1, hx, hd, hes, hnd⟩ := I.hok d _ h
  rw [e0] at e1
  cases e1
  have hl : kvs.length = xs.length := Paired.length hp
  refine ⟨hs, e0, hx, es, ep, hd, ?_, fun i k v hk => ?_⟩
  · have := congrArg List.length hes
    rw [Array.length_toList, List.length_map] at this
    omega
  · obtain ⟨q, hq, _, _, hv⟩ := paired_get hp hk
    refine ⟨entryOfKey (tupleKind (mixKind X.prog X.w)) q, ?_, hv⟩
    rw [← Array.getElem?_toList, hes, List.getElem?_map, hq]
    rfl
theorem turn_valsT {P : Program} {w : World} {K : PySem.W.Frag} {tg : Expr} {d : Addr} {o : Obj} {es : Array DictEntry} {ep : Nat} {kvs : List (List Key × V)} (it : Addr) (hod : o.data = .dict es ep) :
    Turn P w K tg (ItdT d o kvs) [it] it (fun i h => h.IsValIter it d i kvs.length ep) where
  mem := by simp
  obj := fun i h st b hb => by
    have e : b = it := by simpa using hb
    subst e
    obtain ⟨oi, e, c, dd⟩ := st
    exact ⟨oi, e, fun v z => by rw [dd] at z; cases z⟩
  keep := fun i h h' st k => let ⟨oi, e, r⟩ := st; ⟨oi, k it (by simp) oi e, r⟩
  item := by
    intro X hP hw hK hc i pins s σ H E I hf st hg
    subst hP hw hK
    obtain ⟨hd, hi⟩ := hg
    obtain ⟨f0, f1, f2, f3, f4, f5⟩ := hf it (by simp)
    obtain ⟨hs, hgd, hx, es', ep', hdt, hsz, ent⟩ := Inv.frzV I hd
    obtain ⟨rfl, rfl⟩ := dict_ep hod hdt
    obtain ⟨⟨k, v⟩, hkv⟩ : ∃ p, kvs[i]? = some p := ⟨kvs[i], List.getElem?_eq_getElem hi⟩
    obtain ⟨en, hen, hv⟩ := ent i k v hkv
    refine val_item st hgd hdt hsz hen fun h' st' sb => ?_
    have I1 : Inv X pins σ H { s with heap := h' } := I.turned (t' := s.toks) (fun b ob hb e => (sb.2 b hb).trans e) f0 f1 f3 f4 f5
    obtain ⟨oi, e, c, dd⟩ := id st'
    exact ⟨en.val, rfl, go_of (s := { s with heap := h' }) e c dd (by decide) ⟨v, H, I1, hv, ⟨rfl, k, hkv⟩, st', fun b hb => (hf b hb).1⟩⟩
  done := by
    intro X hP hw hK hc i pins s σ H E I hf st hg
    subst hP hw hK
    obtain ⟨hd, hi⟩ := hg
    obtain ⟨f0, f1, f2, f3, f4, f5⟩ := hf it (by simp)
    obtain ⟨hs, hgd, hx, es', ep', hdt, hsz, ent⟩ := Inv.frzV I hd
    obtain ⟨rfl, rfl⟩ := dict_ep hod hdt
    exact val_end (I.ok.hd hc) st hgd hdt hsz hi fun h' eb => ⟨rfl, I.turned (t' := s.toks) (fun b ob hb e => eb b ob hb e) f0 f1 f3 f4 f5⟩
  self := fun A i s Q E st h => wpAny_pyIter_valiter st h
def iValsT (td : TE) : TI := fun σ H R => td σ H fun x H1 => ∃ d o kvs, x = .ref d ∧ H1 d = some (.frz o (.dT kvs)) ∧ R (ItdT d o kvs) H1
section
variable {X : Cx} {tg e : Expr} {td : TE} {apos cpos : Pos}
theorem pi_valuesT (he : PE X e td) (hbase : attributeBase e "values" X.env (eval e X.env) = eval e X.env := by rfl) (hline : (apos.endLine == cpos.line) = true := by rfl) : PI X tg (.Call (.Attribute e "values" apos) [] [] cpos) (iValsT td) := by
  intro pins s σ H R I h
  refine wpAny_Call_method (T := "dict") (id := "dict.values") hbase rfl hline PySem.F.plainAttrs_dict PySem.F.slot_dict_values PySem.F.type_dict_values (thn (he pins s σ H _ I h) fun u s1 ⟨x, H1, I1, rx, d, o, kvs, ex, hd, q⟩ => ?_)
  subst ex
  obtain rfl : u = Value.ref d := rx
  obtain ⟨hs, hgd, hx, es, ep, hdt, hsz, ent⟩ := Inv.frzV I1 hd
  have hT : s1.TypeIs (.ref d) "dict" := ⟨o, hgd, hx.1⟩
  refine ⟨hT, fun b hb => ?_, ?_⟩
  · cases hb
    exact ⟨o, hgd, hx.2.1⟩
  have I2 : Inv X pins σ H1 { s1 with heap := s1.heap.push { cls := .type "dict_values", data := .fields #[.ref d] } } := I1.kept (t' := s1.toks) fun b ob q => Heap.get?_push_of_some _ q
  have fin : wpAny (model X.prog X.w) X.A (pyIter (.ref s1.heap.objs.size)) (PIE X pins σ tg R) X.xe { s1 with heap := s1.heap.push { cls := .type "dict_values", data := .fields #[.ref d] } } := by
    refine vals_iter (d := d) (o := o) ⟨_, Heap.get?_push_size _ rfl, rfl, rfl⟩ (Heap.get?_push_of_some _ hgd) hdt (pi_one (tk := s1.toks) I2 _ (turn_valsT _ hdt) ⟨_, Heap.get?_push_size _ rfl, rfl, ?_⟩ q)
    rw [hsz] <;> rfl
  show wpAny _ _ (callWith cpos (.builtin "dict.values") [.ref d] [] []) _ X.xe s1
  exact method_meetsIn PySem.F.slot_dict_values PySem.F.entry_dict_values rfl (PySem.evalArgs_none ⟨rfl, hT, PySem.F.args_dict_values_1 _, _, vals_view (o := o) (es := es) (ep := ep) hs, ⟨hgd, hx, hdt⟩, fin⟩)
end
end CN
end
section
set_option maxRecDepth 100000
namespace CN
open PySem PySem.Spec PyProof.Rows L2
section
variable {X : Cx} {e : Expr} {te : TE} {p p2 pos pos2 apos cpos : Pos}
theorem vals_at {ys : List V} {its : List Value} (h1 : ys.length = its.length) (h2 : ∀ (i : Nat) (v : Value), its[i]? = some v → ∃ y, ys[i]? = some y ∧ RelV y v) : Vals ys its := by
  induction its generalizing ys with
  | nil =>
    have : ys = [] := List.eq_nil_of_length_eq_zero (by simpa using h1)
    subst this
    exact .nil
  | cons u us ih =>
    cases ys with
    | nil => simp at h1
    | cons y r =>
      obtain ⟨y', e, ry⟩ := h2 0 u rfl
      have e' : y = y' := Option.some.inj e
      subst e'
      exact .cons ry (ih (by simpa using h1) fun i v hv => h2 (i + 1) v hv)
def tListRev (K : PySem.W.Frag) (te : TE) : TE := fun σ H Q => te σ H fun x H1 => ∃ a xs, x = .ref a ∧ SqL K H1 a xs ∧ ∀ l, H1 l = none → Q (.ref l) (upd H1 l (.lst xs.reverse))
theorem pe_listRev (hc : X.calm = true) (hg : Gl X "list") (hm : X.mg "list" = none) (hg2 : Gl X "reversed") (hm2 : X.mg "reversed" = none) (he : PE X e te)
    (h1 : starEach [e] X.env = [(false, eval e X.env)] := by rfl)
    (h2 : starEach [Expr.Call (.Name "reversed" p2) [e] [] pos2] X.env = [(false, eval (Expr.Call (.Name "reversed" p2) [e] [] pos2) X.env)] := by rfl) :
    PE X (.Call (.Name "list" p) [.Call (.Name "reversed" p2) [e] [] pos2] [] pos) (tListRev X.K te) := by
  intro pins s σ H Q I h
  refine wpAny_Call_Name_kw (ld_blt I hg hm boot_list ?_ (by decide) (by decide))
  refine PyProof.Rows.callWith_type1 ?_ h2 rfl
  rw [h2]
  show wpAny _ _ (spliced [(false, eval (Expr.Call (.Name "reversed" p2) [e] [] pos2) X.env)]) _ _ s
  refine Calls.spliced_cons ?_
  refine wpAny_Call_Name_kw (ld_blt I hg2 hm2 boot_reversed ?_ (by decide) (by decide))
  refine PyProof.Rows.callWith_type1 ?_ h1 rfl
  rw [h1]
  show wpAny _ _ (spliced [(false, eval e X.env)]) _ _ s
  refine Calls.spliced_cons (thn (he pins s σ H _ I h) fun u s1 ⟨x, H1, I1, r1, a, xs, ex, hs, q⟩ => ?_)
  subst ex
  obtain rfl : u = Value.ref a := r1
  refine Calls.spliced_nil ?_
  obtain ⟨its, rv, hL, hz⟩ := I1.list hs
  have hl := hL.isList
  refine call_reversed_list hl ?_
  refine Calls.spliced_nil ?_
  have hll : a < s1.heap.objs.size := by obtain ⟨_, e, _⟩ := hl; exact Heap.lt_size e
  have hlen := rv.length
  refine list_rev (s := { s1 with heap := s1.heap.push (revObj a ((its.toArray.size : Int) - 1)) }) (I1.ok.hd hc) (hl.push _) ⟨_, Heap.get?_push_size _ rfl, rfl, rfl⟩ (Nat.ne_of_lt hll) (by rw [List.size_toArray]; omega) fun h' tk acc c kh hS hacc => ?_
  have z1 : (s1.heap.push (revObj a ((its.toArray.size : Int) - 1))).objs.size = s1.heap.objs.size + 1 := Heap.size_push ..
  have rv2 : Vals xs.reverse acc.toList := by
    refine vals_at ?_ fun i v hv => ?_
    · have z2 : acc.toList.length = acc.size := Array.length_toList
      rw [List.length_reverse, z2, hacc.1, List.size_toArray, hlen]
    · have hv' : acc[i]? = some v := by rw [← Array.getElem?_toList]; exact hv
      have hi : i < acc.size := (Array.getElem?_eq_some_iff.mp hv').1
      have hj := hacc.2 i v hv'
      rw [hacc.1] at hi
      rw [List.size_toArray] at hi hj
      have hj' : its[its.length - 1 - i]? = some v := by simpa using hj
      have hxi : xs[xs.length - 1 - i]? = some (xs[xs.length - 1 - i]'(by omega)) := List.getElem?_eq_getElem _
      obtain ⟨u2, hu2, ru⟩ := rv.get hxi
      rw [hlen, hj'] at hu2
      cases hu2
      refine ⟨_, ?_, ru⟩
      rw [List.getElem?_reverse (by omega)]
      exact hxi
  refine ⟨.ref _, _, I1.laid (a := s1.heap.objs.size + 1) (o := .lst xs.reverse) (t' := tk) (fun b u z => kh b u (Nat.ne_of_lt (Heap.lt_size z)) (Heap.get?_push_of_some _ z)) (Nat.le_succ _) (show ObjOk X.prog X.w _ h' _ (.lst _) from ⟨by rw [List.length_reverse]; exact hz, acc.toList, c, rv2, ?_⟩), ?_, q _ (I1.hok.fresh (Nat.le_succ _))⟩
  · rw [← z1, Array.toArray_toList]
    exact hS
  · exact congrArg Value.ref z1
def tListVals (te : TE) : TE := fun σ H Q => te σ H fun x H1 => ∃ d kvs, x = .ref d ∧ Rd H1 d (.dK kvs) ∧ ∀ l, H1 l = none → Q (.ref l) (upd H1 l (.lst (kvs.map (·.2))))
theorem pe_listVals (hc : X.calm = true) (hg : Gl X "list") (hm : X.mg "list" = none) (he : PE X e te)
    (hbase : attributeBase e "values" X.env (eval e X.env) = eval e X.env := by rfl) (hline : (apos.endLine == cpos.line) = true := by rfl)
    (h2 : starEach [Expr.Call (.Attribute e "values" apos) [] [] cpos] X.env = [(false, eval (Expr.Call (.Attribute e "values" apos) [] [] cpos) X.env)] := by rfl) :
    PE X (.Call (.Name "list" p) [.Call (.Attribute e "values" apos) [] [] cpos] [] pos) (tListVals te) := by
  intro pins s σ H Q I h
  refine wpAny_Call_Name_kw (ld_blt I hg hm boot_list ?_ (by decide) (by decide))
  refine PyProof.Rows.callWith_type1 ?_ h2 rfl
  rw [h2]
  show wpAny _ _ (spliced [(false, eval (Expr.Call (.Attribute e "values" apos) [] [] cpos) X.env)]) _ _ s
  refine Calls.spliced_cons ?_
  refine wpAny_Call_method (T := "dict") (id := "dict.values") hbase rfl hline PySem.F.plainAttrs_dict PySem.F.slot_dict_values PySem.F.type_dict_values (thn (he pins s σ H _ I h) fun u s1 ⟨x, H1, I1, rx, d, kvs, ex, hd, q⟩ => ?_)
  subst ex
  obtain rfl : u = Value.ref d := rx
  obtain ⟨hz, hs, vs, kv, hm⟩ := dk_rd I1.hok hd
  obtain ⟨ep, hat⟩ := hm.dictAt
  have hl : kvs.length = vs.length := Paired.length kv
  refine ⟨hm.typeIs, hm.mapOf.noDict, ?_⟩
  show wpAny _ _ (callWith cpos (.builtin "dict.values") [.ref d] [] []) _ X.xe s1
  refine method_meetsIn PySem.F.slot_dict_values PySem.F.entry_dict_values rfl (PySem.evalArgs_none ⟨rfl, hm.typeIs, PySem.F.args_dict_values_1 _, _, meets_dict_values (mixKind X.prog X.w) d hs, ⟨vs, hm⟩, ?_⟩)
  refine Calls.spliced_nil ?_
  refine PySem.W.kdl_call (s := { s1 with heap := s1.heap.push { cls := .type "dict_values", data := .fields #[.ref d] } }) (PySem.W.kdl_values (knd := mixKind X.prog X.w) (kvs := vs) (ep := ep)) (I1.ok.hd hc) ⟨⟨_, Heap.get?_push_size _ rfl, rfl, rfl⟩, hat.push _⟩ (by rw [← hl]; exact hz) fun h' tk acc c kh hS hacc => ?_
  have z1 : (s1.heap.push { cls := .type "dict_values", data := .fields #[.ref d] }).objs.size = s1.heap.objs.size + 1 := Heap.size_push ..
  have rv2 : Vals (kvs.map (·.2)) acc.toList := by
    refine vals_at ?_ fun i v hv => ?_
    · have z2 : acc.toList.length = acc.size := Array.length_toList
      rw [List.length_map, z2, hacc.1, hl]
    · have hv' : acc[i]? = some v := by rw [← Array.getElem?_toList]; exact hv
      obtain ⟨k, hk⟩ := hacc.2 i v hv'
      have hi : i < vs.length := (List.getElem?_eq_some_iff.mp hk).1
      have hki : kvs[i]? = some (kvs[i]'(by omega)) := List.getElem?_eq_getElem _
      obtain ⟨u2, hu2, _, ru⟩ := paired_get kv hki
      rw [hk] at hu2
      cases hu2
      exact ⟨_, by rw [List.getElem?_map, hki]; rfl, ru⟩
  refine ⟨.ref _, _, I1.laid (a := s1.heap.objs.size + 1) (o := .lst (kvs.map (·.2))) (t' := tk) (fun b u z => kh b u (Heap.get?_push_of_some _ z)) (Nat.le_succ _) (show ObjOk X.prog X.w _ h' _ (.lst _) from ⟨by rw [List.length_map]; exact hz, acc.toList, c, rv2, ?_⟩), ?_, q _ (I1.hok.fresh (Nat.le_succ _))⟩
  · rw [← z1, Array.toArray_toList]
    exact hS
  · exact congrArg Value.ref z1
end
theorem perm_lift {α β : Type} {f : α → β} : ∀ {l m : List β}, l.Perm m → ∀ ps : List α, m = ps.map f → ∃ ps' : List α, ps'.Perm ps ∧ l = ps'.map f := by
  intro l m h
  induction h with
  | nil =>
    intro ps e
    have : ps = [] := List.map_eq_nil_iff.mp e.symm
    subst this
    exact ⟨[], .refl _, rfl⟩
  | cons x h ih =>
    intro ps e
    obtain ⟨p, r, rfl, e1, e2⟩ := List.map_eq_cons_iff.mp e.symm
    obtain ⟨r', h1, h2⟩ := ih r e2.symm
    exact ⟨p :: r', h1.cons p, by rw [List.map_cons, e1, h2]⟩
  | swap x y l =>
    intro ps e
    obtain ⟨p, r, rfl, e1, e2⟩ := List.map_eq_cons_iff.mp e.symm
    obtain ⟨p2, r2, rfl, e3, e4⟩ := List.map_eq_cons_iff.mp e2
    exact ⟨p2 :: p :: r2, .swap _ _ _, by rw [List.map_cons, List.map_cons, e1, e3, e4]⟩
  | trans h1 h2 ih1 ih2 =>
    intro ps e
    obtain ⟨q, k1, k2⟩ := ih2 ps e
    obtain ⟨q', k3, k4⟩ := ih1 q k2
    exact ⟨q', k3.trans k1, k4⟩
theorem items_inl : ∀ {us : List Value} {ns : List Int}, IntsAre us ns → ∀ i, tupItems (fun _ => false) i us = some (ns.map Sum.inl)
  | _, _, .nil, i => rfl
  | _, _, .cons n t h, i => by
    show (if (false = true) then none else (tupItems (fun _ => false) (i + 1) _).map (Sum.inl n :: ·)) = _
    rw [if_neg Bool.false_ne_true, items_inl h (i + 1)]
    rfl
theorem lex_inl : ∀ a b : List Int, PyProof.Rows.lexLt itemOrd (a.map Sum.inl) (b.map Sum.inl) = HT.lexLt a b
  | [], [] => rfl
  | [], _ :: _ => rfl
  | _ :: _, [] => rfl
  | x :: a, y :: b => by
    rw [List.map_cons, List.map_cons, lex_cons, lex_inl a b, HT.lexLt_cons]
    show (decide (x < y) || (!decide (y < x) && HT.lexLt a b)) = _
    by_cases e : x = y
    · subst e
      simp
    · rw [if_neg e]
      rcases Int.lt_or_gt_of_ne e with q | q
      · simp [q]
      · have : ¬ x < y := by omega
        simp [this, q]
section
variable {X : Cx}
def rSortedT (K : PySem.W.Frag) {α : Type} (g : α → List Int) : List V → Hp → VK → Prop := fun vs H Q => ∃ (a : Addr) (ps : List (Addr × α)), vs = [V.ref a] ∧ SqL K H a (ps.map fun p => V.ref p.1) ∧
  (∀ p ∈ ps, H p.1 = some (.tup ((g p.2).map V.int)) ∧ g p.2 ≠ []) ∧
  ∀ (ps' : List (Addr × α)) (q : Addr), ps'.Perm ps → ps'.Pairwise (fun x y => HT.lexLt (g y.2) (g x.2) = false) → H q = none → Q (.ref q) (upd H q (.lst (ps'.map fun p => V.ref p.1)))
theorem tups_of {I0 : Unit} {h : Heap} : ∀ {vs : List Value}, (∀ v ∈ vs, ∃ a us n t r, v = .ref a ∧ IsTup h a (List.toArray us) ∧ us = Value.int n t :: r) → ∃ fs, TupsOf h (fun _ => false) vs fs
  | [], _ => ⟨[], .nil⟩
  | v :: vs, k => by
    obtain ⟨a, us, n, t, r, rfl, ⟨o, ho, hc, m, hd⟩, rfl⟩ := k v List.mem_cons_self
    obtain ⟨fs, hf⟩ := tups_of (I0 := I0) (vs := vs) fun v hv => k v (List.mem_cons_of_mem _ hv)
    exact ⟨Value.int n t :: fs, .cons ⟨a, o, _, m, rfl, ho, hc, hd, by simp, fun _ => ⟨n, t, rfl⟩, fun q => by cases q⟩ hf⟩
theorem cr_sortedT {α : Type} (g : α → List Int) : CallR X (.builtin "sorted") (rSortedT X.K g) := by
  intro pins s σ H vs us Q I r h
  obtain ⟨a, ps, rfl, hs, hat, q⟩ := h
  obtain ⟨its, rv, hL, hz⟩ := I.list hs
  rw [Vals.ref1 r]
  have its_eq : its = ps.map fun p => Value.ref p.1 := by
    have : ∀ {ps : List (Addr × α)} {its : List Value}, Vals (ps.map fun p => V.ref p.1) its → its = ps.map fun p => Value.ref p.1 := by
      intro ps
      induction ps with
      | nil => intro its h; cases h; rfl
      | cons p ps ih =>
        intro its h
        cases h with
        | cons r t =>
          rw [ih t]
          cases r
          rfl
    exact this rv
  have info : ∀ p ∈ ps, ∃ us : List Value, IsTup s.heap p.1 us.toArray ∧ IntsAre us (g p.2) := fun p hp => by
    obtain ⟨us, ru, ht, _⟩ := I.tuple (SqT.of (hat p hp).1)
    exact ⟨us, ht, ru.ints⟩
  have kOf : ∀ p ∈ ps, G.tupKeyC s.heap (fun _ => false) (.ref p.1) = some ((g p.2).map Sum.inl) := fun p hp => by
    obtain ⟨us, ⟨o, ho, hc, n, hd⟩, hi⟩ := info p hp
    unfold G.tupKeyC
    have e1 : G.isTupObj s.heap (.ref p.1) = true := by simp [G.isTupObj, ho, hc]
    rw [if_pos e1]
    simp only [tupKey, ho, hd]
    exact items_inl hi 0
  obtain ⟨fs, hfs⟩ := tups_of (I0 := ()) (h := s.heap) (vs := its) fun v hv => by
    rw [its_eq] at hv
    obtain ⟨p, hp, rfl⟩ := List.mem_map.mp hv
    obtain ⟨us, ht, hi⟩ := info p hp
    have hne := (hat p hp).2
    generalize g p.2 = gs at hi hne
    cases hi with
    | nil => exact absurd rfl hne
    | cons n t hi' => exact ⟨p.1, _, n, t, _, rfl, ht, rfl⟩
  have hlen := rv.length
  rw [List.length_map] at hlen hz
  refine G.sorted_tups (shape := fun _ => false) (fs := fs) hL.isList hfs (fun v hv => ?_) (by omega) fun st' hp hsr _ => ?_
  · rw [its_eq] at hv
    obtain ⟨p, hp, rfl⟩ := List.mem_map.mp hv
    exact ⟨_, kOf p hp⟩
  · have hpl : (arrOf st').toList.Perm (its.zip its) := by
      have e := Array.perm_iff_toList_perm.mp hp
      rw [pairsOf_toList] at e
      exact e
    have hz2 : its.zip its = ps.map fun p => ((Value.ref p.1, Value.ref p.1) : Keyed) := by
      rw [its_eq, List.zip_map']
    rw [hz2] at hpl
    obtain ⟨ps', h1, h2⟩ := perm_lift hpl ps rfl
    have hout : ((arrOf st').map (·.2)).toList = ps'.map fun p => Value.ref p.1 := by
      rw [Array.toList_map, h2, List.map_map]
      rfl
    have hl' : ps'.length = ps.length := h1.length_eq
    have hpw : ps'.Pairwise (fun x y => HT.lexLt (g y.2) (g x.2) = false) := by
      rw [List.pairwise_iff_getElem]
      intro i j hi hj hij
      have hsz : (pairsOf its).size = ps.length := by rw [pairsOf_size]; omega
      have z := hsr i j (Nat.le_of_lt hij) (by rw [hsz]; omega)
      have kk : ∀ (i : Nat) (hi : i < ps'.length), KK (G.tupKindC s.heap (fun _ => false)) (arrOf st') i = (g (ps'[i]).2).map Sum.inl := fun i hi => by
        unfold KK
        have e : (arrOf st')[i]? = some (Value.ref (ps'[i]).1, Value.ref (ps'[i]).1) := by
          rw [← Array.getElem?_toList, h2, List.getElem?_map, List.getElem?_eq_getElem hi]
          rfl
        rw [e]
        show (G.tupKeyC s.heap (fun _ => false) (.ref (ps'[i]).1)).getD [] = _
        rw [kOf _ (h1.mem_iff.mp (List.getElem_mem hi))]
        rfl
      rw [kk i hi, kk j hj] at z
      have z' : PyProof.Rows.lexLt itemOrd ((g (ps'[j]).2).map Sum.inl) ((g (ps'[i]).2).map Sum.inl) = false := z
      rw [lex_inl] at z'
      exact z'
    obtain ⟨ep, he'⟩ := PyProof.Rows.sortedAll_at s.heap its ((arrOf st').map (·.2))
    have rv2 : Vals (ps'.map fun p => V.ref p.1) ((arrOf st').map (·.2)).toList := by
      rw [hout]
      clear hpw hout h2 h1 q hl'
      induction ps' with
      | nil => exact .nil
      | cons p r ih => exact .cons rfl ih
    exact ⟨.ref _, upd H (s.heap.objs.size + 1) (.lst (ps'.map fun p => V.ref p.1)), I.laid (t' := s.toks) (fun _ _ => PyProof.Rows.sortedAll_old) (Nat.le_succ _) (show ObjOk X.prog X.w _ _ _ (.lst _) from ⟨by rw [List.length_map, hl']; exact hz, ((arrOf st').map (·.2)).toList, ep, rv2, by rw [Array.toArray_toList]; exact he'⟩), rfl, q ps' _ h1 hpw (I.hok.fresh (Nat.le_succ _))⟩
end
def IntG (mg : Str → Option Value) (x : Str) (n : Int) : Prop := ∃ t, mg x = some (.int n t)
theorem pgI {X : Cx} {x : Str} {n : Int} {pos : Pos} (h : IntG X.mg x n) (hg : Gl X x := by rfl) (hd : (x == ("__debug__" : Str)) = false := by decide) : PE X (.Name x pos) (tC (.int n)) := by
  obtain ⟨t, e⟩ := h
  exact pe_glob hg e ⟨t, rfl⟩ hd
structure Cal (P : Program) (w : World) (K : PySem.W.Frag) (mg : Str → Option Value) (base : Heap) (k : Nat) (x : Str) (ps : List Str) (sp : Sp) : Prop where
  ex : ∃ (f : Addr) (fd : FuncData), FnOk P w K mg base CX0 k f fd ps sp ∧ mg x = some (.ref f) ∧ PySem.W.keepIn K (.ref f) = true ∧ Binds K fd ps []
structure MCal (P : Program) (w : World) (K : PySem.W.Frag) (mg : Str → Option Value) (base : Heap) (k : Nat) (C : Addr) (m : Str) (ps : List Str) (sp : Sp) : Prop where
  ex : ∃ (f : Addr) (fd : FuncData), FnOk P w K mg base CX0 k f fd ps sp ∧ Cls K C ∧ Meth K C m f ∧ Binds K fd ps []
structure KCal (P : Program) (w : World) (K : PySem.W.Frag) (mg : Str → Option Value) (base : Heap) (k : Nat) (C : Addr) (x : Str) (ps : List Str) (sp : Sp) : Prop where
  ex : ∃ (f : Addr) (fd : FuncData), FnOk P w K mg base CX0 k f fd ps sp ∧ Mk K C f ∧ mg x = some (.ref C) ∧ Binds K fd ps []
section
variable {X : Cx} {k : Nat} {C : Addr} {ps : List Str} {sp : Sp} {x m : Str} {p pos apos : Pos} {e o : Expr} {es : List Expr} {ta : TE} {t : TA}
theorem pcl (c : Cal X.prog X.w X.K X.mg X.base k x ps sp) (hr : Room k X.A) (ha : PA X (e :: es) t) (hg : Gl X x := by rfl) (hdb : (x == ("__debug__" : Str)) = false := by decide)
    (he : starEach (e :: es) X.env = (false, eval e X.env) :: starEach es X.env := by rfl) (hpl : (backTo pos (starEach es X.env)).any (·.1) = false := by rfl) : PE X (.Call (.Name x p) (e :: es) [] pos) (tCall sp [] E0 t) := by
  obtain ⟨f, fd, F, hm, hk, hb⟩ := c.ex
  exact pe_call F hr hg hm hk hb .nil pass0 ha hdb he hpl
theorem pmk (c : KCal X.prog X.w X.K X.mg X.base k C x ps sp) (hr : Room (k + 1) X.A) (ha : PA X (e :: es) t) (hg : Gl X x := by rfl) (hdb : (x == ("__debug__" : Str)) = false := by decide)
    (he : starEach (e :: es) X.env = (false, eval e X.env) :: starEach es X.env := by rfl) (hpl : (backTo pos (starEach es X.env)).any (·.1) = false := by rfl) : PE X (.Call (.Name x p) (e :: es) [] pos) (tMake C sp [] E0 t) := by
  obtain ⟨f, fd, F, M, hm, hb⟩ := c.ex
  exact pe_make M F hr hg hm hb .nil pass0 ha hdb he hpl
theorem pmk0 (c : KCal X.prog X.w X.K X.mg X.base k C x ps sp) (hr : Room (k + 1) X.A) (hg : Gl X x := by rfl) (hdb : (x == ("__debug__" : Str)) = false := by decide) : PE X (.Call (.Name x p) [] [] pos) (tMake C sp [] E0 tNil) := by
  obtain ⟨f, fd, F, M, hm, hb⟩ := c.ex
  exact pe_make0 M F hr hg hm hb .nil pass0 hdb
theorem pmt {pl : Sem Bool} (c : MCal X.prog X.w X.K X.mg X.base k C m ps sp) (hr : Room k X.A) (he : PE X o ta) (ha : PA X (e :: es) t)
    (hst : starEach (e :: es) X.env = (false, eval e X.env) :: starEach es X.env := by rfl) (hpl : (backTo pos (starEach es X.env)).any (·.1) = false := by rfl)
    (ht : eval (.Call (.Attribute o m apos) (e :: es) [] pos) X.env = (do
      let ov ← eval o X.env
      standAt apos.atName
      let (f, first) ← holding [ov] (getMethod ov m pl)
      callWith pos f first (backTo pos (starEach (e :: es) X.env)) (backToKw pos (keywordEach [] X.env))) := by rfl) : PE X (.Call (.Attribute o m apos) (e :: es) [] pos) (tMeth C m sp [] E0 ta t) := by
  obtain ⟨f, fd, F, cl, hm, hb⟩ := c.ex
  exact pe_meth he cl hm F hr hb .nil pass0 ha hst hpl ht
theorem pmt0 {pl : Sem Bool} (c : MCal X.prog X.w X.K X.mg X.base k C m ps sp) (hr : Room k X.A) (he : PE X o ta)
    (ht : eval (.Call (.Attribute o m apos) [] [] pos) X.env = (do
      let ov ← eval o X.env
      standAt apos.atName
      let (f, first) ← holding [ov] (getMethod ov m pl)
      callWith pos f first (backTo pos (starEach [] X.env)) (backToKw pos (keywordEach [] X.env))) := by rfl) : PE X (.Call (.Attribute o m apos) [] [] pos) (tMeth C m sp [] E0 ta tNil) := by
  obtain ⟨f, fd, F, cl, hm, hb⟩ := c.ex
  exact pe_meth0 he cl hm F hr hb .nil pass0 ht
end
end CN
end
section
set_option maxRecDepth 100000
set_option maxHeartbeats 4000000
namespace CN
open PySem PySem.Spec PyProof.Rows L2
def top (i : Nat) : Stmt := PySem.Challenge.pw_chordnames_s01_answers.main.body.getD i (.Pass ⟨0, 0, 0, 0⟩)
abbrev s_Costs_init : Stmt := inClass (top 25) 0
abbrev N_Costs_init : List Str := ["self", "singles", "table"]
theorem sc_Costs_init : FnScope N_Costs_init ["self", "singles", "table"] (defScope s_Costs_init) := ⟨rfl, rfl, rfl, by decide +kernel, rfl, by decide +kernel, by decide +kernel⟩
abbrev s_Line_init : Stmt := inClass (top 26) 0
abbrev N_Line_init : List Str := ["self"]
theorem sc_Line_init : FnScope N_Line_init ["self"] (defScope s_Line_init) := ⟨rfl, rfl, rfl, by decide +kernel, rfl, by decide +kernel, by decide +kernel⟩
abbrev s_Line_begin : Stmt := inClass (top 26) 1
abbrev N_Line_begin : List Str := ["self"]
theorem sc_Line_begin : FnScope N_Line_begin ["self"] (defScope s_Line_begin) := ⟨rfl, rfl, rfl, by decide +kernel, rfl, by decide +kernel, by decide +kernel⟩
abbrev s_Reader_init : Stmt := inClass (top 27) 0
abbrev N_Reader_init : List Str := ["self", "numbers"]
theorem sc_Reader_init : FnScope N_Reader_init ["self", "numbers"] (defScope s_Reader_init) := ⟨rfl, rfl, rfl, by decide +kernel, rfl, by decide +kernel, by decide +kernel⟩
abbrev s_Reader_has_more : Stmt := inClass (top 27) 1
abbrev N_Reader_has_more : List Str := ["self"]
theorem sc_Reader_has_more : FnScope N_Reader_has_more ["self"] (defScope s_Reader_has_more) := ⟨rfl, rfl, rfl, by decide +kernel, rfl, by decide +kernel, by decide +kernel⟩
abbrev s_Reader_number : Stmt := inClass (top 27) 2
abbrev N_Reader_number : List Str := ["self", "found"]
theorem sc_Reader_number : FnScope N_Reader_number ["self"] (defScope s_Reader_number) := ⟨rfl, rfl, rfl, by decide +kernel, rfl, by decide +kernel, by decide +kernel⟩
abbrev s_Reader_several : Stmt := inClass (top 27) 3
abbrev N_Reader_several : List Str := ["self", "how_many", "start"]
theorem sc_Reader_several : FnScope N_Reader_several ["self", "how_many"] (defScope s_Reader_several) := ⟨rfl, rfl, rfl, by decide +kernel, rfl, by decide +kernel, by decide +kernel⟩
abbrev s_Reader_row : Stmt := inClass (top 27) 4
abbrev N_Reader_row : List Str := ["self"]
theorem sc_Reader_row : FnScope N_Reader_row ["self"] (defScope s_Reader_row) := ⟨rfl, rfl, rfl, by decide +kernel, rfl, by decide +kernel, by decide +kernel⟩
abbrev s_Reader_rows : Stmt := inClass (top 27) 5
abbrev N_Reader_rows : List Str := ["self", "which"]
theorem sc_Reader_rows : FnScope N_Reader_rows ["self"] (defScope s_Reader_rows) := ⟨rfl, rfl, rfl, by decide +kernel, rfl, by decide +kernel, by decide +kernel⟩
abbrev s_Step_init : Stmt := inClass (top 28) 0
abbrev N_Step_init : List Str := ["self", "chord", "names"]
theorem sc_Step_init : FnScope N_Step_init ["self", "chord", "names"] (defScope s_Step_init) := ⟨rfl, rfl, rfl, by decide +kernel, rfl, by decide +kernel, by decide +kernel⟩
abbrev s_are_notes : Stmt := top 29
abbrev N_are_notes : List Str := ["numbers", "number"]
theorem sc_are_notes : FnScope N_are_notes ["numbers"] (defScope s_are_notes) := ⟨rfl, rfl, rfl, by decide +kernel, rfl, by decide +kernel, by decide +kernel⟩
abbrev s_are_different_notes : Stmt := top 30
abbrev N_are_different_notes : List Str := ["numbers"]
theorem sc_are_different_notes : FnScope N_are_different_notes ["numbers"] (defScope s_are_different_notes) := ⟨rfl, rfl, rfl, by decide +kernel, rfl, by decide +kernel, by decide +kernel⟩
abbrev s_begins_at_root : Stmt := top 31
abbrev N_begins_at_root : List Str := ["numbers"]
theorem sc_begins_at_root : FnScope N_begins_at_root ["numbers"] (defScope s_begins_at_root) := ⟨rfl, rfl, rfl, by decide +kernel, rfl, by decide +kernel, by decide +kernel⟩
abbrev s_is_chord : Stmt := top 32
abbrev N_is_chord : List Str := ["numbers"]
theorem sc_is_chord : FnScope N_is_chord ["numbers"] (defScope s_is_chord) := ⟨rfl, rfl, rfl, by decide +kernel, rfl, by decide +kernel, by decide +kernel⟩
abbrev s_are_chords : Stmt := top 33
abbrev N_are_chords : List Str := ["rows", "row"]
theorem sc_are_chords : FnScope N_are_chords ["rows"] (defScope s_are_chords) := ⟨rfl, rfl, rfl, by decide +kernel, rfl, by decide +kernel, by decide +kernel⟩
abbrev s_is_kind : Stmt := top 34
abbrev N_is_kind : List Str := ["numbers"]
theorem sc_is_kind : FnScope N_is_kind ["numbers"] (defScope s_is_kind) := ⟨rfl, rfl, rfl, by decide +kernel, rfl, by decide +kernel, by decide +kernel⟩
abbrev s_is_mode : Stmt := top 35
abbrev N_is_mode : List Str := ["numbers"]
theorem sc_is_mode : FnScope N_is_mode ["numbers"] (defScope s_is_mode) := ⟨rfl, rfl, rfl, by decide +kernel, rfl, by decide +kernel, by decide +kernel⟩
abbrev s_place_in : Stmt := top 36
abbrev N_place_in : List Str := ["numbers", "number"]
theorem sc_place_in : FnScope N_place_in ["numbers", "number"] (defScope s_place_in) := ⟨rfl, rfl, rfl, by decide +kernel, rfl, by decide +kernel, by decide +kernel⟩
abbrev s_name_of : Stmt := top 37
abbrev N_name_of : List Str := ["line", "chord", "root", "kind", "notes", "missed", "extras", "cost", "note"]
theorem sc_name_of : FnScope N_name_of ["line", "chord", "root", "kind"] (defScope s_name_of) := ⟨rfl, rfl, rfl, by decide +kernel, rfl, by decide +kernel, by decide +kernel⟩
abbrev s_names_of : Stmt := top 38
abbrev N_names_of : List Str := ["line", "most", "chord", "names", "root", "kind", "name"]
theorem sc_names_of : FnScope N_names_of ["line", "most", "chord"] (defScope s_names_of) := ⟨rfl, rfl, rfl, by decide +kernel, rfl, by decide +kernel, by decide +kernel⟩
abbrev s_shown_name : Stmt := top 39
abbrev N_shown_name : List Str := ["name"]
theorem sc_shown_name : FnScope N_shown_name ["name"] (defScope s_shown_name) := ⟨rfl, rfl, rfl, by decide +kernel, rfl, by decide +kernel, by decide +kernel⟩
abbrev s_best_by_root : Stmt := top 40
abbrev N_best_by_root : List Str := ["names", "best", "name", "root"]
theorem sc_best_by_root : FnScope N_best_by_root ["names"] (defScope s_best_by_root) := ⟨rfl, rfl, rfl, by decide +kernel, rfl, by decide +kernel, by decide +kernel⟩
abbrev s_keys_of : Stmt := top 41
abbrev N_keys_of : List Str := ["line", "found", "tonic", "mode"]
theorem sc_keys_of : FnScope N_keys_of ["line"] (defScope s_keys_of) := ⟨rfl, rfl, rfl, by decide +kernel, rfl, by decide +kernel, by decide +kernel⟩
abbrev s_degree_in : Stmt := top 42
abbrev N_degree_in : List Str := ["line", "key", "note"]
theorem sc_degree_in : FnScope N_degree_in ["line", "key", "note"] (defScope s_degree_in) := ⟨rfl, rfl, rfl, by decide +kernel, rfl, by decide +kernel, by decide +kernel⟩
abbrev s_notes_outside : Stmt := top 43
abbrev N_notes_outside : List Str := ["line", "key", "chord", "note"]
theorem sc_notes_outside : FnScope N_notes_outside ["line", "key", "chord"] (defScope s_notes_outside) := ⟨rfl, rfl, rfl, by decide +kernel, rfl, by decide +kernel, by decide +kernel⟩
abbrev s_key_change_cost : Stmt := top 44
abbrev N_key_change_cost : List Str := ["line", "before", "after", "cost"]
theorem sc_key_change_cost : FnScope N_key_change_cost ["line", "before", "after"] (defScope s_key_change_cost) := ⟨rfl, rfl, rfl, by decide +kernel, rfl, by decide +kernel, by decide +kernel⟩
abbrev s_root_change_cost : Stmt := top 45
abbrev N_root_change_cost : List Str := ["line", "key", "before", "after"]
theorem sc_root_change_cost : FnScope N_root_change_cost ["line", "key", "before", "after"] (defScope s_root_change_cost) := ⟨rfl, rfl, rfl, by decide +kernel, rfl, by decide +kernel, by decide +kernel⟩
abbrev s_cheapest : Stmt := top 46
abbrev N_cheapest : List Str := ["pairs", "least", "pair"]
theorem sc_cheapest : FnScope N_cheapest ["pairs"] (defScope s_cheapest) := ⟨rfl, rfl, rfl, by decide +kernel, rfl, by decide +kernel, by decide +kernel⟩
abbrev s_step_and_behind : Stmt := top 47
abbrev N_step_and_behind : List Str := ["line", "step", "behind", "found", "key", "out", "by_root", "root", "best", "rest"]
theorem sc_step_and_behind : FnScope N_step_and_behind ["line", "step", "behind"] (defScope s_step_and_behind) := ⟨rfl, rfl, rfl, by decide +kernel, rfl, by decide +kernel, by decide +kernel⟩
abbrev s_into_key : Stmt := top 48
abbrev N_into_key : List Str := ["line", "root", "key", "by_root", "after", "pair"]
theorem sc_into_key : FnScope N_into_key ["line", "root", "key", "by_root"] (defScope s_into_key) := ⟨rfl, rfl, rfl, by decide +kernel, rfl, by decide +kernel, by decide +kernel⟩
abbrev s_behind_step : Stmt := top 49
abbrev N_behind_step : List Str := ["line", "step", "onward", "all_keys", "into", "root", "found", "key", "changes", "by_root", "after", "change", "pair"]
theorem sc_behind_step : FnScope N_behind_step ["line", "step", "onward"] (defScope s_behind_step) := ⟨rfl, rfl, rfl, by decide +kernel, rfl, by decide +kernel, by decide +kernel⟩
abbrev s_onward_costs : Stmt := top 50
abbrev N_onward_costs : List Str := ["line", "steps", "found", "behind", "step"]
theorem sc_onward_costs : FnScope N_onward_costs ["line", "steps"] (defScope s_onward_costs) := ⟨rfl, rfl, rfl, by decide +kernel, rfl, by decide +kernel, by decide +kernel⟩
abbrev s_entry_cost : Stmt := top 51
abbrev N_entry_cost : List Str := ["line", "before", "key", "root"]
theorem sc_entry_cost : FnScope N_entry_cost ["line", "before", "key", "root"] (defScope s_entry_cost) := ⟨rfl, rfl, rfl, by decide +kernel, rfl, by decide +kernel, by decide +kernel⟩
abbrev s_first_step : Stmt := top 52
abbrev N_first_step : List Str := ["line", "before", "step", "onward", "choices", "key", "root", "best"]
theorem sc_first_step : FnScope N_first_step ["line", "before", "step", "onward"] (defScope s_first_step) := ⟨rfl, rfl, rfl, by decide +kernel, rfl, by decide +kernel, by decide +kernel⟩
abbrev s_first_way : Stmt := top 53
abbrev N_first_way : List Str := ["line", "steps", "onward", "way", "before", "step", "costs", "chosen", "key", "name"]
theorem sc_first_way : FnScope N_first_way ["line", "steps", "onward"] (defScope s_first_way) := ⟨rfl, rfl, rfl, by decide +kernel, rfl, by decide +kernel, by decide +kernel⟩
abbrev s_cheapest_ways : Stmt := top 54
abbrev N_cheapest_ways : List Str := ["onward", "pairs", "by_root"]
theorem sc_cheapest_ways : FnScope N_cheapest_ways ["onward"] (defScope s_cheapest_ways) := ⟨rfl, rfl, rfl, by decide +kernel, rfl, by decide +kernel, by decide +kernel⟩
abbrev s_with_count : Stmt := top 55
abbrev N_with_count : List Str := ["numbers"]
theorem sc_with_count : FnScope N_with_count ["numbers"] (defScope s_with_count) := ⟨rfl, rfl, rfl, by decide +kernel, rfl, by decide +kernel, by decide +kernel⟩
abbrev s_call_kinds : Stmt := top 56
abbrev N_call_kinds : List Str := ["line", "rows", "row"]
theorem sc_call_kinds : FnScope N_call_kinds ["line", "rows"] (defScope s_call_kinds) := ⟨rfl, rfl, rfl, by decide +kernel, rfl, by decide +kernel, by decide +kernel⟩
abbrev s_call_modes : Stmt := top 57
abbrev N_call_modes : List Str := ["line", "rows", "row"]
theorem sc_call_modes : FnScope N_call_modes ["line", "rows"] (defScope s_call_modes) := ⟨rfl, rfl, rfl, by decide +kernel, rfl, by decide +kernel, by decide +kernel⟩
abbrev s_call_costs : Stmt := top 58
abbrev N_call_costs : List Str := ["line", "singles", "table"]
theorem sc_call_costs : FnScope N_call_costs ["line", "singles", "table"] (defScope s_call_costs) := ⟨rfl, rfl, rfl, by decide +kernel, rfl, by decide +kernel, by decide +kernel⟩
abbrev s_call_names : Stmt := top 59
abbrev N_call_names : List Str := ["line", "most", "chord", "names", "answer", "name"]
theorem sc_call_names : FnScope N_call_names ["line", "most", "chord"] (defScope s_call_names) := ⟨rfl, rfl, rfl, by decide +kernel, rfl, by decide +kernel, by decide +kernel⟩
abbrev s_call_degree : Stmt := top 60
abbrev N_call_degree : List Str := ["line", "tonic", "mode", "notes", "degrees", "note"]
theorem sc_call_degree : FnScope N_call_degree ["line", "tonic", "mode", "notes"] (defScope s_call_degree) := ⟨rfl, rfl, rfl, by decide +kernel, rfl, by decide +kernel, by decide +kernel⟩
abbrev s_call_common : Stmt := top 61
abbrev N_call_common : List Str := ["line", "chords", "found", "key", "answer", "chord"]
theorem sc_call_common : FnScope N_call_common ["line", "chords"] (defScope s_call_common) := ⟨rfl, rfl, rfl, by decide +kernel, rfl, by decide +kernel, by decide +kernel⟩
abbrev s_call_through : Stmt := top 62
abbrev N_call_through : List Str := ["line", "most", "chords", "names", "steps", "onward", "least", "answer", "shown_step", "chord", "its_names"]
theorem sc_call_through : FnScope N_call_through ["line", "most", "chords"] (defScope s_call_through) := ⟨rfl, rfl, rfl, by decide +kernel, rfl, by decide +kernel, by decide +kernel⟩
abbrev s_answer_of : Stmt := top 63
abbrev N_answer_of : List Str := ["line", "reader", "which"]
theorem sc_answer_of : FnScope N_answer_of ["line", "reader"] (defScope s_answer_of) := ⟨rfl, rfl, rfl, by decide +kernel, rfl, by decide +kernel, by decide +kernel⟩
abbrev s_answers : Stmt := top 64
abbrev N_answers : List Str := ["calls", "line", "reader", "given"]
theorem sc_answers : FnScope N_answers ["calls"] (defScope s_answers) := ⟨rfl, rfl, rfl, by decide +kernel, rfl, by decide +kernel, by decide +kernel⟩
theorem Same.up {H0 H : Hp} {x : Addr} {o : HO} (s : Same H0 H) (n : H0 x = none) : Same H0 (upd H x o) := fun b u e => by
  rw [upd_ne (ne_of_none e n)]
  exact s b u e
theorem Same.nw {H0 H : Hp} {x : Addr} {o : HO} (s : Same H0 H) (n : H x = none) : Same H0 (upd H x o) := Same.up s (s.free n)
def Kp (x : Addr) (H H' : Hp) : Prop := ∀ b o, H b = some o → b ≠ x → H' b = some o
theorem Kp.refl (x : Addr) (H : Hp) : Kp x H H := fun _ _ h _ => h
theorem Kp.trans {x : Addr} {H H1 H2 : Hp} (a : Kp x H H1) (b : Kp x H1 H2) : Kp x H H2 := fun c o h n => b c o (a c o h n) n
theorem Kp.of {x : Addr} {H H' : Hp} (s : Same H H') : Kp x H H' := fun b o h _ => s b o h
theorem Kp.up {x : Addr} {H H' : Hp} {o : HO} (s : Kp x H H') : Kp x H (upd H' x o) := fun b u h n => by
  rw [upd_ne n]
  exact s b u h n
abbrev LI (H : Hp) (a : Addr) (ns : List Int) : Prop := H a = some (.lst (ns.map V.int))
abbrev TI (H : Hp) (a : Addr) (ns : List Int) : Prop := H a = some (.tup (ns.map V.int))
def LL {α : Type} (R : Hp → Addr → α → Prop) (H : Hp) (a : Addr) (xs : List α) : Prop := ∃ as : List Addr, H a = some (.lst (as.map V.ref)) ∧ Paired (R H) as xs
theorem LL.same {α : Type} {R : Hp → Addr → α → Prop} {H H' : Hp} {a : Addr} {xs : List α} (h : LL R H a xs) (s : Same H H') (m : ∀ b x, R H b x → R H' b x) : LL R H' a xs := by
  obtain ⟨as, h1, h2⟩ := h
  exact ⟨as, s _ _ h1, Paired.mapP h2 m⟩
def nm4 (n : Sw69.Name) : List Int := [(n.cost : Int), n.root, (n.kind : Int), (n.turn : Int)]
def ky2 (k : Sw69.Key) : List Int := [k.tonic, (k.mode : Int)]
def pw2 (p : Nat × Nat) : List Int := [(p.1 : Int), (p.2 : Int)]
abbrev RL : Hp → Addr → List (List Int) → Prop := LL LI
abbrev NL : Hp → Addr → List Sw69.Name → Prop := LL fun H b n => TI H b (nm4 n)
abbrev KL : Hp → Addr → List Sw69.Key → Prop := LL fun H b k => TI H b (ky2 k)
abbrev PL : Hp → Addr → List (Nat × Nat) → Prop := LL fun H b p => TI H b (pw2 p)
theorem RL.mv {H H' : Hp} {a : Addr} {xs : List (List Int)} (h : RL H a xs) (s : Same H H') : RL H' a xs := LL.same h s fun b x e => s _ _ e
theorem NL.mv {H H' : Hp} {a : Addr} {xs : List Sw69.Name} (h : NL H a xs) (s : Same H H') : NL H' a xs := LL.same h s fun b x e => s _ _ e
theorem KL.mv {H H' : Hp} {a : Addr} {xs : List Sw69.Key} (h : KL H a xs) (s : Same H H') : KL H' a xs := LL.same h s fun b x e => s _ _ e
theorem PL.mv {H H' : Hp} {a : Addr} {xs : List (Nat × Nat)} (h : PL H a xs) (s : Same H H') : PL H' a xs := LL.same h s fun b x e => s _ _ e
theorem lk_hd {f : Str} {v : V} {r : List (Str × V)} : List.lookup f ((f, v) :: r) = some v := by rw [List.lookup_cons, beq_self_eq_true]
theorem lk_tl {f g : Str} {v : V} {r : List (Str × V)} (h : (f == g) = false) : List.lookup f ((g, v) :: r) = List.lookup f r := by rw [List.lookup_cons, h]
theorem pf_ne {f g : Str} {v x : V} {r : List (Str × V)} (h : ¬ g = f) : putF f v ((g, x) :: r) = (g, x) :: putF f v r := if_neg h
theorem pf_eq {f : Str} {v x : V} {r : List (Str × V)} : putF f v ((f, x) :: r) = (f, v) :: r := if_pos rfl
def cF (c : Sw69.Costs) (tb : Addr) : List (Str × V) := [("miss", .int c.miss), ("extra", .int c.extra), ("turned", .int c.turned), ("out", .int c.out), ("key", .int c.key), ("mode", .int c.mode), ("table", .ref tb)]
def lF (ka ma ca : Addr) : List (Str × V) := [("kinds", .ref ka), ("modes", .ref ma), ("costs", .ref ca)]
def rF (b : Addr) (p : Int) : List (Str × V) := [("numbers", .ref b), ("place", .int p)]
def sF (c d : Addr) : List (Str × V) := [("chord", .ref c), ("best", .ref d)]
section
variable {c : Sw69.Costs} {tb ka ma ca b cd d : Addr} {p : Int}
theorem cF_miss : (cF c tb).lookup ("miss" : Str) = some (.int c.miss) := lk_hd
theorem cF_extra : (cF c tb).lookup ("extra" : Str) = some (.int c.extra) := (lk_tl (by decide +kernel)).trans lk_hd
theorem cF_turned : (cF c tb).lookup ("turned" : Str) = some (.int c.turned) := (lk_tl (by decide +kernel)).trans ((lk_tl (by decide +kernel)).trans lk_hd)
theorem cF_out : (cF c tb).lookup ("out" : Str) = some (.int c.out) := (lk_tl (by decide +kernel)).trans ((lk_tl (by decide +kernel)).trans ((lk_tl (by decide +kernel)).trans lk_hd))
theorem cF_key : (cF c tb).lookup ("key" : Str) = some (.int c.key) := (lk_tl (by decide +kernel)).trans ((lk_tl (by decide +kernel)).trans ((lk_tl (by decide +kernel)).trans ((lk_tl (by decide +kernel)).trans lk_hd)))
theorem cF_mode : (cF c tb).lookup ("mode" : Str) = some (.int c.mode) := (lk_tl (by decide +kernel)).trans ((lk_tl (by decide +kernel)).trans ((lk_tl (by decide +kernel)).trans ((lk_tl (by decide +kernel)).trans ((lk_tl (by decide +kernel)).trans lk_hd))))
theorem cF_table : (cF c tb).lookup ("table" : Str) = some (.ref tb) := (lk_tl (by decide +kernel)).trans ((lk_tl (by decide +kernel)).trans ((lk_tl (by decide +kernel)).trans ((lk_tl (by decide +kernel)).trans ((lk_tl (by decide +kernel)).trans ((lk_tl (by decide +kernel)).trans lk_hd)))))
theorem lF_kinds : (lF ka ma ca).lookup ("kinds" : Str) = some (.ref ka) := lk_hd
theorem lF_modes : (lF ka ma ca).lookup ("modes" : Str) = some (.ref ma) := (lk_tl (by decide +kernel)).trans lk_hd
theorem lF_costs : (lF ka ma ca).lookup ("costs" : Str) = some (.ref ca) := (lk_tl (by decide +kernel)).trans ((lk_tl (by decide +kernel)).trans lk_hd)
theorem rF_numbers : (rF b p).lookup ("numbers" : Str) = some (.ref b) := lk_hd
theorem rF_place : (rF b p).lookup ("place" : Str) = some (.int p) := (lk_tl (by decide +kernel)).trans lk_hd
theorem sF_chord : (sF cd d).lookup ("chord" : Str) = some (.ref cd) := lk_hd
theorem sF_best : (sF cd d).lookup ("best" : Str) = some (.ref d) := (lk_tl (by decide +kernel)).trans lk_hd
theorem lF_no {m : Str} (h1 : (m == "kinds") = false) (h2 : (m == "modes") = false) (h3 : (m == "costs") = false) : (lF ka ma ca).lookup m = none := (lk_tl h1).trans ((lk_tl h2).trans ((lk_tl h3).trans rfl))
theorem rF_no {m : Str} (h1 : (m == "numbers") = false) (h2 : (m == "place") = false) : (rF b p).lookup m = none := (lk_tl h1).trans ((lk_tl h2).trans rfl)
theorem rF_put {q : Int} : putF "place" (.int q) (rF b p) = rF b q := (pf_ne (by decide +kernel)).trans (by rw [pf_eq]; rfl)
theorem lF_putK {x : Addr} : putF "kinds" (.ref x) (lF ka ma ca) = lF x ma ca := pf_eq
theorem lF_putM {x : Addr} : putF "modes" (.ref x) (lF ka ma ca) = lF ka x ca := (pf_ne (by decide +kernel)).trans (by rw [pf_eq]; rfl)
theorem lF_putC {x : Addr} : putF "costs" (.ref x) (lF ka ma ca) = lF ka ma x := (pf_ne (by decide +kernel)).trans (by rw [pf_ne (by decide +kernel), pf_eq]; rfl)
end
structure Tx (K : PySem.W.Frag) (mg : Str → Option Value) (CC CL CR CS : Addr) : Prop where
  clC : Cls K CC
  clL : Cls K CL
  clR : Cls K CR
  clS : Cls K CS
  n_miss : NoAttr K CC "miss"
  n_extra : NoAttr K CC "extra"
  n_turned : NoAttr K CC "turned"
  n_out : NoAttr K CC "out"
  n_key : NoAttr K CC "key"
  n_mode : NoAttr K CC "mode"
  n_table : NoAttr K CC "table"
  n_kinds : NoAttr K CL "kinds"
  n_modes : NoAttr K CL "modes"
  n_costs : NoAttr K CL "costs"
  n_numbers : NoAttr K CR "numbers"
  n_place : NoAttr K CR "place"
  n_chord : NoAttr K CS "chord"
  n_best : NoAttr K CS "best"
  LOWEST_NOTE : IntG mg "LOWEST_NOTE" (-20)
  HIGHEST_NOTE : IntG mg "HIGHEST_NOTE" (20)
  LOWEST_TONIC : IntG mg "LOWEST_TONIC" (-7)
  HIGHEST_TONIC : IntG mg "HIGHEST_TONIC" (7)
  MOST_CHORD_NOTES : IntG mg "MOST_CHORD_NOTES" (8)
  MOST_KIND_NOTES : IntG mg "MOST_KIND_NOTES" (6)
  MODE_NOTES : IntG mg "MODE_NOTES" (7)
  MOST_KINDS : IntG mg "MOST_KINDS" (10)
  MOST_MODES : IntG mg "MOST_MODES" (3)
  MOST_CHORDS : IntG mg "MOST_CHORDS" (12)
  HIGHEST_COST : IntG mg "HIGHEST_COST" (10000)
  SINGLE_COSTS : IntG mg "SINGLE_COSTS" (6)
  TABLE_SIDE : IntG mg "TABLE_SIDE" (8)
  TABLE_SIZE : IntG mg "TABLE_SIZE" (64)
  REFUSED : IntG mg "REFUSED" (-1)
  NO_SUCH_MODE : IntG mg "NO_SUCH_MODE" (-2)
  NO_WAY : IntG mg "NO_WAY" (-6)
  BEGINS : IntG mg "BEGINS" (0)
  KINDS : IntG mg "KINDS" (1)
  MODES : IntG mg "MODES" (2)
  COSTS : IntG mg "COSTS" (3)
  NAMES : IntG mg "NAMES" (4)
  DEGREE : IntG mg "DEGREE" (5)
  COMMON : IntG mg "COMMON" (6)
  b_len : mg "len" = none
  b_all : mg "all" = none
  b_abs : mg "abs" = none
  b_sum : mg "sum" = none
  b_min : mg "min" = none
  b_max : mg "max" = none
  b_sorted : mg "sorted" = none
  b_set : mg "set" = none
  b_list : mg "list" = none
  b_reversed : mg "reversed" = none
  b_range : mg "range" = none
  b_zip : mg "zip" = none
def CostsAt (CC : Addr) (H : Hp) (a : Addr) (c : Sw69.Costs) : Prop := ∃ dx tb, H a = some (.ins CC dx (cF c tb)) ∧ LI H tb (c.steps.map fun (n : Nat) => (n : Int))
theorem CostsAt.mv {CC : Addr} {H H' : Hp} {a : Addr} {c : Sw69.Costs} (h : CostsAt CC H a c) (s : Same H H') : CostsAt CC H' a c := by
  obtain ⟨dx, tb, h1, h2⟩ := h
  exact ⟨dx, tb, s _ _ h1, s _ _ h2⟩
structure StOk (s : Sw69.St) : Prop where
  kn : s.kinds.length ≤ 10
  kd : ∀ k ∈ s.kinds, k.length ≤ 6
  mn : s.modes.length ≤ 3
  md : ∀ m ∈ s.modes, m.length = 7
  tb : s.costs.steps.length = 64
  miss : s.costs.miss ≤ 10000
  extra : s.costs.extra ≤ 10000
  turned : s.costs.turned ≤ 10000
  out : s.costs.out ≤ 10000
  key : s.costs.key ≤ 10000
  mode : s.costs.mode ≤ 10000
def LineAt (CC CL : Addr) (H : Hp) (a : Addr) (s : Sw69.St) : Prop := ∃ dx ka ma ca, H a = some (.ins CL dx (lF ka ma ca)) ∧ RL H ka s.kinds ∧ RL H ma s.modes ∧ CostsAt CC H ca s.costs ∧ StOk s
theorem LineAt.mv {CC CL : Addr} {H H' : Hp} {a : Addr} {s : Sw69.St} (h : LineAt CC CL H a s) (e : Same H H') : LineAt CC CL H' a s := by
  obtain ⟨dx, ka, ma, ca, h1, h2, h3, h4, h5⟩ := h
  exact ⟨dx, ka, ma, ca, e _ _ h1, RL.mv h2 e, RL.mv h3 e, CostsAt.mv h4 e, h5⟩
theorem small {n : Nat} (h : n ≤ 100000) : n ≤ sizeLine := by rw [sizeLine_eq]; omega
theorem smallLt {n : Nat} (h : n ≤ 100000) : n < sizeLine := by rw [sizeLine_eq]; omega
theorem take_snoc {α : Type} : ∀ {l : List α} {i : Nat} {x : α}, l[i]? = some x → l.take (i + 1) = l.take i ++ [x]
  | [], i, x, h => by simp at h
  | a :: l, 0, x, h => by
    have e : a = x := Option.some.inj h
    subst e
    rfl
  | a :: l, i + 1, x, h => by
    have ih := take_snoc (l := l) (i := i) (x := x) h
    show a :: l.take (i + 1) = a :: l.take i ++ [x]
    rw [ih]
    rfl
theorem map_at {α β : Type} {f : α → β} {l : List α} {i : Nat} {y : β} (h : (l.map f)[i]? = some y) : ∃ x, l[i]? = some x ∧ y = f x := by
  rw [List.getElem?_map] at h
  cases e : l[i]? with
  | none => rw [e] at h; cases h
  | some x => rw [e] at h; exact ⟨x, rfl, (Option.some.inj h).symm⟩
theorem flat_ints (ns : List Int) : (ns.map V.int).all flatV = true := by
  rw [List.all_eq_true]
  intro v hv
  obtain ⟨n, _, rfl⟩ := List.mem_map.mp hv
  rfl
theorem inV_ints (z : Int) (ns : List Int) : inV (.int z) (ns.map V.int) = ns.contains z := by
  unfold inV
  induction ns with
  | nil => rfl
  | cons n r ih =>
    rw [List.map_cons, List.any_cons, ih, List.contains_cons]
    congr 1
    show (n == z) = (z == n)
    by_cases e : n = z
    · subst e; rfl
    · have e' : ¬ z = n := fun q => e q.symm
      rw [beq_eq_false_iff_ne.mpr e, beq_eq_false_iff_ne.mpr e']
theorem Paired.at1 {α β : Type} {R : α → β → Prop} : ∀ {xs : List α} {ys : List β} {i : Nat} {y : β}, Paired R xs ys → ys[i]? = some y → ∃ x, xs[i]? = some x ∧ R x y
  | _, _, i, y, .nil, h => by simp at h
  | _, _, 0, y, .cons r _, h => by
    have e := Option.some.inj h
    subst e
    exact ⟨_, rfl, r⟩
  | _, _, i + 1, y, .cons _ t, h => Paired.at1 (i := i) t h
theorem Paired.app {α β : Type} {R : α → β → Prop} : ∀ {xs xs' : List α} {ys ys' : List β}, Paired R xs ys → Paired R xs' ys' → Paired R (xs ++ xs') (ys ++ ys')
  | _, _, _, _, .nil, h => h
  | _, _, _, _, .cons r t, h => .cons r (Paired.app t h)
theorem Paired.snoc {α β : Type} {R : α → β → Prop} {xs : List α} {ys : List β} {x : α} {y : β} (h : Paired R xs ys) (r : R x y) : Paired R (xs ++ [x]) (ys ++ [y]) := Paired.app h (.cons r .nil)
theorem Paired.eq_map {α β : Type} {f : α → β} : ∀ {xs : List α} {ys : List β}, Paired (fun x y => y = f x) xs ys → ys = xs.map f
  | _, _, .nil => rfl
  | _, _, .cons r t => by rw [List.map_cons, ← Paired.eq_map t, r]
theorem Paired.refs {α : Type} {R : Addr → α → Prop} : ∀ {es : List α} {ys : List V}, Paired (fun e y => ∃ b, y = .ref b ∧ R b e) es ys → ∃ as : List Addr, ys = as.map V.ref ∧ Paired R as es
  | _, _, .nil => ⟨[], rfl, .nil⟩
  | _, _, .cons ⟨b, e, r⟩ t => by
    obtain ⟨as, e1, e2⟩ := Paired.refs t
    exact ⟨b :: as, by rw [e, e1]; rfl, .cons r e2⟩
theorem lc_map {α : Type} {K : PySem.W.Frag} {a : Addr} {es : List α} {ve : α → V} {g : TG} {te : TE} {vs : List Nat} {σ : L2.St} {H1 : Hp} {D : Addr} {Qd : Hp → Prop} (R : α → V → Hp → Prop)
    (hl : SqL K H1 a (es.map ve)) (hD : H1 D = none) (hz : es.length ≤ 100000) (mono : ∀ e y H H', R e y H → Kp D H H' → R e y H')
    (step : ∀ (e : α) (H : Hp) (acc : List V) (Qk : V → Hp → Prop), e ∈ es → Same H1 H → H D = some (.lst acc) → (∀ y H', Same H H' → R e y H' → Qk y H') → g (ve e) (wipe σ vs) H fun σ2 H2 => wipe σ2 vs = wipe σ vs ∧ te σ2 H2 Qk)
    (fin : ∀ (H' : Hp) (ys : List V), Same H1 H' → H' D = some (.lst ys) → Paired (fun e y => R e y H') es ys → Qd H') :
    ∃ W : Nat → Nat → Hp → Prop, (∃ m, W 0 m (upd H1 D (.lst []))) ∧ ∀ i m H, W i m H →
      ((Itl K a).stop i H ∧ Qd H) ∨ ((Itl K a).go i H ∧ ∃ Nx : Hp → Prop, (∀ H', Nx H' → ∃ m', m' < m ∧ W (i + 1) m' H') ∧ ∀ x H', (Itl K a).yld i H x H' → g x (wipe σ vs) H' fun σ2 H2 => wipe σ2 vs = wipe σ vs ∧ tYes σ2 H2 fun b H3 =>
        if b = true then te σ2 H3 fun y H4 => ∃ acc, H4 D = some (.lst acc) ∧ acc.length < sizeLine ∧ Nx (upd H4 D (.lst (acc ++ [y]))) else Nx H3) := by
  refine lc_list (xs := es.map ve) (fun i H => ∃ ys, Same H1 H ∧ H D = some (.lst ys) ∧ Paired (fun e y => R e y H) (es.take i) ys) ⟨[], Same.nw (Same.refl _) hD, upd_same, by rw [List.take_zero]; exact .nil⟩ (fun i H _ ⟨ys, s, _⟩ => s.seq hl) (fun i x H hx ⟨ys, s, hDH, hp⟩ => ?_) fun H ⟨ys, s, hDH, hp⟩ => ?_
  · obtain ⟨e, he, rfl⟩ := map_at hx
    have hem : e ∈ es := List.mem_of_getElem? he
    have k := step e H ys (fun y H4 => ∃ acc, H4 D = some (.lst acc) ∧ acc.length < sizeLine ∧ ∃ ys', Same H1 (upd H4 D (.lst (acc ++ [y]))) ∧ (upd H4 D (.lst (acc ++ [y]))) D = some (.lst ys') ∧ Paired (fun e' y' => R e' y' (upd H4 D (.lst (acc ++ [y])))) (es.take (i + 1)) ys') hem s hDH (fun y H4 s4 r4 => ?_)
    · exact k
    · refine ⟨ys, s4 _ _ hDH, ?_, ys ++ [y], Same.up (s.trans s4) hD, upd_same, ?_⟩
      · have := Paired.length hp
        rw [List.length_take] at this
        exact smallLt (by omega)
      · rw [take_snoc he]
        have kk : Kp D H (upd H4 D (.lst (ys ++ [y]))) := Kp.up (Kp.of s4)
        exact Paired.snoc (Paired.mapP hp fun e' y' r => mono e' y' _ _ r kk) (mono e y _ _ r4 (Kp.up (Kp.refl _ _)))
  · rw [List.length_map, List.take_length] at hp
    exact fin H ys s hDH hp
theorem lc_filt {α : Type} {K : PySem.W.Frag} {a : Addr} {es : List α} {ve : α → V} {g : TG} {tt : TT} {te : TE} {vs : List Nat} {σ : L2.St} {H1 : Hp} {D : Addr} {Qd : Hp → Prop} (p : α → Bool) (f : α → V)
    (hl : SqL K H1 a (es.map ve)) (hD : H1 D = none) (hz : es.length ≤ 100000)
    (step : ∀ (e : α) (H : Hp) (Qk : V → Hp → Prop) (Qn : Hp → Prop), e ∈ es → Same H1 H → (p e = true → ∀ H', Same H H' → Qk (f e) H') → (p e = false → ∀ H', Same H H' → Qn H') →
      g (ve e) (wipe σ vs) H fun σ2 H2 => wipe σ2 vs = wipe σ vs ∧ tt σ2 H2 fun b H3 => if b = true then te σ2 H3 Qk else Qn H3)
    (fin : ∀ (H' : Hp), Same H1 H' → H' D = some (.lst ((es.filter p).map f)) → Qd H') :
    ∃ W : Nat → Nat → Hp → Prop, (∃ m, W 0 m (upd H1 D (.lst []))) ∧ ∀ i m H, W i m H →
      ((Itl K a).stop i H ∧ Qd H) ∨ ((Itl K a).go i H ∧ ∃ Nx : Hp → Prop, (∀ H', Nx H' → ∃ m', m' < m ∧ W (i + 1) m' H') ∧ ∀ x H', (Itl K a).yld i H x H' → g x (wipe σ vs) H' fun σ2 H2 => wipe σ2 vs = wipe σ vs ∧ tt σ2 H2 fun b H3 =>
        if b = true then te σ2 H3 fun y H4 => ∃ acc, H4 D = some (.lst acc) ∧ acc.length < sizeLine ∧ Nx (upd H4 D (.lst (acc ++ [y]))) else Nx H3) := by
  refine lc_list (xs := es.map ve) (fun i H => Same H1 H ∧ H D = some (.lst (((es.take i).filter p).map f))) ⟨Same.nw (Same.refl _) hD, by rw [List.take_zero]; exact upd_same⟩ (fun i H _ ⟨s, _⟩ => s.seq hl) (fun i x H hx ⟨s, hDH⟩ => ?_) fun H ⟨s, hDH⟩ => ?_
  · obtain ⟨e, he, rfl⟩ := map_at hx
    have hem : e ∈ es := List.mem_of_getElem? he
    refine step e H _ _ hem s (fun hp H4 s4 => ?_) fun hp H4 s4 => ?_
    · refine ⟨_, s4 _ _ hDH, ?_, Same.up (s.trans s4) hD, ?_⟩
      · rw [List.length_map]
        have h1 := List.length_filter_le p (es.take i)
        rw [List.length_take] at h1
        exact smallLt (by omega)
      · rw [upd_same, take_snoc he, List.filter_append, List.filter_cons, if_pos hp, List.filter_nil, List.map_append]
        rfl
    · refine ⟨s.trans s4, ?_⟩
      rw [s4 _ _ hDH, take_snoc he, List.filter_append, List.filter_cons, if_neg (by rw [hp]; exact Bool.false_ne_true), List.filter_nil, List.append_nil]
  · rw [List.length_map, List.take_length] at hDH
    exact fin H s hDH
end CN
end
section
set_option maxRecDepth 100000
set_option maxHeartbeats 4000000
namespace CN
open PySem PySem.Spec PyProof.Rows L2
section
variable {P : Program} {w : World} {K : PySem.W.Frag} {mg : Str → Option Value} {base : Heap} {CC CL CR CS : Addr}
def sp_are_notes : Sp := fun vs H Q _ => ∃ (a : Addr) (ns : List Int), vs = [.ref a] ∧ LI H a ns ∧ ns.length ≤ 70 ∧ ∀ H', Same H H' → Q (.bl (ns.all Sw69.noteOk)) H'
theorem ok_are_notes {f : Addr} {fd : FuncData} (F : Fun K "are_notes" "are_notes" s_are_notes f fd) (T : Tx K mg CC CL CR CS) : FnOk P w K mg base CX0 1 f fd ["numbers"] sp_are_notes := by
  refine F.ok sc_are_notes (fun vs H Q E h => ?_) (fun cdv A outer s H vs Q E hr h => ?_)
  · obtain ⟨a, ns, rfl, _⟩ := h
    rfl
  · obtain ⟨a, ns, rfl, h1, h2, k⟩ := h
    refine ⟨_, (pss_one (ps_ret (pe_callB (cr_all rfl) (by rfl) T.b_all boot_all (pa_cons (pe_lc (own := [("number", 1)]) rfl sc_are_notes.nd (pi_list (pv 0)) (blkOk_by (N := N_are_notes) (sc := defScope s_are_notes) (by decide +kernel)) (fun _ _ _ _ _ => (pg_name (i := 1) sc_are_notes.nd rfl (by first | exact Or.inl rfl | exact Or.inr rfl))) (fun _ _ _ _ _ => pts_nil) (fun _ _ _ _ _ => (pe_chain op_le op_le (pgI T.LOWEST_NOTE) (pv 1) (pgI T.HIGHEST_NOTE)))) pa_nil)))), ?_⟩
    refine ⟨_, rfl, a, rfl, ⟨_, SqL.of h1⟩, fun D hD => lc_map (es := ns) (ve := V.int) (fun n y _ => y = .bl (Sw69.noteOk n)) (SqL.of h1) hD (by omega) (fun _ _ _ _ r _ => r) (fun n H' acc Qk hn s hDH kq => ?_) (fun H' ys s hDH hp => ?_)⟩
    · refine ⟨rfl, _, rfl, _, _, rfl, rfl, _, rfl, ite2 (fun q => ⟨_, _, rfl, rfl, kq _ _ (Same.refl _) ?_⟩) (fun q => kq _ _ (Same.refl _) ?_)⟩
      · show V.bl _ = V.bl (decide (-20 ≤ n) && decide (n ≤ 20))
        rw [q, Bool.true_and]
      · show V.bl _ = V.bl (decide (-20 ≤ n) && decide (n ≤ 20))
        rw [Bool.eq_false_iff.mpr q, Bool.false_and]
    · refine ⟨D, ns.map Sw69.noteOk, rfl, SqL.of (hDH.trans (by rw [Paired.eq_map hp, List.map_map]; rfl)), ?_⟩
      rw [List.all_map]
      exact k H' s
end
end CN
end
section
set_option maxRecDepth 100000
set_option maxHeartbeats 4000000
namespace CN
open PySem PySem.Spec PyProof.Rows L2
section
variable {X : Cx} {K : PySem.W.Frag} {e : Expr} {f : Str} {pos : Pos} {ta : TE}
theorem op_notInK (h : X.K = K) : OpR X (compareOp .NotIn) (rIn K true) := h ▸ op_notIn_seq
theorem ix_tupK (h : X.K = K) : IxR X (rIxT K) := h ▸ ix_tup
theorem pg_tupK {es : List Expr} {k : Nat} {t : TGs} {n : Nat} (hK : X.K = K) (hc : X.calm = true) (h : PGs X es t)
    (hn : (assignEach es X.env).length = n := by rfl) (hst : (assignEach es X.env).findIdx? (·.1) = none := by rfl) : PG X (.Tuple es k pos) (gTup K n t) := hK ▸ pg_tup hc h hn hst
end
theorem Paired.zip_at {α β : Type} {R : α → β → Prop} {as : List α} {es : List β} (h : Paired R as es) {p : α × β} (hp : p ∈ as.zip es) : R p.1 p.2 ∧ p.2 ∈ es := by
  obtain ⟨i, hi, e⟩ := List.getElem_of_mem hp
  rw [List.length_zip] at hi
  have e1 : as[i]? = some p.1 := by rw [← e, List.getElem_zip, List.getElem?_eq_getElem (by omega)]
  have e2 : es[i]? = some p.2 := by rw [← e, List.getElem_zip, List.getElem?_eq_getElem (by omega)]
  obtain ⟨b, eb, hb⟩ := Paired.at1 h e2
  rw [e1] at eb
  cases eb
  exact ⟨hb, List.mem_of_getElem? e2⟩
theorem zip_refs {α : Type} {as : List Addr} {es : List α} (h : as.length = es.length) : (as.zip es).map (fun p => V.ref p.1) = as.map V.ref := by
  show (as.zip es).map (V.ref ∘ Prod.fst) = _
  rw [← List.map_map, List.map_fst_zip (by omega)]
theorem Paired.unzip {α β γ : Type} {R : β → γ → Prop} : ∀ {as : List α} {es : List β} {ys : List γ}, as.length = es.length → Paired (fun (p : α × β) y => R p.2 y) (as.zip es) ys → Paired R es ys
  | [], [], _, _, .nil => .nil
  | a :: as, e :: es, _, h, .cons r t => .cons r (Paired.unzip (by simpa using h) t)
  | [], _ :: _, _, h, _ => by simp at h
  | _ :: _, [], _, h, _ => by simp at h
theorem lc_mapR {α : Type} {R0 : Hp → Addr → α → Prop} {K : PySem.W.Frag} {a : Addr} {es : List α} {g : TG} {te : TE} {vs : List Nat} {σ : L2.St} {H1 : Hp} {D : Addr} {Qd : Hp → Prop} (R : α → V → Hp → Prop)
    (h : LL R0 H1 a es) (hD : H1 D = none) (hz : es.length ≤ 100000) (mono : ∀ e y H H', R e y H → Kp D H H' → R e y H')
    (step : ∀ (b : Addr) (e : α) (H : Hp) (acc : List V) (Qk : V → Hp → Prop), e ∈ es → R0 H1 b e → Same H1 H → H D = some (.lst acc) → (∀ y H', Same H H' → R e y H' → Qk y H') → g (.ref b) (wipe σ vs) H fun σ2 H2 => wipe σ2 vs = wipe σ vs ∧ te σ2 H2 Qk)
    (fin : ∀ (H' : Hp) (ys : List V), Same H1 H' → H' D = some (.lst ys) → Paired (fun e y => R e y H') es ys → Qd H') :
    ∃ W : Nat → Nat → Hp → Prop, (∃ m, W 0 m (upd H1 D (.lst []))) ∧ ∀ i m H, W i m H →
      ((Itl K a).stop i H ∧ Qd H) ∨ ((Itl K a).go i H ∧ ∃ Nx : Hp → Prop, (∀ H', Nx H' → ∃ m', m' < m ∧ W (i + 1) m' H') ∧ ∀ x H', (Itl K a).yld i H x H' → g x (wipe σ vs) H' fun σ2 H2 => wipe σ2 vs = wipe σ vs ∧ tYes σ2 H2 fun b H3 =>
        if b = true then te σ2 H3 fun y H4 => ∃ acc, H4 D = some (.lst acc) ∧ acc.length < sizeLine ∧ Nx (upd H4 D (.lst (acc ++ [y]))) else Nx H3) := by
  obtain ⟨as, h1, h2⟩ := h
  have hlen := Paired.length h2
  refine lc_map (es := as.zip es) (ve := fun p => V.ref p.1) (fun p y H => R p.2 y H) (by rw [zip_refs hlen]; exact SqL.of h1) hD (by rw [List.length_zip]; omega) (fun p y H H' r k => mono _ _ _ _ r k) (fun p H acc Qk hp s hDH kq => ?_) (fun H' ys s hDH hpy => fin H' ys s hDH (Paired.unzip hlen hpy))
  obtain ⟨hr, he⟩ := Paired.zip_at h2 hp
  exact step p.1 p.2 H acc Qk he hr s hDH kq
theorem filt_zip {α β : Type} (p : α → Bool) (f : α → β) : ∀ {as : List Addr} {es : List α}, as.length = es.length → ((as.zip es).filter fun q => p q.2).map (fun q => f q.2) = (es.filter p).map f
  | [], [], _ => rfl
  | a :: as, e :: es, h => by
    rw [List.zip_cons_cons, List.filter_cons, List.filter_cons]
    have ih := filt_zip p f (as := as) (es := es) (by simpa using h)
    by_cases q : p e = true
    · rw [if_pos q, if_pos q, List.map_cons, List.map_cons, ih]
    · rw [if_neg q, if_neg q, ih]
  | [], _ :: _, h => by simp at h
  | _ :: _, [], h => by simp at h
theorem lc_filtR {α : Type} {R0 : Hp → Addr → α → Prop} {K : PySem.W.Frag} {a : Addr} {es : List α} {g : TG} {tt : TT} {te : TE} {vs : List Nat} {σ : L2.St} {H1 : Hp} {D : Addr} {Qd : Hp → Prop} (p : α → Bool) (f : α → V)
    (h : LL R0 H1 a es) (hD : H1 D = none) (hz : es.length ≤ 100000)
    (step : ∀ (b : Addr) (e : α) (H : Hp) (Qk : V → Hp → Prop) (Qn : Hp → Prop), e ∈ es → R0 H1 b e → Same H1 H → (p e = true → ∀ H', Same H H' → Qk (f e) H') → (p e = false → ∀ H', Same H H' → Qn H') →
      g (.ref b) (wipe σ vs) H fun σ2 H2 => wipe σ2 vs = wipe σ vs ∧ tt σ2 H2 fun b H3 => if b = true then te σ2 H3 Qk else Qn H3)
    (fin : ∀ (H' : Hp), Same H1 H' → H' D = some (.lst ((es.filter p).map f)) → Qd H') :
    ∃ W : Nat → Nat → Hp → Prop, (∃ m, W 0 m (upd H1 D (.lst []))) ∧ ∀ i m H, W i m H →
      ((Itl K a).stop i H ∧ Qd H) ∨ ((Itl K a).go i H ∧ ∃ Nx : Hp → Prop, (∀ H', Nx H' → ∃ m', m' < m ∧ W (i + 1) m' H') ∧ ∀ x H', (Itl K a).yld i H x H' → g x (wipe σ vs) H' fun σ2 H2 => wipe σ2 vs = wipe σ vs ∧ tt σ2 H2 fun b H3 =>
        if b = true then te σ2 H3 fun y H4 => ∃ acc, H4 D = some (.lst acc) ∧ acc.length < sizeLine ∧ Nx (upd H4 D (.lst (acc ++ [y]))) else Nx H3) := by
  obtain ⟨as, h1, h2⟩ := h
  have hlen := Paired.length h2
  refine lc_filt (es := as.zip es) (ve := fun p => V.ref p.1) (fun q => p q.2) (fun q => f q.2) (by rw [zip_refs hlen]; exact SqL.of h1) hD (by rw [List.length_zip]; omega) (fun q H Qk Qn hq s k1 k2 => ?_) (fun H' s hDH => fin H' s (by rw [← filt_zip p f hlen]; exact hDH))
  obtain ⟨hr, he⟩ := Paired.zip_at h2 hq
  exact step q.1 q.2 H Qk Qn he hr s k1 k2
theorem for_refs {α : Type} {R0 : Hp → Addr → α → Prop} {K : PySem.W.Frag} {a : Addr} {es : List α} {g : TG} {tb : TS} {D : Ends} {σ : L2.St} {H H1 : Hp} (Pv : Nat → L2.St → Hp → Prop) (h : LL R0 H1 a es) (h0 : Pv 0 σ H) (keep : ∀ i σ H, Pv i σ H → Same H1 H)
    (turn : ∀ (i : Nat) (b : Addr) (e : α) (σ : L2.St) (H : Hp), es[i]? = some e → R0 H1 b e → Pv i σ H → g (.ref b) σ H fun σ2 H2 => tb { D with nx := Pv (i + 1), ct := Pv (i + 1), bk := D.nx } σ2 H2) (fin : ∀ σ H, Pv es.length σ H → D.nx σ H) :
    ∃ W : Nat → Nat → L2.St → Hp → Prop, (∃ m, W 0 m σ H) ∧ ∀ i m σ H, W i m σ H →
      ((Itl K a).stop i H ∧ D.nx σ H) ∨ ((Itl K a).go i H ∧ ∃ N : L2.St → Hp → Prop, (∀ σ' H', N σ' H' → ∃ m', m' < m ∧ W (i + 1) m' σ' H') ∧ ∀ x H', (Itl K a).yld i H x H' → g x σ H' fun σ2 H2 => tb { D with nx := N, ct := N, bk := D.nx } σ2 H2) := by
  obtain ⟨as, h1, h2⟩ := h
  have hlen := Paired.length h2
  refine for_list (xs := as.map V.ref) Pv h0 (fun i σ H _ hp => SqL.of (keep i σ H hp _ _ h1)) (fun i x σ H hx hp => ?_) (fun σ H hp => fin σ H (by rw [List.length_map, hlen] at hp; exact hp))
  obtain ⟨b, hb, rfl⟩ := map_at hx
  obtain ⟨hi, _⟩ := List.getElem?_eq_some_iff.mp hb
  have he : es[i]? = some (es[i]'(by omega)) := List.getElem?_eq_getElem _
  obtain ⟨b', hb', hr⟩ := Paired.at1 h2 he
  rw [hb] at hb'
  cases hb'
  exact turn i b _ σ H he hr hp
end CN
end
section
set_option maxRecDepth 100000
set_option maxHeartbeats 4000000
namespace CN
open PySem PySem.Spec PyProof.Rows L2
theorem erase_le : ∀ (n : Nat) (l : List Int), l.length ≤ n → l.eraseDups.length ≤ l.length
  | 0, l, h => by
    have e : l = [] := List.eq_nil_of_length_eq_zero (by omega)
    subst e
    exact Nat.le_refl _
  | n + 1, [], h => Nat.le_refl _
  | n + 1, a :: l, h => by
    rw [List.eraseDups_cons, List.length_cons, List.length_cons]
    have h1 := List.length_filter_le (fun b => !b == a) l
    rw [List.length_cons] at h
    have h2 := erase_le n (l.filter fun b => !b == a) (by omega)
    omega
theorem erase_nodup : ∀ (n : Nat) (l : List Int), l.length ≤ n → (l.eraseDups.length = l.length ↔ l.Nodup)
  | 0, l, h => by
    have e : l = [] := List.eq_nil_of_length_eq_zero (by omega)
    subst e
    simp
  | n + 1, [], h => by simp
  | n + 1, a :: l, h => by
    rw [List.eraseDups_cons, List.length_cons, List.length_cons, List.nodup_cons]
    rw [List.length_cons] at h
    have h1 := List.length_filter_le (fun b => !b == a) l
    have h2 := erase_le n (l.filter fun b => !b == a) (by omega)
    by_cases hm : a ∈ l
    · have h3 : (l.filter fun b => !b == a).length < l.length := List.length_filter_lt_length_iff_exists.mpr ⟨a, hm, by simp⟩
      exact ⟨fun e => by omega, fun e => absurd hm e.1⟩
    · have e : (l.filter fun b => !b == a) = l := List.filter_eq_self.mpr fun b hb => by
        have : ¬ b = a := fun q => hm (q ▸ hb)
        simp [this]
      rw [e]
      have ih := erase_nodup n l (by omega)
      exact ⟨fun q => ⟨hm, ih.mp (by omega)⟩, fun q => by rw [ih.mpr q.2]⟩
theorem apart_iff (l : List Int) : Sw69.apart l = true ↔ l.Nodup := by
  unfold Sw69.apart
  rw [decide_eq_true_iff]
  exact erase_nodup l.length l (Nat.le_refl _)
theorem apart_dd (l : List Int) : decide (V.int ((dd l).length : Nat) = V.int ((l.map V.int).length : Nat)) = Sw69.apart l := by
  rw [List.length_map]
  cases e : Sw69.apart l with
  | true =>
    rw [(dd_nodup l).mpr ((apart_iff l).mp e)]
    exact decide_eq_true rfl
  | false =>
    refine decide_eq_false fun q => ?_
    injection q with q
    have : l.Nodup := (dd_nodup l).mp (by omega)
    rw [(apart_iff l).mpr this] at e
    cases e
section
variable {P : Program} {w : World} {K : PySem.W.Frag} {mg : Str → Option Value} {base : Heap} {CC CL CR CS : Addr}
def spB (p : List Int → Bool) : Sp := fun vs H Q _ => ∃ (a : Addr) (ns : List Int), vs = [.ref a] ∧ LI H a ns ∧ ns.length ≤ 70 ∧ ∀ H', Same H H' → Q (.bl (p ns)) H'
def difP (ns : List Int) : Bool := ns.all Sw69.noteOk && Sw69.apart ns
def begP (ns : List Int) : Bool := decide (0 < ns.length) && (decide (ns.getD 0 0 = 0) && difP ns)
theorem ok_dif {f : Addr} {fd : FuncData} (F : Fun K "are_different_notes" "are_different_notes" s_are_different_notes f fd) (T : Tx K mg CC CL CR CS) (c_are_notes : Cal P w K mg base 1 "are_notes" ["numbers"] sp_are_notes) : FnOk P w K mg base CX0 2 f fd ["numbers"] (spB difP) := by
  refine F.ok sc_are_different_notes (fun vs H Q E h => ?_) (fun cdv A outer s H vs Q E hr h => ?_)
  · obtain ⟨a, ns, rfl, _⟩ := h
    rfl
  · obtain ⟨a, ns, rfl, h1, h2, k⟩ := h
    refine ⟨_, (pss_one (ps_ret (pe_and (pcl c_are_notes (hr.mono (by decide)) (pa_cons (pv 0) pa_nil)) (pe_one (pe_cmpR op_eq (pe_callB call_lenS (by rfl) T.b_len PySem.boot_len (pa_cons (pe_callTy (call_setI rfl) (by rfl) T.b_set boot_set (pa_cons (pv 0) pa_nil)) pa_nil)) (pe_callB call_len_seq (by rfl) T.b_len PySem.boot_len (pa_cons (pv 0) pa_nil)) (nomark _)))))), ?_⟩
    refine ⟨_, rfl, a, ns, rfl, h1, h2, fun H1 s1 => ⟨_, rfl, ite2 (fun q => ?_) (fun q => ?_)⟩⟩
    · refine ⟨_, rfl, a, ns, rfl, SqL.of (s1 _ _ h1), by omega, fun p hp => ⟨p, _, _, rfl, upd_same, _, rfl, a, _, rfl, .inl (SqL.of (Same.nw s1 hp _ _ h1)), rfl, ?_⟩⟩
      have e := k _ (Same.nw s1 hp (o := .set (fun k => (dd ns).any (· == k)) (dd ns).length))
      unfold difP at e
      rw [q, Bool.true_and, ← apart_dd] at e
      exact e
    · have e := k _ s1
      unfold difP at e
      rw [Bool.eq_false_iff.mpr q, Bool.false_and] at e
      exact e
theorem ok_beg {f : Addr} {fd : FuncData} (F : Fun K "begins_at_root" "begins_at_root" s_begins_at_root f fd) (T : Tx K mg CC CL CR CS) (c_are_different_notes : Cal P w K mg base 2 "are_different_notes" ["numbers"] (spB difP)) : FnOk P w K mg base CX0 3 f fd ["numbers"] (spB begP) := by
  refine F.ok sc_begins_at_root (fun vs H Q E h => ?_) (fun cdv A outer s H vs Q E hr h => ?_)
  · obtain ⟨a, ns, rfl, _⟩ := h
    rfl
  · obtain ⟨a, ns, rfl, h1, h2, k⟩ := h
    refine ⟨_, (pss_one (ps_ret (pe_and (pe_cmpR op_gt (pe_callB call_len_seq (by rfl) T.b_len PySem.boot_len (pa_cons (pv 0) pa_nil)) pe_int (nomark _)) (pe_and (pe_cmpR op_eq (pe_ix ix_list (pv 0) pe_int (fun _ _ => rfl)) pe_int (nomark _)) (pe_one (pcl c_are_different_notes (hr.mono (by decide)) (pa_cons (pv 0) pa_nil))))))), ?_⟩
    refine ⟨_, rfl, a, _, rfl, .inl (SqL.of h1), _, _, rfl, rfl, _, rfl, ite2 (fun q => ?_) (fun q => ?_)⟩
    · have q1 : 0 < ns.length := by
        have := of_decide_eq_true q
        rw [List.length_map] at this
        omega
      obtain ⟨n, r, rfl⟩ : ∃ n r, ns = n :: r := by
        cases ns with
        | nil => simp at q1
        | cons n r => exact ⟨n, r, rfl⟩
      refine ⟨_, rfl, a, _, _, _, rfl, rfl, SqL.of h1, atI_nat (j := 0) rfl, rfl, _, rfl, ite2 (fun q2 => ?_) (fun q2 => ?_)⟩
      · refine ⟨_, rfl, a, _, rfl, h1, h2, fun H1 s1 => ?_⟩
        have e := k _ s1
        unfold begP at e
        have z : n = 0 := by
          have := of_decide_eq_true q2
          injection this
        rw [decide_eq_true q1, Bool.true_and, show (n :: r).getD 0 0 = 0 from z, decide_eq_true rfl, Bool.true_and] at e
        exact e
      · have e := k _ (Same.refl _)
        unfold begP at e
        have z : ¬ n = 0 := fun z => q2 (decide_eq_true (by rw [z]))
        rw [decide_eq_true q1, Bool.true_and, show decide ((n :: r).getD 0 0 = 0) = false from decide_eq_false z, Bool.false_and] at e
        exact e
    · have q1 : ¬ 0 < ns.length := fun z => q (decide_eq_true (by rw [List.length_map]; omega))
      have e := k _ (Same.refl _)
      unfold begP at e
      rw [decide_eq_false q1, Bool.false_and] at e
      exact e
theorem chordOk_eq (ns : List Int) : Sw69.chordOk ns = (decide (1 ≤ ns.length) && (decide (ns.length ≤ 8) && difP ns)) := by
  unfold Sw69.chordOk difP
  rw [Bool.and_comm (Sw69.apart ns)]
theorem head_beg (ns : List Int) : (ns.head? == some 0) = (decide (0 < ns.length) && decide (ns.getD 0 0 = 0)) := by
  cases ns with
  | nil => rfl
  | cons n r =>
    show (some n == some 0) = (decide (0 < r.length + 1) && decide (n = 0))
    rw [decide_eq_true (Nat.succ_pos _), Bool.true_and]
    by_cases e : n = 0
    · subst e; rfl
    · rw [decide_eq_false e]
      exact beq_eq_false_iff_ne.mpr fun q => e (Option.some.inj q)
theorem kindOk_eq (ns : List Int) : Sw69.kindOk ns = (decide (ns.length ≤ 6) && begP ns) := by
  unfold Sw69.kindOk begP difP
  rw [head_beg]
  cases decide (0 < ns.length) <;> cases decide (ns.getD 0 0 = 0) <;> cases decide (ns.length ≤ 6) <;> cases Sw69.apart ns <;> cases ns.all Sw69.noteOk <;> rfl
theorem modeOk_eq (ns : List Int) : Sw69.modeOk ns = (decide (ns.length = 7) && begP ns) := by
  unfold Sw69.modeOk begP difP
  rw [head_beg]
  cases decide (0 < ns.length) <;> cases decide (ns.getD 0 0 = 0) <;> cases decide (ns.length = 7) <;> cases Sw69.apart ns <;> cases ns.all Sw69.noteOk <;> rfl
theorem ok_chord {f : Addr} {fd : FuncData} (F : Fun K "is_chord" "is_chord" s_is_chord f fd) (T : Tx K mg CC CL CR CS) (c_are_different_notes : Cal P w K mg base 2 "are_different_notes" ["numbers"] (spB difP)) : FnOk P w K mg base CX0 3 f fd ["numbers"] (spB Sw69.chordOk) := by
  refine F.ok sc_is_chord (fun vs H Q E h => ?_) (fun cdv A outer s H vs Q E hr h => ?_)
  · obtain ⟨a, ns, rfl, _⟩ := h
    rfl
  · obtain ⟨a, ns, rfl, h1, h2, k⟩ := h
    refine ⟨_, (pss_one (ps_ret (pe_and (pe_chain op_le op_le pe_int (pe_callB call_len_seq (by rfl) T.b_len PySem.boot_len (pa_cons (pv 0) pa_nil)) (pgI T.MOST_CHORD_NOTES)) (pe_one (pcl c_are_different_notes (hr.mono (by decide)) (pa_cons (pv 0) pa_nil)))))), ?_⟩
    refine ⟨_, rfl, a, _, rfl, .inl (SqL.of h1), _, _, rfl, rfl, _, rfl, ite2 (fun q => ⟨_, _, rfl, rfl, _, rfl, ite2 (fun q2 => ?_) (fun q2 => ?_)⟩) (fun q => ⟨_, rfl, iteF ?_⟩)⟩
    · refine ⟨_, rfl, a, _, rfl, h1, h2, fun H1 s1 => ?_⟩
      have e := k _ s1
      have q' := of_decide_eq_true q
      have q2' := of_decide_eq_true q2
      rw [List.length_map] at q' q2'
      rw [chordOk_eq, decide_eq_true (show 1 ≤ ns.length by omega), decide_eq_true (show ns.length ≤ 8 by omega), Bool.true_and, Bool.true_and] at e
      exact e
    · have e := k _ (Same.refl _)
      have q2' : ¬ ns.length ≤ 8 := fun z => q2 (decide_eq_true (by rw [List.length_map]; omega))
      rw [chordOk_eq, decide_eq_false q2', Bool.false_and, Bool.and_false] at e
      exact e
    · have e := k _ (Same.refl _)
      have q' : ¬ 1 ≤ ns.length := fun z => q (decide_eq_true (by rw [List.length_map]; omega))
      rw [chordOk_eq, decide_eq_false q', Bool.false_and] at e
      exact e
theorem ok_kind {f : Addr} {fd : FuncData} (F : Fun K "is_kind" "is_kind" s_is_kind f fd) (T : Tx K mg CC CL CR CS) (c_begins_at_root : Cal P w K mg base 3 "begins_at_root" ["numbers"] (spB begP)) : FnOk P w K mg base CX0 4 f fd ["numbers"] (spB Sw69.kindOk) := by
  refine F.ok sc_is_kind (fun vs H Q E h => ?_) (fun cdv A outer s H vs Q E hr h => ?_)
  · obtain ⟨a, ns, rfl, _⟩ := h
    rfl
  · obtain ⟨a, ns, rfl, h1, h2, k⟩ := h
    refine ⟨_, (pss_one (ps_ret (pe_and (pe_cmpR op_le (pe_callB call_len_seq (by rfl) T.b_len PySem.boot_len (pa_cons (pv 0) pa_nil)) (pgI T.MOST_KIND_NOTES) (nomark _)) (pe_one (pcl c_begins_at_root (hr.mono (by decide)) (pa_cons (pv 0) pa_nil)))))), ?_⟩
    refine ⟨_, rfl, a, _, rfl, .inl (SqL.of h1), _, _, rfl, rfl, _, rfl, ite2 (fun q => ?_) (fun q => ?_)⟩
    · refine ⟨_, rfl, a, _, rfl, h1, h2, fun H1 s1 => ?_⟩
      have e := k _ s1
      have q' := of_decide_eq_true q
      rw [List.length_map] at q'
      rw [kindOk_eq, decide_eq_true (show ns.length ≤ 6 by omega), Bool.true_and] at e
      exact e
    · have e := k _ (Same.refl _)
      have q' : ¬ ns.length ≤ 6 := fun z => q (decide_eq_true (by rw [List.length_map]; omega))
      rw [kindOk_eq, decide_eq_false q', Bool.false_and] at e
      exact e
theorem ok_mode {f : Addr} {fd : FuncData} (F : Fun K "is_mode" "is_mode" s_is_mode f fd) (T : Tx K mg CC CL CR CS) (c_begins_at_root : Cal P w K mg base 3 "begins_at_root" ["numbers"] (spB begP)) : FnOk P w K mg base CX0 4 f fd ["numbers"] (spB Sw69.modeOk) := by
  refine F.ok sc_is_mode (fun vs H Q E h => ?_) (fun cdv A outer s H vs Q E hr h => ?_)
  · obtain ⟨a, ns, rfl, _⟩ := h
    rfl
  · obtain ⟨a, ns, rfl, h1, h2, k⟩ := h
    refine ⟨_, (pss_one (ps_ret (pe_and (pe_cmpR op_eq (pe_callB call_len_seq (by rfl) T.b_len PySem.boot_len (pa_cons (pv 0) pa_nil)) (pgI T.MODE_NOTES) (nomark _)) (pe_one (pcl c_begins_at_root (hr.mono (by decide)) (pa_cons (pv 0) pa_nil)))))), ?_⟩
    refine ⟨_, rfl, a, _, rfl, .inl (SqL.of h1), rfl, _, rfl, ite2 (fun q => ?_) (fun q => ?_)⟩
    · refine ⟨_, rfl, a, _, rfl, h1, h2, fun H1 s1 => ?_⟩
      have e := k _ s1
      have q' := of_decide_eq_true q
      injection q' with q'
      rw [List.length_map] at q'
      rw [modeOk_eq, decide_eq_true (show ns.length = 7 by omega), Bool.true_and] at e
      exact e
    · have e := k _ (Same.refl _)
      have q' : ¬ ns.length = 7 := fun z => q (decide_eq_true (by rw [List.length_map, z]; rfl))
      rw [modeOk_eq, decide_eq_false q', Bool.false_and] at e
      exact e
def spBs (p : List (List Int) → Bool) : Sp := fun vs H Q _ => ∃ (a : Addr) (rs : List (List Int)), vs = [.ref a] ∧ RL H a rs ∧ rs.length ≤ 70 ∧ (∀ r ∈ rs, r.length ≤ 70) ∧ ∀ H', Same H H' → Q (.bl (p rs)) H'
theorem ok_chords {f : Addr} {fd : FuncData} (F : Fun K "are_chords" "are_chords" s_are_chords f fd) (T : Tx K mg CC CL CR CS) (c_is_chord : Cal P w K mg base 3 "is_chord" ["numbers"] (spB Sw69.chordOk)) : FnOk P w K mg base CX0 4 f fd ["rows"] (spBs fun l => decide (l.length ≤ 12) && l.all Sw69.chordOk) := by
  refine F.ok sc_are_chords (fun vs H Q E h => ?_) (fun cdv A outer s H vs Q E hr h => ?_)
  · obtain ⟨a, ns, rfl, _⟩ := h
    rfl
  · obtain ⟨a, rs, rfl, h1, h2, h3, k⟩ := h
    obtain ⟨as, ha, hp⟩ := id h1
    have hl : as.length = rs.length := Paired.length hp
    refine ⟨_, (pss_one (ps_ret (pe_and (pe_cmpR op_le (pe_callB call_len_seq (by rfl) T.b_len PySem.boot_len (pa_cons (pv 0) pa_nil)) (pgI T.MOST_CHORDS) (nomark _)) (pe_one (pe_callB (cr_all rfl) (by rfl) T.b_all boot_all (pa_cons (pe_lc (own := [("row", 1)]) rfl sc_are_chords.nd (pi_list (pv 0)) (blkOk_by (N := N_are_chords) (sc := defScope s_are_chords) (by decide +kernel)) (fun _ _ _ _ _ => (pg_name (i := 1) sc_are_chords.nd rfl (by first | exact Or.inl rfl | exact Or.inr rfl))) (fun _ _ _ _ _ => pts_nil) (fun _ _ _ _ _ => (pcl c_is_chord (hr.mono (by decide)) (pa_cons (pv 1) pa_nil)))) pa_nil)))))), ?_⟩
    refine ⟨_, rfl, a, _, rfl, .inl (SqL.of ha), _, _, rfl, rfl, _, rfl, ite2 (fun q => ?_) (fun q => ?_)⟩
    · refine ⟨_, rfl, a, rfl, ⟨_, SqL.of ha⟩, fun D hD => lc_mapR (R0 := LI) (es := rs) (fun r y _ => y = .bl (Sw69.chordOk r)) h1 hD (by omega) (fun _ _ _ _ r _ => r) (fun b r H' acc Qk hm hb s hDH kq => ?_) (fun H' ys s hDH hpy => ?_)⟩
      · exact ⟨rfl, _, rfl, b, r, rfl, s _ _ hb, h3 _ hm, fun H2 s2 => kq _ _ s2 rfl⟩
      · refine ⟨D, rs.map Sw69.chordOk, rfl, SqL.of (hDH.trans (by rw [Paired.eq_map hpy, List.map_map]; rfl)), ?_⟩
        have q' := of_decide_eq_true q
        rw [List.length_map] at q'
        have e := k H' s
        dsimp only at e
        rw [decide_eq_true (show rs.length ≤ 12 by omega), Bool.true_and] at e
        rw [List.all_map]
        exact e
    · have e := k _ (Same.refl _)
      have q' : ¬ rs.length ≤ 12 := fun z => q (decide_eq_true (by rw [List.length_map]; omega))
      dsimp only at e
      rw [decide_eq_false q', Bool.false_and] at e
      exact e
end
end CN
end
section
set_option maxRecDepth 100000
set_option maxHeartbeats 4000000
namespace CN
open PySem PySem.Spec PyProof.Rows L2
theorem idx_at : ∀ {ns : List Int} {z : Int}, z ∈ ns → ns[ns.idxOf z]? = some z
  | [], z, h => by simp at h
  | n :: r, z, h => by
    rw [List.idxOf_cons]
    by_cases e : n = z
    · subst e
      simp
    · rw [beq_eq_false_iff_ne.mpr e]
      have h' : z ∈ r := (List.mem_cons.mp h).resolve_left fun q => e q.symm
      show (n :: r)[r.idxOf z + 1]? = some z
      rw [List.getElem?_cons_succ]
      exact idx_at h'
theorem idx_lt : ∀ {ns : List Int} {z : Int} {m : Nat} {y : Int}, m < ns.idxOf z → ns[m]? = some y → y ≠ z
  | [], z, m, y, h, e => by simp at e
  | n :: r, z, m, y, h, e => by
    rw [List.idxOf_cons] at h
    by_cases q : n = z
    · subst q
      simp at h
    · rw [beq_eq_false_iff_ne.mpr q] at h
      have h : m < r.idxOf z + 1 := h
      cases m with
      | zero =>
        have := Option.some.inj e
        rw [← this]
        exact q
      | succ m => exact idx_lt (ns := r) (m := m) (by omega) e
section
variable {P : Program} {w : World} {K : PySem.W.Frag} {mg : Str → Option Value} {base : Heap} {CC CL CR CS : Addr}
def sp_place_in : Sp := fun vs H Q _ => ∃ (a : Addr) (ns : List Int) (z : Int), vs = [.ref a, .int z] ∧ LI H a ns ∧ Q (.int (ns.idxOf z : Nat)) H
theorem ok_place_in {f : Addr} {fd : FuncData} (F : Fun K "place_in" "place_in" s_place_in f fd) (T : Tx K mg CC CL CR CS) : FnOk P w K mg base CX0 1 f fd ["numbers", "number"] sp_place_in := by
  refine F.ok sc_place_in (fun vs H Q E h => ?_) (fun cdv A outer s H vs Q E hr h => ?_)
  · obtain ⟨a, ns, z, rfl, _⟩ := h
    rfl
  · obtain ⟨a, ns, z, rfl, h1, k⟩ := h
    refine ⟨_, (pss_cons (ps_if (pt_cmpR op_in_seq (pv 1) (pv 0) (by with_unfolding_all rfl)) (pss_one (ps_ret (pe_bm PySem.F.plainAttrs_list PySem.F.slot_list_index PySem.F.type_list_index mt_index (pv 0) (pa_cons (pv 1) pa_nil)))) pss_nil) (pss_one (ps_ret (pe_callB call_len_seq (by rfl) T.b_len PySem.boot_len (pa_cons (pv 0) pa_nil))))), ?_⟩
    refine ⟨_, rfl, _, rfl, a, _, rfl, .inl (SqL.of h1), rfl, flat_ints _, _, rfl, ite2 (fun q => ?_) (fun q => ?_)⟩
    · have q' : inV (.int z) (ns.map V.int) = true := q
      rw [inV_ints] at q'
      have hm : z ∈ ns := by simpa using q'
      refine ⟨_, rfl, .inl ⟨rfl, _, SqL.of h1⟩, _, rfl, a, _, _, ns.idxOf z, .int z, rfl, rfl, SqL.of h1, rfl, flat_ints _, by rw [List.getElem?_map, idx_at hm]; rfl, by show (z == z) = true; simp, fun m z' hlt he => ?_, k⟩
      obtain ⟨y, hy, rfl⟩ := map_at he
      exact beq_eq_false_iff_ne.mpr (idx_lt hlt hy)
    · have q' : ¬ inV (.int z) (ns.map V.int) = true := q
      rw [inV_ints] at q'
      have hm : z ∉ ns := by simpa using q'
      refine ⟨_, rfl, a, _, rfl, .inl (SqL.of h1), ?_⟩
      rw [List.idxOf_eq_length hm] at k
      rw [List.length_map]
      exact k
def sp_with_count : Sp := fun vs H Q _ => ∃ (a : Addr) (ns : List Int), vs = [.ref a] ∧ LI H a ns ∧ ns.length < sizeLine ∧ ∀ H' p, Same H H' → H p = none → LI H' p ((ns.length : Int) :: ns) → Q (.ref p) H'
theorem ok_with_count {f : Addr} {fd : FuncData} (F : Fun K "with_count" "with_count" s_with_count f fd) (T : Tx K mg CC CL CR CS) : FnOk P w K mg base CX0 1 f fd ["numbers"] sp_with_count := by
  refine F.ok sc_with_count (fun vs H Q E h => ?_) (fun cdv A outer s H vs Q E hr h => ?_)
  · obtain ⟨a, ns, rfl, _⟩ := h
    rfl
  · obtain ⟨a, ns, rfl, h1, h2, k⟩ := h
    refine ⟨_, (pss_one (ps_ret (pe_op op_cat (pe_lst (pa_cons (pe_callB call_len_seq (by rfl) T.b_len PySem.boot_len (pa_cons (pv 0) pa_nil)) pa_nil)) (pv 0)))), ?_⟩
    refine ⟨_, rfl, a, _, rfl, .inl (SqL.of h1), (by show 1 ≤ sizeLine; decide), fun l hl => ⟨_, rfl, l, a, _, _, rfl, rfl, upd_same, Same.nw (Same.refl _) hl _ _ h1, ?_, fun p hp => ?_⟩⟩
    · show 1 + (ns.map V.int).length ≤ sizeLine
      rw [List.length_map]
      omega
    · refine k _ p (Same.nw (Same.nw (Same.refl _) hl) hp) (Same.free (Same.nw (Same.refl H) hl) hp) ?_
      show upd _ p _ p = _
      rw [upd_same, List.length_map]
      rfl
def sp_shown_name : Sp := fun vs H Q _ => ∃ (a : Addr) (n : Sw69.Name), vs = [.ref a] ∧ TI H a (nm4 n) ∧ ∀ H' p, Same H H' → H p = none → LI H' p (Sw69.nameOut n) → Q (.ref p) H'
theorem ok_shown_name {f : Addr} {fd : FuncData} (F : Fun K "shown_name" "shown_name" s_shown_name f fd) (T : Tx K mg CC CL CR CS) : FnOk P w K mg base CX0 1 f fd ["name"] sp_shown_name := by
  refine F.ok sc_shown_name (fun vs H Q E h => ?_) (fun cdv A outer s H vs Q E hr h => ?_)
  · obtain ⟨a, n, rfl, _⟩ := h
    rfl
  · obtain ⟨a, n, rfl, h1, k⟩ := h
    refine ⟨_, (pss_one (ps_ret (pe_lst (pa_cons (pe_ix ix_tup (pv 0) pe_int (fun _ _ => rfl)) (pa_cons (pe_ix ix_tup (pv 0) pe_int (fun _ _ => rfl)) (pa_cons (pe_ix ix_tup (pv 0) pe_int (fun _ _ => rfl)) (pa_cons (pe_ix ix_tup (pv 0) pe_int (fun _ _ => rfl)) pa_nil))))))), ?_⟩
    refine ⟨_, rfl, a, _, _, _, rfl, rfl, SqT.of h1, atI_nat (j := 1) rfl, _, rfl, a, _, _, _, rfl, rfl, SqT.of h1, atI_nat (j := 2) rfl, _, rfl, a, _, _, _, rfl, rfl, SqT.of h1, atI_nat (j := 3) rfl, _, rfl, a, _, _, _, rfl, rfl, SqT.of h1, atI_nat (j := 0) rfl,
      (by show 4 ≤ sizeLine; decide), fun p hp => k _ p (Same.nw (Same.refl _) hp) hp upd_same⟩
def sp_name_of (CC CL : Addr) : Sp := fun vs H Q _ => ∃ (la ca : Addr) (st : Sw69.St) (c : List Int) (root : Int) (i : Nat) (k : List Int), vs = [.ref la, .ref ca, .int root, .int i] ∧ LineAt CC CL H la st ∧ LI H ca c ∧ c ≠ [] ∧ c.length ≤ 8 ∧
  st.kinds[i]? = some k ∧ ∀ H' p, Same H H' → H p = none → TI H' p (nm4 (Sw69.named st c root i k)) → Q (.ref p) H'
theorem cost_eq (a b m e t : Nat) : (a : Int) * m + (b : Int) * e + t = ((m * a + (e * b + t) : Nat) : Int) := by
  push_cast
  rw [Int.mul_comm (a : Int), Int.mul_comm (b : Int)]
  omega
theorem ok_name_of {f : Addr} {fd : FuncData} (F : Fun K "name_of" "name_of" s_name_of f fd) (T : Tx K mg CC CL CR CS) (c_place_in : Cal P w K mg base 1 "place_in" ["numbers", "number"] sp_place_in) : FnOk P w K mg base CX0 2 f fd ["line", "chord", "root", "kind"] (sp_name_of CC CL) := by
  refine F.ok sc_name_of (fun vs H Q E h => ?_) (fun cdv A outer s H vs Q E hr h => ?_)
  · obtain ⟨la, ca, st, c, root, i, k, rfl, _⟩ := h
    rfl
  · obtain ⟨la, ca, st, c, root, i, k, rfl, hL, hc, hne, hc8, hk, kq⟩ := h
    obtain ⟨dx, ka, ma, co, hla, hka, hma, hco, ok⟩ := id hL
    obtain ⟨dc, tb, hco1, htb⟩ := id hco
    obtain ⟨kas, hka1, hka2⟩ := id hka
    obtain ⟨kb, hkb1, hkb⟩ := Paired.at1 hka2 hk
    obtain ⟨c0, cr, rfl⟩ : ∃ c0 cr, c = c0 :: cr := by
      cases c with
      | nil => exact absurd rfl hne
      | cons n r => exact ⟨n, r, rfl⟩
    have k6 : k.length ≤ 6 := ok.kd k (List.mem_of_getElem? hk)
    have e1 := ok.miss
    have e2 := ok.extra
    refine ⟨_, (pss_cons (ps_set (i := 4) sc_name_of.nd rfl (by first | exact Or.inl rfl | exact Or.inr rfl) (pe_ix ix_list (pe_fld (pv 0) rfl) (pv 3) (fun _ _ => rfl))) (pss_cons (ps_setLc (i := 5) (own := [("note", 8)]) rfl sc_name_of.nd rfl rfl (sw_true rfl rfl rfl rfl) (pi_list (pv 4)) (blkOk_by (N := N_name_of) (sc := defScope s_name_of) (by decide +kernel)) (fun _ _ _ _ _ => (pg_name (i := 8) sc_name_of.nd rfl (by first | exact Or.inl rfl | exact Or.inr rfl))) (fun _ _ _ _ _ => pts_one (pt_cmpR (op_notInK (K := K) rfl) (pe_op op_add (pv 2) (pv 8)) (pv 1) (by with_unfolding_all rfl))) (fun _ _ _ _ _ => (pv 8))) (pss_cons (ps_setLc (i := 6) (own := [("note", 8)]) rfl sc_name_of.nd rfl rfl (sw_true rfl rfl rfl rfl) (pi_list (pv 1)) (blkOk_by (N := N_name_of) (sc := defScope s_name_of) (by decide +kernel)) (fun _ _ _ _ _ => (pg_name (i := 8) sc_name_of.nd rfl (by first | exact Or.inl rfl | exact Or.inr rfl))) (fun _ _ _ _ _ => pts_one (pt_cmpR (op_notInK (K := K) rfl) (pe_op op_sub (pv 8) (pv 2)) (pv 4) (by with_unfolding_all rfl))) (fun _ _ _ _ _ => (pv 8))) (pss_cons (ps_set (i := 7) sc_name_of.nd rfl (by first | exact Or.inl rfl | exact Or.inr rfl) (pe_op op_add (pe_op op_mul (pe_callB call_len_seq (by rfl) T.b_len PySem.boot_len (pa_cons (pv 5) pa_nil)) (pe_fld (pe_fld (pv 0) rfl) rfl)) (pe_op op_mul (pe_callB call_len_seq (by rfl) T.b_len PySem.boot_len (pa_cons (pv 6) pa_nil)) (pe_fld (pe_fld (pv 0) rfl) rfl)))) (pss_cons (ps_if (pt_cmpR op_ne (pe_ix ix_list (pv 1) pe_int (fun _ _ => rfl)) (pv 2) (nomark _)) (pss_one (ps_aug (i := 7) sc_name_of.nd rfl (by first | exact Or.inl rfl | exact Or.inr rfl) (pe_fld (pe_fld (pv 0) rfl) rfl) ip_add)) pss_nil) (pss_one (ps_ret (pe_tup (pa_cons (pv 7) (pa_cons (pv 2) (pa_cons (pv 3) (pa_cons (pcl c_place_in (hr.mono (by decide)) (pa_cons (pv 4) (pa_cons (pe_op op_sub (pe_ix ix_list (pv 1) pe_int (fun _ _ => rfl)) (pv 2)) pa_nil))) pa_nil)))))))))))), ?_⟩
    refine ⟨_, rfl, la, CL, dx, _, _, rfl, hla, T.clL, T.n_kinds, lF_kinds, _, rfl, ka, _, _, _, rfl, rfl, SqL.of hka1, atI_nat (j := i) (v := V.ref kb) (by rw [List.getElem?_map, hkb1]; rfl), ?_⟩
    refine ⟨_, rfl, kb, rfl, ⟨_, SqL.of hkb⟩, fun D1 hD1 => lc_filt (es := k) (ve := V.int) (fun o => !(c0 :: cr).contains (root + o)) V.int (SqL.of hkb) hD1 (by omega) (fun o H' Qk Qn ho s k1 k2 => ?_) (fun H1 s1 hm1 => ?_)⟩
    · refine ⟨rfl, _, rfl, _, rfl, _, _, rfl, rfl, _, rfl, ca, _, rfl, .inl (SqL.of (s _ _ hc)), rfl, flat_ints _, _, rfl, ite2 (fun q => ⟨_, rfl, k1 ?_ _ (Same.refl _)⟩) (fun q => k2 ?_ _ (Same.refl _))⟩
      · have q' : (!inV (.int (root + o)) ((c0 :: cr).map V.int)) = true := q
        rw [inV_ints] at q'
        exact q'
      · have q' : ¬ (!inV (.int (root + o)) ((c0 :: cr).map V.int)) = true := q
        rw [inV_ints] at q'
        exact Bool.eq_false_iff.mpr q'
    refine ⟨_, rfl, ca, rfl, ⟨_, SqL.of (s1 _ _ hc)⟩, fun D2 hD2 => lc_filt (es := c0 :: cr) (ve := V.int) (fun x => !k.contains (x - root)) V.int (SqL.of (s1 _ _ hc)) hD2 (by omega) (fun o H' Qk Qn ho s k1 k2 => ?_) (fun H2 s2 hm2 => ?_)⟩
    · refine ⟨rfl, _, rfl, _, rfl, _, _, rfl, rfl, _, rfl, kb, _, rfl, .inl (SqL.of (s _ _ (s1 _ _ hkb))), rfl, flat_ints _, _, rfl, ite2 (fun q => ⟨_, rfl, k1 ?_ _ (Same.refl _)⟩) (fun q => k2 ?_ _ (Same.refl _))⟩
      · have q' : (!inV (.int (o - root)) (k.map V.int)) = true := q
        rw [inV_ints] at q'
        exact q'
      · have q' : ¬ (!inV (.int (o - root)) (k.map V.int)) = true := q
        rw [inV_ints] at q'
        exact Bool.eq_false_iff.mpr q'
    have s02 : Same H H2 := s1.trans s2
    have m1 := s2 _ _ hm1
    refine ⟨_, rfl, D1, _, rfl, .inl (SqL.of m1), _, rfl, la, CL, dx, _, _, rfl, s02 _ _ hla, T.clL, T.n_costs, lF_costs, co, CC, dc, _, _, rfl, s02 _ _ hco1, T.clC, T.n_miss, cF_miss, _, _, rfl, rfl, .inr ⟨by omega, by omega⟩,
      _, rfl, D2, _, rfl, .inl (SqL.of hm2), _, rfl, la, CL, dx, _, _, rfl, s02 _ _ hla, T.clL, T.n_costs, lF_costs, co, CC, dc, _, _, rfl, s02 _ _ hco1, T.clC, T.n_extra, cF_extra, _, _, rfl, rfl, .inr ⟨by omega, by omega⟩, _, _, rfl, rfl, ?_⟩
    refine ⟨_, rfl, ca, _, _, _, rfl, rfl, SqL.of (s02 _ _ hc), atI_nat (j := 0) rfl, _, rfl, rfl, _, rfl, ite2 (fun q => ?_) (fun q => ?_)⟩
    · have q' : ¬ c0 = root := fun z => by
        rw [z] at q
        simp at q
      refine ⟨_, rfl, _, rfl, la, CL, dx, _, _, rfl, s02 _ _ hla, T.clL, T.n_costs, lF_costs, co, CC, dc, _, _, rfl, s02 _ _ hco1, T.clC, T.n_turned, cF_turned, _, _, rfl, rfl, ?_⟩
      refine ⟨_, rfl, _, rfl, _, rfl, _, rfl, _, rfl, ca, _, _, _, rfl, rfl, SqL.of (s02 _ _ hc), atI_nat (j := 0) rfl, _, rfl, _, _, rfl, rfl, kb, k, _, rfl, s02 _ _ hkb, (by show 4 ≤ sizeLine; decide), fun p hp => ?_⟩
      refine kq _ p (Same.nw s02 hp) (s02.free hp) ?_
      show upd H2 p _ p = _
      rw [upd_same]
      have e3 : (Sw69.named st (c0 :: cr) root i k).cost = st.costs.miss * (k.filter fun o => !(c0 :: cr).contains (root + o)).length + (st.costs.extra * ((c0 :: cr).filter fun x => !k.contains (x - root)).length + st.costs.turned) := by
        show _ + (_ + if c0 = root then 0 else st.costs.turned) = _
        rw [if_neg q']
        rfl
      show _ = some (HO.tup [.int ((Sw69.named st (c0 :: cr) root i k).cost : Nat), .int root, .int i, .int (k.idxOf (c0 - root) : Nat)])
      rw [e3, ← cost_eq, List.length_map, List.length_map]
    · have q' : c0 = root := by
        by_cases z : c0 = root
        · exact z
        · exfalso
          apply q
          have : ¬ V.int c0 = V.int root := fun y => z (by injection y)
          rw [decide_eq_false this]
          rfl
      refine ⟨_, rfl, _, rfl, _, rfl, _, rfl, _, rfl, ca, _, _, _, rfl, rfl, SqL.of (s02 _ _ hc), atI_nat (j := 0) rfl, _, rfl, _, _, rfl, rfl, kb, k, _, rfl, s02 _ _ hkb, (by show 4 ≤ sizeLine; decide), fun p hp => ?_⟩
      refine kq _ p (Same.nw s02 hp) (s02.free hp) ?_
      show upd H2 p _ p = _
      rw [upd_same]
      have e3 : (Sw69.named st (c0 :: cr) root i k).cost = st.costs.miss * (k.filter fun o => !(c0 :: cr).contains (root + o)).length + (st.costs.extra * ((c0 :: cr).filter fun x => !k.contains (x - root)).length + 0) := by
        show _ + (_ + if c0 = root then 0 else st.costs.turned) = _
        rw [if_pos q']
        rfl
      show _ = some (HO.tup [.int ((Sw69.named st (c0 :: cr) root i k).cost : Nat), .int root, .int i, .int (k.idxOf (c0 - root) : Nat)])
      rw [e3, ← cost_eq, List.length_map, List.length_map]
      rw [show ((0 : Nat) : Int) = 0 from rfl, Int.add_zero]
end
end CN
end
section
set_option maxRecDepth 100000
set_option maxHeartbeats 4000000
namespace CN
open PySem PySem.Spec PyProof.Rows L2
theorem LL.push {α : Type} {g : α → List Int} {H : Hp} {x b : Addr} {as : List Addr} {ns : List α} {n : α} (hp : Paired (fun b n => TI H b (g n)) as ns) (hx : ∃ l, H x = some (.lst l)) (hb : TI H b (g n)) :
    LL (fun H b n => TI H b (g n)) (upd H x (.lst (as.map V.ref ++ [.ref b]))) x (ns ++ [n]) := by
  obtain ⟨l, hx⟩ := hx
  have ne : ∀ c z, TI H c z → c ≠ x := fun c z h => ne_of h hx (by intro q; cases q)
  refine ⟨as ++ [b], by rw [upd_same, List.map_append]; rfl, Paired.snoc (Paired.mapP hp fun c n h => ?_) ?_⟩
  · show upd H x _ c = _
    rw [upd_ne (ne c _ h)]
    exact h
  · show upd H x _ b = _
    rw [upd_ne (ne b _ hb)]
    exact hb
theorem before_lex {a b : Sw69.Name} (h : Sw69.before a b = true) : HT.lexLt (nm4 a) (nm4 b) = true := by
  rw [before_iff] at h
  unfold nm4
  rw [HT.lexLt_cons]
  rcases h with h | ⟨h, h'⟩
  · rw [if_neg (by omega)]
    exact decide_eq_true (by omega)
  · rw [if_pos (by omega), HT.lexLt_cons]
    rcases h' with h' | ⟨h', h''⟩
    · rw [if_neg (show ¬ @Eq Int a.root b.root by omega)]
      exact decide_eq_true h'
    · rw [if_pos h', HT.lexLt_cons, if_neg (by omega)]
      exact decide_eq_true (by omega)
theorem Apt.perm {a b : List Sw69.Name} (h : a.Perm b) (hb : Apt b) : Apt a := (h.pairwise_iff (fun {a b} h h' => h ⟨h'.1.symm, h'.2.symm⟩)).mpr hb
theorem ord_of_lex : ∀ {l : List Sw69.Name}, Apt l → l.Pairwise (fun x y => HT.lexLt (nm4 y) (nm4 x) = false) → Ord l
  | [], _, _ => List.Pairwise.nil
  | x :: l, ha, h => by
    obtain ⟨a1, a2⟩ := List.pairwise_cons.mp ha
    obtain ⟨h1, h2⟩ := List.pairwise_cons.mp h
    refine List.pairwise_cons.mpr ⟨fun y hy => ?_, ord_of_lex a2 h2⟩
    rcases before_tri (a1 y hy) with q | q
    · exact q
    · have z := h1 y hy
      rw [before_lex q] at z
      cases z
section
variable {P : Program} {w : World} {K : PySem.W.Frag} {mg : Str → Option Value} {base : Heap} {CC CL CR CS : Addr}
def sp_names_of (CC CL : Addr) : Sp := fun vs H Q _ => ∃ (la ca : Addr) (st : Sw69.St) (most : Nat) (c : List Int), vs = [.ref la, .int most, .ref ca] ∧ LineAt CC CL H la st ∧ LI H ca c ∧ c ≠ [] ∧ c.length ≤ 8 ∧ c.Nodup ∧
  ∀ H' p, Same H H' → H p = none → NL H' p (Sw69.names st most c) → Q (.ref p) H'
def rawP (st : Sw69.St) (most : Nat) (c rs : List Int) : List Sw69.Name := (rs.flatMap fun r => st.kinds.zipIdx.map fun k => Sw69.named st c r k.2 k.1).filter fun x => decide (x.cost ≤ most)
theorem rawP_snoc (st : Sw69.St) (most : Nat) (c rs : List Int) (r : Int) : rawP st most c (rs ++ [r]) = rawP st most c rs ++ (st.kinds.zipIdx.map fun k => Sw69.named st c r k.2 k.1).filter fun x => decide (x.cost ≤ most) := by
  unfold rawP
  rw [List.flatMap_append, List.filter_append]
  simp
theorem zip_ix {α : Type} {l : List α} {j : Nat} {k : α} (h : l[j]? = some k) : l.zipIdx[j]? = some (k, j) := by
  rw [List.getElem?_zipIdx, h]
  simp
theorem ok_names_of {f : Addr} {fd : FuncData} (F : Fun K "names_of" "names_of" s_names_of f fd) (T : Tx K mg CC CL CR CS) (c_name_of : Cal P w K mg base 2 "name_of" ["line", "chord", "root", "kind"] (sp_name_of CC CL)) : FnOk P w K mg base CX0 3 f fd ["line", "most", "chord"] (sp_names_of CC CL) := by
  refine F.ok sc_names_of (fun vs H Q E h => ?_) (fun cdv A outer s H vs Q E hr h => ?_)
  · obtain ⟨la, ca, st, most, c, rfl, _⟩ := h
    rfl
  · obtain ⟨la, ca, st, most, c, rfl, hL, hc, hne, hc8, hnd, kq⟩ := h
    obtain ⟨dx, ka, ma, co, hla, hka, hma, hco, ok⟩ := id hL
    obtain ⟨kas, hka1, hka2⟩ := id hka
    have hkl : kas.length = st.kinds.length := Paired.length hka2
    have hkn := ok.kn
    refine ⟨_, (pss_cons (ps_set (i := 3) sc_names_of.nd rfl (by first | exact Or.inl rfl | exact Or.inr rfl) (pe_lst pa_nil)) (pss_cons (ps_for PassesOwn.never rfl (pi_list (pv 2)) (pg_name (i := 4) sc_names_of.nd rfl (by first | exact Or.inl rfl | exact Or.inr rfl)) (pss_one (ps_for PassesOwn.never rfl (pi_range1 rfl T.b_range (pa_cons (pe_callB call_len_seq (by rfl) T.b_len PySem.boot_len (pa_cons (pe_fld (pv 0) rfl) pa_nil)) pa_nil)) (pg_name (i := 5) sc_names_of.nd rfl (by first | exact Or.inl rfl | exact Or.inr rfl)) (pss_cons (ps_set (i := 6) sc_names_of.nd rfl (by first | exact Or.inl rfl | exact Or.inr rfl) (pcl c_name_of (hr.mono (by decide)) (pa_cons (pv 0) (pa_cons (pv 2) (pa_cons (pv 4) (pa_cons (pv 5) pa_nil)))))) (pss_one (ps_if (pt_cmpR op_le (pe_ix ix_tup (pv 6) pe_int (fun _ _ => rfl)) (pv 1) (nomark _)) (pss_one (ps_expr (pe_bm PySem.F.plainAttrs_list PySem.F.slot_list_append PySem.F.type_list_append mt_append (pv 3) (pa_cons (pv 6) pa_nil)))) pss_nil)))))) (pss_one (ps_ret (pe_callB (cr_sortedT nm4) (by rfl) T.b_sorted boot_sorted (pa_cons (pv 3) pa_nil)))))), ?_⟩
    refine ⟨Nat.zero_le _, fun x hx => ?_⟩
    have s1 : Same H (upd H x (.lst [])) := Same.nw (Same.refl _) hx
    refine ⟨_, rfl, ca, rfl, ⟨_, SqL.of (s1 _ _ hc)⟩, for_list (K := K) (a := ca) (xs := c.map V.int) (fun i σ H' => ∃ v4 v5 v6, σ = [some (.ref la), some (.int most), some (.ref ca), some (.ref x), v4, v5, v6] ∧ Same H H' ∧ NL H' x (rawP st most c (c.take i)))
      ⟨none, none, none, rfl, s1, [], upd_same, .nil⟩ (fun i σ H' _ ⟨_, _, _, _, s2, _⟩ => SqL.of (s2 _ _ hc)) (fun i y σ H' hi ⟨v4, v5, v6, hσ, s2, hN⟩ => ?_) (fun σ H' ⟨v4, v5, v6, hσ, s2, hN⟩ => ?_)⟩
    · subst hσ
      obtain ⟨r, hr', rfl⟩ := map_at hi
      refine ⟨_, rfl, la, CL, dx, _, _, rfl, s2 _ _ hla, T.clL, T.n_kinds, lF_kinds, ka, _, rfl, .inl (SqL.of (s2 _ _ hka1)), _, rfl, by omega, by rw [List.length_map]; omega,
        for_range (fun j σ H2 => ∃ v5 v6, σ = [some (.ref la), some (.int most), some (.ref ca), some (.ref x), some (.int r), v5, v6] ∧ Same H H2 ∧ NL H2 x (rawP st most c (c.take i) ++ ((st.kinds.zipIdx.take j).map fun k => Sw69.named st c r k.2 k.1).filter fun n => decide (n.cost ≤ most)))
        ⟨v5, v6, rfl, s2, by simpa using hN⟩ (fun j σ H2 hj ⟨v5, v6, hσ, s3, hN3⟩ => ?_) (fun σ H2 ⟨v5, v6, hσ, s3, hN3⟩ => ?_)⟩
      · subst hσ
        have hj' : j < st.kinds.length := by
          have : j < (kas.map V.ref).length := hj
          rw [List.length_map] at this
          omega
        obtain ⟨k, hk⟩ : ∃ k, st.kinds[j]? = some k := ⟨_, List.getElem?_eq_getElem hj'⟩
        rw [Int.zero_add]
        refine ⟨_, rfl, _, rfl, _, rfl, _, rfl, la, ca, st, c, r, j, k, rfl, LineAt.mv hL s3, s3 _ _ hc, hne, hc8, hk, fun H3 p s4 hp ht => ?_⟩
        have s5 := s3.trans s4
        refine ⟨_, rfl, p, _, _, _, rfl, rfl, SqT.of ht, atI_nat (j := 0) rfl, _, rfl, _, _, rfl, rfl, _, rfl, ite2 (fun q => ?_) (fun q => ?_)⟩
        · have q' := of_decide_eq_true q
          obtain ⟨as, h1, h2⟩ := NL.mv hN3 s4
          have hlen := Paired.length h2
          refine ⟨_, rfl, .inl ⟨rfl, _, SqL.of h1⟩, _, rfl, x, _, _, rfl, rfl, h1, ?_, _, _, rfl, Same.up s5 hx, ?_⟩
          · rw [List.length_map]
            refine smallLt ?_
            rw [hlen, List.length_append]
            have l1 := List.length_filter_le (fun n : Sw69.Name => decide (n.cost ≤ most)) ((st.kinds.zipIdx.take j).map fun k => Sw69.named st c r k.2 k.1)
            have l2 : (rawP st most c (c.take i)).length ≤ 8 * 10 := by
              unfold rawP
              refine Nat.le_trans (List.length_filter_le _ _) ?_
              rw [List.length_flatMap]
              have : ∀ rs : List Int, (rs.map fun r => (st.kinds.zipIdx.map fun k => Sw69.named st c r k.2 k.1).length).sum ≤ rs.length * 10 := by
                intro rs
                induction rs with
                | nil => simp
                | cons a rs ih =>
                  rw [List.map_cons, List.sum_cons, List.length_cons, List.length_map, List.length_zipIdx]
                  omega
              have t := this (c.take i)
              rw [List.length_take] at t
              omega
            rw [List.length_map, List.length_take, List.length_zipIdx] at l1
            omega
          · have e : (st.kinds.zipIdx.take (j + 1)) = st.kinds.zipIdx.take j ++ [(k, j)] := take_snoc (zip_ix hk)
            rw [e, List.map_append, List.filter_append, ← List.append_assoc]
            have e2 : ([(k, j)].map fun k => Sw69.named st c r k.2 k.1).filter (fun n => decide (n.cost ≤ most)) = [Sw69.named st c r j k] := by
              show List.filter _ [Sw69.named st c r j k] = _
              rw [List.filter_cons, if_pos (decide_eq_true (by omega)), List.filter_nil]
            rw [e2]
            exact LL.push h2 ⟨_, h1⟩ ht
        · refine ⟨_, _, rfl, s5, ?_⟩
          have q' : ¬ (Sw69.named st c r j k).cost ≤ most := fun z => q (decide_eq_true (by omega))
          have e : (st.kinds.zipIdx.take (j + 1)) = st.kinds.zipIdx.take j ++ [(k, j)] := take_snoc (zip_ix hk)
          rw [e, List.map_append, List.filter_append]
          have e2 : ([(k, j)].map fun k => Sw69.named st c r k.2 k.1).filter (fun n => decide (n.cost ≤ most)) = [] := by
            show List.filter _ [Sw69.named st c r j k] = _
            rw [List.filter_cons, if_neg (by rw [decide_eq_false q']; exact Bool.false_ne_true), List.filter_nil]
          rw [e2, List.append_nil]
          exact NL.mv hN3 s4
      · subst hσ
        refine ⟨_, _, _, rfl, s3, ?_⟩
        rw [take_snoc hr', rawP_snoc]
        have e : (st.kinds.zipIdx.take ((((kas.map V.ref).length : Nat) : Int).toNat)) = st.kinds.zipIdx := by
          rw [Int.toNat_natCast, List.length_map, hkl]
          exact List.take_of_length_le (by rw [List.length_zipIdx]; omega)
        rw [e] at hN3
        exact hN3
    · subst hσ
      rw [List.length_map, List.take_length] at hN
      obtain ⟨as, h1, h2⟩ := hN
      have hlen := Paired.length h2
      refine ⟨_, rfl, x, as.zip (rawP st most c c), rfl, ?_, fun p hp => ?_, fun ps' q hpm hpw hq => ?_⟩
      · rw [zip_refs hlen]
        exact SqL.of h1
      · exact ⟨(Paired.zip_at h2 hp).1, by unfold nm4; simp⟩
      · have hm : (ps'.map (·.2)).Perm (Sw69.names st most c) := by
          have e1 := hpm.map (·.2)
          have e2 : (as.zip (rawP st most c c)).map (·.2) = rawP st most c c := List.map_snd_zip (by omega)
          rw [e2] at e1
          exact e1.trans (names_raw st most hnd).2.symm
        have ha : Apt (ps'.map (·.2)) := Apt.perm (hm.trans (names_raw st most hnd).2) (raw_apt st most hnd)
        have ho : Ord (ps'.map (·.2)) := ord_of_lex ha (by rw [List.pairwise_map]; exact hpw)
        have e := ord_uniq ho (names_raw st most hnd).1 hm
        refine kq _ q (Same.nw s2 hq) (s2.free hq) ?_
        rw [← e]
        refine ⟨ps'.map (·.1), by rw [upd_same, List.map_map]; rfl, ?_⟩
        have key : ∀ p ∈ ps', TI (upd H' q (.lst (ps'.map fun p => V.ref p.1))) p.1 (nm4 p.2) := fun p hp => by
          have := (Paired.zip_at h2 (hpm.mem_iff.mp hp)).1
          show upd _ _ _ _ = _
          rw [upd_ne (ne_of_none this hq)]
          exact this
        clear hm ha ho e hpw hpm
        generalize upd H' q (.lst (ps'.map fun p => V.ref p.1)) = H9 at key
        induction ps' with
        | nil => exact .nil
        | cons p r ih => exact .cons (key p List.mem_cons_self) (ih fun p hp => key p (List.mem_cons_of_mem _ hp))
end
end CN
end
section
set_option maxRecDepth 100000
set_option maxHeartbeats 4000000
namespace CN
open PySem PySem.Spec PyProof.Rows L2
def BE (H : Hp) (e : Int × Sw69.Name × Nat) (kv : L2.Key × V) : Prop := kv.1 = Sum.inl e.1 ∧ ∃ p q, kv.2 = .ref p ∧ H p = some (.tup [.ref q, .int e.2.2]) ∧ TI H q (nm4 e.2.1)
def BestAt (H : Hp) (d : Addr) (B : BB) : Prop := ∃ kvs, H d = some (.dK kvs) ∧ Paired (BE H) B kvs
theorem BE.mv {H H' : Hp} {e : Int × Sw69.Name × Nat} {kv : L2.Key × V} (h : BE H e kv) (s : ∀ b xs, H b = some (.tup xs) → H' b = some (.tup xs)) : BE H' e kv := by
  obtain ⟨h1, p, q, h2, h3, h4⟩ := h
  exact ⟨h1, p, q, h2, s _ _ h3, s _ _ h4⟩
theorem bbr_snoc (ns : List Sw69.Name) (n : Sw69.Name) : bbr (ns ++ [n]) = bbStep (bbr ns) n := by
  unfold bbr
  rw [List.foldl_append]
  rfl
theorem bbStep_nd {B : BB} {n : Sw69.Name} (h : (B.map (·.1)).Nodup) : ((bbStep B n).map (·.1)).Nodup := by
  unfold bbStep
  split
  · rename_i hf
    rw [List.map_append]
    refine List.nodup_append.mpr ⟨h, by simp, fun a ha b hb => ?_⟩
    obtain ⟨e, he, rfl⟩ := List.mem_map.mp ha
    rw [List.mem_singleton.mp hb]
    intro k
    have := List.find?_eq_none.mp hf e he
    simp at this
    exact this k
  · rename_i e hf
    split
    · rw [List.map_map]
      have : B.map ((fun x => x.1) ∘ fun f => if f.1 = n.root then (f.1, f.2.1, e.2.2 + 1) else f) = B.map (·.1) := List.map_congr_left fun f _ => by
        show (if f.1 = n.root then (f.1, f.2.1, e.2.2 + 1) else f).1 = f.1
        split <;> rfl
      rw [this]
      exact h
    · exact h
theorem bbr_nd (ns : List Sw69.Name) : ((bbr ns).map (·.1)).Nodup := by
  unfold bbr
  have : ∀ (l : List Sw69.Name) (B : BB), (B.map (·.1)).Nodup → ((l.foldl bbStep B).map (·.1)).Nodup := by
    intro l
    induction l with
    | nil => intro B h; exact h
    | cons n l ih => intro B h; exact ih _ (bbStep_nd h)
  exact this ns [] List.nodup_nil
theorem bbr_len (ns : List Sw69.Name) : (bbr ns).length ≤ ns.length := by
  have : ∀ (l : List Sw69.Name) (B : BB), (l.foldl bbStep B).length ≤ B.length + l.length := by
    intro l
    induction l with
    | nil => intro B; exact Nat.le_refl _
    | cons n l ih =>
      intro B
      rw [List.foldl_cons]
      refine Nat.le_trans (ih _) ?_
      have : (bbStep B n).length ≤ B.length + 1 := by
        unfold bbStep
        split
        · simp
        · split
          · rw [List.length_map]; omega
          · omega
      rw [List.length_cons]
      omega
  have := this ns []
  unfold bbr
  simpa using this
theorem best_find {H : Hp} {r : Int} : ∀ {B : BB} {kvs : List (L2.Key × V)}, Paired (BE H) B kvs →
    ((B.find? fun e => decide (e.1 = r)) = none ∧ valV kvs (Sum.inl r) = none) ∨ ∃ e v, (B.find? fun e => decide (e.1 = r)) = some e ∧ e ∈ B ∧ e.1 = r ∧ valV kvs (Sum.inl r) = some v ∧ BE H e (Sum.inl r, v)
  | _, _, .nil => .inl ⟨rfl, rfl⟩
  | e :: B, kv :: kvs, .cons h t => by
    by_cases q : e.1 = r
    · right
      refine ⟨e, kv.2, by rw [List.find?_cons, decide_eq_true q], List.mem_cons_self, q, valV_pos (h.1.trans (by rw [q])), ?_⟩
      have e1 : kv = (Sum.inl r, kv.2) := by rw [← q, ← h.1]
      rw [e1] at h
      exact h
    · have hk : ¬ kv.1 = Sum.inl r := fun z => q (Sum.inl.inj (h.1.symm.trans z))
      rcases best_find t (r := r) with ⟨h1, h2⟩ | ⟨e', v, h1, h2, h3, h4, h5⟩
      · exact .inl ⟨by rw [List.find?_cons, decide_eq_false q]; exact h1, by rw [valV_neg hk]; exact h2⟩
      · exact .inr ⟨e', v, by rw [List.find?_cons, decide_eq_false q]; exact h1, List.mem_cons_of_mem _ h2, h3, by rw [valV_neg hk]; exact h4, h5⟩
theorem best_bump {H H' : Hp} {r : Int} {n : Sw69.Name} {m : Nat} {p q : Addr} (hp : H' p = some (.tup [.ref q, .int m])) (hq : TI H' q (nm4 n)) (s : ∀ b xs, H b = some (.tup xs) → H' b = some (.tup xs)) :
    ∀ {B : BB} {kvs : List (L2.Key × V)}, Paired (BE H) B kvs → (∀ e ∈ B, e.1 = r → e.2.1 = n) →
    Paired (BE H') (B.map fun f => if f.1 = r then (f.1, f.2.1, m) else f) (kvs.map fun kv => if kv.1 = Sum.inl r then (kv.1, .ref p) else kv)
  | _, _, .nil, _ => .nil
  | e :: B, kv :: kvs, .cons h t, hn => by
    refine .cons ?_ (best_bump hp hq s t fun e he => hn e (List.mem_cons_of_mem _ he))
    show BE H' (if e.1 = r then (e.1, e.2.1, m) else e) (if kv.1 = Sum.inl r then (kv.1, .ref p) else kv)
    by_cases z : e.1 = r
    · rw [if_pos z, if_pos (h.1.trans (by rw [z]))]
      refine ⟨h.1, p, q, rfl, hp, ?_⟩
      show TI H' q (nm4 e.2.1)
      rw [hn e List.mem_cons_self z]
      exact hq
    · rw [if_neg z, if_neg (fun y => z (Sum.inl.inj (h.1.symm.trans y)))]
      exact BE.mv h s
section
variable {P : Program} {w : World} {K : PySem.W.Frag} {mg : Str → Option Value} {base : Heap} {CC CL CR CS : Addr}
def sp_best : Sp := fun vs H Q _ => ∃ (a : Addr) (ns : List Sw69.Name), vs = [.ref a] ∧ NL H a ns ∧ ns.length ≤ 100000 ∧ ∀ H' d, Same H H' → H d = none → BestAt H' d (bbr ns) → Q (.ref d) H'
theorem ok_best {f : Addr} {fd : FuncData} (F : Fun K "best_by_root" "best_by_root" s_best_by_root f fd) (T : Tx K mg CC CL CR CS) : FnOk P w K mg base CX0 1 f fd ["names"] sp_best := by
  refine F.ok sc_best_by_root (fun vs H Q E h => ?_) (fun cdv A outer s H vs Q E hr h => ?_)
  · obtain ⟨a, ns, rfl, _⟩ := h
    rfl
  · obtain ⟨a, ns, rfl, hN, hz, k⟩ := h
    have hu := hu_of hr
    refine ⟨_, (pss_cons (ps_set (i := 1) sc_best_by_root.nd rfl (by first | exact Or.inl rfl | exact Or.inr rfl) pe_dnewK) (pss_cons (ps_for PassesOwn.never rfl (pi_list (pv 0)) (pg_name (i := 2) sc_best_by_root.nd rfl (by first | exact Or.inl rfl | exact Or.inr rfl)) (pss_cons (ps_set (i := 3) sc_best_by_root.nd rfl (by first | exact Or.inl rfl | exact Or.inr rfl) (pe_ix ix_tup (pv 2) pe_int (fun _ _ => rfl))) (pss_one (ps_if (pt_cmp (pc_dnotin hu (pv 3) (pv 1))) (pss_one (ps_dput hu (pv 1) (pv 3) (pe_tup (pa_cons (pv 2) (pa_cons pe_int pa_nil))) rfl)) (pss_one (ps_if (pt_cmpR op_eq (pe_ix ix_tup (pv 2) pe_int (fun _ _ => rfl)) (pe_ix ix_tup (pe_ix ix_tup (pe_dget hu (pv 1) (pv 3) (fun _ _ => rfl)) pe_int (fun _ _ => rfl)) pe_int (fun _ _ => rfl)) (nomark _)) (pss_one (ps_dput hu (pv 1) (pv 3) (pe_tup (pa_cons (pe_ix ix_tup (pe_dget hu (pv 1) (pv 3) (fun _ _ => rfl)) pe_int (fun _ _ => rfl)) (pa_cons (pe_op op_add (pe_ix ix_tup (pe_dget hu (pv 1) (pv 3) (fun _ _ => rfl)) pe_int (fun _ _ => rfl)) pe_int) pa_nil))) rfl)) pss_nil)))))) (pss_one (ps_ret (pv 1))))), ?_⟩
    intro d hd
    have s1 : Same H (upd H d (.dK [])) := Same.nw (Same.refl _) hd
    obtain ⟨as, ha1, ha2⟩ := id hN
    refine ⟨_, rfl, a, rfl, ⟨_, SqL.of (s1 _ _ ha1)⟩, for_refs (R0 := fun H b n => TI H b (nm4 n)) (es := ns) (H1 := H) (fun i σ H' => ∃ v2 v3, σ = [some (.ref a), some (.ref d), v2, v3] ∧ Same H H' ∧ BestAt H' d (bbr (ns.take i))) hN
      ⟨none, none, rfl, s1, [], upd_same, .nil⟩ (fun i σ H' ⟨_, _, _, s2, _⟩ => s2) (fun i b n σ H' hi hb ⟨v2, v3, hσ, s2, kvs, hd1, hB⟩ => ?_) (fun σ H' ⟨v2, v3, hσ, s2, hB⟩ => ?_)⟩
    · subst hσ
      have hb' := s2 _ _ hb
      have hlen := Paired.length hB
      have hbl := bbr_len (ns.take i)
      rw [List.length_take] at hbl
      have hkl : kvs.length < sizeLine := smallLt (by omega)
      have e1 : bbr (ns.take (i + 1)) = bbStep (bbr (ns.take i)) n := by rw [take_snoc hi, bbr_snoc]
      refine ⟨_, rfl, b, _, _, _, rfl, rfl, SqT.of hb', atI_nat (j := 1) rfl, _, rfl, _, rfl, d, _, rfl, DGet.k (k := Sum.inl n.root) hd1, _, rfl, ?_⟩
      rcases best_find hB (r := n.root) with ⟨f1, f2⟩ | ⟨e, v, f1, f2, f3, f4, f5⟩
      · rw [f2]
        refine iteT ⟨_, rfl, (by show 2 ≤ sizeLine; decide), fun p hp => ⟨_, rfl, _, rfl, d, _, rfl, DPut.k (k := Sum.inl n.root) (Same.nw (Same.refl H') hp _ _ hd1) hkl, _, _, rfl, Same.up (Same.nw s2 hp) hd, ?_⟩⟩
        rw [putK_new _ f2, e1]
        have es : bbStep (bbr (ns.take i)) n = bbr (ns.take i) ++ [(n.root, n, 1)] := by
          unfold bbStep
          rw [f1]
        rw [es]
        have pd : p ≠ d := (ne_of_none hd1 hp).symm
        have keep : ∀ c xs, H' c = some (.tup xs) → upd (upd H' p (.tup [.ref b, .int 1])) d (.dK (kvs ++ [(Sum.inl n.root, .ref p)])) c = some (.tup xs) := fun c xs h => by
          rw [upd_ne (ne_of h hd1 (by intro q; cases q)), upd_ne (ne_of_none h hp)]
          exact h
        refine ⟨_, upd_same, Paired.snoc (Paired.mapP hB fun e kv h => BE.mv h keep) ⟨rfl, p, b, rfl, ?_, keep _ _ hb'⟩⟩
        show upd _ d _ p = _
        rw [upd_ne pd, upd_same]
        rfl
      · obtain ⟨_, p, q, hv, hp1, hq1⟩ := f5
        have hv : v = .ref p := hv
        subst hv
        rw [f4]
        have hg : DGet H' d (kV (Sum.inl n.root)) (some (.ref p)) := by
          have := DGet.k (k := Sum.inl n.root) hd1
          rw [f4] at this
          exact this
        refine iteF ⟨_, rfl, b, _, _, _, rfl, rfl, SqT.of hb', atI_nat (j := 0) rfl, _, rfl, _, rfl, d, _, rfl, hg, p, _, _, _, rfl, rfl, SqT.of hp1, atI_nat (j := 0) rfl, q, _, _, _, rfl, rfl, SqT.of hq1, atI_nat (j := 0) rfl, rfl, _, rfl, ite2 (fun y => ?_) (fun y => ?_)⟩
        · have y' : n.cost = e.2.1.cost := by
            have := of_decide_eq_true y
            injection this with this
            omega
          refine ⟨_, rfl, _, rfl, d, _, rfl, hg, p, _, _, _, rfl, rfl, SqT.of hp1, atI_nat (j := 0) rfl, _, rfl, _, rfl, d, _, rfl, hg, p, _, _, _, rfl, rfl, SqT.of hp1, atI_nat (j := 1) rfl, _, _, rfl, rfl, (by show 2 ≤ sizeLine; decide), fun p' hp' => ⟨_, rfl, _, rfl, d, _, rfl, DPut.k (k := Sum.inl n.root) (Same.nw (Same.refl H') hp' _ _ hd1) hkl, _, _, rfl, Same.up (Same.nw s2 hp') hd, ?_⟩⟩
          have es : bbStep (bbr (ns.take i)) n = (bbr (ns.take i)).map (fun f => if f.1 = n.root then (f.1, f.2.1, e.2.2 + 1) else f) := by
            unfold bbStep
            rw [f1]
            show (if n.cost = e.2.1.cost then _ else _) = _
            rw [if_pos y']
          rw [e1, es]
          have ep : putK kvs (Sum.inl n.root) (.ref p') = kvs.map (fun kv => if kv.1 = Sum.inl n.root then (kv.1, .ref p') else kv) := by
            unfold putK
            rw [if_pos]
            rw [valV_any, f4]
            rfl
          have pd : p' ≠ d := (ne_of_none hd1 hp').symm
          have keep : ∀ c xs, H' c = some (.tup xs) → upd (upd H' p' (.tup [.ref q, .int ((e.2.2 : Int) + 1)])) d (.dK (putK kvs (Sum.inl n.root) (.ref p'))) c = some (.tup xs) := fun c xs h => by
            rw [upd_ne (ne_of h hd1 (by intro q; cases q)), upd_ne (ne_of_none h hp')]
            exact h
          refine ⟨_, upd_same, ?_⟩
          have hp2 : upd (upd H' p' (.tup [.ref q, .int ((e.2.2 : Int) + 1)])) d (.dK (putK kvs (Sum.inl n.root) (.ref p'))) p' = some (.tup [.ref q, .int ((e.2.2 + 1 : Nat) : Int)]) := by
            rw [upd_ne pd, upd_same]
            rfl
          have := best_bump (r := n.root) (n := e.2.1) hp2 (keep _ _ hq1) keep hB fun e' he' z => by rw [nd_key (bbr_nd _) he' f2 (z.trans f3.symm)]
          rw [← ep] at this
          exact this
        · have y' : ¬ n.cost = e.2.1.cost := fun z => y (decide_eq_true (by rw [z]))
          refine ⟨_, _, rfl, s2, kvs, hd1, ?_⟩
          have es : bbStep (bbr (ns.take i)) n = bbr (ns.take i) := by
            unfold bbStep
            rw [f1]
            show (if n.cost = e.2.1.cost then _ else _) = _
            rw [if_neg y']
          rw [e1, es]
          exact hB
    · subst hσ
      rw [List.take_length] at hB
      exact ⟨_, rfl, k H' d s2 hd hB⟩
end
end CN
end
section
set_option maxRecDepth 100000
set_option maxHeartbeats 4000000
namespace CN
open PySem PySem.Spec PyProof.Rows L2
section
variable {P : Program} {w : World} {K : PySem.W.Frag} {mg : Str → Option Value} {base : Heap} {CC CL CR CS : Addr}
def keyRow (n : Nat) (i : Nat) : List Sw69.Key := (List.range n).map fun m => ⟨(i : Int) - 7, m⟩
theorem keys_eq (st : Sw69.St) : Sw69.keys st = (List.range 15).flatMap (keyRow st.modes.length) := rfl
theorem keyRow_len (n i : Nat) : (keyRow n i).length = n := by unfold keyRow; rw [List.length_map, List.length_range]
theorem flat_len (n : Nat) : ∀ is : List Nat, (is.flatMap (keyRow n)).length = is.length * n
  | [] => by simp
  | i :: is => by rw [List.flatMap_cons, List.length_append, keyRow_len, flat_len n is, List.length_cons, Nat.succ_mul]; omega
def sp_keys_of (CC CL : Addr) : Sp := fun vs H Q _ => ∃ (la : Addr) (st : Sw69.St), vs = [.ref la] ∧ LineAt CC CL H la st ∧ ∀ H' p, Same H H' → H p = none → KL H' p (Sw69.keys st) → Q (.ref p) H'
theorem ok_keys_of {f : Addr} {fd : FuncData} (F : Fun K "keys_of" "keys_of" s_keys_of f fd) (T : Tx K mg CC CL CR CS) : FnOk P w K mg base CX0 1 f fd ["line"] (sp_keys_of CC CL) := by
  refine F.ok sc_keys_of (fun vs H Q E h => ?_) (fun cdv A outer s H vs Q E hr h => ?_)
  · obtain ⟨la, st, rfl, _⟩ := h
    rfl
  · obtain ⟨la, st, rfl, hL, kq⟩ := h
    obtain ⟨dx, ka, ma, co, hla, hka, hma, hco, ok⟩ := id hL
    obtain ⟨mas, hma1, hma2⟩ := id hma
    have hml : mas.length = st.modes.length := Paired.length hma2
    have hmn := ok.mn
    refine ⟨_, (pss_cons (ps_set (i := 1) sc_keys_of.nd rfl (by first | exact Or.inl rfl | exact Or.inr rfl) (pe_lst pa_nil)) (pss_cons (ps_for PassesOwn.never rfl (pi_range2 rfl T.b_range (pa_cons (pgI T.LOWEST_TONIC) (pa_cons (pe_op op_add (pgI T.HIGHEST_TONIC) pe_int) pa_nil))) (pg_name (i := 2) sc_keys_of.nd rfl (by first | exact Or.inl rfl | exact Or.inr rfl)) (pss_one (ps_for PassesOwn.never rfl (pi_range1 rfl T.b_range (pa_cons (pe_callB call_len_seq (by rfl) T.b_len PySem.boot_len (pa_cons (pe_fld (pv 0) rfl) pa_nil)) pa_nil)) (pg_name (i := 3) sc_keys_of.nd rfl (by first | exact Or.inl rfl | exact Or.inr rfl)) (pss_one (ps_expr (pe_bm PySem.F.plainAttrs_list PySem.F.slot_list_append PySem.F.type_list_append mt_append (pv 1) (pa_cons (pe_tup (pa_cons (pv 2) (pa_cons (pv 3) pa_nil))) pa_nil))))))) (pss_one (ps_ret (pv 1))))), ?_⟩
    refine ⟨Nat.zero_le _, fun x hx => ?_⟩
    have s1 : Same H (upd H x (.lst [])) := Same.nw (Same.refl _) hx
    refine ⟨_, _, rfl, rfl, _, _, rfl, ⟨by decide, by decide, by decide, by decide⟩, for_range (n := 15) (fun i σ H' => ∃ v2 v3, σ = [some (.ref la), some (.ref x), v2, v3] ∧ i ≤ 15 ∧ Same H H' ∧ KL H' x ((List.range i).flatMap (keyRow st.modes.length)))
      ⟨none, none, rfl, by omega, s1, [], upd_same, .nil⟩ (fun i σ H' hi ⟨v2, v3, hσ, _, s2, hN⟩ => ?_) (fun σ H' ⟨v2, v3, hσ, _, s2, hN⟩ => ?_)⟩
    · subst hσ
      rw [show ((-7 : Int) + (i : Int)) = (i : Int) - 7 by omega]
      refine ⟨_, rfl, la, CL, dx, _, _, rfl, s2 _ _ hla, T.clL, T.n_modes, lF_modes, ma, _, rfl, .inl (SqL.of (s2 _ _ hma1)), _, rfl, by omega, by rw [List.length_map]; omega,
        for_range (fun j σ H2 => ∃ v3, σ = [some (.ref la), some (.ref x), some (.int ((i : Int) - 7)), v3] ∧ Same H H2 ∧ KL H2 x ((List.range i).flatMap (keyRow st.modes.length) ++ keyRow j i))
        ⟨v3, rfl, s2, by simpa [keyRow] using hN⟩ (fun j σ H2 hj ⟨v3, hσ, s3, hN3⟩ => ?_) (fun σ H2 ⟨v3, hσ, s3, hN3⟩ => ?_)⟩
      · subst hσ
        have hj' : j < st.modes.length := by
          have : j < (mas.map V.ref).length := hj
          rw [List.length_map] at this
          omega
        rw [Int.zero_add]
        obtain ⟨as, h1, h2⟩ := id hN3
        have hlen := Paired.length h2
        refine ⟨_, rfl, .inl ⟨rfl, _, SqL.of h1⟩, _, rfl, _, rfl, (by show 2 ≤ sizeLine; decide), fun p hp => ⟨x, _, _, rfl, rfl, Same.nw (Same.refl H2) hp _ _ h1, ?_, _, rfl, Same.up (Same.nw s3 hp) hx, ?_⟩⟩
        · rw [List.length_map, hlen, List.length_append, flat_len, keyRow_len, List.length_range]
          have h3 : i * st.modes.length ≤ 15 * 3 := Nat.mul_le_mul (by omega) hmn
          exact smallLt (by omega)
        · have e : keyRow (j + 1) i = keyRow j i ++ [⟨(i : Int) - 7, j⟩] := by
            unfold keyRow
            rw [List.range_succ, List.map_append]
            rfl
          rw [e, ← List.append_assoc]
          exact LL.push (g := ky2) (Paired.mapP h2 fun b k h => Same.nw (Same.refl H2) hp _ _ h) ⟨_, Same.nw (Same.refl H2) hp _ _ h1⟩ upd_same
      · subst hσ
        refine ⟨_, _, rfl, by omega, s3, ?_⟩
        have e : (((mas.map V.ref).length : Nat) : Int).toNat = st.modes.length := by rw [Int.toNat_natCast, List.length_map, hml]
        rw [e] at hN3
        rw [List.range_succ, List.flatMap_append]
        simpa using hN3
    · subst hσ
      exact ⟨_, rfl, kq H' x s2 hx (by rw [keys_eq]; exact hN)⟩
theorem key_mem {st : Sw69.St} {k : Sw69.Key} (h : k ∈ Sw69.keys st) : k.mode < st.modes.length ∧ -7 ≤ k.tonic ∧ k.tonic ≤ 7 := by
  rw [keys_eq] at h
  obtain ⟨i, hi, hk⟩ := List.mem_flatMap.mp h
  obtain ⟨m, hm, rfl⟩ := List.mem_map.mp hk
  have h1 := List.mem_range.mp hi
  have h2 := List.mem_range.mp hm
  refine ⟨h2, ?_, ?_⟩
  · show -7 ≤ (i : Int) - 7
    omega
  · show (i : Int) - 7 ≤ 7
    omega
theorem degree_eq {st : Sw69.St} (ok : StOk st) {k : Sw69.Key} (h : k.mode < st.modes.length) (z : Int) : ∃ m, st.modes[k.mode]? = some m ∧ m.length = 7 ∧ Sw69.modeOf st k = m ∧ Sw69.degree st k z = m.idxOf (z - k.tonic) ∧ Sw69.degree st k z ≤ 7 := by
  have hm : st.modes[k.mode]? = some (st.modes[k.mode]'h) := List.getElem?_eq_getElem h
  have h7 := ok.md _ (List.getElem_mem h)
  have e : Sw69.modeOf st k = st.modes[k.mode]'h := by
    unfold Sw69.modeOf
    rw [List.getD_eq_getElem?_getD, hm]
    rfl
  have hle : (st.modes[k.mode]'h).idxOf (z - k.tonic) ≤ 7 := by
    have := List.idxOf_le_length (a := z - k.tonic) (l := st.modes[k.mode]'h)
    omega
  refine ⟨_, hm, h7, e, ?_, ?_⟩
  · unfold Sw69.degree
    rw [e]
    exact Nat.min_eq_right hle
  · unfold Sw69.degree
    exact Nat.min_le_left _ _
def sp_degree_in (CC CL : Addr) : Sp := fun vs H Q _ => ∃ (la ka : Addr) (st : Sw69.St) (k : Sw69.Key) (z : Int), vs = [.ref la, .ref ka, .int z] ∧ LineAt CC CL H la st ∧ TI H ka (ky2 k) ∧ k.mode < st.modes.length ∧ Q (.int (Sw69.degree st k z : Nat)) H
theorem ok_degree_in {f : Addr} {fd : FuncData} (F : Fun K "degree_in" "degree_in" s_degree_in f fd) (T : Tx K mg CC CL CR CS) (c_place_in : Cal P w K mg base 1 "place_in" ["numbers", "number"] sp_place_in) : FnOk P w K mg base CX0 2 f fd ["line", "key", "note"] (sp_degree_in CC CL) := by
  refine F.ok sc_degree_in (fun vs H Q E h => ?_) (fun cdv A outer s H vs Q E hr h => ?_)
  · obtain ⟨la, ka, st, k, z, rfl, _⟩ := h
    rfl
  · obtain ⟨la, ky, st, k, z, rfl, hL, hk, hm, kq⟩ := h
    obtain ⟨dx, ka, ma, co, hla, hka, hma, hco, ok⟩ := id hL
    obtain ⟨m, h1, h2, h3, h4, h5⟩ := degree_eq ok hm z
    obtain ⟨mas, hma1, hma2⟩ := id hma
    obtain ⟨mb, hmb1, hmb⟩ := Paired.at1 hma2 h1
    refine ⟨_, (pss_one (ps_ret (pcl c_place_in (hr.mono (by decide)) (pa_cons (pe_ix ix_list (pe_fld (pv 0) rfl) (pe_ix ix_tup (pv 1) pe_int (fun _ _ => rfl)) (fun _ _ => rfl)) (pa_cons (pe_op op_sub (pv 2) (pe_ix ix_tup (pv 1) pe_int (fun _ _ => rfl))) pa_nil))))), ?_⟩
    refine ⟨_, rfl, la, CL, dx, _, _, rfl, hla, T.clL, T.n_modes, lF_modes, _, rfl, ky, _, _, _, rfl, rfl, SqT.of hk, atI_nat (j := 1) rfl, ma, _, _, _, rfl, rfl, SqL.of hma1, atI_nat (j := k.mode) (v := V.ref mb) (by rw [List.getElem?_map, hmb1]; rfl),
      _, rfl, _, rfl, ky, _, _, _, rfl, rfl, SqT.of hk, atI_nat (j := 0) rfl, _, _, rfl, rfl, mb, m, _, rfl, hmb, ?_⟩
    rw [h4] at kq
    exact kq
def sp_outside (CC CL : Addr) : Sp := fun vs H Q _ => ∃ (la ka ca : Addr) (st : Sw69.St) (k : Sw69.Key) (c : List Int), vs = [.ref la, .ref ka, .ref ca] ∧ LineAt CC CL H la st ∧ TI H ka (ky2 k) ∧ k.mode < st.modes.length ∧ LI H ca c ∧ c.length ≤ 8 ∧ ∀ H', Same H H' → Q (.int (Sw69.outside st k c : Nat)) H'
theorem ok_outside {f : Addr} {fd : FuncData} (F : Fun K "notes_outside" "notes_outside" s_notes_outside f fd) (T : Tx K mg CC CL CR CS) (c_degree_in : Cal P w K mg base 2 "degree_in" ["line", "key", "note"] (sp_degree_in CC CL)) : FnOk P w K mg base CX0 3 f fd ["line", "key", "chord"] (sp_outside CC CL) := by
  refine F.ok sc_notes_outside (fun vs H Q E h => ?_) (fun cdv A outer s H vs Q E hr h => ?_)
  · obtain ⟨la, ka, ca, st, k, c, rfl, _⟩ := h
    rfl
  · obtain ⟨la, ky, ca, st, k, c, rfl, hL, hk, hm, hc, hc8, kq⟩ := h
    have ok : StOk st := by obtain ⟨_, _, _, _, _, _, _, _, ok⟩ := hL; exact ok
    refine ⟨_, (pss_one (ps_ret (pe_callB call_len_seq (by rfl) T.b_len PySem.boot_len (pa_cons (pe_lc (own := [("note", 3)]) rfl sc_notes_outside.nd (pi_list (pv 2)) (blkOk_by (N := N_notes_outside) (sc := defScope s_notes_outside) (by decide +kernel)) (fun _ _ _ _ _ => (pg_name (i := 3) sc_notes_outside.nd rfl (by first | exact Or.inl rfl | exact Or.inr rfl))) (fun _ _ _ _ _ => pts_one (pt_cmpR op_eq (pcl c_degree_in (hr.mono (by decide)) (pa_cons (pv 0) (pa_cons (pv 1) (pa_cons (pv 3) pa_nil)))) (pgI T.MODE_NOTES) (nomark _))) (fun _ _ _ _ _ => (pv 3))) pa_nil)))), ?_⟩
    refine ⟨_, rfl, ca, rfl, ⟨_, SqL.of hc⟩, fun D hD => lc_filt (es := c) (ve := V.int) (fun x => !(Sw69.modeOf st k).contains (x - k.tonic)) V.int (SqL.of hc) hD (by omega) (fun x H' Qk Qn hx s k1 k2 => ?_) (fun H1 s1 hD1 => ?_)⟩
    · obtain ⟨m, h1, h2, h3, h4, h5⟩ := degree_eq ok hm x
      have key : (!(Sw69.modeOf st k).contains (x - k.tonic)) = decide (V.int (Sw69.degree st k x : Nat) = V.int 7) := by
        rw [h3, h4]
        by_cases z : (x - k.tonic) ∈ m
        · have lt : m.idxOf (x - k.tonic) < 7 := by rw [← h2]; exact List.idxOf_lt_length_iff.mpr z
          rw [show m.contains (x - k.tonic) = true by simpa using z]
          refine (decide_eq_false fun q => ?_).symm
          injection q with q
          omega
        · rw [show m.contains (x - k.tonic) = false by simpa using z, List.idxOf_eq_length z, h2]
          exact (decide_eq_true rfl).symm
      refine ⟨rfl, _, rfl, _, rfl, _, rfl, la, ky, st, k, x, rfl, LineAt.mv hL s, s _ _ hk, hm, rfl, _, rfl, ite2 (fun q => ⟨_, rfl, k1 ?_ _ (Same.refl _)⟩) (fun q => k2 ?_ _ (Same.refl _))⟩
      · rw [key]; exact q
      · rw [key]; exact Bool.eq_false_iff.mpr q
    · refine ⟨D, _, rfl, .inl (SqL.of hD1), ?_⟩
      rw [List.length_map]
      exact kq H1 s1
def sp_kcost (CC CL : Addr) : Sp := fun vs H Q _ => ∃ (la a b : Addr) (st : Sw69.St) (k k' : Sw69.Key), vs = [.ref la, .ref a, .ref b] ∧ LineAt CC CL H la st ∧ TI H a (ky2 k) ∧ TI H b (ky2 k') ∧ Q (.int (kcost st k k' : Nat)) H
theorem ok_kcost {f : Addr} {fd : FuncData} (F : Fun K "key_change_cost" "key_change_cost" s_key_change_cost f fd) (T : Tx K mg CC CL CR CS) : FnOk P w K mg base CX0 1 f fd ["line", "before", "after"] (sp_kcost CC CL) := by
  refine F.ok sc_key_change_cost (fun vs H Q E h => ?_) (fun cdv A outer s H vs Q E hr h => ?_)
  · obtain ⟨la, a, b, st, k, k', rfl, _⟩ := h
    rfl
  · obtain ⟨la, a, b, st, k, k', rfl, hL, ha, hb, kq⟩ := h
    obtain ⟨dx, ka, ma, co, hla, hka, hma, hco, ok⟩ := id hL
    obtain ⟨dc, tb, hco1, htb⟩ := id hco
    have e1 := ok.key
    have base : ∀ i j : Int, (st.costs.key : Int) * (if i - j < 0 then -(i - j) else i - j) = ((st.costs.key * (j - i).natAbs : Nat) : Int) := fun i j => by
      push_cast
      congr 1
      split <;> omega
    refine ⟨_, (pss_cons (ps_set (i := 3) sc_key_change_cost.nd rfl (by first | exact Or.inl rfl | exact Or.inr rfl) (pe_op op_mul (pe_fld (pe_fld (pv 0) rfl) rfl) (pe_callB call_abs (by rfl) T.b_abs boot_abs (pa_cons (pe_op op_sub (pe_ix ix_tup (pv 1) pe_int (fun _ _ => rfl)) (pe_ix ix_tup (pv 2) pe_int (fun _ _ => rfl))) pa_nil)))) (pss_cons (ps_if (pt_cmpR op_ne (pe_ix ix_tup (pv 1) pe_int (fun _ _ => rfl)) (pe_ix ix_tup (pv 2) pe_int (fun _ _ => rfl)) (nomark _)) (pss_one (ps_aug (i := 3) sc_key_change_cost.nd rfl (by first | exact Or.inl rfl | exact Or.inr rfl) (pe_fld (pe_fld (pv 0) rfl) rfl) ip_add)) pss_nil) (pss_one (ps_ret (pv 3))))), ?_⟩
    refine ⟨_, rfl, la, CL, dx, _, _, rfl, hla, T.clL, T.n_costs, lF_costs, co, CC, dc, _, _, rfl, hco1, T.clC, T.n_key, cF_key, _, rfl, a, _, _, _, rfl, rfl, SqT.of ha, atI_nat (j := 0) rfl, _, rfl, b, _, _, _, rfl, rfl, SqT.of hb, atI_nat (j := 0) rfl, _, _, rfl, rfl,
      _, rfl, _, _, rfl, rfl, .inl ⟨by omega, by omega⟩, ?_⟩
    refine ⟨_, rfl, a, _, _, _, rfl, rfl, SqT.of ha, atI_nat (j := 1) rfl, _, rfl, b, _, _, _, rfl, rfl, SqT.of hb, atI_nat (j := 1) rfl, rfl, _, rfl, ite2 (fun q => ?_) (fun q => ?_)⟩
    · have q' : ¬ k.mode = k'.mode := fun z => by
        rw [z] at q
        simp at q
      refine ⟨_, rfl, _, rfl, la, CL, dx, _, _, rfl, hla, T.clL, T.n_costs, lF_costs, co, CC, dc, _, _, rfl, hco1, T.clC, T.n_mode, cF_mode, _, _, rfl, rfl, _, rfl, ?_⟩
      unfold kcost at kq
      rw [if_neg q'] at kq
      push_cast at kq
      have z := base k.tonic k'.tonic
      push_cast at z
      rw [z]
      exact kq
    · have q' : k.mode = k'.mode := by
        by_cases z : k.mode = k'.mode
        · exact z
        · exfalso
          apply q
          have : ¬ V.int (k.mode : Int) = V.int (k'.mode : Int) := fun y => z (by injection y with y; omega)
          rw [decide_eq_false this]
          rfl
      refine ⟨_, rfl, ?_⟩
      unfold kcost at kq
      rw [if_pos q', Nat.add_zero] at kq
      rw [← base k.tonic k'.tonic] at kq
      exact kq
def sp_rcost (CC CL : Addr) : Sp := fun vs H Q _ => ∃ (la a : Addr) (st : Sw69.St) (k : Sw69.Key) (r r' : Int), vs = [.ref la, .ref a, .int r, .int r'] ∧ LineAt CC CL H la st ∧ TI H a (ky2 k) ∧ k.mode < st.modes.length ∧ Q (.int (rcost st k r r' : Nat)) H
theorem ok_rcost {f : Addr} {fd : FuncData} (F : Fun K "root_change_cost" "root_change_cost" s_root_change_cost f fd) (T : Tx K mg CC CL CR CS) (c_degree_in : Cal P w K mg base 2 "degree_in" ["line", "key", "note"] (sp_degree_in CC CL)) : FnOk P w K mg base CX0 3 f fd ["line", "key", "before", "after"] (sp_rcost CC CL) := by
  refine F.ok sc_root_change_cost (fun vs H Q E h => ?_) (fun cdv A outer s H vs Q E hr h => ?_)
  · obtain ⟨la, a, st, k, r, r', rfl, _⟩ := h
    rfl
  · obtain ⟨la, a, st, k, r, r', rfl, hL, ha, hm, kq⟩ := h
    obtain ⟨dx, ka, ma, co, hla, hka, hma, hco, ok⟩ := id hL
    obtain ⟨dc, tb, hco1, htb⟩ := id hco
    obtain ⟨_, _, _, _, _, l1⟩ := degree_eq ok hm r
    obtain ⟨_, _, _, _, _, l2⟩ := degree_eq ok hm r'
    have hst := ok.tb
    have hj : 8 * Sw69.degree st k r + Sw69.degree st k r' < st.costs.steps.length := by omega
    refine ⟨_, (pss_one (ps_ret (pe_ix ix_list (pe_fld (pe_fld (pv 0) rfl) rfl) (pe_op op_add (pe_op op_mul (pgI T.TABLE_SIDE) (pcl c_degree_in (hr.mono (by decide)) (pa_cons (pv 0) (pa_cons (pv 1) (pa_cons (pv 2) pa_nil))))) (pcl c_degree_in (hr.mono (by decide)) (pa_cons (pv 0) (pa_cons (pv 1) (pa_cons (pv 3) pa_nil))))) (fun _ _ => rfl)))), ?_⟩
    refine ⟨_, rfl, la, CL, dx, _, _, rfl, hla, T.clL, T.n_costs, lF_costs, co, CC, dc, _, _, rfl, hco1, T.clC, T.n_table, cF_table, _, rfl, _, rfl, _, rfl, la, a, st, k, r, rfl, hL, ha, hm, _, _, rfl, rfl, .inl ⟨by omega, by omega⟩,
      _, rfl, _, rfl, _, rfl, la, a, st, k, r', rfl, hL, ha, hm, _, _, rfl, rfl, tb, _, _, _, rfl, rfl, SqL.of htb, at_of (j := 8 * Sw69.degree st k r + Sw69.degree st k r') (v := V.int (st.costs.steps.getD (8 * Sw69.degree st k r + Sw69.degree st k r') 0 : Nat)) (by push_cast; rfl) ?_, kq⟩
    rw [List.map_map, List.getElem?_map, List.getElem?_eq_getElem hj, List.getD_eq_getElem?_getD, List.getElem?_eq_getElem hj]
    rfl
def sp_cheapest : Sp := fun vs H Q _ => ∃ (a : Addr) (ps : List (Nat × Nat)), vs = [.ref a] ∧ PL H a ps ∧ ps ≠ [] ∧ ps.length ≤ 100000 ∧ ∀ H' p r, Same H H' → H p = none → bst ps = some r → TI H' p (pw2 r) → Q (.ref p) H'
theorem sum_cast : ∀ l : List Nat, (l.map fun (n : Nat) => (n : Int)).sum = ((l.sum : Nat) : Int)
  | [] => rfl
  | n :: l => by rw [List.map_cons, List.sum_cons, List.sum_cons, sum_cast l]; push_cast; rfl
theorem ok_cheapest {f : Addr} {fd : FuncData} (F : Fun K "cheapest" "cheapest" s_cheapest f fd) (T : Tx K mg CC CL CR CS) : FnOk P w K mg base CX0 1 f fd ["pairs"] sp_cheapest := by
  refine F.ok sc_cheapest (fun vs H Q E h => ?_) (fun cdv A outer s H vs Q E hr h => ?_)
  · obtain ⟨a, ps, rfl, _⟩ := h
    rfl
  · obtain ⟨a, ps, rfl, hP, hne, hz, kq⟩ := h
    obtain ⟨as, ha1, ha2⟩ := id hP
    refine ⟨_, (pss_cons (ps_set (i := 1) sc_cheapest.nd rfl (by first | exact Or.inl rfl | exact Or.inr rfl) (pe_callB (cr_min rfl) (by rfl) T.b_min boot_min (pa_cons (pe_lc (own := [("pair", 2)]) rfl sc_cheapest.nd (pi_list (pv 0)) (blkOk_by (N := N_cheapest) (sc := defScope s_cheapest) (by decide +kernel)) (fun _ _ _ _ _ => (pg_name (i := 2) sc_cheapest.nd rfl (by first | exact Or.inl rfl | exact Or.inr rfl))) (fun _ _ _ _ _ => pts_nil) (fun _ _ _ _ _ => (pe_ix (ix_tupK (K := K) rfl) (pv 2) pe_int (fun _ _ => rfl)))) pa_nil))) (pss_one (ps_ret (pe_tup (pa_cons (pv 1) (pa_cons (pe_callB (cr_sum rfl) (by rfl) T.b_sum boot_sum (pa_cons (pe_lc (own := [("pair", 2)]) rfl sc_cheapest.nd (pi_list (pv 0)) (blkOk_by (N := N_cheapest) (sc := defScope s_cheapest) (by decide +kernel)) (fun _ _ _ _ _ => (pg_name (i := 2) sc_cheapest.nd rfl (by first | exact Or.inl rfl | exact Or.inr rfl))) (fun _ _ _ _ _ => pts_one (pt_cmpR op_eq (pe_ix (ix_tupK (K := K) rfl) (pv 2) pe_int (fun _ _ => rfl)) (pv 1) (nomark _))) (fun _ _ _ _ _ => (pe_ix (ix_tupK (K := K) rfl) (pv 2) pe_int (fun _ _ => rfl)))) pa_nil)) pa_nil)))))), ?_⟩
    refine ⟨_, rfl, a, rfl, ⟨_, SqL.of ha1⟩, fun D hD => lc_mapR (R0 := fun H b p => TI H b (pw2 p)) (es := ps) (fun p y _ => y = .int (p.1 : Nat)) hP hD hz (fun _ _ _ _ r _ => r) (fun b p H' acc Qk hm hb s hDH kk => ?_) (fun H1 ys s1 hD1 hpy => ?_)⟩
    · exact ⟨rfl, _, rfl, b, _, _, _, rfl, rfl, SqT.of (s _ _ hb), atI_nat (j := 0) rfl, kk _ _ (Same.refl _) rfl⟩
    · refine ⟨D, ps.map fun p => ((p.1 : Nat) : Int), rfl, SqL.of (hD1.trans (by rw [Paired.eq_map hpy, List.map_map]; rfl)), by rw [List.length_map]; exact List.length_pos_iff.mpr hne, fun m hm hmin => ?_⟩
      obtain ⟨p0, hp0, rfl⟩ := List.mem_map.mp hm
      have hb : bst ps = some (p0.1, val ps p0.1) := bst_of ⟨p0, hp0, rfl⟩ fun x hx => by
        have := hmin _ (List.mem_map.mpr ⟨x, hx, rfl⟩)
        omega
      refine ⟨_, rfl, _, rfl, a, rfl, ⟨_, SqL.of (s1 _ _ ha1)⟩, fun D2 hD2 => lc_filtR (R0 := fun H b p => TI H b (pw2 p)) (es := ps) (fun p => p.1 == p0.1) (fun p => .int (p.2 : Nat)) (PL.mv hP s1) hD2 hz (fun b p H' Qk Qn hm hb s k1 k2 => ?_) (fun H2 s2 hD2' => ?_)⟩
      · refine ⟨rfl, _, rfl, b, _, _, _, rfl, rfl, SqT.of (s _ _ hb), atI_nat (j := 0) rfl, _, rfl, rfl, _, rfl, ite2 (fun q => ⟨_, rfl, b, _, _, _, rfl, rfl, SqT.of (s _ _ hb), atI_nat (j := 1) rfl, k1 ?_ _ (Same.refl _)⟩) (fun q => k2 ?_ _ (Same.refl _))⟩
        · have := of_decide_eq_true q
          injection this with this
          simp
          omega
        · refine beq_eq_false_iff_ne.mpr fun z => q (decide_eq_true ?_)
          rw [z]
      · refine ⟨D2, (ps.filter fun p => p.1 == p0.1).map fun p => ((p.2 : Nat) : Int), rfl, SqL.of (hD2'.trans (by rw [List.map_map]; rfl)), (by show 2 ≤ sizeLine; decide), fun p hp => kq _ p _ (Same.nw (s1.trans s2) hp) ((s1.trans s2).free hp) hb ?_⟩
        show upd H2 p _ p = _
        rw [upd_same]
        have e : ((ps.filter fun p => p.1 == p0.1).map fun p => ((p.2 : Nat) : Int)).sum = ((val ps p0.1 : Nat) : Int) := by
          unfold val
          rw [← sum_cast, List.map_map]
          rfl
        rw [e]
        rfl
end
end CN
end
section
set_option maxRecDepth 100000
set_option maxHeartbeats 4000000
namespace CN
open PySem PySem.Spec PyProof.Rows L2
theorem for_it {J : It} {n : Nat} {g : TG} {tb : TS} {D : Ends} {σ : L2.St} {H : Hp} (Pv : Nat → L2.St → Hp → Prop) (h0 : Pv 0 σ H) (hgo : ∀ i σ H, i < n → Pv i σ H → J.go i H) (hstop : ∀ σ H, Pv n σ H → J.stop n H)
    (hs : ∀ i σ H x H', i < n → Pv i σ H → J.yld i H x H' → g x σ H' fun σ2 H2 => tb { D with nx := Pv (i + 1), ct := Pv (i + 1), bk := D.nx } σ2 H2) (hd : ∀ σ H, Pv n σ H → D.nx σ H) :
    ∃ W : Nat → Nat → L2.St → Hp → Prop, (∃ m, W 0 m σ H) ∧ ∀ i m σ H, W i m σ H →
      (J.stop i H ∧ D.nx σ H) ∨ (J.go i H ∧ ∃ N : L2.St → Hp → Prop, (∀ σ' H', N σ' H' → ∃ m', m' < m ∧ W (i + 1) m' σ' H') ∧ ∀ x H', J.yld i H x H' → g x σ H' fun σ2 H2 => tb { D with nx := N, ct := N, bk := D.nx } σ2 H2) := by
  refine ⟨fun i m σ H => i + m = n ∧ Pv i σ H, ⟨n, by omega, h0⟩, fun i m σ H ⟨e, hp⟩ => ?_⟩
  by_cases hi : i < n
  · exact .inr ⟨hgo i σ H hi hp, Pv (i + 1), fun σ' H' q => ⟨m - 1, by omega, by omega, q⟩, fun x H' hy => hs i σ H x H' hi hp hy⟩
  · have hin : i = n := by omega
    subst hin
    exact .inl ⟨hstop σ H hp, hd σ H hp⟩
theorem lc_it {J : It} {n : Nat} {g : TG} {tt : TT} {te : TE} {vs : List Nat} {σ : L2.St} {H1 : Hp} {D : Addr} {Qd : Hp → Prop} (Pv : Nat → Hp → Prop) (h0 : Pv 0 (upd H1 D (.lst []))) (hgo : ∀ i H, i < n → Pv i H → J.go i H) (hstop : ∀ H, Pv n H → J.stop n H)
    (hs : ∀ i H x H', i < n → Pv i H → J.yld i H x H' → g x (wipe σ vs) H' fun σ2 H2 => wipe σ2 vs = wipe σ vs ∧ tt σ2 H2 fun b H3 =>
      if b = true then te σ2 H3 fun y H4 => ∃ acc, H4 D = some (.lst acc) ∧ acc.length < sizeLine ∧ Pv (i + 1) (upd H4 D (.lst (acc ++ [y]))) else Pv (i + 1) H3) (hd : ∀ H, Pv n H → Qd H) :
    ∃ W : Nat → Nat → Hp → Prop, (∃ m, W 0 m (upd H1 D (.lst []))) ∧ ∀ i m H, W i m H →
      (J.stop i H ∧ Qd H) ∨ (J.go i H ∧ ∃ Nx : Hp → Prop, (∀ H', Nx H' → ∃ m', m' < m ∧ W (i + 1) m' H') ∧ ∀ x H', J.yld i H x H' → g x (wipe σ vs) H' fun σ2 H2 => wipe σ2 vs = wipe σ vs ∧ tt σ2 H2 fun b H3 =>
        if b = true then te σ2 H3 fun y H4 => ∃ acc, H4 D = some (.lst acc) ∧ acc.length < sizeLine ∧ Nx (upd H4 D (.lst (acc ++ [y]))) else Nx H3) := by
  refine ⟨fun i m H => i + m = n ∧ Pv i H, ⟨n, by omega, h0⟩, fun i m H ⟨e, hp⟩ => ?_⟩
  by_cases hi : i < n
  · exact .inr ⟨hgo i H hi hp, Pv (i + 1), fun H' q => ⟨m - 1, by omega, by omega, q⟩, fun x H' hy => hs i H x H' hi hp hy⟩
  · have hin : i = n := by omega
    subst hin
    exact .inl ⟨hstop H hp, hd H hp⟩
theorem lc_mapI {J : It} {n : Nat} {g : TG} {te : TE} {vs : List Nat} {σ : L2.St} {H1 : Hp} {D : Addr} {Qd : Hp → Prop} (R : Nat → V → Hp → Prop) (hD : H1 D = none) (hz : n ≤ 100000) (mono : ∀ i y H H', R i y H → Kp D H H' → R i y H')
    (hgo : ∀ i H, i < n → Same H1 H → J.go i H) (hstop : ∀ H, Same H1 H → J.stop n H)
    (step : ∀ (i : Nat) (H : Hp) (x : V) (H' : Hp) (acc : List V) (Qk : V → Hp → Prop), i < n → Same H1 H → H D = some (.lst acc) → J.yld i H x H' → (∀ y H4, Same H H4 → R i y H4 → Qk y H4) → g x (wipe σ vs) H' fun σ2 H2 => wipe σ2 vs = wipe σ vs ∧ te σ2 H2 Qk)
    (fin : ∀ (H' : Hp) (ys : List V), Same H1 H' → H' D = some (.lst ys) → ys.length = n → (∀ (i : Nat) (y : V), ys[i]? = some y → R i y H') → Qd H') :
    ∃ W : Nat → Nat → Hp → Prop, (∃ m, W 0 m (upd H1 D (.lst []))) ∧ ∀ i m H, W i m H →
      (J.stop i H ∧ Qd H) ∨ (J.go i H ∧ ∃ Nx : Hp → Prop, (∀ H', Nx H' → ∃ m', m' < m ∧ W (i + 1) m' H') ∧ ∀ x H', J.yld i H x H' → g x (wipe σ vs) H' fun σ2 H2 => wipe σ2 vs = wipe σ vs ∧ tYes σ2 H2 fun b H3 =>
        if b = true then te σ2 H3 fun y H4 => ∃ acc, H4 D = some (.lst acc) ∧ acc.length < sizeLine ∧ Nx (upd H4 D (.lst (acc ++ [y]))) else Nx H3) := by
  refine lc_it (n := n) (fun i H => ∃ ys, i ≤ n ∧ Same H1 H ∧ H D = some (.lst ys) ∧ ys.length = i ∧ ∀ (j : Nat) (y : V), ys[j]? = some y → R j y H) ⟨[], by omega, Same.nw (Same.refl _) hD, upd_same, rfl, fun j y h => by simp at h⟩
    (fun i H hi ⟨_, _, s, _⟩ => hgo i H hi s) (fun H ⟨_, _, s, _⟩ => hstop H s) (fun i H x H' hi ⟨ys, _, s, hDH, hl, hr⟩ hy => ?_) (fun H ⟨ys, _, s, hDH, hl, hr⟩ => fin H ys s hDH hl hr)
  refine step i H x H' ys _ hi s hDH hy (fun y H4 s4 r4 => ⟨ys, s4 _ _ hDH, smallLt (by omega), ys ++ [y], by omega, Same.up (s.trans s4) hD, upd_same, by rw [List.length_append, hl]; rfl, fun j z hz => ?_⟩)
  by_cases hj : j < ys.length
  · rw [List.getElem?_append_left hj] at hz
    exact mono _ _ _ _ (hr j z hz) (Kp.up (Kp.of s4))
  · rw [List.getElem?_append_right (by omega)] at hz
    have e : j - ys.length = 0 := by
      cases q : j - ys.length with
      | zero => rfl
      | succ m => rw [q] at hz; simp at hz
    rw [e] at hz
    have : y = z := Option.some.inj hz
    subst this
    have ej : j = i := by omega
    subst ej
    exact mono _ _ _ _ r4 (Kp.up (Kp.refl _ _))
def RE (H : Hp) (r : Int × (Nat × Nat)) (kv : L2.Key × V) : Prop := kv.1 = Sum.inl r.1 ∧ ∃ p, kv.2 = .ref p ∧ TI H p (pw2 r.2)
def RowX (H : Hp) (q : Addr) (R : List (Int × (Nat × Nat))) : Prop := ∃ kvs, H q = some (.dK kvs) ∧ Paired (RE H) R kvs
def kyK (k : Sw69.Key) : List L2.Key := [Sum.inl k.tonic, Sum.inl (k.mode : Int)]
def TbE (H : Hp) (t : Sw69.Key × List (Int × (Nat × Nat))) (kv : List L2.Key × V) : Prop := kv.1 = kyK t.1 ∧ ∃ q, kv.2 = .ref q ∧ RowX H q t.2
def TabX (H : Hp) (d : Addr) (T : List (Sw69.Key × List (Int × (Nat × Nat)))) : Prop := ∃ kvs, H d = some (.dT kvs) ∧ Paired (TbE H) T kvs
theorem RE.mv {H H' : Hp} {r : Int × (Nat × Nat)} {kv : L2.Key × V} (h : RE H r kv) (s : ∀ b xs, H b = some (.tup xs) → H' b = some (.tup xs)) : RE H' r kv := by
  obtain ⟨h1, p, h2, h3⟩ := h
  exact ⟨h1, p, h2, s _ _ h3⟩
theorem RowX.mv {H H' : Hp} {q : Addr} {R : List (Int × (Nat × Nat))} (h : RowX H q R) (s : Same H H') : RowX H' q R := by
  obtain ⟨kvs, h1, h2⟩ := h
  exact ⟨kvs, s _ _ h1, Paired.mapP h2 fun r kv z => RE.mv z fun b xs e => s _ _ e⟩
theorem TbE.mv {H H' : Hp} {t : Sw69.Key × List (Int × (Nat × Nat))} {kv : List L2.Key × V} (h : TbE H t kv) (s : Same H H') : TbE H' t kv := by
  obtain ⟨h1, q, h2, h3⟩ := h
  exact ⟨h1, q, h2, RowX.mv h3 s⟩
theorem TabX.mv {H H' : Hp} {d : Addr} {T : List (Sw69.Key × List (Int × (Nat × Nat)))} (h : TabX H d T) (s : Same H H') : TabX H' d T := by
  obtain ⟨kvs, h1, h2⟩ := h
  exact ⟨kvs, s _ _ h1, Paired.mapP h2 fun t kv z => TbE.mv z s⟩
theorem BestAt.mv {H H' : Hp} {d : Addr} {B : BB} (h : BestAt H d B) (s : Same H H') : BestAt H' d B := by
  obtain ⟨kvs, h1, h2⟩ := h
  exact ⟨kvs, s _ _ h1, Paired.mapP h2 fun e kv z => BE.mv z fun b xs q => s _ _ q⟩
theorem kyK_inj {a b : Sw69.Key} (h : kyK a = kyK b) : a = b := by
  unfold kyK at h
  injection h with h1 h2
  injection h2 with h2 _
  have e1 : a.tonic = b.tonic := Sum.inl.inj h1
  have e2 : (a.mode : Int) = b.mode := Sum.inl.inj h2
  have e3 : a.mode = b.mode := by omega
  cases a; cases b
  simp only at e1 e3
  rw [e1, e3]
theorem keys_nodup (st : Sw69.St) : (Sw69.keys st).Nodup := by
  refine List.Pairwise.imp ?_ (keys_ord st)
  intro a b h e
  subst e
  exact klt_irr h
theorem val_nd {κ : Type} [DecidableEq κ] : ∀ {kvs : List (κ × V)} {i : Nat} {k : κ} {v : V}, (kvs.map (·.1)).Nodup → kvs[i]? = some (k, v) → valV kvs k = some v
  | [], i, k, v, _, h => by simp at h
  | p :: r, 0, k, v, _, h => by
    have e := Option.some.inj h
    subst e
    exact valV_pos rfl
  | p :: r, i + 1, k, v, hn, h => by
    have hn : (p.1 :: r.map (·.1)).Nodup := hn
    obtain ⟨h1, h2⟩ := List.nodup_cons.mp hn
    have h : r[i]? = some (k, v) := h
    rw [valV_neg fun e => h1 (List.mem_map.mpr ⟨_, List.mem_of_getElem? h, e.symm⟩)]
    exact val_nd h2 h
theorem Paired.keys {α β κ : Type} {R : α → β → Prop} {f : α → κ} {g : β → κ} (hf : ∀ a b, R a b → g b = f a) : ∀ {xs : List α} {ys : List β}, Paired R xs ys → ys.map g = xs.map f
  | _, _, .nil => rfl
  | _, _, .cons r t => by rw [List.map_cons, List.map_cons, hf _ _ r, Paired.keys hf t]
theorem nodup_map {α β : Type} {f : α → β} (hf : ∀ a b, f a = f b → a = b) : ∀ {l : List α}, l.Nodup → (l.map f).Nodup
  | [], _ => List.nodup_nil
  | a :: l, h => by
    obtain ⟨h1, h2⟩ := List.nodup_cons.mp h
    rw [List.map_cons]
    refine List.nodup_cons.mpr ⟨fun m => ?_, nodup_map hf h2⟩
    obtain ⟨b, hb, e⟩ := List.mem_map.mp m
    exact h1 (hf _ _ e ▸ hb)
theorem row_nd {H : Hp} {R : List (Int × (Nat × Nat))} {kvs : List (L2.Key × V)} (h : Paired (RE H) R kvs) (hn : (R.map (·.1)).Nodup) : (kvs.map (·.1)).Nodup := by
  rw [Paired.keys (f := fun r => (Sum.inl r.1 : L2.Key)) (g := fun kv => kv.1) (fun a b z => z.1) h]
  have : R.map (fun r => (Sum.inl r.1 : L2.Key)) = (R.map (·.1)).map Sum.inl := by rw [List.map_map]; rfl
  rw [this]
  exact nodup_map (fun a b e => Sum.inl.inj e) hn
theorem tab_nd {H : Hp} {T : List (Sw69.Key × List (Int × (Nat × Nat)))} {kvs : List (List L2.Key × V)} (h : Paired (TbE H) T kvs) (hn : (T.map (·.1)).Nodup) : (kvs.map (·.1)).Nodup := by
  rw [Paired.keys (f := fun r => kyK r.1) (g := fun kv => kv.1) (fun a b z => z.1) h]
  have : T.map (fun r => kyK r.1) = (T.map (·.1)).map kyK := by rw [List.map_map]; rfl
  rw [this]
  exact nodup_map (fun a b e => kyK_inj e) hn
theorem Paired.at2 {α β : Type} {R : α → β → Prop} : ∀ {xs : List α} {ys : List β} {i : Nat} {x : α}, Paired R xs ys → xs[i]? = some x → ∃ y, ys[i]? = some y ∧ R x y
  | _, _, i, y, .nil, h => by simp at h
  | _, _, 0, y, .cons r _, h => by
    have e := Option.some.inj h
    subst e
    exact ⟨_, rfl, r⟩
  | _, _, i + 1, y, .cons _ t, h => Paired.at2 (i := i) t h
theorem Rd.lock {H : Hp} {d q : Addr} {u0 u : HO} {od : Obj} (h0 : H d = some u0) (h : H q = some u) : Rd (upd H d (.frz od u0)) q u := by
  by_cases e : q = d
  · subst e
    rw [h0] at h
    cases h
    exact .inr ⟨od, upd_same⟩
  · exact .inl (by rw [upd_ne e]; exact h)
def StepAt (CS : Addr) (H : Hp) (a : Addr) (c : List Int) (B : BB) : Prop := ∃ dx ca da, H a = some (.ins CS dx (sF ca da)) ∧ LI H ca c ∧ BestAt H da B
theorem StepAt.mv {CS : Addr} {H H' : Hp} {a : Addr} {c : List Int} {B : BB} (h : StepAt CS H a c B) (s : Same H H') : StepAt CS H' a c B := by
  obtain ⟨dx, ca, da, h1, h2, h3⟩ := h
  exact ⟨dx, ca, da, s _ _ h1, s _ _ h2, BestAt.mv h3 s⟩
def Sd (H H' : Hp) : Prop := ∀ b o, H b = some o → (∀ kvs, o ≠ .dK kvs) → H' b = some o
theorem Sd.of {H H' : Hp} {d : Addr} {kvs : List (L2.Key × V)} (h : H d = some (.dK kvs)) (k : Kp d H H') : Sd H H' := fun b o e n => k b o e fun q => by
  rw [q, h] at e
  exact n _ (Option.some.inj e).symm
theorem LineAt.sd {CC CL : Addr} {H H' : Hp} {a : Addr} {s : Sw69.St} (h : LineAt CC CL H a s) (e : Sd H H') : LineAt CC CL H' a s := by
  obtain ⟨dx, ka, ma, ca, h1, ⟨x1, h2, h2'⟩, ⟨x2, h3, h3'⟩, ⟨dc, tb, h4, h4'⟩, h5⟩ := h
  exact ⟨dx, ka, ma, ca, e _ _ h1 (by intro k q; cases q), ⟨x1, e _ _ h2 (by intro k q; cases q), Paired.mapP h2' fun b r z => e _ _ z (by intro k q; cases q)⟩, ⟨x2, e _ _ h3 (by intro k q; cases q), Paired.mapP h3' fun b r z => e _ _ z (by intro k q; cases q)⟩, ⟨dc, tb, e _ _ h4 (by intro k q; cases q), e _ _ h4' (by intro k q; cases q)⟩, h5⟩
end CN
end
section
set_option maxRecDepth 100000
set_option maxHeartbeats 4000000
namespace CN
open PySem PySem.Spec PyProof.Rows L2
theorem for_refs2 {α : Type} {R0 : Hp → Addr → α → Prop} {K : PySem.W.Frag} {a : Addr} {es : List α} {g : TG} {tb : TS} {D : Ends} {σ : L2.St} {H H1 : Hp} (Pv : Nat → L2.St → Hp → Prop) (h : LL R0 H1 a es) (h0 : Pv 0 σ H) (keep : ∀ i σ H, Pv i σ H → ∀ l, H1 a = some (.lst l) → H a = some (.lst l))
    (turn : ∀ (i : Nat) (b : Addr) (e : α) (σ : L2.St) (H : Hp), es[i]? = some e → R0 H1 b e → Pv i σ H → g (.ref b) σ H fun σ2 H2 => tb { D with nx := Pv (i + 1), ct := Pv (i + 1), bk := D.nx } σ2 H2) (fin : ∀ σ H, Pv es.length σ H → D.nx σ H) :
    ∃ W : Nat → Nat → L2.St → Hp → Prop, (∃ m, W 0 m σ H) ∧ ∀ i m σ H, W i m σ H →
      ((Itl K a).stop i H ∧ D.nx σ H) ∨ ((Itl K a).go i H ∧ ∃ N : L2.St → Hp → Prop, (∀ σ' H', N σ' H' → ∃ m', m' < m ∧ W (i + 1) m' σ' H') ∧ ∀ x H', (Itl K a).yld i H x H' → g x σ H' fun σ2 H2 => tb { D with nx := N, ct := N, bk := D.nx } σ2 H2) := by
  obtain ⟨as, h1, h2⟩ := h
  have hlen := Paired.length h2
  refine for_list (xs := as.map V.ref) Pv h0 (fun i σ H _ hp => SqL.of (keep i σ H hp _ h1)) (fun i x σ H hx hp => ?_) (fun σ H hp => fin σ H (by rw [List.length_map, hlen] at hp; exact hp))
  obtain ⟨b, hb, rfl⟩ := map_at hx
  obtain ⟨hi, _⟩ := List.getElem?_eq_some_iff.mp hb
  have he : es[i]? = some (es[i]'(by omega)) := List.getElem?_eq_getElem _
  obtain ⟨b', hb', hr⟩ := Paired.at1 h2 he
  rw [hb] at hb'
  cases hb'
  exact turn i b _ σ H he hr hp
theorem valV_out {κ : Type} [DecidableEq κ] : ∀ {kvs : List (κ × V)} {k : κ}, k ∉ kvs.map (·.1) → valV kvs k = none
  | [], k, _ => rfl
  | p :: r, k, h => by
    rw [valV_neg fun e => h (List.mem_map.mpr ⟨p, List.mem_cons_self, e⟩)]
    exact valV_out fun m => h (List.mem_cons_of_mem _ m)
theorem nd_take {α : Type} {l : List α} {i : Nat} {x : α} (h : l.Nodup) (hx : l[i]? = some x) : x ∉ l.take i := by
  intro m
  obtain ⟨j, hj, e⟩ := List.getElem_of_mem m
  rw [List.length_take] at hj
  have e2 : l[j]? = some x := by
    rw [List.getElem_take] at e
    rw [List.getElem?_eq_getElem (by omega), e]
  have := nd_ix h hx e2
  omega
theorem TbE.kd {H H' : Hp} {d : Addr} {kvd : List (List L2.Key × V)} {t : Sw69.Key × List (Int × (Nat × Nat))} {kv : List L2.Key × V} (h : TbE H t kv) (hd : H d = some (.dT kvd)) (k : Kp d H H') : TbE H' t kv := by
  obtain ⟨h1, q, h2, kr, h3, h4⟩ := h
  exact ⟨h1, q, h2, kr, k _ _ h3 (ne_of h3 hd (by intro z; cases z)), Paired.mapP h4 fun r kv z => RE.mv z fun b xs e => k _ _ e (ne_of e hd (by intro z; cases z))⟩
theorem rest_read {σ : L2.St} {H : Hp} {Q : VK} {bv : V} {kb : Addr} {r0 : Int} {k : Sw69.Key} {x : Nat × Nat} (h2 : σ[2]? = some (some bv)) (h4 : σ[4]? = some (some (.ref kb))) (h7 : σ[7]? = some (some (.int r0)))
    (hc : (bv = .non ∧ x = (0, 1)) ∨ ∃ ta kvT q kvR p, bv = .ref ta ∧ Rd H ta (.dT kvT) ∧ H kb = some (.tup ((kyK k).map kV)) ∧ valV kvT (kyK k) = some (.ref q) ∧ Rd H q (.dK kvR) ∧ valV kvR (Sum.inl r0) = some (.ref p) ∧ TI H p (pw2 x))
    (kq : ∀ Hx p, Same H Hx → TI Hx p (pw2 x) → Q (.ref p) Hx) : tIf (tB (tIsN (tVar 2))) (tTup (tCons (tC (.int 0)) (tCons (tC (.int 1)) tNil))) (tDGet (tDGet (tVar 2) (tVar 4)) (tVar 7)) σ H Q := by
  refine ⟨_, h2, _, rfl, ?_⟩
  rcases hc with ⟨rfl, rfl⟩ | ⟨ta, kvT, q, kvR, p, rfl, hT, hk, hv, hR, hv2, hp⟩
  · rw [decide_eq_true rfl]
    exact iteT ⟨(by show 2 ≤ sizeLine; decide), fun p hp => kq _ p (Same.nw (Same.refl _) hp) upd_same⟩
  · rw [decide_eq_false (by intro z; cases z)]
    refine iteF ⟨_, h2, _, h4, ta, .ref q, rfl, .inr ⟨kvT, kyK k, kb, hT, rfl, hk, hv.symm⟩, _, h7, q, .ref p, rfl, .inl ⟨kvR, Sum.inl r0, hR, rfl, hv2.symm⟩, kq H p (Same.refl _) hp⟩
section
variable {P : Program} {w : World} {K : PySem.W.Frag} {mg : Str → Option Value} {base : Heap} {CC CL CR CS : Addr}
abbrev EN := Int × Sw69.Name × Nat
def restOk (H : Hp) (st : Sw69.St) (B : BB) (bv : V) (Fr : Sw69.Key → EN → Nat × Nat) : Prop := (bv = .non ∧ Fr = fun _ _ => (0, 1)) ∨ ∃ ta, bv = .ref ta ∧ TabX H ta ((Sw69.keys st).map fun k => (k, B.map fun e => (e.1, Fr k e)))
def sabF (st : Sw69.St) (c : List Int) (Fr : Sw69.Key → EN → Nat × Nat) (k : Sw69.Key) (e : EN) : Nat × Nat := (st.costs.out * Sw69.outside st k c + e.2.1.cost + (Fr k e).1, e.2.2 * (Fr k e).2)
def sp_sab (CC CL CS : Addr) : Sp := fun vs H Q _ => ∃ (la sa : Addr) (st : Sw69.St) (c : List Int) (B : BB) (bv : V) (Fr : Sw69.Key → EN → Nat × Nat), vs = [.ref la, .ref sa, bv] ∧ LineAt CC CL H la st ∧ StepAt CS H sa c B ∧ c.length ≤ 8 ∧ B.length ≤ 1000 ∧ (B.map (·.1)).Nodup ∧ (∀ e ∈ B, e.2.2 ≤ 1000) ∧
  restOk H st B bv Fr ∧ ∀ H' d, Same H H' → H d = none → TabX H' d ((Sw69.keys st).map fun k => (k, B.map fun e => (e.1, sabF st c Fr k e))) → Q (.ref d) H'
theorem ok_sab {f : Addr} {fd : FuncData} (F : Fun K "step_and_behind" "step_and_behind" s_step_and_behind f fd) (T : Tx K mg CC CL CR CS) (c_keys_of : Cal P w K mg base 1 "keys_of" ["line"] (sp_keys_of CC CL)) (c_notes_outside : Cal P w K mg base 3 "notes_outside" ["line", "key", "chord"] (sp_outside CC CL)) :
    FnOk P w K mg base CX0 4 f fd ["line", "step", "behind"] (sp_sab CC CL CS) := by
  refine F.ok sc_step_and_behind (fun vs H Q E h => ?_) (fun cdv A outer s H vs Q E hr h => ?_)
  · obtain ⟨la, sa, st, c, B, bv, Fr, rfl, _⟩ := h
    rfl
  · obtain ⟨la, sa, st, c, B, bv, Fr, rfl, hL, hS, hc8, hBl, hBn, hB1, hrest, kq⟩ := h
    have hu := hu_of hr
    obtain ⟨dx, ka, ma, co, hla, hka, hma, hco, ok⟩ := id hL
    obtain ⟨dc, tb, hco1, htb⟩ := id hco
    obtain ⟨dxs, ca, da, hsa, hca, kvs, hda, hB⟩ := id hS
    have hkl : B.length = kvs.length := Paired.length hB
    have hout := ok.out
    refine ⟨_, (pss_cons (ps_set (i := 3) sc_step_and_behind.nd rfl (by first | exact Or.inl rfl | exact Or.inr rfl) pe_dnewT) (pss_cons (ps_for PassesOwn.never rfl (pi_list (pcl c_keys_of (hr.mono (by decide)) (pa_cons (pv 0) pa_nil))) (pg_name (i := 4) sc_step_and_behind.nd rfl (by first | exact Or.inl rfl | exact Or.inr rfl)) (pss_cons (ps_set (i := 5) sc_step_and_behind.nd rfl (by first | exact Or.inl rfl | exact Or.inr rfl) (pe_op op_mul (pe_fld (pe_fld (pv 0) rfl) rfl) (pcl c_notes_outside (hr.mono (by decide)) (pa_cons (pv 0) (pa_cons (pv 4) (pa_cons (pe_fld (pv 1) rfl) pa_nil)))))) (pss_cons (ps_set (i := 6) sc_step_and_behind.nd rfl (by first | exact Or.inl rfl | exact Or.inr rfl) pe_dnewK) (pss_cons (ps_lock (ps_for PassesOwn.never rfl (pi_items (pe_fld (pv 1) rfl)) (pg_tup rfl (pgs_cons (pg_name (i := 7) sc_step_and_behind.nd rfl (by first | exact Or.inl rfl | exact Or.inr rfl)) (pgs_cons (pg_name (i := 8) sc_step_and_behind.nd rfl (by first | exact Or.inl rfl | exact Or.inr rfl)) pgs_nil))) (pss_cons (ps_set (i := 9) sc_step_and_behind.nd rfl (by first | exact Or.inl rfl | exact Or.inr rfl) (pe_ifExp (pt_cmp (pc_isN (pv 2))) (pe_tup (pa_cons pe_int (pa_cons pe_int pa_nil))) (pe_dget hu (pe_dget hu (pv 2) (pv 4) (fun _ _ => rfl)) (pv 7) (fun _ _ => rfl)))) (pss_one (ps_dput hu (pv 6) (pv 7) (pe_tup (pa_cons (pe_op op_add (pe_op op_add (pv 5) (pe_ix ix_tup (pe_ix ix_tup (pv 8) pe_int (fun _ _ => rfl)) pe_int (fun _ _ => rfl))) (pe_ix ix_tup (pv 9) pe_int (fun _ _ => rfl))) (pa_cons (pe_op op_mul (pe_ix ix_tup (pv 8) pe_int (fun _ _ => rfl)) (pe_ix ix_tup (pv 9) pe_int (fun _ _ => rfl))) pa_nil))) rfl))))) (pss_one (ps_dput hu (pv 3) (pv 4) (pv 6) rfl)))))) (pss_one (ps_ret (pv 3))))), ?_⟩
    intro d hd
    have s1 : Same H (upd H d (.dT [])) := Same.nw (Same.refl _) hd
    refine ⟨_, rfl, la, st, rfl, LineAt.mv hL s1, fun H2 ks s2 hks hK => ?_⟩
    obtain ⟨kas, hK1, hK2⟩ := id hK
    have hd2 : H2 d = some (.dT []) := s2 _ _ upd_same
    have s12 : Same H H2 := s1.trans s2
    refine ⟨ks, rfl, ⟨_, SqL.of hK1⟩, for_refs2 (R0 := fun H b k => TI H b (ky2 k)) (es := Sw69.keys st) (H1 := H2) (fun j σ H' => ∃ v4 v5 v6 v7 v8 v9, σ = [some (.ref la), some (.ref sa), some bv, some (.ref d), v4, v5, v6, v7, v8, v9] ∧ Same H H' ∧ Kp d H2 H' ∧
        TabX H' d (((Sw69.keys st).take j).map fun k => (k, B.map fun e => (e.1, sabF st c Fr k e)))) hK
      ⟨none, none, none, none, none, none, rfl, s12, Kp.refl _ _, [], hd2, .nil⟩ (fun i σ H' ⟨_, _, _, _, _, _, _, _, kp, _⟩ l hl => kp _ _ hl (ne_of hl hd2 (by intro z; cases z))) (fun j kb k σ H' hj hb ⟨v4, v5, v6, v7, v8, v9, hσ, s3, kp, kvd, hd3, hT⟩ => ?_) (fun σ H' ⟨v4, v5, v6, v7, v8, v9, hσ, s3, kp, hT⟩ => ?_)⟩
    · subst hσ
      have hkm : k ∈ Sw69.keys st := List.mem_of_getElem? hj
      have hm := (key_mem hkm).1
      have hb3 : TI H' kb (ky2 k) := kp _ _ hb (ne_of hb hd2 (by intro z; cases z))
      have hkn : ((Sw69.keys st).take j).length ≤ 45 := by
        have h1 := flat_len st.modes.length (List.range 15)
        rw [← keys_eq, List.length_range] at h1
        have h2 := ok.mn
        rw [List.length_take]
        omega
      have hTl := Paired.length hT
      rw [List.length_map] at hTl
      refine ⟨_, rfl, la, CL, dx, _, _, rfl, s3 _ _ hla, T.clL, T.n_costs, lF_costs, co, CC, dc, _, _, rfl, s3 _ _ hco1, T.clC, T.n_out, cF_out, _, rfl, _, rfl, _, rfl, sa, CS, dxs, _, _, rfl, s3 _ _ hsa, T.clS, T.n_chord, sF_chord,
        la, kb, ca, st, k, c, rfl, LineAt.mv hL s3, hb3, hm, s3 _ _ hca, hc8, fun H3 s4 => ⟨_, _, rfl, rfl, .inl ⟨by omega, by omega⟩, ?_⟩⟩
      intro r hr0
      have s34 := s3.trans s4
      have rda : da ≠ r := ne_of_none (s34 _ _ hda) hr0
      have hda4 : upd H3 r (.dK []) da = some (.dK kvs) := by rw [upd_ne rda]; exact s34 _ _ hda
      refine ⟨da, .dK kvs, hda4, trivial, fun od => ?_⟩
      -- the heap while the dict is locked
      have k35 : ∀ b o, H3 b = some o → b ≠ da → upd (upd H3 r (.dK [])) da (.frz od (.dK kvs)) b = some o := fun b o e n => by
        rw [upd_ne n, upd_ne (ne_of_none e hr0)]
        exact e
      have r5 : upd (upd H3 r (.dK [])) da (.frz od (.dK kvs)) r = some (.dK []) := by rw [upd_ne rda.symm, upd_same]
      have d5 : upd (upd H3 r (.dK [])) da (.frz od (.dK kvs)) da = some (.frz od (.dK kvs)) := upd_same
      have rd5 : ∀ b u, H3 b = some u → Rd (upd (upd H3 r (.dK [])) da (.frz od (.dK kvs))) b u := fun b u e => Rd.lock hda4 (by rw [upd_ne (ne_of_none e hr0)]; exact e)
      generalize upd (upd H3 r (.dK [])) da (.frz od (.dK kvs)) = H5 at k35 r5 d5 rd5 ⊢
      have tk5 : ∀ b xs, H3 b = some (.tup xs) → H5 b = some (.tup xs) := fun b xs e => k35 b _ e (ne_of e (s34 _ _ hda) (by intro z; cases z))
      have sk5 : H5 sa = some (.ins CS dxs (sF ca da)) := k35 _ _ (s34 _ _ hsa) (ne_of (s34 _ _ hsa) (s34 _ _ hda) (by intro z; cases z))
      refine ⟨_, rfl, sa, CS, dxs, _, _, rfl, sk5, T.clS, T.n_best, sF_best, da, od, kvs, rfl, d5, for_it (n := B.length) (fun i σ H' => ∃ v7 v8 v9, σ = [some (.ref la), some (.ref sa), some bv, some (.ref d), some (.ref kb), some (.int ((st.costs.out : Int) * (Sw69.outside st k c : Nat))), some (.ref r), v7, v8, v9] ∧ Kp r H5 H' ∧
          RowX H' r ((B.take i).map fun e => (e.1, sabF st c Fr k e)))
        ⟨v7, v8, v9, rfl, Kp.refl _ _, [], r5, .nil⟩ (fun i σ H' hi ⟨_, _, _, _, kp5, _⟩ => ⟨kp5 _ _ d5 rda, by omega⟩) (fun σ H' ⟨_, _, _, _, kp5, _⟩ => ⟨kp5 _ _ d5 rda, by omega⟩) (fun i σ H6 x H7 hi ⟨v7, v8, v9, hσ, kp5, kr, hr6, hR⟩ hy => ?_) (fun σ H6 ⟨v7, v8, v9, hσ, kp5, kr, hr6, hR⟩ => ?_)⟩
      · subst hσ
        obtain ⟨T0, k0, v0, hkv, rfl, hT0, rfl⟩ := hy
        obtain ⟨e, he⟩ : ∃ e, B[i]? = some e := ⟨_, List.getElem?_eq_getElem hi⟩
        obtain ⟨kv, hkv', hbe1, p, q, hbe2, hp0, hq0⟩ := Paired.at2 hB he
        rw [hkv] at hkv'
        cases hkv'
        have hk0 : k0 = Sum.inl e.1 := hbe1
        have hv0 : v0 = .ref p := hbe2
        subst hk0 hv0
        have up7 : ∀ b o, H6 b = some o → upd H6 T0 (.tup [kV (Sum.inl e.1), .ref p]) b = some o := fun b o z => by rw [upd_ne (ne_of_none z hT0)]; exact z
        refine ⟨T0, _, rfl, SqT.of upd_same, rfl, _, _, rfl, _, _, rfl, rfl, ?_⟩
        generalize upd H6 T0 (.tup [kV (Sum.inl e.1), .ref p]) = H7 at up7 ⊢
        have t67 : ∀ b xs, H3 b = some (.tup xs) → H7 b = some (.tup xs) := fun b xs z => up7 _ _ (kp5 _ _ (tk5 _ _ z) (ne_of (tk5 _ _ z) r5 (by intro y; cases y)))
        refine rest_read (k := k) (x := Fr k e) rfl rfl rfl ?_ (fun Hx p9 s9 h9 => ?_)
        · rcases hrest with ⟨h1, h2⟩ | ⟨ta, h1, kvT, hT1, hT2⟩
          · exact .inl ⟨h1, by rw [h2]⟩
          · right
            have hj' : ((Sw69.keys st).map fun k => (k, B.map fun e => (e.1, Fr k e)))[j]? = some (k, B.map fun e => (e.1, Fr k e)) := by rw [List.getElem?_map, hj]; rfl
            obtain ⟨kt, hkt, hkt1, qr, hkt2, kvR, hq1, hq2⟩ := Paired.at2 hT2 hj'
            have hi' : (B.map fun e => (e.1, Fr k e))[i]? = some (e.1, Fr k e) := by rw [List.getElem?_map, he]; rfl
            obtain ⟨kr2, hkr, hkr1, pr, hkr2, hpr⟩ := Paired.at2 hq2 hi'
            have ndT : (kvT.map (·.1)).Nodup := tab_nd hT2 (by rw [List.map_map]; exact (show ((Sw69.keys st).map fun k => k).Nodup by rw [List.map_id']; exact keys_nodup st))
            have ndR : (kvR.map (·.1)).Nodup := row_nd hq2 (by rw [List.map_map]; exact hBn)
            have rdk : ∀ b u, H3 b = some u → (∀ r' , u ≠ .dK r' ∨ b ≠ r) → Rd H5 b u := fun b u z _ => rd5 b u z
            have toRd : ∀ b u, H b = some u → Rd H7 b u := fun b u z => by
              rcases rd5 b u (s34 _ _ z) with y | ⟨o, y⟩
              · exact .inl (up7 _ _ (kp5 _ _ y (ne_of_none (s34 _ _ z) hr0)))
              · exact .inr ⟨o, up7 _ _ (kp5 _ _ y (ne_of_none (s34 _ _ z) hr0))⟩
            refine ⟨ta, kvT, qr, kvR, pr, h1, toRd _ _ hT1, t67 _ _ (s4 _ _ hb3), ?_, toRd _ _ hq1, ?_, t67 _ _ (s34 _ _ hpr)⟩
            · have e1 : kt = (kyK k, .ref qr) := Prod.ext hkt1 hkt2
              rw [e1] at hkt
              exact val_nd ndT hkt
            · have e1 : kr2 = (Sum.inl e.1, .ref pr) := Prod.ext hkr1 hkr2
              rw [e1] at hkr
              exact val_nd ndR hkr
        · have hp9 := s9 _ _ (t67 _ _ (s34 _ _ hp0))
          have hq9 := s9 _ _ (t67 _ _ (s34 _ _ hq0))
          have hr9 : Hx r = some (.dK kr) := s9 _ _ (up7 _ _ hr6)
          have hB1' := hB1 e (List.mem_of_getElem? he)
          have hRl := Paired.length hR
          rw [List.length_map, List.length_take] at hRl
          refine ⟨_, rfl, _, rfl, p, _, _, _, rfl, rfl, SqT.of hp9, atI_nat (j := 0) rfl, q, _, _, _, rfl, rfl, SqT.of hq9, atI_nat (j := 0) rfl, _, _, rfl, rfl, _, rfl, p9, _, _, _, rfl, rfl, SqT.of h9, atI_nat (j := 0) rfl, _, _, rfl, rfl,
            _, rfl, p, _, _, _, rfl, rfl, SqT.of hp9, atI_nat (j := 1) rfl, _, rfl, p9, _, _, _, rfl, rfl, SqT.of h9, atI_nat (j := 1) rfl, _, _, rfl, rfl, .inl ⟨by omega, by omega⟩, (by show 2 ≤ sizeLine; decide), fun p0 hp0' => ⟨_, rfl, _, rfl, r, _, rfl, DPut.k (k := Sum.inl e.1) (Same.nw (Same.refl Hx) hp0' _ _ hr9) (smallLt (by omega)), _, _, _, rfl, ?_, ?_⟩⟩
          · refine Kp.up fun b o z n => ?_
            exact Same.nw (Same.refl Hx) hp0' _ _ (s9 _ _ (up7 _ _ (kp5 _ _ z n)))
          · have vn : valV kr (Sum.inl e.1) = none := by
              refine valV_out ?_
              rw [Paired.keys (f := fun r => (Sum.inl r.1 : L2.Key)) (g := fun kv => kv.1) (fun a b z => z.1) hR, List.map_map]
              intro m
              obtain ⟨e', he', z⟩ := List.mem_map.mp m
              have z' : e'.1 = e.1 := Sum.inl.inj z
              have hB' : (B.map (·.1))[i]? = some e.1 := by rw [List.getElem?_map, he]; rfl
              refine nd_take hBn hB' ?_
              rw [← List.map_take]
              exact List.mem_map.mpr ⟨e', he', z'⟩
            rw [putK_new _ vn]
            have pr : p0 ≠ r := (ne_of_none hr9 hp0').symm
            have keep : ∀ b xs, Hx b = some (.tup xs) → upd (upd Hx p0 (.tup [.int ((st.costs.out : Int) * (Sw69.outside st k c : Nat) + (e.2.1.cost : Nat) + ((Fr k e).1 : Nat)), .int ((e.2.2 : Int) * ((Fr k e).2 : Nat))])) r (.dK (kr ++ [(Sum.inl e.1, .ref p0)])) b = some (.tup xs) := fun b xs z => by
              rw [upd_ne (ne_of z hr9 (by intro y; cases y)), upd_ne (ne_of_none z hp0')]
              exact z
            refine ⟨_, upd_same, ?_⟩
            rw [take_snoc he, List.map_append]
            refine Paired.snoc (Paired.mapP hR fun r kv z => RE.mv z fun b xs y => keep _ _ (s9 _ _ (up7 _ _ y))) ⟨rfl, p0, rfl, ?_⟩
            show upd _ r _ p0 = _
            rw [upd_ne pr, upd_same]
            unfold sabF pw2
            push_cast
            rfl
      · subst hσ
        rw [List.take_length] at hR
        refine ⟨kp5 _ _ d5 rda, ?_⟩
        have s37 : Same H3 (upd H6 da (.dK kvs)) := fun b o z => by
          by_cases y : b = da
          · subst y
            rw [s34 _ _ hda] at z
            cases z
            exact upd_same
          · rw [upd_ne y]
            exact kp5 _ _ (k35 _ _ z y) (ne_of_none z hr0)
        have hr7 : upd H6 da (.dK kvs) r = some (.dK kr) := by rw [upd_ne rda.symm]; exact hr6
        have hR7 : Paired (RE (upd H6 da (.dK kvs))) (B.map fun e => (e.1, sabF st c Fr k e)) kr := Paired.mapP hR fun r kv z => RE.mv z fun b xs y => by
          have ne : b ≠ da := ne_of y (kp5 _ _ d5 rda) (by intro z; cases z)
          rw [upd_ne ne]
          exact y
        generalize upd H6 da (.dK kvs) = H7 at s37 hr7 hR7 ⊢
        have hd7 : H7 d = some (.dT kvd) := s37 _ _ (s4 _ _ hd3)
        refine ⟨_, rfl, _, rfl, _, rfl, d, _, rfl, DPut.t (k := kyK k) hd7 (s37 _ _ (s4 _ _ hb3)) (smallLt (by omega)), _, _, _, _, _, _, rfl, Same.up ((s3.trans s4).trans s37) hd, Kp.up fun b o z n => s37 _ _ (s4 _ _ (kp _ _ z n)), ?_⟩
        have vn : valV kvd (kyK k) = none := by
          refine valV_out ?_
          rw [Paired.keys (f := fun t => kyK t.1) (g := fun kv => kv.1) (fun a b z => z.1) hT, List.map_map]
          intro m
          obtain ⟨k', hk', z⟩ := List.mem_map.mp m
          have z' : k' = k := kyK_inj z
          subst z'
          exact nd_take (keys_nodup st) hj hk'
        rw [putK_new _ vn]
        have kd : Kp d H7 (upd H7 d (.dT (kvd ++ [(kyK k, .ref r)]))) := Kp.up (Kp.refl _ _)
        refine ⟨_, upd_same, ?_⟩
        rw [take_snoc hj, List.map_append]
        exact Paired.snoc (Paired.mapP hT fun t kv z => TbE.kd (TbE.mv z (s4.trans s37)) hd7 kd) (TbE.kd ⟨rfl, r, rfl, kr, hr7, hR7⟩ hd7 kd)
    · subst hσ
      rw [List.take_length] at hT
      exact ⟨_, rfl, kq H' d s3 hd hT⟩
end
end CN
end
section
set_option maxRecDepth 100000
set_option maxHeartbeats 4000000
namespace CN
open PySem PySem.Spec PyProof.Rows L2
theorem paired_ix {α β : Type} {Q : α → β → Prop} : ∀ {xs : List α} {ys : List β}, xs.length = ys.length → (∀ (i : Nat) (x : α) (y : β), xs[i]? = some x → ys[i]? = some y → Q x y) → Paired Q xs ys
  | [], [], _, _ => .nil
  | x :: xs, y :: ys, h, k => .cons (k 0 x y rfl rfl) (paired_ix (by simpa using h) fun i a b ha hb => k (i + 1) a b ha hb)
  | [], _ :: _, h, _ => by simp at h
  | _ :: _, [], h, _ => by simp at h
theorem Paired.mapR {α β γ : Type} {R : α → γ → Prop} {f : β → γ} : ∀ {xs : List α} {ys : List β}, Paired (fun a b => R a (f b)) xs ys → Paired R xs (ys.map f)
  | _, _, .nil => .nil
  | _, _, .cons r t => .cons r (Paired.mapR t)
theorem lc_mapE {α : Type} {es : List α} {J : It} {g : TG} {te : TE} {vs : List Nat} {σ : L2.St} {H1 : Hp} {D : Addr} {Qd : Hp → Prop} (R : α → V → Hp → Prop) (hD : H1 D = none) (hz : es.length ≤ 100000) (mono : ∀ e y H H', R e y H → Kp D H H' → R e y H')
    (hgo : ∀ i H, i < es.length → Same H1 H → J.go i H) (hstop : ∀ H, Same H1 H → J.stop es.length H)
    (step : ∀ (i : Nat) (e : α) (H : Hp) (x : V) (H' : Hp) (acc : List V) (Qk : V → Hp → Prop), es[i]? = some e → Same H1 H → H D = some (.lst acc) → J.yld i H x H' → (∀ y H4, Same H H4 → R e y H4 → Qk y H4) → g x (wipe σ vs) H' fun σ2 H2 => wipe σ2 vs = wipe σ vs ∧ te σ2 H2 Qk)
    (fin : ∀ (H' : Hp) (ys : List V), Same H1 H' → H' D = some (.lst ys) → Paired (fun e y => R e y H') es ys → Qd H') :
    ∃ W : Nat → Nat → Hp → Prop, (∃ m, W 0 m (upd H1 D (.lst []))) ∧ ∀ i m H, W i m H →
      (J.stop i H ∧ Qd H) ∨ (J.go i H ∧ ∃ Nx : Hp → Prop, (∀ H', Nx H' → ∃ m', m' < m ∧ W (i + 1) m' H') ∧ ∀ x H', J.yld i H x H' → g x (wipe σ vs) H' fun σ2 H2 => wipe σ2 vs = wipe σ vs ∧ tYes σ2 H2 fun b H3 =>
        if b = true then te σ2 H3 fun y H4 => ∃ acc, H4 D = some (.lst acc) ∧ acc.length < sizeLine ∧ Nx (upd H4 D (.lst (acc ++ [y]))) else Nx H3) := by
  refine lc_mapI (n := es.length) (fun i y H => ∀ e, es[i]? = some e → R e y H) hD hz (fun i y H H' r k e he => mono e y H H' (r e he) k) hgo hstop (fun i H x H' acc Qk hi s hDH hy kq => ?_) (fun H' ys s hDH hl hr => fin H' ys s hDH (paired_ix hl.symm fun i e y he hy => hr i y hy e he))
  have he : es[i]? = some (es[i]'hi) := List.getElem?_eq_getElem _
  refine step i _ H x H' acc Qk he s hDH hy fun y H4 s4 r4 => kq y H4 s4 fun e he' => ?_
  rw [he] at he'
  cases he'
  exact r4
theorem refs_of {α : Type} {g : α → List Int} {D : Addr} {H : Hp} {es : List α} {ys : List V} (hD : H D = some (.lst ys)) (h : Paired (fun e y => ∃ b, y = V.ref b ∧ b ≠ D ∧ TI H b (g e)) es ys) : LL (fun H b e => TI H b (g e)) H D es := by
  obtain ⟨as, e1, e2⟩ := Paired.refs (R := fun b e => b ≠ D ∧ TI H b (g e)) h
  exact ⟨as, by rw [hD, e1], Paired.mapP e2 fun b e z => z.2⟩
theorem best_ne_row {H : Hp} {d q : Addr} {B : BB} {R : List (Int × (Nat × Nat))} (hB : BestAt H d B) (hne : B ≠ []) (hR : RowX H q R) : q ≠ d := by
  obtain ⟨kvs, h1, h2⟩ := hB
  obtain ⟨kvr, h3, h4⟩ := hR
  intro e
  subst e
  rw [h1] at h3
  have e : kvs = kvr := by injection (Option.some.inj h3)
  subst e
  cases h2 with
  | nil => exact hne rfl
  | cons r t =>
    cases h4 with
    | cons r' t' =>
      obtain ⟨_, p, qq, a1, a2, _⟩ := r
      obtain ⟨_, p', b1, b2⟩ := r'
      rw [a1] at b1
      cases b1
      have b3 := a2.symm.trans b2
      simp [pw2] at b3
theorem LL.sd {α : Type} {g : α → List Int} {H H' : Hp} {l : Addr} {es : List α} (h : LL (fun H b e => TI H b (g e)) H l es) (k : Sd H H') : LL (fun H b e => TI H b (g e)) H' l es := by
  obtain ⟨as, h1, h2⟩ := h
  exact ⟨as, k _ _ h1 (by intro z q; cases q), Paired.mapP h2 fun b e z => k _ _ z (by intro z q; cases q)⟩
section
variable {P : Program} {w : World} {K : PySem.W.Frag} {mg : Str → Option Value} {base : Heap} {CC CL CR CS : Addr}
def sp_into (CC CL : Addr) : Sp := fun vs H Q _ => ∃ (la ka qa : Addr) (st : Sw69.St) (r : Int) (k : Sw69.Key) (R : List (Int × (Nat × Nat))), vs = [.ref la, .int r, .ref ka, .ref qa] ∧ LineAt CC CL H la st ∧ TI H ka (ky2 k) ∧ k.mode < st.modes.length ∧ RowX H qa R ∧ R ≠ [] ∧ R.length ≤ 1000 ∧
  ∀ H' p x, Same H H' → H p = none → bst (R.map fun r' => shf (rcost st k r r'.1) r'.2) = some x → TI H' p (pw2 x) → Q (.ref p) H'
theorem ok_into {f : Addr} {fd : FuncData} (F : Fun K "into_key" "into_key" s_into_key f fd) (T : Tx K mg CC CL CR CS) (c_root_change_cost : Cal P w K mg base 3 "root_change_cost" ["line", "key", "before", "after"] (sp_rcost CC CL)) (c_cheapest : Cal P w K mg base 1 "cheapest" ["pairs"] sp_cheapest) :
    FnOk P w K mg base CX0 4 f fd ["line", "root", "key", "by_root"] (sp_into CC CL) := by
  refine F.ok sc_into_key (fun vs H Q E h => ?_) (fun cdv A outer s H vs Q E hr h => ?_)
  · obtain ⟨la, ka, qa, st, r, k, R, rfl, _⟩ := h
    rfl
  · obtain ⟨la, ky, qa, st, r, k, R, rfl, hL, hk, hm, hR, hne, hRl, kq⟩ := h
    obtain ⟨kvs, hqa, hRp⟩ := id hR
    have hlen : R.length = kvs.length := Paired.length hRp
    refine ⟨_, (pss_one (ps_ret (pcl c_cheapest (hr.mono (by decide)) (pa_cons (pe_lock (pe_lc (own := [("after", 4), ("pair", 5)]) rfl sc_into_key.nd (pi_items (pv 3)) (blkOk_by (N := N_into_key) (sc := defScope s_into_key) (by decide +kernel)) (fun _ _ _ _ _ => (pg_tupK (K := K) (n := 2) rfl rfl (pgs_cons (pg_name (i := 4) sc_into_key.nd rfl (by first | exact Or.inl rfl | exact Or.inr rfl)) (pgs_cons (pg_name (i := 5) sc_into_key.nd rfl (by first | exact Or.inl rfl | exact Or.inr rfl)) pgs_nil)))) (fun _ _ _ _ _ => pts_nil) (fun _ _ _ _ _ => (pe_tup (pa_cons (pe_op op_add (pcl c_root_change_cost (hr.mono (by decide)) (pa_cons (pv 0) (pa_cons (pv 2) (pa_cons (pv 1) (pa_cons (pv 4) pa_nil))))) (pe_ix (ix_tupK (K := K) rfl) (pv 5) pe_int (fun _ _ => rfl))) (pa_cons (pe_ix (ix_tupK (K := K) rfl) (pv 5) pe_int (fun _ _ => rfl)) pa_nil)))))) pa_nil)))), ?_⟩
    refine ⟨qa, .dK kvs, hqa, trivial, fun od => ?_⟩
    have k0 : Kp qa H (upd H qa (.frz od (.dK kvs))) := Kp.up (Kp.refl _ _)
    have d0 : upd H qa (.frz od (.dK kvs)) qa = some (.frz od (.dK kvs)) := upd_same
    have free0 : ∀ {p : Addr}, upd H qa (.frz od (.dK kvs)) p = none → H p = none := fun {p} z => by
      cases y : H p with
      | none => rfl
      | some o =>
        by_cases e : p = qa
        · subst e; rw [upd_same] at z; cases z
        · rw [upd_ne e, y] at z; cases z
    generalize upd H qa (.frz od (.dK kvs)) = Hl at k0 d0 free0 ⊢
    have sd0 : Sd H Hl := Sd.of hqa k0
    have hLl := LineAt.sd hL sd0
    have hkl : TI Hl ky (ky2 k) := sd0 _ _ hk (by intro z q; cases q)
    refine ⟨_, rfl, qa, od, kvs, rfl, d0, fun D hD => lc_mapE (es := R) (fun r' y H => ∃ b, y = V.ref b ∧ b ≠ D ∧ TI H b (pw2 (shf (rcost st k r r'.1) r'.2))) hD (by omega) (fun e y H H' ⟨b, h1, h2, h3⟩ kp => ⟨b, h1, h2, kp _ _ h3 h2⟩)
      (fun i H' hi s => ⟨s _ _ d0, by omega⟩) (fun H' s => ⟨s _ _ d0, by omega⟩) (fun i r' H1 x H2 acc Qk hi s hDH hy kk => ?_) (fun H1 ys s1 hD1 hpy => ?_)⟩
    · obtain ⟨T0, k0, v0, hkv, rfl, hT0, rfl⟩ := hy
      obtain ⟨kv, hkv', e1, p, e2, hp⟩ := Paired.at2 hRp hi
      rw [hkv] at hkv'
      cases hkv'
      have hk0 : k0 = Sum.inl r'.1 := e1
      have hv0 : v0 = .ref p := e2
      subst hk0 hv0
      have up1 : Same H1 (upd H1 T0 (.tup [kV (Sum.inl r'.1), .ref p])) := Same.nw (Same.refl _) hT0
      refine ⟨T0, _, rfl, SqT.of upd_same, rfl, _, _, rfl, _, _, rfl, rfl, rfl, ?_⟩
      generalize upd H1 T0 (.tup [kV (Sum.inl r'.1), .ref p]) = H2 at up1 ⊢
      have sl := s.trans up1
      have hp2 : TI H2 p (pw2 r'.2) := sl _ _ (sd0 _ _ hp (by intro z q; cases q))
      refine ⟨_, rfl, _, rfl, _, rfl, _, rfl, la, ky, st, k, r, r'.1, rfl, LineAt.mv hLl sl, sl _ _ hkl, hm, _, rfl, p, _, _, _, rfl, rfl, SqT.of hp2, atI_nat (j := 0) rfl, _, _, rfl, rfl, _, rfl, p, _, _, _, rfl, rfl, SqT.of hp2, atI_nat (j := 1) rfl, (by show 2 ≤ sizeLine; decide), fun b hb => kk _ _ (Same.nw up1 hb) ⟨b, rfl, ?_, ?_⟩⟩
      · exact (ne_of_none (up1 _ _ hDH) hb).symm
      · show upd H2 b _ b = _
        rw [upd_same]
        unfold shf pw2
        push_cast
        rfl
    · have hPL := refs_of (g := fun r' : Int × (Nat × Nat) => pw2 (shf (rcost st k r r'.1) r'.2)) hD1 hpy
      have dq : D ≠ qa := (ne_of_none d0 hD).symm
      refine ⟨s1 _ _ d0, D, R.map fun r' => shf (rcost st k r r'.1) r'.2, rfl, ?_, fun e => hne (List.map_eq_nil_iff.mp e), by rw [List.length_map]; omega, fun H2 p x s2 hp hb ht => ?_⟩
      · obtain ⟨as, h1, h2⟩ := hPL
        refine ⟨as, by rw [upd_ne dq]; exact h1, ?_⟩
        refine Paired.mapR (R := fun b p => TI (upd H1 qa (.dK kvs)) b (pw2 p)) (f := fun r' : Int × (Nat × Nat) => shf (rcost st k r r'.1) r'.2) (Paired.mapP h2 fun b r' z => ?_)
        show upd H1 qa _ b = _
        rw [upd_ne (ne_of z (s1 _ _ d0) (by intro y; cases y))]
        exact z
      · have sf : Same H (upd H1 qa (.dK kvs)) := fun b o z => by
          by_cases y : b = qa
          · subst y
            rw [hqa] at z
            cases z
            exact upd_same
          · rw [upd_ne y]
            exact s1 _ _ (k0 _ _ z y)
        exact kq H2 p x (sf.trans s2) (sf.free hp) hb ht
end
end CN
end
section
set_option maxRecDepth 100000
set_option maxHeartbeats 4000000
namespace CN
open PySem PySem.Spec PyProof.Rows L2
def Slt (H H' : Hp) : Prop := ∀ b, (∀ xs, H b = some (.lst xs) → H' b = some (.lst xs)) ∧ ∀ xs, H b = some (.tup xs) → H' b = some (.tup xs)
theorem Slt.same {H H' : Hp} (s : Same H H') : Slt H H' := fun b => ⟨fun xs e => s _ _ e, fun xs e => s _ _ e⟩
theorem Slt.kp {H H' : Hp} {d : Addr} {o : HO} (h : H d = some o) (k : Kp d H H') (n1 : ∀ xs, o ≠ .lst xs) (n2 : ∀ xs, o ≠ .tup xs) : Slt H H' := fun b =>
  ⟨fun xs e => k _ _ e (ne_of e h fun z => n1 _ z.symm), fun xs e => k _ _ e (ne_of e h fun z => n2 _ z.symm)⟩
theorem LL.st {α : Type} {g : α → List Int} {H H' : Hp} {l : Addr} {es : List α} (h : LL (fun H b e => TI H b (g e)) H l es) (k : Slt H H') : LL (fun H b e => TI H b (g e)) H' l es := by
  obtain ⟨as, h1, h2⟩ := h
  exact ⟨as, (k _).1 _ h1, Paired.mapP h2 fun b e z => (k _).2 _ z⟩
section
variable {P : Program} {w : World} {K : PySem.W.Frag} {mg : Str → Option Value} {base : Heap} {CC CL CR CS : Addr}
def intoF (st : Sw69.St) (B' : BB) (G : Sw69.Key → EN → Nat × Nat) (r : Int) (k : Sw69.Key) : Nat × Nat := (bst (B'.map fun e => shf (rcost st k r e.1) (G k e))).getD (0, 0)
def behF (st : Sw69.St) (B' : BB) (G : Sw69.Key → EN → Nat × Nat) (k : Sw69.Key) (r : Int) : Nat × Nat := (bst ((Sw69.keys st).map fun k' => shf (kcost st k k') (intoF st B' G r k'))).getD (0, 0)
def IE (st : Sw69.St) (B' : BB) (G : Sw69.Key → EN → Nat × Nat) (H : Hp) (e : EN) (kv : L2.Key × V) : Prop := kv.1 = Sum.inl e.1 ∧ ∃ l, kv.2 = .ref l ∧ LL (fun H b k => TI H b (pw2 (intoF st B' G e.1 k))) H l (Sw69.keys st)
theorem IE.st {st : Sw69.St} {B' : BB} {G : Sw69.Key → EN → Nat × Nat} {H H' : Hp} {e : EN} {kv : L2.Key × V} (h : IE st B' G H e kv) (s : Slt H H') : IE st B' G H' e kv := by
  obtain ⟨h1, l, h2, h3⟩ := h
  exact ⟨h1, l, h2, LL.st (g := fun k => pw2 (intoF st B' G e.1 k)) h3 s⟩
def sp_beh (CC CL CS : Addr) : Sp := fun vs H Q _ => ∃ (la sa oa : Addr) (st : Sw69.St) (c : List Int) (B B' : BB) (G : Sw69.Key → EN → Nat × Nat), vs = [.ref la, .ref sa, .ref oa] ∧ LineAt CC CL H la st ∧ StepAt CS H sa c B ∧
  TabX H oa ((Sw69.keys st).map fun k => (k, B'.map fun e => (e.1, G k e))) ∧ st.modes ≠ [] ∧ B ≠ [] ∧ B' ≠ [] ∧ B.length ≤ 1000 ∧ B'.length ≤ 1000 ∧ (B.map (·.1)).Nodup ∧
  ∀ H' d, Same H H' → H d = none → TabX H' d ((Sw69.keys st).map fun k => (k, B.map fun e => (e.1, behF st B' G k e.1))) → Q (.ref d) H'
theorem ok_beh {f : Addr} {fd : FuncData} (F : Fun K "behind_step" "behind_step" s_behind_step f fd) (T : Tx K mg CC CL CR CS) (c_keys_of : Cal P w K mg base 1 "keys_of" ["line"] (sp_keys_of CC CL)) (c_into_key : Cal P w K mg base 4 "into_key" ["line", "root", "key", "by_root"] (sp_into CC CL))
    (c_key_change_cost : Cal P w K mg base 1 "key_change_cost" ["line", "before", "after"] (sp_kcost CC CL)) (c_cheapest : Cal P w K mg base 1 "cheapest" ["pairs"] sp_cheapest) :
    FnOk P w K mg base CX0 5 f fd ["line", "step", "onward"] (sp_beh CC CL CS) := by
  refine F.ok sc_behind_step (fun vs H Q E h => ?_) (fun cdv A outer s H vs Q E hr h => ?_)
  · obtain ⟨la, sa, oa, st, c, B, B', G, rfl, _⟩ := h
    rfl
  · obtain ⟨la, sa, oa, st, c, B, B', G, rfl, hL, hS, hO, hmo, hBne, hBne', hBl, hBl', hBn, kq⟩ := h
    have hu := hu_of hr
    have hkne : Sw69.keys st ≠ [] := keys_ne hmo
    have ok : StOk st := by obtain ⟨_, _, _, _, _, _, _, _, ok⟩ := hL; exact ok
    have hkl45 : (Sw69.keys st).length ≤ 45 := by
      have h1 := flat_len st.modes.length (List.range 15)
      rw [← keys_eq, List.length_range] at h1
      have h2 := ok.mn
      omega
    have into_some : ∀ r k, bst (B'.map fun e => shf (rcost st k r e.1) (G k e)) = some (intoF st B' G r k) := fun r k => getD_some (bst_ne fun e => hBne' (List.map_eq_nil_iff.mp e)) rfl
    have beh_some : ∀ k r, bst ((Sw69.keys st).map fun k' => shf (kcost st k k') (intoF st B' G r k')) = some (behF st B' G k r) := fun k r => getD_some (bst_ne fun e => hkne (List.map_eq_nil_iff.mp e)) rfl
    refine ⟨_, (pss_cons (ps_set (i := 3) sc_behind_step.nd rfl (by first | exact Or.inl rfl | exact Or.inr rfl) (pcl c_keys_of (hr.mono (by decide)) (pa_cons (pv 0) pa_nil))) (pss_cons (ps_set (i := 4) sc_behind_step.nd rfl (by first | exact Or.inl rfl | exact Or.inr rfl) pe_dnewK) (pss_cons (ps_lock (ps_for PassesOwn.never rfl (pi_keys (pe_fld (pv 1) rfl)) (pg_name (i := 5) sc_behind_step.nd rfl (by first | exact Or.inl rfl | exact Or.inr rfl)) (pss_one (ps_dput hu (pv 4) (pv 5) (pe_lc (own := [("key", 7)]) rfl sc_behind_step.nd (pi_list (pv 3)) (blkOk_by (N := N_behind_step) (sc := defScope s_behind_step) (by decide +kernel)) (fun _ _ _ _ _ => (pg_name (i := 7) sc_behind_step.nd rfl (by first | exact Or.inl rfl | exact Or.inr rfl))) (fun _ _ _ _ _ => pts_nil) (fun _ _ _ _ _ => (pcl c_into_key (hr.mono (by decide)) (pa_cons (pv 0) (pa_cons (pv 5) (pa_cons (pv 7) (pa_cons (pe_dget hu (pv 2) (pv 7) (fun _ _ => rfl)) pa_nil))))))) rfl)))) (pss_cons (ps_set (i := 6) sc_behind_step.nd rfl (by first | exact Or.inl rfl | exact Or.inr rfl) pe_dnewT) (pss_cons (ps_for PassesOwn.never rfl (pi_list (pv 3)) (pg_name (i := 7) sc_behind_step.nd rfl (by first | exact Or.inl rfl | exact Or.inr rfl)) (pss_cons (ps_setLc (i := 8) (own := [("after", 10)]) rfl sc_behind_step.nd rfl rfl (sw_true rfl rfl rfl rfl) (pi_list (pv 3)) (blkOk_by (N := N_behind_step) (sc := defScope s_behind_step) (by decide +kernel)) (fun _ _ _ _ _ => (pg_name (i := 10) sc_behind_step.nd rfl (by first | exact Or.inl rfl | exact Or.inr rfl))) (fun _ _ _ _ _ => pts_nil) (fun _ _ _ _ _ => (pcl c_key_change_cost (hr.mono (by decide)) (pa_cons (pv 0) (pa_cons (pv 7) (pa_cons (pv 10) pa_nil)))))) (pss_cons (ps_set (i := 9) sc_behind_step.nd rfl (by first | exact Or.inl rfl | exact Or.inr rfl) pe_dnewK) (pss_cons (ps_lock (ps_for PassesOwn.never rfl (pi_keys (pe_fld (pv 1) rfl)) (pg_name (i := 5) sc_behind_step.nd rfl (by first | exact Or.inl rfl | exact Or.inr rfl)) (pss_one (ps_dput hu (pv 9) (pv 5) (pcl c_cheapest (hr.mono (by decide)) (pa_cons (pe_lc (own := [("change", 11), ("pair", 12)]) rfl sc_behind_step.nd (pi_zip rfl T.b_zip (pa_cons (pv 8) (pa_cons (pe_dget hu (pv 4) (pv 5) (fun _ _ => rfl)) pa_nil))) (blkOk_by (N := N_behind_step) (sc := defScope s_behind_step) (by decide +kernel)) (fun _ _ _ _ _ => (pg_tupK (K := K) (n := 2) rfl rfl (pgs_cons (pg_name (i := 11) sc_behind_step.nd rfl (by first | exact Or.inl rfl | exact Or.inr rfl)) (pgs_cons (pg_name (i := 12) sc_behind_step.nd rfl (by first | exact Or.inl rfl | exact Or.inr rfl)) pgs_nil)))) (fun _ _ _ _ _ => pts_nil) (fun _ _ _ _ _ => (pe_tup (pa_cons (pe_op op_add (pv 11) (pe_ix (ix_tupK (K := K) rfl) (pv 12) pe_int (fun _ _ => rfl))) (pa_cons (pe_ix (ix_tupK (K := K) rfl) (pv 12) pe_int (fun _ _ => rfl)) pa_nil))))) pa_nil)) rfl)))) (pss_one (ps_dput hu (pv 6) (pv 7) (pv 9) rfl)))))) (pss_one (ps_ret (pv 6)))))))), ?_⟩
    refine ⟨_, rfl, la, st, rfl, hL, fun H1 ks s1 hks hK => ?_⟩
    intro ia hia
    have hL1 := LineAt.mv hL s1
    obtain ⟨dxs, ca, da, hsa, hca, kvs, hda, hB⟩ := StepAt.mv hS s1
    have hBA : BestAt H1 da B := ⟨kvs, hda, hB⟩
    obtain ⟨kvT, hoa, hT⟩ := TabX.mv hO s1
    have hkl : B.length = kvs.length := Paired.length hB
    have iada : da ≠ ia := ne_of_none hda hia
    have hda2 : upd H1 ia (.dK []) da = some (.dK kvs) := by rw [upd_ne iada]; exact hda
    refine ⟨da, .dK kvs, hda2, trivial, fun od => ?_⟩
    have k13 : ∀ b o, H1 b = some o → b ≠ da → upd (upd H1 ia (.dK [])) da (.frz od (.dK kvs)) b = some o := fun b o e n => by
      rw [upd_ne n, upd_ne (ne_of_none e hia)]
      exact e
    have i3 : upd (upd H1 ia (.dK [])) da (.frz od (.dK kvs)) ia = some (.dK []) := by rw [upd_ne iada.symm, upd_same]
    have d3 : upd (upd H1 ia (.dK [])) da (.frz od (.dK kvs)) da = some (.frz od (.dK kvs)) := upd_same
    generalize upd (upd H1 ia (.dK [])) da (.frz od (.dK kvs)) = H3 at k13 i3 d3 ⊢
    have nda : ∀ {b : Addr} {o : HO}, H1 b = some o → (∀ z, o ≠ .dK z) → b ≠ da := fun {b o} e n q => by
      rw [q, hda] at e
      exact n _ (Option.some.inj e).symm
    have sk3 : H3 sa = some (.ins CS dxs (sF ca da)) := k13 _ _ hsa (nda hsa (by intro z q; cases q))
    refine ⟨_, rfl, sa, CS, dxs, _, _, rfl, sk3, T.clS, T.n_best, sF_best, da, od, rfl, .inl ⟨kvs, d3, for_it (n := B.length) (fun i σ H' => ∃ v5, σ = [some (.ref la), some (.ref sa), some (.ref oa), some (.ref ks), some (.ref ia), v5, none, none, none, none, none, none, none] ∧ Kp ia H3 H' ∧ ∃ kv, H' ia = some (.dK kv) ∧ Paired (IE st B' G H') (B.take i) kv)
      ⟨none, rfl, Kp.refl _ _, [], i3, .nil⟩ (fun i σ H' hi ⟨_, _, kp, _⟩ => ⟨kp _ _ d3 iada, by omega⟩) (fun σ H' ⟨_, _, kp, _⟩ => ⟨kp _ _ d3 iada, by omega⟩) (fun i σ H40 x H4 hi ⟨v5, hσ, kp, kv, hi4, hI⟩ hy => ?_) (fun σ H4 ⟨v5, hσ, kp, kv, hi4, hI⟩ => ?_)⟩⟩
    · subst hσ
      obtain ⟨rfl, k0, v0, hkv, rfl⟩ := hy
      obtain ⟨e, he⟩ : ∃ e, B[i]? = some e := ⟨_, List.getElem?_eq_getElem hi⟩
      obtain ⟨kv0, hkv', hbe1, p, q, hbe2, hp0, hq0⟩ := Paired.at2 hB he
      rw [hkv] at hkv'
      cases hkv'
      have hk0 : k0 = Sum.inl e.1 := hbe1
      subst hk0
      have t4 : ∀ b o, H1 b = some o → b ≠ da → H4 b = some o := fun b o z n => kp _ _ (k13 _ _ z n) (ne_of_none z hia)
      have sd4 : Sd H1 H4 := fun b o z n => t4 _ _ z (nda z n)
      have hK4 : KL H4 ks (Sw69.keys st) := LL.sd (g := ky2) hK sd4
      have hL4 := LineAt.sd hL1 sd4
      have hoa4 : H4 oa = some (.dT kvT) := t4 _ _ hoa (nda hoa (by intro z q; cases q))
      have hks4 : ∃ l, H4 ks = some (.lst l) := by obtain ⟨as, h1, _⟩ := hK4; exact ⟨_, h1⟩
      obtain ⟨ksl, hks4⟩ := hks4
      refine ⟨_, rfl, ks, rfl, ⟨_, SqL.of hks4⟩, fun D hD => lc_mapR (R0 := fun H b k => TI H b (ky2 k)) (es := Sw69.keys st) (fun k y H => ∃ b, y = V.ref b ∧ b ≠ D ∧ TI H b (pw2 (intoF st B' G e.1 k))) hK4 hD (by omega) (fun k y H H' ⟨b, h1, h2, h3⟩ kk => ⟨b, h1, h2, kk _ _ h3 h2⟩) (fun kb k Hc acc Qk hm hb s hDH kk => ?_) (fun H5 ys s5 hD5 hpy => ?_)⟩
      · have hj : ∃ j : Nat, (Sw69.keys st)[j]? = some k := by
          obtain ⟨j, hj, z⟩ := List.getElem_of_mem hm
          exact ⟨j, by rw [List.getElem?_eq_getElem hj, z]⟩
        obtain ⟨j, hj⟩ := hj
        have hj' : ((Sw69.keys st).map fun k => (k, B'.map fun e => (e.1, G k e)))[j]? = some (k, B'.map fun e => (e.1, G k e)) := by rw [List.getElem?_map, hj]; rfl
        obtain ⟨kt, hkt, hkt1, qr, hkt2, hR⟩ := Paired.at2 hT hj'
        have ndT : (kvT.map (·.1)).Nodup := tab_nd hT (by rw [List.map_map]; exact (show ((Sw69.keys st).map fun k => k).Nodup by rw [List.map_id']; exact keys_nodup st))
        have hv : valV kvT (kyK k) = some (.ref qr) := by
          have e1 : kt = (kyK k, .ref qr) := Prod.ext hkt1 hkt2
          rw [e1] at hkt
          exact val_nd ndT hkt
        have hqda : qr ≠ da := best_ne_row hBA hBne hR
        have hRc : RowX Hc qr (B'.map fun e => (e.1, G k e)) := by
          obtain ⟨kr, a1, a2⟩ := hR
          exact ⟨kr, s _ _ (t4 _ _ a1 hqda), Paired.mapP a2 fun r kv z => RE.mv z fun b xs y => s _ _ (t4 _ _ y (nda y (by intro z q; cases q)))⟩
        have hbc : TI Hc kb (ky2 k) := s _ _ hb
        refine ⟨rfl, _, rfl, _, rfl, _, rfl, _, rfl, _, rfl, oa, .ref qr, rfl, .inr ⟨kvT, kyK k, kb, .inl (s _ _ hoa4), rfl, hbc, hv.symm⟩, la, kb, qr, st, e.1, k, B'.map fun e => (e.1, G k e), rfl, LineAt.mv hL4 s, hbc, (key_mem hm).1, hRc, fun z => hBne' (List.map_eq_nil_iff.mp z), by rw [List.length_map]; exact hBl', fun H6 p x s6 hp hb6 ht => kk _ _ s6 ⟨p, rfl, ?_, ?_⟩⟩
        · exact (ne_of_none hDH hp).symm
        · rw [List.map_map] at hb6
          have z := into_some e.1 k
          have z2 : bst (B'.map fun e' => shf (rcost st k e.1 e'.1) (G k e')) = some x := hb6
          rw [z] at z2
          cases z2
          exact ht
      · have hPL := refs_of (g := fun k => pw2 (intoF st B' G e.1 k)) hD5 hpy
        have hi5 : H5 ia = some (.dK kv) := s5 _ _ hi4
        have hIl := Paired.length hI
        rw [List.length_take] at hIl
        refine ⟨_, rfl, _, rfl, ia, _, rfl, DPut.k (k := Sum.inl e.1) hi5 (smallLt (by omega)), _, rfl, Kp.up fun b o z n => s5 _ _ (kp _ _ z n), ?_⟩
        have vn : valV kv (Sum.inl e.1) = none := by
          refine valV_out ?_
          rw [Paired.keys (f := fun r : EN => (Sum.inl r.1 : L2.Key)) (g := fun kv => kv.1) (fun a b z => z.1) hI]
          intro m
          obtain ⟨e', he', z⟩ := List.mem_map.mp m
          have z' : e'.1 = e.1 := Sum.inl.inj z
          have hB' : (B.map (·.1))[i]? = some e.1 := by rw [List.getElem?_map, he]; rfl
          refine nd_take hBn hB' ?_
          rw [← List.map_take]
          exact List.mem_map.mpr ⟨e', he', z'⟩
        rw [putK_new _ vn]
        have sl : Slt H5 (upd H5 ia (.dK (kv ++ [(Sum.inl e.1, .ref D)]))) := Slt.kp hi5 (Kp.up (Kp.refl _ _)) (by intro z q; cases q) (by intro z q; cases q)
        refine ⟨_, upd_same, ?_⟩
        rw [take_snoc he]
        exact Paired.snoc (Paired.mapP hI fun e kv z => IE.st (IE.st z (Slt.same s5)) sl) ⟨rfl, D, rfl, LL.st (g := fun k => pw2 (intoF st B' G e.1 k)) hPL sl⟩
    · subst hσ
      rw [List.take_length] at hI
      refine ⟨kp _ _ d3 iada, ?_⟩
      have s17 : Same H1 (upd H4 da (.dK kvs)) := fun b o z => by
        by_cases y : b = da
        · subst y
          rw [hda] at z
          cases z
          exact upd_same
        · rw [upd_ne y]
          exact kp _ _ (k13 _ _ z y) (ne_of_none z hia)
      have i7 : upd H4 da (.dK kvs) ia = some (.dK kv) := by rw [upd_ne iada.symm]; exact hi4
      have hI7 : Paired (IE st B' G (upd H4 da (.dK kvs))) B kv := Paired.mapP hI fun e kv z => IE.st z (Slt.kp (kp _ _ d3 iada) (Kp.up (Kp.refl _ _)) (by intro z q; cases q) (by intro z q; cases q))
      generalize upd H4 da (.dK kvs) = H7 at s17 i7 hI7 ⊢
      have s07 := s1.trans s17
      intro d hd
      have hK8 : KL (upd H7 d (.dT [])) ks (Sw69.keys st) := KL.mv (KL.mv hK s17) (Same.nw (Same.refl _) hd)
      obtain ⟨kas, hK81, _⟩ := id hK8
      have hd8 : upd H7 d (.dT []) d = some (.dT []) := upd_same
      have s78 : Same H7 (upd H7 d (.dT [])) := Same.nw (Same.refl _) hd
      generalize upd H7 d (.dT []) = H8 at hK8 hK81 hd8 s78 ⊢
      refine ⟨_, rfl, ks, rfl, ⟨_, SqL.of hK81⟩, for_refs2 (R0 := fun H b k => TI H b (ky2 k)) (es := Sw69.keys st) (H1 := H8) (fun j σ H' => ∃ v5 v7 v8 v9, σ = [some (.ref la), some (.ref sa), some (.ref oa), some (.ref ks), some (.ref ia), v5, some (.ref d), v7, v8, v9, none, none, none] ∧ Same H7 H' ∧ Kp d H8 H' ∧
          TabX H' d (((Sw69.keys st).take j).map fun k => (k, B.map fun e => (e.1, behF st B' G k e.1)))) hK8
        ⟨v5, none, none, none, rfl, s78, Kp.refl _ _, [], hd8, .nil⟩ (fun i σ H' ⟨_, _, _, _, _, _, kp, _⟩ l hl => kp _ _ hl (ne_of hl hd8 (by intro z; cases z))) (fun j kb k σ Ha hj hb ⟨v5, v7, v8, v9, hσ, sa7, kpd, kvd, hda', hTp⟩ => ?_) (fun σ H' ⟨v5, v7, v8, v9, hσ, sa7, kpd, hTp⟩ => ?_)⟩
      · subst hσ
        have hkm : k ∈ Sw69.keys st := List.mem_of_getElem? hj
        have hba : TI Ha kb (ky2 k) := kpd _ _ hb (ne_of hb hd8 (by intro z; cases z))
        have hKa : KL Ha ks (Sw69.keys st) := KL.mv (KL.mv hK s17) sa7
        obtain ⟨kaa, hKa1, _⟩ := id hKa
        have hLa := LineAt.mv hL1 (s17.trans sa7)
        have hTl := Paired.length hTp
        rw [List.length_map, List.length_take] at hTl
        refine ⟨_, rfl, ks, rfl, ⟨_, SqL.of hKa1⟩, fun D hD => lc_mapR (R0 := fun H b k => TI H b (ky2 k)) (es := Sw69.keys st) (fun k' y _ => y = V.int (kcost st k k' : Nat)) hKa hD (by omega) (fun _ _ _ _ r _ => r) (fun kb' k' Hc acc Qk hm hb' s hDH kk => ?_) (fun Hb ys sb hDb hpy => ?_)⟩
        · exact ⟨rfl, _, rfl, _, rfl, _, rfl, la, kb, kb', st, k, k', rfl, LineAt.mv hLa s, s _ _ hba, s _ _ hb', kk _ _ (Same.refl _) rfl⟩
        · have hch : Hb D = some (.lst ((Sw69.keys st).map fun k' => V.int (kcost st k k' : Nat))) := by rw [hDb, Paired.eq_map hpy]
          have s1b : Same H1 Hb := (s17.trans sa7).trans sb
          intro r hr0
          have rda : da ≠ r := ne_of_none (s1b _ _ hda) hr0
          have hdac : upd Hb r (.dK []) da = some (.dK kvs) := by rw [upd_ne rda]; exact s1b _ _ hda
          refine ⟨da, .dK kvs, hdac, trivial, fun od => ?_⟩
          have kbd : ∀ b o, Hb b = some o → b ≠ da → upd (upd Hb r (.dK [])) da (.frz od (.dK kvs)) b = some o := fun b o e n => by
            rw [upd_ne n, upd_ne (ne_of_none e hr0)]
            exact e
          have rd5 : upd (upd Hb r (.dK [])) da (.frz od (.dK kvs)) r = some (.dK []) := by rw [upd_ne rda.symm, upd_same]
          have dd5 : upd (upd Hb r (.dK [])) da (.frz od (.dK kvs)) da = some (.frz od (.dK kvs)) := upd_same
          generalize upd (upd Hb r (.dK [])) da (.frz od (.dK kvs)) = Hd at kbd rd5 dd5 ⊢
          have ndb : ∀ {b : Addr} {o : HO}, Hb b = some o → (∀ z, o ≠ .dK z) → b ≠ da := fun {b o} e n q => by
            rw [q, s1b _ _ hda] at e
            exact n _ (Option.some.inj e).symm
          have skd : Hd sa = some (.ins CS dxs (sF ca da)) := kbd _ _ (s1b _ _ hsa) (ndb (s1b _ _ hsa) (by intro z q; cases q))
          refine ⟨_, rfl, sa, CS, dxs, _, _, rfl, skd, T.clS, T.n_best, sF_best, da, od, rfl, .inl ⟨kvs, dd5, for_it (n := B.length) (fun i σ H' => ∃ v5, σ = [some (.ref la), some (.ref sa), some (.ref oa), some (.ref ks), some (.ref ia), v5, some (.ref d), some (.ref kb), some (.ref D), some (.ref r), none, none, none] ∧ Kp r Hd H' ∧
              RowX H' r ((B.take i).map fun e => (e.1, behF st B' G k e.1)))
            ⟨v5, rfl, Kp.refl _ _, [], rd5, .nil⟩ (fun i σ H' hi ⟨_, _, kp, _⟩ => ⟨kp _ _ dd5 rda, by omega⟩) (fun σ H' ⟨_, _, kp, _⟩ => ⟨kp _ _ dd5 rda, by omega⟩) (fun i σ He0 x He hi ⟨v5, hσ, kp, kr, hr6, hR⟩ hy => ?_) (fun σ He ⟨v5, hσ, kp, kr, hr6, hR⟩ => ?_)⟩⟩
          · subst hσ
            obtain ⟨rfl, k0, v0, hkv, rfl⟩ := hy
            obtain ⟨e, he⟩ : ∃ e, B[i]? = some e := ⟨_, List.getElem?_eq_getElem hi⟩
            obtain ⟨kv0, hkv', hbe1, p, q, hbe2, hp0, hq0⟩ := Paired.at2 hB he
            rw [hkv] at hkv'
            cases hkv'
            have hk0 : k0 = Sum.inl e.1 := hbe1
            subst hk0
            have te : ∀ b o, Hb b = some o → b ≠ da → He b = some o := fun b o z n => kp _ _ (kbd _ _ z n) (ne_of_none z hr0)
            have hie : He ia = some (.dK kv) := te _ _ (sb _ _ (sa7 _ _ i7)) iada.symm
            obtain ⟨kvi, hkvi, hi1, l, hi2, as, hl1, hl2⟩ := Paired.at2 hI7 he
            have hvi : valV kv (Sum.inl e.1) = some (.ref l) := by
              have e1 : kvi = (Sum.inl e.1, .ref l) := Prod.ext hi1 hi2
              rw [e1] at hkvi
              refine val_nd ?_ hkvi
              rw [Paired.keys (f := fun r : EN => (Sum.inl r.1 : L2.Key)) (g := fun kv => kv.1) (fun a b z => z.1) hI7]
              have : B.map (fun r => (Sum.inl r.1 : L2.Key)) = (B.map (·.1)).map Sum.inl := by rw [List.map_map]; rfl
              rw [this]
              exact nodup_map (fun a b e => Sum.inl.inj e) hBn
            have hle : He l = some (.lst (as.map V.ref)) := te _ _ (sb _ _ (sa7 _ _ hl1)) (ndb (sb _ _ (sa7 _ _ hl1)) (by intro z q; cases q))
            have hche : He D = some (.lst ((Sw69.keys st).map fun k' => V.int (kcost st k k' : Nat))) := te _ _ hch (ndb hch (by intro z q; cases q))
            have hal : as.length = (Sw69.keys st).length := Paired.length hl2
            refine ⟨_, rfl, _, rfl, _, rfl, ia, .ref l, rfl, .inl ⟨kv, Sum.inl e.1, .inl hie, rfl, hvi.symm⟩, D, l, _, _, rfl, SqL.of hche, SqL.of hle, fun D2 hD2 => lc_mapE (es := Sw69.keys st) (fun k' y H => ∃ b, y = V.ref b ∧ b ≠ D2 ∧ TI H b (pw2 (shf (kcost st k k') (intoF st B' G e.1 k')))) hD2 (by omega) (fun k' y H H' ⟨b, h1, h2, h3⟩ kk => ⟨b, h1, h2, kk _ _ h3 h2⟩)
              (fun n H' hn s => ?_) (fun H' s => ?_) (fun n k' H1' x H2' acc Qk hn s hDH hy kk => ?_) (fun H5 ys s5 hD5 hpy => ?_)⟩
            · exact ⟨_, _, _, _, SqL.of (s _ _ hche), SqL.of (s _ _ hle), List.getElem?_eq_getElem (by rw [List.length_map]; exact hn), List.getElem?_eq_getElem (by rw [List.length_map]; omega)⟩
            · exact ⟨_, _, SqL.of (s _ _ hche), SqL.of (s _ _ hle), .inl (by rw [List.length_map]; exact Nat.le_refl _)⟩
            · obtain ⟨T0, x0, y0, rfl, hT0, rfl, hx0, hy0⟩ := hy
              have ex := hx0 _ (SqL.of (s _ _ hche))
              rw [List.getElem?_map, hn] at ex
              have ex' : x0 = V.int (kcost st k k' : Nat) := (Option.some.inj ex).symm
              obtain ⟨bb, hbb, hti⟩ := Paired.at1 hl2 hn
              have ey := hy0 _ (SqL.of (s _ _ hle))
              rw [List.getElem?_map, hbb] at ey
              have ey' : y0 = V.ref bb := (Option.some.inj ey).symm
              subst ex' ey'
              have up1 : Same H1' (upd H1' T0 (.tup [V.int (kcost st k k' : Nat), V.ref bb])) := Same.nw (Same.refl _) hT0
              refine ⟨T0, _, rfl, SqT.of upd_same, rfl, _, _, rfl, _, _, rfl, rfl, rfl, ?_⟩
              generalize upd H1' T0 (.tup [V.int (kcost st k k' : Nat), V.ref bb]) = H2' at up1 ⊢
              have hti2 : TI H2' bb (pw2 (intoF st B' G e.1 k')) := up1 _ _ (s _ _ (te _ _ (sb _ _ (sa7 _ _ hti)) (ndb (sb _ _ (sa7 _ _ hti)) (by intro z q; cases q))))
              refine ⟨_, rfl, _, rfl, bb, _, _, _, rfl, rfl, SqT.of hti2, atI_nat (j := 0) rfl, _, _, rfl, rfl, _, rfl, bb, _, _, _, rfl, rfl, SqT.of hti2, atI_nat (j := 1) rfl, (by show 2 ≤ sizeLine; decide), fun b hb => kk _ _ (Same.nw up1 hb) ⟨b, rfl, ?_, ?_⟩⟩
              · exact (ne_of_none (up1 _ _ hDH) hb).symm
              · show upd H2' b _ b = _
                rw [upd_same]
                unfold shf pw2
                push_cast
                rfl
            · have hPL := refs_of (g := fun k' => pw2 (shf (kcost st k k') (intoF st B' G e.1 k'))) hD5 hpy
              obtain ⟨as5, h51, h52⟩ := hPL
              refine ⟨D2, (Sw69.keys st).map fun k' => shf (kcost st k k') (intoF st B' G e.1 k'), rfl, ⟨as5, h51, Paired.mapR (R := fun b p => TI H5 b (pw2 p)) (f := fun k' => shf (kcost st k k') (intoF st B' G e.1 k')) h52⟩, fun z => hkne (List.map_eq_nil_iff.mp z), by rw [List.length_map]; omega, fun H6 p6 x6 s6 hp6 hb6 ht6 => ?_⟩
              rw [beh_some k e.1] at hb6
              cases hb6
              have se6 := s5.trans s6
              have hr66 : H6 r = some (.dK kr) := se6 _ _ hr6
              have hRl := Paired.length hR
              rw [List.length_map, List.length_take] at hRl
              refine ⟨_, rfl, _, rfl, r, _, rfl, DPut.k (k := Sum.inl e.1) hr66 (smallLt (by omega)), _, rfl, Kp.up fun b o z n => se6 _ _ (kp _ _ z n), ?_⟩
              have vn : valV kr (Sum.inl e.1) = none := by
                refine valV_out ?_
                rw [Paired.keys (f := fun r => (Sum.inl r.1 : L2.Key)) (g := fun kv => kv.1) (fun a b z => z.1) hR, List.map_map]
                intro m
                obtain ⟨e', he', z⟩ := List.mem_map.mp m
                have z' : e'.1 = e.1 := Sum.inl.inj z
                have hB' : (B.map (·.1))[i]? = some e.1 := by rw [List.getElem?_map, he]; rfl
                refine nd_take hBn hB' ?_
                rw [← List.map_take]
                exact List.mem_map.mpr ⟨e', he', z'⟩
              rw [putK_new _ vn]
              have sl : Slt H6 (upd H6 r (.dK (kr ++ [(Sum.inl e.1, .ref p6)]))) := Slt.kp hr66 (Kp.up (Kp.refl _ _)) (by intro z q; cases q) (by intro z q; cases q)
              refine ⟨_, upd_same, ?_⟩
              rw [take_snoc he, List.map_append]
              exact Paired.snoc (Paired.mapP hR fun r kv z => RE.mv z fun b xs y => (sl b).2 _ (se6 _ _ y)) ⟨rfl, p6, rfl, (sl p6).2 _ ht6⟩
          · subst hσ
            rw [List.take_length] at hR
            refine ⟨kp _ _ dd5 rda, ?_⟩
            have sbf : Same Hb (upd He da (.dK kvs)) := fun b o z => by
              by_cases y : b = da
              · subst y
                rw [s1b _ _ hda] at z
                cases z
                exact upd_same
              · rw [upd_ne y]
                exact kp _ _ (kbd _ _ z y) (ne_of_none z hr0)
            have hrf : upd He da (.dK kvs) r = some (.dK kr) := by rw [upd_ne rda.symm]; exact hr6
            have hRf : Paired (RE (upd He da (.dK kvs))) (B.map fun e => (e.1, behF st B' G k e.1)) kr := Paired.mapP hR fun r kv z => RE.mv z fun b xs y => by
              have ne : b ≠ da := ne_of y (kp _ _ dd5 rda) (by intro z; cases z)
              rw [upd_ne ne]
              exact y
            generalize upd He da (.dK kvs) = Hf at sbf hrf hRf ⊢
            have hdf : Hf d = some (.dT kvd) := sbf _ _ (sb _ _ hda')
            refine ⟨_, rfl, _, rfl, _, rfl, d, _, rfl, DPut.t (k := kyK k) hdf (sbf _ _ (sb _ _ hba)) (smallLt (by omega)), _, _, _, _, rfl, Same.up ((sa7.trans sb).trans sbf) hd, Kp.up fun b o z n => sbf _ _ (sb _ _ (kpd _ _ z n)), ?_⟩
            have vn : valV kvd (kyK k) = none := by
              refine valV_out ?_
              rw [Paired.keys (f := fun t => kyK t.1) (g := fun kv => kv.1) (fun a b z => z.1) hTp, List.map_map]
              intro m
              obtain ⟨k', hk', z⟩ := List.mem_map.mp m
              have z' : k' = k := kyK_inj z
              subst z'
              exact nd_take (keys_nodup st) hj hk'
            rw [putK_new _ vn]
            have kd : Kp d Hf (upd Hf d (.dT (kvd ++ [(kyK k, .ref r)]))) := Kp.up (Kp.refl _ _)
            refine ⟨_, upd_same, ?_⟩
            rw [take_snoc hj, List.map_append]
            exact Paired.snoc (Paired.mapP hTp fun t kv z => TbE.kd (TbE.mv z (sb.trans sbf)) hdf kd) (TbE.kd ⟨rfl, r, rfl, kr, hrf, hRf⟩ hdf kd)
      · subst hσ
        rw [List.take_length] at hTp
        exact ⟨_, rfl, kq H' d (s07.trans sa7) (s07.free hd) hTp⟩
end
end CN
end
section
set_option maxRecDepth 100000
set_option maxHeartbeats 4000000
namespace CN
open PySem PySem.Spec PyProof.Rows L2
theorem names_len {st : Sw69.St} (ok : StOk st) (most : Nat) {c : List Int} (hc : c.length ≤ 8) (hn : c.Nodup) : (Sw69.names st most c).length ≤ 80 := by
  rw [(names_raw st most hn).2.length_eq]
  unfold raw
  refine Nat.le_trans (List.length_filter_le _ _) ?_
  rw [List.length_flatMap]
  have hk := ok.kn
  have : ∀ rs : List Int, (rs.map fun r => (st.kinds.zipIdx.map fun k => Sw69.named st c r k.2 k.1).length).sum ≤ rs.length * 10 := by
    intro rs
    induction rs with
    | nil => simp
    | cons a rs ih =>
      rw [List.map_cons, List.sum_cons, List.length_cons, List.length_map, List.length_zipIdx]
      omega
  have := this c
  omega
theorem bbr_cnt (ns : List Sw69.Name) : ∀ e ∈ bbr ns, e.2.2 ≤ ns.length := by
  have : ∀ (l : List Sw69.Name) (B : BB) (n : Nat), (∀ e ∈ B, e.2.2 ≤ n) → ∀ e ∈ l.foldl bbStep B, e.2.2 ≤ n + l.length := by
    intro l
    induction l with
    | nil => intro B n h e he; exact h e he
    | cons x l ih =>
      intro B n h e he
      rw [List.foldl_cons] at he
      have h1 : ∀ e ∈ bbStep B x, e.2.2 ≤ n + 1 := by
        intro e he
        unfold bbStep at he
        split at he
        · rcases List.mem_append.mp he with z | z
          · have := h e z; omega
          · rw [List.mem_singleton.mp z]
            show 1 ≤ n + 1
            omega
        · rename_i e0 hf
          have h0 := h e0 (List.mem_of_find?_eq_some hf)
          split at he
          · obtain ⟨f, hf1, hf2⟩ := List.mem_map.mp he
            by_cases z : f.1 = x.root
            · rw [if_pos z] at hf2
              rw [← hf2]
              show e0.2.2 + 1 ≤ n + 1
              omega
            · rw [if_neg z] at hf2
              rw [← hf2]
              have := h f hf1
              omega
          · have := h e he; omega
      have := ih (bbStep B x) (n + 1) h1 e he
      rw [List.length_cons]
      omega
  intro e he
  have := this ns [] 0 (by simp) e he
  simpa using this
def sfx : List (List Int) → List (List Int × List (List Int))
  | [] => []
  | c :: l => (c, l) :: sfx l
theorem sfx_len : ∀ cs : List (List Int), (sfx cs).length = cs.length
  | [] => rfl
  | c :: l => by show (sfx l).length + 1 = l.length + 1; rw [sfx_len l]
theorem sfx_at : ∀ {cs : List (List Int)} {j : Nat} {c : List Int}, cs[j]? = some c → (sfx cs)[j]? = some (c, cs.drop (j + 1))
  | [], j, c, h => by simp at h
  | d :: l, 0, c, h => by
    have e : d = c := Option.some.inj h
    subst e
    rfl
  | d :: l, j + 1, c, h => sfx_at (cs := l) (j := j) h
def onwT (st : Sw69.St) (most : Nat) (p : List Int × List (List Int)) : List (Sw69.Key × List (Int × (Nat × Nat))) := (Sw69.keys st).map fun k => (k, (bbr (Sw69.names st most p.1)).map fun e => (e.1, onw st most p.1 p.2 k e))
def TL (st : Sw69.St) (most : Nat) : Hp → Addr → List (List Int × List (List Int)) → Prop := LL fun H b p => TabX H b (onwT st most p)
def SL (CS : Addr) (st : Sw69.St) (most : Nat) : Hp → Addr → List (List Int) → Prop := LL fun H b c => StepAt CS H b c (bbr (Sw69.names st most c))
theorem TL.mv {st : Sw69.St} {most : Nat} {H H' : Hp} {a : Addr} {xs : List (List Int × List (List Int))} (h : TL st most H a xs) (s : Same H H') : TL st most H' a xs := LL.same h s fun b x e => TabX.mv e s
theorem SL.mv {CS : Addr} {st : Sw69.St} {most : Nat} {H H' : Hp} {a : Addr} {xs : List (List Int)} (h : SL CS st most H a xs) (s : Same H H') : SL CS st most H' a xs := LL.same h s fun b x e => StepAt.mv e s
theorem TabX.kl {H H' : Hp} {x d : Addr} {l : List V} {T : List (Sw69.Key × List (Int × (Nat × Nat)))} (h : TabX H d T) (hx : H x = some (.lst l)) (k : Kp x H H') : TabX H' d T := by
  obtain ⟨kvs, h1, h2⟩ := h
  refine ⟨kvs, k _ _ h1 (ne_of h1 hx (by intro z; cases z)), Paired.mapP h2 fun t kv ⟨a1, q, a2, kr, a3, a4⟩ => ⟨a1, q, a2, kr, k _ _ a3 (ne_of a3 hx (by intro z; cases z)), Paired.mapP a4 fun r kv z => RE.mv z fun b xs e => k _ _ e (ne_of e hx (by intro z; cases z))⟩⟩
structure RowOk (st : Sw69.St) (most : Nat) (cs : List (List Int)) : Prop where
  good : Good st most cs
  len : cs.length ≤ 12
  c8 : ∀ c ∈ cs, c.length ≤ 8
theorem Good.drop {s : Sw69.St} {most : Nat} {l : List (List Int)} (h : Good s most l) (n : Nat) : Good s most (l.drop n) := ⟨h.1, fun d hd => h.2 d (List.mem_of_mem_drop hd)⟩
section
variable {P : Program} {w : World} {K : PySem.W.Frag} {mg : Str → Option Value} {base : Heap} {CC CL CR CS : Addr}
def sp_onward (CC CL CS : Addr) : Sp := fun vs H Q _ => ∃ (la sa : Addr) (st : Sw69.St) (most : Nat) (cs : List (List Int)), vs = [.ref la, .ref sa] ∧ LineAt CC CL H la st ∧ SL CS st most H sa cs ∧ RowOk st most cs ∧
  ∀ H' p, Same H H' → H p = none → TL st most H' p (sfx cs) → Q (.ref p) H'
theorem ok_onward {f : Addr} {fd : FuncData} (F : Fun K "onward_costs" "onward_costs" s_onward_costs f fd) (T : Tx K mg CC CL CR CS) (c_behind_step : Cal P w K mg base 5 "behind_step" ["line", "step", "onward"] (sp_beh CC CL CS)) (c_step_and_behind : Cal P w K mg base 4 "step_and_behind" ["line", "step", "behind"] (sp_sab CC CL CS)) :
    FnOk P w K mg base CX0 6 f fd ["line", "steps"] (sp_onward CC CL CS) := by
  refine F.ok sc_onward_costs (fun vs H Q E h => ?_) (fun cdv A outer s H vs Q E hr h => ?_)
  · obtain ⟨la, sa, st, most, cs, rfl, _⟩ := h
    rfl
  · obtain ⟨la, sa, st, most, cs, rfl, hL, hS, hok, kq⟩ := h
    have ok : StOk st := by obtain ⟨_, _, _, _, _, _, _, _, ok⟩ := hL; exact ok
    obtain ⟨as, hS1, hS2⟩ := id hS
    have hal : as.length = cs.length := Paired.length hS2
    have hlen := hok.len
    refine ⟨_, (pss_cons (ps_set (i := 2) sc_onward_costs.nd rfl (by first | exact Or.inl rfl | exact Or.inr rfl) (pe_lst pa_nil)) (pss_cons (ps_set (i := 3) sc_onward_costs.nd rfl (by first | exact Or.inl rfl | exact Or.inr rfl) pe_non) (pss_cons (ps_for PassesOwn.never rfl (pi_reversed rfl T.b_reversed (pa_cons (pv 1) pa_nil)) (pg_name (i := 4) sc_onward_costs.nd rfl (by first | exact Or.inl rfl | exact Or.inr rfl)) (pss_cons (ps_if (pt_truth (pv 2) (fun _ => rfl)) (pss_one (ps_set (i := 3) sc_onward_costs.nd rfl (by first | exact Or.inl rfl | exact Or.inr rfl) (pcl c_behind_step (hr.mono (by decide)) (pa_cons (pv 0) (pa_cons (pv 4) (pa_cons (pe_ix ix_list (pv 2) (pe_un un_neg pe_int) (fun _ _ => rfl)) pa_nil)))))) pss_nil) (pss_one (ps_expr (pe_bm PySem.F.plainAttrs_list PySem.F.slot_list_append PySem.F.type_list_append mt_append (pv 2) (pa_cons (pcl c_step_and_behind (hr.mono (by decide)) (pa_cons (pv 0) (pa_cons (pv 4) (pa_cons (pv 3) pa_nil)))) pa_nil)))))) (pss_one (ps_ret (pe_listRev rfl (by rfl) T.b_list (by rfl) T.b_reversed (pv 2))))))), ?_⟩
    refine ⟨Nat.zero_le _, fun fa hfa => ?_⟩
    have s1 : Same H (upd H fa (.lst [])) := Same.nw (Same.refl _) hfa
    have hf1 : upd H fa (.lst []) fa = some (.lst (([] : List Addr).map V.ref)) := upd_same
    generalize upd H fa (.lst []) = H1 at s1 hf1 ⊢
    refine ⟨_, rfl, sa, _, rfl, SqL.of (s1 _ _ hS1), ?_⟩
    rw [List.length_map, hal]
    refine for_it (n := cs.length) (fun i σ H' => ∃ bv v4, σ = [some (.ref la), some (.ref sa), some (.ref fa), some bv, v4] ∧ i ≤ cs.length ∧ (i = 0 → bv = .non) ∧ Same H H' ∧ TL st most H' fa ((sfx cs).drop (cs.length - i)).reverse)
      ⟨.non, none, rfl, by omega, fun _ => rfl, s1, [], hf1, by
        rw [List.drop_of_length_le (by rw [sfx_len]; omega)]
        exact .nil⟩
      (fun i σ H' hi ⟨_, _, _, _, _, s2, _⟩ => ⟨hi, _, _, SqL.of (s2 _ _ hS1), List.getElem?_eq_getElem (by rw [List.length_map]; omega)⟩) (fun σ H' ⟨_, _, _, _, _, s2, _⟩ => Nat.le_refl _) (fun i σ H20 x H2 hi ⟨bv, v4, hσ, _, hbv, s2, hF⟩ hy => ?_) (fun σ H2 ⟨bv, v4, hσ, _, hbv, s2, hF⟩ => ?_)
    · subst hσ
      obtain ⟨rfl, hx⟩ := hy
      have hx := hx _ (SqL.of (s2 _ _ hS1))
      obtain ⟨sb, hsb, rfl⟩ := map_at hx
      have hj : cs.length - 1 - i < cs.length := by omega
      obtain ⟨c, hc⟩ : ∃ c, cs[cs.length - 1 - i]? = some c := ⟨_, List.getElem?_eq_getElem hj⟩
      have hcm : c ∈ cs := List.mem_of_getElem? hc
      obtain ⟨sb', hsb', hStp⟩ := Paired.at1 hS2 hc
      rw [hsb] at hsb'
      cases hsb'
      have hg := hok.good.2 c hcm
      have hc8 := hok.c8 c hcm
      have hnl := names_len ok most hc8 hg.1
      have hBl := bbr_len (Sw69.names st most c)
      have hBn := bbr_nd (Sw69.names st most c)
      have hBc := bbr_cnt (Sw69.names st most c)
      have hBne : bbr (Sw69.names st most c) ≠ [] := bbr_ne (names_raw st most hg.1).1 hg.2
      obtain ⟨fas, hF1, hF2⟩ := id hF
      have hFl := Paired.length hF2
      rw [List.length_reverse, List.length_drop, sfx_len] at hFl
      have e1 : (sfx cs).drop (cs.length - (i + 1)) = (c, cs.drop (cs.length - i)) :: (sfx cs).drop (cs.length - i) := by
        have z := sfx_at hc
        have z1 : cs.length - 1 - i = cs.length - (i + 1) := by omega
        rw [z1] at z
        have z2 : cs.length - (i + 1) + 1 = cs.length - i := by omega
        rw [List.drop_eq_getElem_cons (by rw [sfx_len]; omega), z2]
        congr 1
        have z3 := List.getElem?_eq_getElem (l := sfx cs) (i := cs.length - (i + 1)) (by rw [sfx_len]; omega)
        rw [z3] at z
        rw [Option.some.inj z, z2]
      have fin : ∀ (H3 : Hp) (bv' : V), Same H H3 → LL (fun H b p => TabX H b (onwT st most p)) H3 fa ((sfx cs).drop (cs.length - i)).reverse → restOk H3 st (bbr (Sw69.names st most c)) bv' (fun k e => pr (rb st most (cs.drop (cs.length - i)) k e.1)) →
          ∀ Qs : VK, (∀ (H4 : Hp) (d : Addr) (fas3 : List Addr), Same H H4 → H4 fa = some (.lst (fas3.map V.ref)) → fas3.length ≤ 12 → TL st most (upd H4 fa (.lst (fas3.map V.ref ++ [.ref d]))) fa ((sfx cs).drop (cs.length - (i + 1))).reverse → Qs (.ref d) H4) → sp_sab CC CL CS [.ref la, .ref sb, bv'] H3 Qs E0 := by
        intro H3 bv' s3 hF3 hrest Qs hQ
        obtain ⟨fas3, hF31, hF32⟩ := hF3
        have hFl3 := Paired.length hF32
        rw [List.length_reverse, List.length_drop, sfx_len] at hFl3
        refine ⟨la, sb, st, c, bbr (Sw69.names st most c), bv', _, rfl, LineAt.mv hL s3, StepAt.mv hStp s3, hc8, by omega, hBn, fun e he => by have := hBc e he; omega, hrest, fun H4 d s4 hd hT => ?_⟩
        have hF4 : H4 fa = some (.lst (fas3.map V.ref)) := s4 _ _ hF31
        refine hQ H4 d fas3 (s3.trans s4) hF4 (by omega) ?_
        have kk : Kp fa H4 (upd H4 fa (.lst (fas3.map V.ref ++ [.ref d]))) := Kp.up (Kp.refl _ _)
        refine ⟨fas3 ++ [d], by rw [upd_same, List.map_append]; rfl, ?_⟩
        rw [e1, List.reverse_cons]
        refine Paired.snoc (Paired.mapP hF32 fun b p z => TabX.kl (TabX.mv z s4) hF4 kk) (TabX.kl ?_ hF4 kk)
        exact hT
      refine ⟨_, rfl, _, .inl ⟨_, SqL.of hF1, rfl⟩, ite2 (fun q => ?_) (fun q => ?_)⟩
      · have hi0 : 0 < i := by
          rcases Nat.eq_zero_or_pos i with z | z
          · exfalso
            subst z
            have : fas = [] := List.eq_nil_of_length_eq_zero (by omega)
            subst this
            simp at q
          · exact z
        -- the table of the step behind
        have hj2 : cs.length - i < cs.length := by omega
        obtain ⟨c', hc'⟩ : ∃ c', cs[cs.length - i]? = some c' := ⟨_, List.getElem?_eq_getElem hj2⟩
        have e2 : cs.drop (cs.length - i) = c' :: cs.drop (cs.length - i + 1) := by
          rw [List.drop_eq_getElem_cons hj2]
          congr 1
          have := List.getElem?_eq_getElem hj2
          rw [this] at hc'
          exact Option.some.inj hc'
        have e3 : (sfx cs).drop (cs.length - i) = (c', cs.drop (cs.length - i + 1)) :: (sfx cs).drop (cs.length - i + 1) := by
          rw [List.drop_eq_getElem_cons (by rw [sfx_len]; omega)]
          congr 1
          have z := sfx_at hc'
          have z3 := List.getElem?_eq_getElem (l := sfx cs) (i := cs.length - i) (by rw [sfx_len]; omega)
          rw [z3] at z
          exact Option.some.inj z
        rw [e3, List.reverse_cons] at hF2
        obtain ⟨fas0, tb, hfas, hF20, hTb⟩ : ∃ (fas0 : List Addr) (tb : Addr), fas = fas0 ++ [tb] ∧ True ∧ TabX H2 tb (onwT st most (c', cs.drop (cs.length - i + 1))) := by
          have hlst : ((((sfx cs).drop (cs.length - i + 1)).reverse ++ [(c', cs.drop (cs.length - i + 1))]))[fas.length - 1]? = some (c', cs.drop (cs.length - i + 1)) := by
            have hl := Paired.length hF2
            rw [List.length_append] at hl
            have : fas.length - 1 = ((sfx cs).drop (cs.length - i + 1)).reverse.length := by rw [hl]; simp
            rw [this, List.getElem?_append_right (Nat.le_refl _)]
            simp
          obtain ⟨tb, htb, hT⟩ := Paired.at1 hF2 hlst
          refine ⟨fas.dropLast, tb, ?_, trivial, hT⟩
          have hne : fas ≠ [] := by
            intro z
            rw [z] at htb
            simp at htb
          have z1 := List.dropLast_concat_getLast hne
          have z2 : fas.getLast hne = tb := by
            rw [List.getLast_eq_getElem hne]
            exact (List.getElem?_eq_some_iff.mp htb).2
          rw [z2] at z1
          exact z1.symm
        have hg' := hok.good.2 c' (List.mem_of_getElem? hc')
        have hc8' := hok.c8 c' (List.mem_of_getElem? hc')
        have hnl' := names_len ok most hc8' hg'.1
        have hBl' := bbr_len (Sw69.names st most c')
        have hBne' : bbr (Sw69.names st most c') ≠ [] := bbr_ne (names_raw st most hg'.1).1 hg'.2
        have hgd : Good st most (c' :: cs.drop (cs.length - i + 1)) := by rw [← e2]; exact hok.good.drop _
        refine ⟨_, rfl, _, rfl, _, rfl, _, rfl, fa, _, _, _, rfl, rfl, SqL.of hF1, (by rw [hfas, List.map_append]; exact atI_last _ _), la, sb, tb, st, c, bbr (Sw69.names st most c), bbr (Sw69.names st most c'), fun k e => onw st most c' (cs.drop (cs.length - i + 1)) k e, rfl, LineAt.mv hL s2, StepAt.mv hStp s2, hTb, hok.good.1, hBne, hBne', by omega, by omega, hBn, fun H3 d s3 hd hT => ?_⟩
        have s23 := s2.trans s3
        have hrest : restOk H3 st (bbr (Sw69.names st most c)) (.ref d) (fun k e => pr (rb st most (cs.drop (cs.length - i)) k e.1)) := by
          refine .inr ⟨d, rfl, ?_⟩
          have : ((Sw69.keys st).map fun k => (k, (bbr (Sw69.names st most c)).map fun e => (e.1, behF st (bbr (Sw69.names st most c')) (fun k e => onw st most c' (cs.drop (cs.length - i + 1)) k e) k e.1))) = ((Sw69.keys st).map fun k => (k, (bbr (Sw69.names st most c)).map fun e => (e.1, pr (rb st most (cs.drop (cs.length - i)) k e.1)))) := by
            refine List.map_congr_left fun k _ => ?_
            congr 1
            refine List.map_congr_left fun e _ => ?_
            congr 1
            have z := behind_eq hgd k e.1
            rw [e2]
            show (bst ((Sw69.keys st).map fun k' => shf (kcost st k k') (intoP st most c' (cs.drop (cs.length - i + 1)) e.1 k'))).getD (0, 0) = _
            rw [z]
            rfl
          rw [← this]
          exact hT
        refine ⟨_, rfl, .inl ⟨rfl, _, SqL.of (s3 _ _ hF1)⟩, _, rfl, _, rfl, _, rfl, ?_⟩
        dsimp only [tNil, List.cons_append, List.nil_append]
        exact (fin H3 (.ref d) s23 (TL.mv hF s3) hrest _ fun H4 d4 fas3 s4 hf4 hl4 hT4 => ⟨fa, _, _, rfl, rfl, hf4, by rw [List.length_map]; exact smallLt (by omega), _, _, rfl, by omega, fun z => by omega, Same.up s4 hfa, hT4⟩)
      · have hi0 : i = 0 := by
          rcases Nat.eq_zero_or_pos i with z | z
          · exact z
          · exfalso
            apply q
            cases fas with
            | nil =>
              simp at hFl
              omega
            | cons a r => rfl
        have hb0 := hbv hi0
        subst hb0
        have hrest : restOk H2 st (bbr (Sw69.names st most c)) .non (fun k e => pr (rb st most (cs.drop (cs.length - i)) k e.1)) := by
          refine .inl ⟨rfl, ?_⟩
          funext k e
          rw [hi0, Nat.sub_zero, List.drop_length]
          rfl
        refine ⟨_, rfl, .inl ⟨rfl, _, SqL.of hF1⟩, _, rfl, _, rfl, _, rfl, ?_⟩
        dsimp only [tNil, List.cons_append, List.nil_append]
        exact (fin H2 .non s2 hF hrest _ fun H4 d4 fas3 s4 hf4 hl4 hT4 => ⟨fa, _, _, rfl, rfl, hf4, by rw [List.length_map]; exact smallLt (by omega), _, _, rfl, by omega, fun z => by omega, Same.up s4 hfa, hT4⟩)
    · subst hσ
      rw [Nat.sub_self, List.drop_zero] at hF
      obtain ⟨fas, hF1, hF2⟩ := hF
      refine ⟨_, rfl, fa, _, rfl, SqL.of hF1, fun l hl => kq _ l (Same.nw s2 hl) (s2.free hl) ?_⟩
      refine ⟨fas.reverse, by rw [upd_same, ← List.map_reverse], ?_⟩
      have hr2 : Paired (fun b p => TabX H2 b (onwT st most p)) fas.reverse (sfx cs) := by
        have : ∀ {α β : Type} {R : α → β → Prop} {xs : List α} {ys : List β}, Paired R xs ys → Paired R xs.reverse ys.reverse := by
          intro α β R xs ys h
          induction h with
          | nil => exact .nil
          | cons r t ih => rw [List.reverse_cons, List.reverse_cons]; exact Paired.snoc ih r
        have z := this hF2
        rw [List.reverse_reverse] at z
        exact z
      exact Paired.mapP hr2 fun b p z => TabX.mv z (Same.nw (Same.refl _) hl)
end
end CN
end
section
set_option maxRecDepth 100000
set_option maxHeartbeats 4000000
namespace CN
open PySem PySem.Spec PyProof.Rows L2
def EB (H : Hp) (bv : V) (b : Option (Sw69.Key × Int)) : Prop := (bv = .non ∧ b = none) ∨ ∃ p ka k r, bv = .ref p ∧ H p = some (.tup [.ref ka, .int r]) ∧ TI H ka (ky2 k) ∧ b = some (k, r)
theorem EB.tu {H H' : Hp} {bv : V} {b : Option (Sw69.Key × Int)} (h : EB H bv b) (s : ∀ b xs, H b = some (.tup xs) → H' b = some (.tup xs)) : EB H' bv b := by
  rcases h with h | ⟨p, ka, k, r, h1, h2, h3, h4⟩
  · exact .inl h
  · exact .inr ⟨p, ka, k, r, h1, s _ _ h2, s _ _ h3, h4⟩
def entKC (st : Sw69.St) (b : Option (Sw69.Key × Int)) (k : Sw69.Key) : Nat := match b with
  | none => 0
  | some (k0, _) => kcost st k0 k
def entRC (st : Sw69.St) (b : Option (Sw69.Key × Int)) (k : Sw69.Key) (r : Int) : Nat := match b with
  | none => 0
  | some (_, r0) => rcost st k r0 r
section
variable {P : Program} {w : World} {K : PySem.W.Frag} {mg : Str → Option Value} {base : Heap} {CC CL CR CS : Addr}
def sp_entry (CC CL : Addr) : Sp := fun vs H Q _ => ∃ (la ka : Addr) (st : Sw69.St) (bv : V) (b : Option (Sw69.Key × Int)) (k : Sw69.Key) (r : Int), vs = [.ref la, bv, .ref ka, .int r] ∧ LineAt CC CL H la st ∧ EB H bv b ∧ TI H ka (ky2 k) ∧ k.mode < st.modes.length ∧
  Q (.int ((entKC st b k + entRC st b k r : Nat) : Int)) H
theorem ok_entry {f : Addr} {fd : FuncData} (F : Fun K "entry_cost" "entry_cost" s_entry_cost f fd) (T : Tx K mg CC CL CR CS) (c_key_change_cost : Cal P w K mg base 1 "key_change_cost" ["line", "before", "after"] (sp_kcost CC CL)) (c_root_change_cost : Cal P w K mg base 3 "root_change_cost" ["line", "key", "before", "after"] (sp_rcost CC CL)) :
    FnOk P w K mg base CX0 4 f fd ["line", "before", "key", "root"] (sp_entry CC CL) := by
  refine F.ok sc_entry_cost (fun vs H Q E h => ?_) (fun cdv A outer s H vs Q E hr h => ?_)
  · obtain ⟨la, ka, st, bv, b, k, r, rfl, _⟩ := h
    rfl
  · obtain ⟨la, ka, st, bv, b, k, r, rfl, hL, hb, hk, hm, kq⟩ := h
    refine ⟨_, (pss_cons (ps_if (pt_cmp (pc_isN (pv 1))) (pss_one (ps_ret pe_int)) pss_nil) (pss_one (ps_ret (pe_op op_add (pcl c_key_change_cost (hr.mono (by decide)) (pa_cons (pv 0) (pa_cons (pe_ix ix_tup (pv 1) pe_int (fun _ _ => rfl)) (pa_cons (pv 2) pa_nil)))) (pcl c_root_change_cost (hr.mono (by decide)) (pa_cons (pv 0) (pa_cons (pv 2) (pa_cons (pe_ix ix_tup (pv 1) pe_int (fun _ _ => rfl)) (pa_cons (pv 3) pa_nil))))))))), ?_⟩
    refine ⟨_, rfl, _, rfl, ?_⟩
    rcases hb with ⟨rfl, rfl⟩ | ⟨p, k0a, k0, r0, rfl, h1, h2, rfl⟩
    · rw [decide_eq_true rfl]
      exact iteT kq
    · rw [decide_eq_false (by intro z; cases z)]
      refine iteF ⟨_, rfl, _, rfl, p, _, _, _, rfl, rfl, SqT.of h1, atI_nat (j := 0) rfl, _, rfl, la, k0a, ka, st, k0, k, rfl, hL, h2, hk, _, rfl, _, rfl, _, rfl, p, _, _, _, rfl, rfl, SqT.of h1, atI_nat (j := 1) rfl, _, rfl, la, ka, st, k, r0, r, rfl, hL, hk, hm, _, _, rfl, rfl, ?_⟩
      have z : ((entKC st (some (k0, r0)) k + entRC st (some (k0, r0)) k r : Nat) : Int) = (kcost st k0 k : Int) + (rcost st k r0 r : Int) := by
        show ((kcost st k0 k + rcost st k r0 r : Nat) : Int) = _
        push_cast
        rfl
      rw [z] at kq
      exact kq
def ChR (T : Sw69.Key × EN → Nat) (H : Hp) (b : Addr) (q : Sw69.Key × EN) : Prop := ∃ ka na, H b = some (.tup [.int (T q : Nat), .ref ka, .ref na]) ∧ TI H ka (ky2 q.1) ∧ TI H na (nm4 q.2.2.1)
theorem ChR.tu {T : Sw69.Key × EN → Nat} {H H' : Hp} {b : Addr} {q : Sw69.Key × EN} (h : ChR T H b q) (s : ∀ b xs, H b = some (.tup xs) → H' b = some (.tup xs)) : ChR T H' b q := by
  obtain ⟨ka, na, h1, h2, h3⟩ := h
  exact ⟨ka, na, s _ _ h1, s _ _ h2, s _ _ h3⟩
theorem choices_of {T : Sw69.Key × EN → Nat} {H : Hp} : ∀ {as : List Addr} {qs : List (Sw69.Key × EN)}, Paired (ChR T H) as qs → ∃ cs : List Ch, cs.map (fun c => V.ref c.ad) = as.map V.ref ∧
    (∀ c ∈ cs, H c.ad = some (.tup [.int c.t, .ref c.ka, .ref c.na]) ∧ H c.ka = some (.tup (c.kn.map V.int)) ∧ H c.na = some (.tup (c.nn.map V.int)) ∧ c.kn.length = 2 ∧ c.nn.length = 4) ∧
    Paired (fun (c : Ch) (q : Sw69.Key × EN) => c.t = (T q : Nat) ∧ c.kn = ky2 q.1 ∧ c.nn = nm4 q.2.2.1) cs qs
  | _, _, .nil => ⟨[], rfl, by simp, .nil⟩
  | a :: as, q :: qs, .cons ⟨ka, na, h1, h2, h3⟩ t => by
    obtain ⟨cs, e1, e2, e3⟩ := choices_of t
    refine ⟨⟨a, (T q : Nat), ka, na, ky2 q.1, nm4 q.2.2.1⟩ :: cs, by rw [List.map_cons, List.map_cons, e1], fun c hc => ?_, .cons ⟨rfl, rfl, rfl⟩ e3⟩
    rcases List.mem_cons.mp hc with rfl | hc
    · exact ⟨h1, h2, h3, rfl, rfl⟩
    · exact e2 c hc
theorem ky2_inj {a b : Sw69.Key} (h : ky2 a = ky2 b) : a = b := by
  unfold ky2 at h
  injection h with h1 h2
  injection h2 with h2 _
  have e3 : a.mode = b.mode := by omega
  cases a; cases b
  simp only at h1 e3
  rw [h1, e3]
theorem klt_of_lex {a b : Sw69.Key} (h : HT.lexLt (ky2 a) (ky2 b) = true) : klt a b := by
  unfold ky2 at h
  rw [HT.lexLt_cons] at h
  by_cases e : @Eq Int a.tonic b.tonic
  · rw [if_pos e, HT.lexLt_cons] at h
    by_cases e2 : ((a.mode : Int) = b.mode)
    · rw [if_pos e2] at h
      cases h
    · rw [if_neg e2] at h
      have := of_decide_eq_true h
      exact .inr ⟨e, by omega⟩
  · rw [if_neg e] at h
    exact .inl (of_decide_eq_true h)
theorem chLe_of {c c' : Ch} {t t' : Nat} {k k' : Sw69.Key} {n n' : Sw69.Name} (h1 : c.t = t) (h2 : c.kn = ky2 k) (h3 : c.nn = nm4 n) (g1 : c'.t = t') (g2 : c'.kn = ky2 k') (g3 : c'.nn = nm4 n')
    (tri : n = n' ∨ Sw69.before n n' = true ∨ Sw69.before n' n = true) (h : chLt c' c = false) : chLe t k n t' k' n' := by
  unfold chLt at h
  rw [h1, h2, h3, g1, g2, g3] at h
  by_cases e : (t' : Int) = t
  · rw [if_pos e] at h
    right
    refine ⟨by omega, ?_⟩
    by_cases e2 : ky2 k' = ky2 k
    · rw [if_pos e2] at h
      right
      refine ⟨(ky2_inj e2).symm, ?_⟩
      rcases tri with q | q | q
      · exact .inl q
      · exact .inr q
      · rw [before_lex q] at h
        cases h
    · rw [if_neg e2] at h
      left
      rcases lexLt_tot (ky2 k) (ky2 k') rfl (fun q => e2 q.symm) with q | q
      · exact klt_of_lex q
      · rw [q] at h
        cases h
  · rw [if_neg e] at h
    left
    have := of_decide_eq_false h
    omega
def prodKE (ks : List Sw69.Key) (B : BB) : List (Sw69.Key × EN) := ks.flatMap fun k => B.map fun e => (k, e)
theorem prodKE_snoc (ks : List Sw69.Key) (B : BB) (k : Sw69.Key) : prodKE (ks ++ [k]) B = prodKE ks B ++ B.map fun e => (k, e) := by
  unfold prodKE
  rw [List.flatMap_append]
  simp
theorem prodKE_len (B : BB) : ∀ ks : List Sw69.Key, (prodKE ks B).length = ks.length * B.length
  | [] => by simp [prodKE]
  | k :: ks => by
    show ((B.map fun e => (k, e)) ++ prodKE ks B).length = _
    rw [List.length_append, List.length_map, prodKE_len B ks, List.length_cons, Nat.succ_mul]
    omega
def sp_first (CC CL CS : Addr) : Sp := fun vs H Q _ => ∃ (la sa oa : Addr) (st : Sw69.St) (bv : V) (b : Option (Sw69.Key × Int)) (c : List Int) (B : BB) (G : Sw69.Key → EN → Nat × Nat), vs = [.ref la, bv, .ref sa, .ref oa] ∧ LineAt CC CL H la st ∧ EB H bv b ∧ StepAt CS H sa c B ∧
  TabX H oa ((Sw69.keys st).map fun k => (k, B.map fun e => (e.1, G k e))) ∧ st.modes ≠ [] ∧ B ≠ [] ∧ B.length ≤ 1000 ∧ (B.map (·.1)).Nodup ∧ (∀ e ∈ B, ∀ e' ∈ B, e.2.1 = e'.2.1 ∨ Sw69.before e.2.1 e'.2.1 = true ∨ Sw69.before e'.2.1 e.2.1 = true) ∧
  ∀ H' p k e ka na t, Same H H' → k ∈ Sw69.keys st → e ∈ B → H' p = some (.tup [.int t, .ref ka, .ref na]) → TI H' ka (ky2 k) → TI H' na (nm4 e.2.1) →
    (∀ k' ∈ Sw69.keys st, ∀ e' ∈ B, chLe (entKC st b k + entRC st b k e.1 + (G k e).1) k e.2.1 (entKC st b k' + entRC st b k' e'.1 + (G k' e').1) k' e'.2.1) → Q (.ref p) H'
theorem ok_first {f : Addr} {fd : FuncData} (F : Fun K "first_step" "first_step" s_first_step f fd) (T : Tx K mg CC CL CR CS) (c_keys_of : Cal P w K mg base 1 "keys_of" ["line"] (sp_keys_of CC CL)) (c_entry_cost : Cal P w K mg base 4 "entry_cost" ["line", "before", "key", "root"] (sp_entry CC CL)) :
    FnOk P w K mg base CX0 5 f fd ["line", "before", "step", "onward"] (sp_first CC CL CS) := by
  refine F.ok sc_first_step (fun vs H Q E h => ?_) (fun cdv A outer s H vs Q E hr h => ?_)
  · obtain ⟨la, sa, oa, st, bv, b, c, B, G, rfl, _⟩ := h
    rfl
  · obtain ⟨la, sa, oa, st, bv, b, c, B, G, rfl, hL, hb, hS, hO, hmo, hBne, hBl, hBn, htri, kq⟩ := h
    have hu := hu_of hr
    have hr2 : Room (1 + 3) _ := hr
    have ok : StOk st := by obtain ⟨_, _, _, _, _, _, _, _, ok⟩ := hL; exact ok
    obtain ⟨dxs, ca, da, hsa, hca, kvs, hda, hB⟩ := id hS
    obtain ⟨kvT, hoa, hT⟩ := id hO
    have hkl : B.length = kvs.length := Paired.length hB
    have hkl45 : (Sw69.keys st).length ≤ 45 := by
      have h1 := flat_len st.modes.length (List.range 15)
      rw [← keys_eq, List.length_range] at h1
      have h2 := ok.mn
      omega
    refine ⟨_, (pss_cons (ps_set (i := 4) sc_first_step.nd rfl (by first | exact Or.inl rfl | exact Or.inr rfl) (pe_lst pa_nil)) (pss_cons (ps_for PassesOwn.never rfl (pi_list (pcl c_keys_of (hr.mono (by decide)) (pa_cons (pv 0) pa_nil))) (pg_name (i := 5) sc_first_step.nd rfl (by first | exact Or.inl rfl | exact Or.inr rfl)) (pss_one (ps_lock (ps_for PassesOwn.never rfl (pi_items (pe_fld (pv 2) rfl)) (pg_tup rfl (pgs_cons (pg_name (i := 6) sc_first_step.nd rfl (by first | exact Or.inl rfl | exact Or.inr rfl)) (pgs_cons (pg_name (i := 7) sc_first_step.nd rfl (by first | exact Or.inl rfl | exact Or.inr rfl)) pgs_nil))) (pss_one (ps_expr (pe_bm PySem.F.plainAttrs_list PySem.F.slot_list_append PySem.F.type_list_append mt_append (pv 4) (pa_cons (pe_tup (pa_cons (pe_op op_add (pcl c_entry_cost (hr.mono (by decide)) (pa_cons (pv 0) (pa_cons (pv 1) (pa_cons (pv 5) (pa_cons (pv 6) pa_nil))))) (pe_ix ix_tup (pe_dget hu (pe_dget hu (pv 3) (pv 5) (fun _ _ => rfl)) (pv 6) (fun _ _ => rfl)) pe_int (fun _ _ => rfl))) (pa_cons (pv 5) (pa_cons (pe_ix ix_tup (pv 7) pe_int (fun _ _ => rfl)) pa_nil)))) pa_nil)))))))) (pss_one (ps_ret (pe_callB (cr_minT rfl hr2) (by rfl) T.b_min boot_min (pa_cons (pv 4) pa_nil)))))), ?_⟩
    refine ⟨Nat.zero_le _, fun x hx => ?_⟩
    have s1 : Same H (upd H x (.lst [])) := Same.nw (Same.refl _) hx
    have hx1 : upd H x (.lst []) x = some (.lst (([] : List Addr).map V.ref)) := upd_same
    generalize upd H x (.lst []) = H1 at s1 hx1 ⊢
    refine ⟨_, rfl, la, st, rfl, LineAt.mv hL s1, fun H2 ks s2 hks hK => ?_⟩
    obtain ⟨kas, hK1, hK2⟩ := id hK
    have hx2 := s2 _ _ hx1
    have ksx : ks ≠ x := (ne_of_none hx1 hks).symm
    refine ⟨ks, rfl, ⟨_, SqL.of hK1⟩, for_refs2 (R0 := fun H b k => TI H b (ky2 k)) (es := Sw69.keys st) (H1 := H2) (fun j σ H' => ∃ v5 v6 v7, σ = [some (.ref la), some bv, some (.ref sa), some (.ref oa), some (.ref x), v5, v6, v7] ∧ Same H H' ∧ Kp x H2 H' ∧
        LL (ChR fun q => entKC st b q.1 + entRC st b q.1 q.2.1 + (G q.1 q.2).1) H' x (prodKE ((Sw69.keys st).take j) B)) hK
      ⟨none, none, none, rfl, s1.trans s2, Kp.refl _ _, [], hx2, .nil⟩ (fun i σ H' ⟨_, _, _, _, _, kp, _⟩ l hl => kp _ _ hl ksx) (fun j kb k σ H3 hj hkb ⟨v5, v6, v7, hσ, s3, kp, hC⟩ => ?_) (fun σ H3 ⟨v5, v6, v7, hσ, s3, kp, hC⟩ => ?_)⟩
    · subst hσ
      have hkm : k ∈ Sw69.keys st := List.mem_of_getElem? hj
      have hm := (key_mem hkm).1
      have hkb3 : TI H3 kb (ky2 k) := kp _ _ hkb (ne_of hkb hx2 (by intro z; cases z))
      have hda3 := s3 _ _ hda
      refine ⟨da, .dK kvs, hda3, trivial, fun od => ?_⟩
      have k34 : Kp da H3 (upd H3 da (.frz od (.dK kvs))) := Kp.up (Kp.refl _ _)
      have d4 : upd H3 da (.frz od (.dK kvs)) da = some (.frz od (.dK kvs)) := upd_same
      have rd4 : ∀ b u, H3 b = some u → Rd (upd H3 da (.frz od (.dK kvs))) b u := fun b u e => Rd.lock hda3 e
      generalize upd H3 da (.frz od (.dK kvs)) = H4 at k34 d4 rd4 ⊢
      have sd4 : Sd H3 H4 := Sd.of hda3 k34
      have sk4 : H4 sa = some (.ins CS dxs (sF ca da)) := sd4 _ _ (s3 _ _ hsa) (by intro z q; cases q)
      obtain ⟨as3, hC1, hC2⟩ := id hC
      have xda : da ≠ x := (ne_of hC1 hda3 (by intro z; cases z)).symm
      have tu4 : ∀ b xs, H3 b = some (.tup xs) → H4 b = some (.tup xs) := fun b xs e => sd4 _ _ e (by intro z q; cases q)
      refine ⟨_, rfl, sa, CS, dxs, _, _, rfl, sk4, T.clS, T.n_best, sF_best, da, od, kvs, rfl, d4, for_it (n := B.length) (fun i σ H' => ∃ v6 v7, σ = [some (.ref la), some bv, some (.ref sa), some (.ref oa), some (.ref x), some (.ref kb), v6, v7] ∧ Kp x H4 H' ∧
          LL (ChR fun q => entKC st b q.1 + entRC st b q.1 q.2.1 + (G q.1 q.2).1) H' x (prodKE ((Sw69.keys st).take j) B ++ (B.take i).map fun e => (k, e)))
        ⟨v6, v7, rfl, Kp.refl _ _, as3, sd4 _ _ hC1 (by intro z q; cases q), by
          rw [List.take_zero, List.map_nil, List.append_nil]
          exact Paired.mapP hC2 fun b q z => ChR.tu z tu4⟩ (fun i σ H' hi ⟨_, _, _, kp5, _⟩ => ⟨kp5 _ _ d4 xda, by omega⟩) (fun σ H' ⟨_, _, _, kp5, _⟩ => ⟨kp5 _ _ d4 xda, by omega⟩) (fun i σ H5 y H6 hi ⟨v6, v7, hσ, kp5, hC5⟩ hy => ?_) (fun σ H5 ⟨v6, v7, hσ, kp5, hC5⟩ => ?_)⟩
      · subst hσ
        obtain ⟨T0, k0, v0, hkv, rfl, hT0, rfl⟩ := hy
        obtain ⟨e, he⟩ : ∃ e, B[i]? = some e := ⟨_, List.getElem?_eq_getElem hi⟩
        obtain ⟨kv, hkv', hbe1, p, q, hbe2, hp0, hq0⟩ := Paired.at2 hB he
        rw [hkv] at hkv'
        cases hkv'
        have hk0 : k0 = Sum.inl e.1 := hbe1
        have hv0 : v0 = .ref p := hbe2
        subst hk0 hv0
        have up6 : Same H5 (upd H5 T0 (.tup [kV (Sum.inl e.1), .ref p])) := Same.nw (Same.refl _) hT0
        refine ⟨T0, _, rfl, SqT.of upd_same, rfl, _, _, rfl, _, _, rfl, rfl, ?_⟩
        generalize upd H5 T0 (.tup [kV (Sum.inl e.1), .ref p]) = H6 at up6 ⊢
        -- what was there at H3 and is no dict of ints, and is not x
        have t36 : ∀ b o, H3 b = some o → (∀ z, o ≠ .dK z) → b ≠ x → H6 b = some o := fun b o z n1 n2 => up6 _ _ (kp5 _ _ (sd4 _ _ z n1) n2)
        have tu6 : ∀ b xs, H3 b = some (.tup xs) → H6 b = some (.tup xs) := fun b xs z => t36 _ _ z (by intro z q; cases q) (ne_of z hC1 (by intro y; cases y))
        have sd06 : Sd H H6 := fun b o z n => t36 _ _ (s3 _ _ z) n (ne_of_none z hx)
        have toRd : ∀ b u, H b = some u → Rd H6 b u := fun b u z => by
          rcases rd4 b u (s3 _ _ z) with y | ⟨o, y⟩
          · exact .inl (up6 _ _ (kp5 _ _ y (ne_of_none z hx)))
          · exact .inr ⟨o, up6 _ _ (kp5 _ _ y (ne_of_none z hx))⟩
        have hj' : ((Sw69.keys st).map fun k => (k, B.map fun e => (e.1, G k e)))[j]? = some (k, B.map fun e => (e.1, G k e)) := by rw [List.getElem?_map, hj]; rfl
        obtain ⟨kt, hkt, hkt1, qr, hkt2, kvR, hq1, hq2⟩ := Paired.at2 hT hj'
        have hi' : (B.map fun e => (e.1, G k e))[i]? = some (e.1, G k e) := by rw [List.getElem?_map, he]; rfl
        obtain ⟨kr2, hkr, hkr1, pr, hkr2, hpr⟩ := Paired.at2 hq2 hi'
        have ndT : (kvT.map (·.1)).Nodup := tab_nd hT (by rw [List.map_map]; exact (show ((Sw69.keys st).map fun k => k).Nodup by rw [List.map_id']; exact keys_nodup st))
        have ndR : (kvR.map (·.1)).Nodup := row_nd hq2 (by rw [List.map_map]; exact hBn)
        have hv1 : valV kvT (kyK k) = some (.ref qr) := by
          have e1 : kt = (kyK k, .ref qr) := Prod.ext hkt1 hkt2
          rw [e1] at hkt
          exact val_nd ndT hkt
        have hv2 : valV kvR (Sum.inl e.1) = some (.ref pr) := by
          have e1 : kr2 = (Sum.inl e.1, .ref pr) := Prod.ext hkr1 hkr2
          rw [e1] at hkr
          exact val_nd ndR hkr
        obtain ⟨as5, h51, h52⟩ := hC5
        have hl5 := Paired.length h52
        rw [List.length_append, prodKE_len, List.length_map, List.length_take, List.length_take] at hl5
        have hx6 := up6 _ _ h51
        have hkb6 := tu6 _ _ hkb3
        have hpr6 := tu6 _ _ (s3 _ _ hpr)
        have hp6 := tu6 _ _ (s3 _ _ hp0)
        refine ⟨_, rfl, .inl ⟨rfl, _, SqL.of hx6⟩, _, rfl, _, rfl, _, rfl, _, rfl, la, kb, st, bv, b, k, e.1, rfl, LineAt.sd hL sd06, EB.tu hb (fun b xs z => tu6 _ _ (s3 _ _ z)), hkb6, hm, _, rfl, _, rfl, oa, .ref qr, rfl, .inr ⟨kvT, kyK k, kb, toRd _ _ hoa, rfl, hkb6, hv1.symm⟩, _, rfl, qr, .ref pr, rfl, .inl ⟨kvR, Sum.inl e.1, toRd _ _ hq1, rfl, hv2.symm⟩,
          pr, _, _, _, rfl, rfl, SqT.of hpr6, atI_nat (j := 0) rfl, _, _, rfl, rfl, _, rfl, _, rfl, p, _, _, _, rfl, rfl, SqT.of hp6, atI_nat (j := 0) rfl, (by show 3 ≤ sizeLine; decide), fun ad had => ⟨x, _, _, rfl, rfl, Same.nw (Same.refl H6) had _ _ hx6, ?_, _, _, rfl, ?_, ?_⟩⟩
        · rw [List.length_map]
          have : (min j (Sw69.keys st).length) * B.length ≤ 45 * 1000 := Nat.mul_le_mul (by omega) hBl
          exact smallLt (by omega)
        · refine Kp.up fun b o z n => ?_
          rw [upd_ne (ne_of_none (up6 _ _ (kp5 _ _ z n)) had)]
          exact up6 _ _ (kp5 _ _ z n)
        · rw [take_snoc he, List.map_append, ← List.append_assoc]
          have adx : ad ≠ x := (ne_of_none hx6 had).symm
          have tuE : ∀ (t : V) (L : List V) (b' : Addr) (xs : List V), H6 b' = some (.tup xs) → upd (upd H6 ad (.tup [t, V.ref kb, V.ref q])) x (.lst L) b' = some (.tup xs) := fun t L b' xs z => by
            rw [upd_ne (ne_of z hx6 (by intro y; cases y)), upd_ne (ne_of_none z had)]
            exact z
          refine ⟨as5 ++ [ad], by rw [upd_same, List.map_append]; rfl, Paired.snoc (Paired.mapP h52 fun b' q' z => ChR.tu z fun b' xs y => tuE _ _ _ _ (up6 _ _ y)) ⟨kb, q, ?_, tuE _ _ _ _ hkb6, tuE _ _ _ _ (tu6 _ _ (s3 _ _ hq0))⟩⟩
          rw [upd_ne adx, upd_same]
          push_cast
          rfl
      · subst hσ
        rw [List.take_length] at hC5
        have hd5 := kp5 _ _ d4 xda
        refine ⟨hd5, _, _, _, rfl, ?_, ?_, ?_⟩
        · intro b o z
          by_cases y : b = da
          · subst y
            rw [hda] at z
            cases z
            exact upd_same
          · rw [upd_ne y]
            exact kp5 _ _ (k34 _ _ (s3 _ _ z) y) (ne_of_none z hx)
        · intro b o z n
          by_cases y : b = da
          · subst y
            have y2 := kp _ _ z n
            rw [hda3] at y2
            cases y2
            exact upd_same
          · rw [upd_ne y]
            exact kp5 _ _ (k34 _ _ (kp _ _ z n) y) n
        · obtain ⟨as5, h51, h52⟩ := hC5
          rw [take_snoc hj, prodKE_snoc]
          refine ⟨as5, by rw [upd_ne xda.symm]; exact h51, Paired.mapP h52 fun b' q' z => ChR.tu z fun b' xs y => ?_⟩
          rw [upd_ne (ne_of y hd5 (by intro z; cases z))]
          exact y
    · subst hσ
      rw [List.take_length] at hC
      obtain ⟨as, hC1, hC2⟩ := hC
      obtain ⟨cs, e1, e2, e3⟩ := choices_of hC2
      rw [← e1] at hC1
      have hne : prodKE (Sw69.keys st) B ≠ [] := by
        intro z
        have z2 := prodKE_len B (Sw69.keys st)
        rw [z] at z2
        have h1 : 0 < (Sw69.keys st).length := List.length_pos_iff.mpr (keys_ne hmo)
        have h2 : 0 < B.length := List.length_pos_iff.mpr hBne
        have := Nat.mul_pos h1 h2
        rw [← z2] at this
        cases this
      have hcl := Paired.length e3
      refine ⟨_, rfl, x, cs, rfl, SqL.of hC1, by rw [hcl]; exact List.length_pos_iff.mpr hne, e2, fun c hc hmin => ?_⟩
      obtain ⟨i, hi⟩ := List.getElem?_of_mem hc
      obtain ⟨q, hq, c1, c2, c3⟩ := Paired.at2 e3 hi
      have mq : ∀ q ∈ prodKE (Sw69.keys st) B, q.1 ∈ Sw69.keys st ∧ q.2 ∈ B := fun q m => by
        obtain ⟨k, hk, m⟩ := List.mem_flatMap.mp m
        obtain ⟨e, he, rfl⟩ := List.mem_map.mp m
        exact ⟨hk, he⟩
      obtain ⟨m1, m2⟩ := mq q (List.mem_of_getElem? hq)
      obtain ⟨d1, d2, d3, d4, d5⟩ := e2 c hc
      rw [c2] at d2
      rw [c3] at d3
      refine kq _ c.ad q.1 q.2 c.ka c.na c.t s3 m1 m2 d1 d2 d3 (fun k' hk' e' he' => ?_)
      have mq' : (k', e') ∈ prodKE (Sw69.keys st) B := List.mem_flatMap.mpr ⟨k', hk', List.mem_map.mpr ⟨e', he', rfl⟩⟩
      obtain ⟨i', hi'⟩ := List.getElem?_of_mem mq'
      obtain ⟨c', hc', g1, g2, g3⟩ := Paired.at1 e3 hi'
      exact chLe_of c1 c2 c3 g1 g2 g3 (htri _ m2 _ he') (hmin c' (List.mem_of_getElem? hc'))
end
end CN
end
section
set_option maxRecDepth 100000
set_option maxHeartbeats 4000000
namespace CN
open PySem PySem.Spec PyProof.Rows L2
theorem ord_tri : ∀ {l : List Sw69.Name}, Ord l → ∀ {a b}, a ∈ l → b ∈ l → a = b ∨ Sw69.before a b = true ∨ Sw69.before b a = true
  | [], _, a, b, h, _ => by simp at h
  | x :: l, h, a, b, ha, hb => by
    obtain ⟨h1, h2⟩ := List.pairwise_cons.mp h
    rcases List.mem_cons.mp ha with ea | ma
    · rcases List.mem_cons.mp hb with eb | mb
      · exact .inl (ea.trans eb.symm)
      · exact .inr (.inl (by rw [ea]; exact h1 _ mb))
    · rcases List.mem_cons.mp hb with eb | mb
      · exact .inr (.inr (by rw [eb]; exact h1 _ ma))
      · exact ord_tri h2 ma mb
def remW (b0 : Sw69.Best) (st : Sw69.St) (most : Nat) (bo : Option (Sw69.Key × Int)) (l : List (List Int)) : List Sw69.Step := match bo with
  | none => b0.way
  | some (k, r) => (rb st most l k r).way
theorem rem_step {b0 : Sw69.Best} {st : Sw69.St} {most : Nat} {bo : Option (Sw69.Key × Int)} {c : List Int} {l : List (List Int)} (hg : Good st most (c :: l)) (hb : bo = none → Sw69.through st most (c :: l) = some b0) {k : Sw69.Key} {e : EN}
    (hk : k ∈ Sw69.keys st) (he : e ∈ bbr (Sw69.names st most c))
    (hle : ∀ k' ∈ Sw69.keys st, ∀ e' ∈ bbr (Sw69.names st most c), chLe (entKC st bo k + entRC st bo k e.1 + (onw st most c l k e).1) k e.2.1 (entKC st bo k' + entRC st bo k' e'.1 + (onw st most c l k' e').1) k' e'.2.1) :
    remW b0 st most bo (c :: l) = ⟨k, e.2.1⟩ :: remW b0 st most (some (k, e.2.1.root)) l := by
  have hI := bbr_inv (names_raw st most (hg.2 c List.mem_cons_self).1).1
  have key : ∀ (k1 : Sw69.Key) (e1 : EN), k1 ∈ Sw69.keys st → e1 ∈ bbr (Sw69.names st most c) →
      (∀ k' ∈ Sw69.keys st, ∀ e' ∈ bbr (Sw69.names st most c), chLe (entKC st bo k1 + entRC st bo k1 e1.1 + (onw st most c l k1 e1).1) k1 e1.2.1 (entKC st bo k' + entRC st bo k' e'.1 + (onw st most c l k' e').1) k' e'.2.1) →
      (⟨k1, e1.2.1⟩ :: (rb st most l k1 e1.1).way : List Sw69.Step) = ⟨k, e.2.1⟩ :: (rb st most l k e.2.1.root).way := by
    intro k1 e1 hk1 he1 h1
    obtain ⟨_, rfl, a3⟩ := chLe_antisymm (h1 k hk e he) (hle k1 hk1 e1 he1)
    rw [← (hI.mem e1 he1).2, a3]
  cases bo with
  | none =>
    obtain ⟨k1, e1, hk1, he1, hw, h1⟩ := through_first hg (hb rfl)
    show b0.way = _
    rw [hw]
    exact key k1 e1 hk1 he1 h1
  | some p =>
    obtain ⟨k0, r0⟩ := p
    obtain ⟨k1, e1, hk1, he1, hw, h1⟩ := rest_first hg k0 r0
    show (rb st most (c :: l) k0 r0).way = _
    rw [hw]
    exact key k1 e1 hk1 he1 h1
section
variable {P : Program} {w : World} {K : PySem.W.Frag} {mg : Str → Option Value} {base : Heap} {CC CL CR CS : Addr}
def sp_fway (CC CL CS : Addr) : Sp := fun vs H Q _ => ∃ (la sa oa : Addr) (st : Sw69.St) (most : Nat) (cs : List (List Int)) (b : Sw69.Best), vs = [.ref la, .ref sa, .ref oa] ∧ LineAt CC CL H la st ∧ SL CS st most H sa cs ∧ TL st most H oa (sfx cs) ∧ RowOk st most cs ∧ cs ≠ [] ∧ Sw69.through st most cs = some b ∧
  ∀ H' p, Same H H' → H p = none → RL H' p (b.way.map Sw69.stepOut) → b.way.length = cs.length → Q (.ref p) H'
theorem ok_fway {f : Addr} {fd : FuncData} (F : Fun K "first_way" "first_way" s_first_way f fd) (T : Tx K mg CC CL CR CS) (c_first_step : Cal P w K mg base 5 "first_step" ["line", "before", "step", "onward"] (sp_first CC CL CS)) (c_shown_name : Cal P w K mg base 1 "shown_name" ["name"] sp_shown_name) :
    FnOk P w K mg base CX0 6 f fd ["line", "steps", "onward"] (sp_fway CC CL CS) := by
  refine F.ok sc_first_way (fun vs H Q E h => ?_) (fun cdv A outer s H vs Q E hr h => ?_)
  · obtain ⟨la, sa, oa, st, most, cs, b, rfl, _⟩ := h
    rfl
  · obtain ⟨la, sa, oa, st, most, cs, b0, rfl, hL, hS, hO, hok, hne, hth, kq⟩ := h
    have ok : StOk st := by obtain ⟨_, _, _, _, _, _, _, _, ok⟩ := hL; exact ok
    obtain ⟨as, hS1, hS2⟩ := id hS
    obtain ⟨os, hO1, hO2⟩ := id hO
    have hal : as.length = cs.length := Paired.length hS2
    have hol : os.length = cs.length := by rw [Paired.length hO2, sfx_len]
    have hlen := hok.len
    refine ⟨_, (pss_cons (ps_set (i := 3) sc_first_way.nd rfl (by first | exact Or.inl rfl | exact Or.inr rfl) (pe_lst pa_nil)) (pss_cons (ps_set (i := 4) sc_first_way.nd rfl (by first | exact Or.inl rfl | exact Or.inr rfl) pe_non) (pss_cons (ps_for PassesOwn.never rfl (pi_zip rfl T.b_zip (pa_cons (pv 1) (pa_cons (pv 2) pa_nil))) (pg_tup rfl (pgs_cons (pg_name (i := 5) sc_first_way.nd rfl (by first | exact Or.inl rfl | exact Or.inr rfl)) (pgs_cons (pg_name (i := 6) sc_first_way.nd rfl (by first | exact Or.inl rfl | exact Or.inr rfl)) pgs_nil))) (pss_cons (ps_set (i := 7) sc_first_way.nd rfl (by first | exact Or.inl rfl | exact Or.inr rfl) (pcl c_first_step (hr.mono (by decide)) (pa_cons (pv 0) (pa_cons (pv 4) (pa_cons (pv 5) (pa_cons (pv 6) pa_nil)))))) (pss_cons (ps_set (i := 8) sc_first_way.nd rfl (by first | exact Or.inl rfl | exact Or.inr rfl) (pe_ix ix_tup (pv 7) pe_int (fun _ _ => rfl))) (pss_cons (ps_set (i := 9) sc_first_way.nd rfl (by first | exact Or.inl rfl | exact Or.inr rfl) (pe_ix ix_tup (pv 7) pe_int (fun _ _ => rfl))) (pss_cons (ps_expr (pe_bm PySem.F.plainAttrs_list PySem.F.slot_list_append PySem.F.type_list_append mt_append (pv 3) (pa_cons (pe_op op_cat (pe_callTy call_list_of (by rfl) T.b_list boot_list (pa_cons (pv 8) pa_nil)) (pcl c_shown_name (hr.mono (by decide)) (pa_cons (pv 9) pa_nil))) pa_nil))) (pss_one (ps_set (i := 4) sc_first_way.nd rfl (by first | exact Or.inl rfl | exact Or.inr rfl) (pe_tup (pa_cons (pv 8) (pa_cons (pe_ix ix_tup (pv 9) pe_int (fun _ _ => rfl)) pa_nil)))))))))) (pss_one (ps_ret (pv 3)))))), ?_⟩
    refine ⟨Nat.zero_le _, fun wa hwa => ?_⟩
    have s1 : Same H (upd H wa (.lst [])) := Same.nw (Same.refl _) hwa
    have hw1 : upd H wa (.lst []) wa = some (.lst (([] : List Addr).map V.ref)) := upd_same
    generalize upd H wa (.lst []) = H1 at s1 hw1 ⊢
    refine ⟨_, rfl, _, rfl, sa, oa, _, _, rfl, SqL.of (s1 _ _ hS1), SqL.of (s1 _ _ hO1), for_it (n := cs.length) (fun i σ H' => ∃ (bv : V) (bo : Option (Sw69.Key × Int)) (v5 v6 v7 v8 v9 : Option V) (done : List Sw69.Step) (ws : List Addr), σ = [some (.ref la), some (.ref sa), some (.ref oa), some (.ref wa), some bv, v5, v6, v7, v8, v9] ∧
        Same H H' ∧ EB H' bv bo ∧ (bo = none → i = 0) ∧ done.length = i ∧ b0.way = done ++ remW b0 st most bo (cs.drop i) ∧ H' wa = some (.lst (ws.map V.ref)) ∧ Paired (fun b x => b ≠ wa ∧ LI H' b x) ws (done.map Sw69.stepOut))
      ⟨.non, none, none, none, none, none, none, [], [], rfl, s1, .inl ⟨rfl, rfl⟩, fun _ => rfl, rfl, rfl, hw1, .nil⟩
      (fun i σ H' hi ⟨_, _, _, _, _, _, _, _, _, _, s2, _⟩ => ⟨_, _, _, _, SqL.of (s2 _ _ hS1), SqL.of (s2 _ _ hO1), List.getElem?_eq_getElem (by rw [List.length_map]; omega), List.getElem?_eq_getElem (by rw [List.length_map]; omega)⟩)
      (fun σ H' ⟨_, _, _, _, _, _, _, _, _, _, s2, _⟩ => ⟨_, _, SqL.of (s2 _ _ hS1), SqL.of (s2 _ _ hO1), .inl (by rw [List.length_map]; omega)⟩)
      (fun i σ H2 x H3 hi ⟨bv, bo, v5, v6, v7, v8, v9, done, ws, hσ, s2, hb, hb0, hdl, hway, hw, hW⟩ hy => ?_) (fun σ H2 ⟨bv, bo, v5, v6, v7, v8, v9, done, ws, hσ, s2, hb, hb0, hdl, hway, hw, hW⟩ => ?_)⟩
    · subst hσ
      obtain ⟨T0, x0, y0, rfl, hT0, rfl, hx0, hy0⟩ := hy
      obtain ⟨c, hc⟩ : ∃ c, cs[i]? = some c := ⟨_, List.getElem?_eq_getElem hi⟩
      have hcm := List.mem_of_getElem? hc
      obtain ⟨sb, hsb, hst⟩ := Paired.at1 hS2 hc
      obtain ⟨ob, hob, hot⟩ := Paired.at1 hO2 (sfx_at hc)
      have ex := hx0 _ (SqL.of (s2 _ _ hS1))
      rw [List.getElem?_map, hsb] at ex
      have ex' : x0 = V.ref sb := (Option.some.inj ex).symm
      have ey := hy0 _ (SqL.of (s2 _ _ hO1))
      rw [List.getElem?_map, hob] at ey
      have ey' : y0 = V.ref ob := (Option.some.inj ey).symm
      subst ex' ey'
      have up1 : Same H2 (upd H2 T0 (.tup [V.ref sb, V.ref ob])) := Same.nw (Same.refl _) hT0
      refine ⟨T0, _, rfl, SqT.of upd_same, rfl, _, _, rfl, _, _, rfl, rfl, ?_⟩
      generalize upd H2 T0 (.tup [V.ref sb, V.ref ob]) = H3 at up1 ⊢
      have s3 := s2.trans up1
      have hg := hok.good.2 c hcm
      have hc8 := hok.c8 c hcm
      have hnl := names_len ok most hc8 hg.1
      have hBl := bbr_len (Sw69.names st most c)
      have hOrd := (names_raw st most hg.1).1
      have hI := bbr_inv hOrd
      have hdr : cs.drop i = c :: cs.drop (i + 1) := by
        rw [List.drop_eq_getElem_cons hi]
        congr 1
        have z := List.getElem?_eq_getElem hi
        rw [z] at hc
        exact Option.some.inj hc
      have hgd : Good st most (c :: cs.drop (i + 1)) := by rw [← hdr]; exact hok.good.drop _
      refine ⟨_, rfl, _, rfl, _, rfl, _, rfl, la, sb, ob, st, bv, bo, c, bbr (Sw69.names st most c), fun k e => onw st most c (cs.drop (i + 1)) k e, rfl, LineAt.mv hL s3, EB.tu hb (fun b xs z => up1 _ _ z), StepAt.mv hst s3, TabX.mv hot s3, hok.good.1, bbr_ne hOrd hg.2, by omega, hI.nd, fun e he e' he' => ord_tri hOrd (hI.mem e he).1 (hI.mem e' he').1, fun H4 p k e ka na t s4 hk he hp hka hna hle => ?_⟩
      have s34 := up1.trans s4
      have hw4 := s34 _ _ hw
      have hrem := rem_step (b0 := b0) (bo := bo) hgd (fun z => by
        have := hb0 z
        subst this
        rw [← hdr, List.drop_zero]
        exact hth) hk he hle
      have hWl := Paired.length hW
      rw [List.length_map] at hWl
      refine ⟨_, rfl, p, _, _, _, rfl, rfl, SqT.of hp, atI_nat (j := 1) rfl, _, rfl, p, _, _, _, rfl, rfl, SqT.of hp, atI_nat (j := 2) rfl, _, rfl, .inl ⟨rfl, _, SqL.of hw4⟩, _, rfl, ka, _, rfl, .inr (SqT.of hka), fun l hl => ⟨_, rfl, na, e.2.1, rfl, Same.nw (Same.refl _) hl _ _ hna, fun H5 q s5 hq hq5 => ?_⟩⟩
      have s45 : Same H4 H5 := (Same.nw (Same.refl _) hl).trans s5
      have hl5 : H5 l = some (.lst ((ky2 k).map V.int)) := s5 _ _ upd_same
      refine ⟨l, q, _, _, rfl, rfl, hl5, hq5, small (by simp [ky2, Sw69.nameOut]), fun r hr => ?_⟩
      have s56 : Same H5 (upd H5 r (.lst ((ky2 k).map V.int ++ (Sw69.nameOut e.2.1).map V.int))) := Same.nw (Same.refl _) hr
      have hr6 : LI (upd H5 r (.lst ((ky2 k).map V.int ++ (Sw69.nameOut e.2.1).map V.int))) r (Sw69.stepOut ⟨k, e.2.1⟩) := upd_same
      have rw5 : r ≠ wa := (ne_of_none (s45 _ _ hw4) hr).symm
      generalize upd H5 r (.lst ((ky2 k).map V.int ++ (Sw69.nameOut e.2.1).map V.int)) = H6 at s56 hr6 ⊢
      have s46 := s45.trans s56
      refine ⟨wa, _, _, rfl, rfl, s46 _ _ hw4, by rw [List.length_map]; exact smallLt (by omega), ?_⟩
      have k67 : Kp wa H6 (upd H6 wa (.lst (ws.map V.ref ++ [.ref r]))) := Kp.up (Kp.refl _ _)
      have hw7 : upd H6 wa (.lst (ws.map V.ref ++ [.ref r])) wa = some (.lst ((ws ++ [r]).map V.ref)) := by rw [upd_same, List.map_append]; rfl
      have s07 : Same H (upd H6 wa (.lst (ws.map V.ref ++ [.ref r]))) := Same.up ((s3.trans s4).trans s46) hwa
      generalize upd H6 wa (.lst (ws.map V.ref ++ [.ref r])) = H7 at k67 hw7 s07 ⊢
      have tu7 : ∀ b xs, H4 b = some (.tup xs) → H7 b = some (.tup xs) := fun b xs z => k67 _ _ (s46 _ _ z) (ne_of z hw4 (by intro y; cases y))
      have hna7 := tu7 _ _ hna
      refine ⟨_, rfl, _, rfl, na, _, _, _, rfl, rfl, SqT.of hna7, atI_nat (j := 1) rfl, (by show 2 ≤ sizeLine; decide), fun bb hbb => ?_⟩
      have s78 : Same H7 (upd H7 bb (.tup [.ref ka, .int e.2.1.root])) := Same.nw (Same.refl _) hbb
      have hb8 : upd H7 bb (.tup [.ref ka, .int e.2.1.root]) bb = some (.tup [.ref ka, .int e.2.1.root]) := upd_same
      refine ⟨_, some (k, e.2.1.root), _, _, _, _, _, done ++ [⟨k, e.2.1⟩], ws ++ [r], rfl, s07.trans s78, .inr ⟨bb, ka, k, e.2.1.root, rfl, hb8, s78 _ _ (tu7 _ _ hka), rfl⟩, (fun z => nomatch z), (by rw [List.length_append, hdl]; rfl), ?_, s78 _ _ hw7, ?_⟩
      · rw [hway, hdr, hrem, List.append_assoc]
        rfl
      · rw [List.map_append]
        exact Paired.snoc (Paired.mapP hW fun b x z => ⟨z.1, s78 _ _ (k67 _ _ (s46 _ _ (s34 _ _ z.2)) z.1)⟩) ⟨rw5, s78 _ _ (k67 _ _ hr6 rw5)⟩
    · subst hσ
      rw [List.drop_length] at hway
      have hr0 : remW b0 st most bo [] = [] := by
        cases bo with
        | none =>
          have z := hb0 rfl
          exact absurd (List.eq_nil_of_length_eq_zero z) hne
        | some p => rfl
      rw [hr0, List.append_nil] at hway
      refine ⟨_, rfl, kq _ wa s2 hwa ⟨ws, hw, ?_⟩ (by rw [hway, hdl])⟩
      rw [hway]
      exact Paired.mapP hW fun b x z => z.2
end
end CN
end
section
set_option maxRecDepth 100000
set_option maxHeartbeats 4000000
namespace CN
open PySem PySem.Spec PyProof.Rows L2
theorem row_vals {H : Hp} : ∀ {R : List (Int × (Nat × Nat))} {kvs : List (L2.Key × V)}, Paired (RE H) R kvs → ∃ as : List Addr, kvs.map (·.2) = as.map V.ref ∧ Paired (fun b p => TI H b (pw2 p)) as (R.map (·.2))
  | _, _, .nil => ⟨[], rfl, .nil⟩
  | _, _, .cons ⟨h1, p, h2, h3⟩ t => by
    obtain ⟨as, e1, e2⟩ := row_vals t
    exact ⟨p :: as, by rw [List.map_cons, List.map_cons, e1, h2], .cons h3 e2⟩
def tabVals (Tb : List (Sw69.Key × List (Int × (Nat × Nat)))) : List (Nat × Nat) := Tb.flatMap fun t => t.2.map (·.2)
theorem tabVals_snoc (a : List (Sw69.Key × List (Int × (Nat × Nat)))) (t : Sw69.Key × List (Int × (Nat × Nat))) : tabVals (a ++ [t]) = tabVals a ++ t.2.map (·.2) := by
  unfold tabVals
  rw [List.flatMap_append]
  simp
theorem tabVals_onw (st : Sw69.St) (most : Nat) (p : List Int × List (List Int)) : tabVals (onwT st most p) = (Sw69.keys st).flatMap fun k => (bbr (Sw69.names st most p.1)).map fun e => onw st most p.1 p.2 k e := by
  unfold tabVals onwT
  rw [List.flatMap_map]
  congr 1
  funext k
  rw [List.map_map]
  rfl
section
variable {P : Program} {w : World} {K : PySem.W.Frag} {mg : Str → Option Value} {base : Heap} {CC CL CR CS : Addr}
def sp_cways : Sp := fun vs H Q _ => ∃ (oa : Addr) (Tb : List (Sw69.Key × List (Int × (Nat × Nat)))), vs = [.ref oa] ∧ TabX H oa Tb ∧ tabVals Tb ≠ [] ∧ (tabVals Tb).length ≤ 100000 ∧
  ∀ H' p r, Same H H' → H p = none → bst (tabVals Tb) = some r → TI H' p (pw2 r) → Q (.ref p) H'
theorem ok_cways {f : Addr} {fd : FuncData} (F : Fun K "cheapest_ways" "cheapest_ways" s_cheapest_ways f fd) (T : Tx K mg CC CL CR CS) (c_cheapest : Cal P w K mg base 1 "cheapest" ["pairs"] sp_cheapest) :
    FnOk P w K mg base CX0 2 f fd ["onward"] sp_cways := by
  refine F.ok sc_cheapest_ways (fun vs H Q E h => ?_) (fun cdv A outer s H vs Q E hr h => ?_)
  · obtain ⟨oa, Tb, rfl, _⟩ := h
    rfl
  · obtain ⟨oa, Tb, rfl, hT, hne, hlen, kq⟩ := h
    obtain ⟨kvs, hoa, hP⟩ := id hT
    have hkl := Paired.length hP
    refine ⟨_, (pss_cons (ps_set (i := 1) sc_cheapest_ways.nd rfl (by first | exact Or.inl rfl | exact Or.inr rfl) (pe_lst pa_nil)) (pss_cons (ps_lock (ps_for PassesOwn.never rfl (pi_valuesT (pv 0)) (pg_name (i := 2) sc_cheapest_ways.nd rfl (by first | exact Or.inl rfl | exact Or.inr rfl)) (pss_one (ps_expr (pe_bm PySem.F.plainAttrs_list PySem.F.slot_list_extend PySem.F.type_list_extend mt_extend (pv 1) (pa_cons (pe_listVals rfl (by rfl) T.b_list (pv 2)) pa_nil)))))) (pss_one (ps_ret (pcl c_cheapest (hr.mono (by decide)) (pa_cons (pv 1) pa_nil)))))), ?_⟩
    refine ⟨Nat.zero_le _, fun pa hpa => ?_⟩
    have s1 : Same H (upd H pa (.lst [])) := Same.nw (Same.refl _) hpa
    have hp1 : upd H pa (.lst []) pa = some (.lst (([] : List Addr).map V.ref)) := upd_same
    generalize upd H pa (.lst []) = H1 at s1 hp1 ⊢
    have ho1 := s1 _ _ hoa
    refine ⟨oa, .dT kvs, ho1, trivial, fun od => ?_⟩
    have paoa : pa ≠ oa := ne_of hp1 ho1 (by intro z; cases z)
    have k12 : Kp oa H1 (upd H1 oa (.frz od (.dT kvs))) := Kp.up (Kp.refl _ _)
    have o2 : upd H1 oa (.frz od (.dT kvs)) oa = some (.frz od (.dT kvs)) := upd_same
    generalize upd H1 oa (.frz od (.dT kvs)) = H2 at k12 o2 ⊢
    have hp2 := k12 _ _ hp1 paoa
    have noa : ∀ {b : Addr} {o : HO}, H b = some o → (∀ z, o ≠ .dT z) → b ≠ oa := fun {b o} e n q => by
      rw [q, hoa] at e
      exact n _ (Option.some.inj e).symm
    have pre : ∀ i : Nat, (tabVals (Tb.take i)).length ≤ (tabVals Tb).length := fun i => by
      have z : tabVals Tb = tabVals (Tb.take i) ++ tabVals (Tb.drop i) := by
        unfold tabVals
        rw [← List.flatMap_append, List.take_append_drop]
      rw [z, List.length_append]
      omega
    refine ⟨_, rfl, oa, od, kvs, rfl, o2, for_it (n := Tb.length) (fun i σ H' => ∃ (v2 : Option V) (ps : List Addr), σ = [some (.ref oa), some (.ref pa), v2] ∧ Kp pa H2 H' ∧ H' pa = some (.lst (ps.map V.ref)) ∧ Paired (fun b p => TI H' b (pw2 p)) ps (tabVals (Tb.take i)))
      ⟨none, [], rfl, Kp.refl _ _, hp2, .nil⟩ (fun i σ H' hi ⟨_, _, _, kp, _⟩ => ⟨kp _ _ o2 paoa.symm, by omega⟩) (fun σ H' ⟨_, _, _, kp, _⟩ => ⟨kp _ _ o2 paoa.symm, by omega⟩) (fun i σ H30 x H3 hi ⟨v2, ps, hσ, kp, hp3, hPs⟩ hy => ?_) (fun σ H3 ⟨v2, ps, hσ, kp, hp3, hPs⟩ => ?_)⟩
    · subst hσ
      obtain ⟨rfl, k0, hkv⟩ := hy
      obtain ⟨t, ht⟩ : ∃ t, Tb[i]? = some t := ⟨_, List.getElem?_eq_getElem hi⟩
      obtain ⟨kv', hkv', h1, q, h2, kr, hq, hR⟩ := Paired.at2 hP ht
      rw [hkv] at hkv'
      cases hkv'
      have h2' : x = .ref q := h2
      subst h2'
      have t3 : ∀ b o, H b = some o → (∀ z, o ≠ .dT z) → H3 b = some o := fun b o z n => kp _ _ (k12 _ _ (s1 _ _ z) (noa z n)) (ne_of_none z hpa)
      have hq3 : H3 q = some (.dK kr) := t3 _ _ hq (by intro z y; cases y)
      obtain ⟨rs, e1, e2⟩ := row_vals hR
      have hsz := pre (i + 1)
      rw [take_snoc ht, tabVals_snoc, List.length_append] at hsz
      have hl1 := Paired.length hPs
      have hl2 := Paired.length e2
      refine ⟨_, rfl, .inl ⟨rfl, _, SqL.of hp3⟩, _, rfl, q, kr, rfl, .inl hq3, fun l hl => ⟨pa, l, _, _, rfl, rfl, Same.nw (Same.refl H3) hl _ _ hp3, upd_same, ?_, ?_⟩⟩
      · rw [e1, List.length_map, List.length_map]
        exact small (by omega)
      · rw [e1]
        have tuE : ∀ (b : Addr) (xs : List V), H3 b = some (.tup xs) → upd (upd H3 l (.lst (rs.map V.ref))) pa (.lst (ps.map V.ref ++ rs.map V.ref)) b = some (.tup xs) := fun b xs z => by
          rw [upd_ne (ne_of z hp3 (by intro y; cases y)), upd_ne (ne_of_none z hl)]
          exact z
        refine ⟨_, ps ++ rs, rfl, Kp.up fun b o z n => Same.nw (Same.refl H3) hl _ _ (kp _ _ z n), by rw [upd_same, List.map_append], ?_⟩
        rw [take_snoc ht, tabVals_snoc]
        exact Paired.app (Paired.mapP hPs fun b p z => tuE _ _ z) (Paired.mapP e2 fun b p z => tuE _ _ (t3 _ _ z (by intro z y; cases y)))
    · subst hσ
      rw [List.take_length] at hPs
      have o3 := kp _ _ o2 paoa.symm
      refine ⟨o3, ?_⟩
      have s4 : Same H (upd H3 oa (.dT kvs)) := fun b o z => by
        by_cases y : b = oa
        · subst y
          rw [hoa] at z
          cases z
          exact upd_same
        · rw [upd_ne y]
          exact kp _ _ (k12 _ _ (s1 _ _ z) y) (ne_of_none z hpa)
      have hp4 : upd H3 oa (.dT kvs) pa = some (.lst (ps.map V.ref)) := by rw [upd_ne paoa]; exact hp3
      have hPs4 : Paired (fun b p => TI (upd H3 oa (.dT kvs)) b (pw2 p)) ps (tabVals Tb) := Paired.mapP hPs fun b p z => by
        show upd H3 oa (.dT kvs) b = _
        rw [upd_ne (ne_of z o3 (by intro y; cases y))]
        exact z
      generalize upd H3 oa (.dT kvs) = H4 at s4 hp4 hPs4 ⊢
      refine ⟨_, rfl, pa, tabVals Tb, rfl, ⟨ps, hp4, hPs4⟩, hne, hlen, fun H5 p r s5 hp hb ht => kq _ p r (s4.trans s5) (s4.free hp) hb ht⟩
end
end CN
end
section
set_option maxRecDepth 100000
set_option maxHeartbeats 4000000
namespace CN
open PySem PySem.Spec PyProof.Rows L2
abbrev FL := List (Str × V)
def RdL (K : PySem.W.Frag) (CR : Addr) (H : Hp) (a b : Addr) (ns rest : List Int) : Prop := ∃ (dx : Addr) (p : Nat), H a = some (.ins CR dx (rF b p)) ∧ SqL K H b (ns.map V.int) ∧ p ≤ ns.length ∧ ns.drop p = rest
theorem seq_ins {K : PySem.W.Frag} {H H' : Hp} {b x C dx : Addr} {fs : FL} {xs : List V} (h : SqL K H b xs) (hx : H x = some (.ins C dx fs)) (k : Kp x H H') : SqL K H' b xs := by
  rcases h with (h | ⟨o, h⟩) | h
  · exact .inl (.inl (k _ _ h (ne_of h hx (by intro z; cases z))))
  · exact .inl (.inr ⟨o, k _ _ h (ne_of h hx (by intro z; cases z))⟩)
  · exact .inr h
theorem RdL.mv {K : PySem.W.Frag} {CR : Addr} {H H' : Hp} {a b : Addr} {ns l : List Int} (h : RdL K CR H a b ns l) (s : Same H H') : RdL K CR H' a b ns l := by
  obtain ⟨dx, p, h1, h2, h3⟩ := h
  exact ⟨dx, p, s _ _ h1, s.seq h2, h3⟩
theorem RdL.ins {K : PySem.W.Frag} {CR : Addr} {H : Hp} {a b : Addr} {ns l : List Int} (h : RdL K CR H a b ns l) : ∃ dx fs, H a = some (.ins CR dx fs) ∧ ∀ m : Str, (m == "numbers") = false → (m == "place") = false → fs.lookup m = none := by
  obtain ⟨dx, p, h1, h2, h3⟩ := h
  exact ⟨dx, _, h1, fun m e1 e2 => rF_no e1 e2⟩
def RLP (N : Addr → Prop) (H : Hp) (a : Addr) (xs : List (List Int)) : Prop := N a ∧ ∃ as : List Addr, H a = some (.lst (as.map V.ref)) ∧ Paired (fun b r => N b ∧ LI H b r) as xs
theorem RLP.rl {N : Addr → Prop} {H : Hp} {a : Addr} {xs : List (List Int)} (h : RLP N H a xs) : RL H a xs := by
  obtain ⟨_, as, h1, h2⟩ := h
  exact ⟨as, h1, Paired.mapP h2 fun b r z => z.2⟩
theorem RLP.mv {N : Addr → Prop} {H H' : Hp} {a : Addr} {xs : List (List Int)} (h : RLP N H a xs) (s : ∀ b l, N b → H b = some (.lst l) → H' b = some (.lst l)) : RLP N H' a xs := by
  obtain ⟨h0, as, h1, h2⟩ := h
  exact ⟨h0, as, s _ _ h0 h1, Paired.mapP h2 fun b r z => ⟨z.1, s _ _ z.1 z.2⟩⟩
def LineP (N : Addr → Prop) (CC CL : Addr) (H : Hp) (la : Addr) (st : Sw69.St) : Prop := ∃ dx ka ma ca dc tb : Addr, H la = some (.ins CL dx (lF ka ma ca)) ∧ RLP N H ka st.kinds ∧ RLP N H ma st.modes ∧ H ca = some (.ins CC dc (cF st.costs tb)) ∧ N tb ∧ LI H tb (st.costs.steps.map fun (n : Nat) => (n : Int)) ∧ StOk st
theorem LineP.at {N : Addr → Prop} {CC CL : Addr} {H : Hp} {la : Addr} {st : Sw69.St} (h : LineP N CC CL H la st) : LineAt CC CL H la st := by
  obtain ⟨dx, ka, ma, ca, dc, tb, h1, h2, h3, h4, h5, h6, h7⟩ := h
  exact ⟨dx, ka, ma, ca, h1, RLP.rl h2, RLP.rl h3, ⟨dc, tb, h4, h6⟩, h7⟩
theorem LineP.gen {N : Addr → Prop} {CC CL : Addr} {H H' : Hp} {la : Addr} {st : Sw69.St} (h : LineP N CC CL H la st) (s : ∀ b l, N b → H b = some (.lst l) → H' b = some (.lst l)) (s2 : ∀ b C dx fs, H b = some (.ins C dx fs) → (fs.length = 3 ∨ fs.length = 7) → H' b = some (.ins C dx fs)) : LineP N CC CL H' la st := by
  obtain ⟨dx, ka, ma, ca, dc, tb, h1, h2, h3, h4, h5, h6, h7⟩ := h
  exact ⟨dx, ka, ma, ca, dc, tb, s2 _ _ _ _ h1 (.inl rfl), RLP.mv h2 s, RLP.mv h3 s, s2 _ _ _ _ h4 (.inr rfl), h5, s _ _ h5 h6, h7⟩
theorem LineP.mv {N : Addr → Prop} {CC CL : Addr} {H H' : Hp} {la : Addr} {st : Sw69.St} (h : LineP N CC CL H la st) (s : Same H H') : LineP N CC CL H' la st := LineP.gen h (fun b l _ e => s _ _ e) (fun b C dx fs e _ => s _ _ e)
theorem LineP.kl {N : Addr → Prop} {CC CL : Addr} {H H' : Hp} {la g : Addr} {l : List V} {st : Sw69.St} (h : LineP N CC CL H la st) (hg : H g = some (.lst l)) (hN : ∀ b, N b → b ≠ g) (k : Kp g H H') : LineP N CC CL H' la st :=
  LineP.gen h (fun b l n e => k _ _ e (hN _ n)) (fun b C dx fs e _ => k _ _ e (ne_of e hg (by intro z; cases z)))
theorem LineP.kr {N : Addr → Prop} {K : PySem.W.Frag} {CC CL CR : Addr} {H H' : Hp} {la a b : Addr} {ns l : List Int} {st : Sw69.St} (h : LineP N CC CL H la st) (hg : RdL K CR H a b ns l) (k : Kp a H H') : LineP N CC CL H' la st := by
  obtain ⟨dx, p, h1, _⟩ := hg
  refine LineP.gen h (fun b l n e => k _ _ e (ne_of e h1 (by intro z; cases z))) (fun b C dx fs e q => k _ _ e fun z => ?_)
  rw [z, h1] at e
  cases e
  rcases q with q | q <;> cases q
theorem drop_cons {α : Type} {l : List α} {p : Nat} {z : α} {r : List α} (h : l.drop p = z :: r) : l[p]? = some z ∧ p + 1 ≤ l.length ∧ l.drop (p + 1) = r := by
  have hp : p < l.length := by
    refine Nat.lt_of_not_le fun q => ?_
    rw [List.drop_of_length_le q] at h
    cases h
  have e := List.drop_eq_getElem_cons hp
  rw [h] at e
  injection e with e1 e2
  exact ⟨by rw [List.getElem?_eq_getElem hp, e1], hp, e2.symm⟩
theorem drop_app {α : Type} {l : List α} {p : Nat} {r t : List α} (h : l.drop p = r ++ t) (hp : p ≤ l.length) : (l.drop p).take r.length = r ∧ p + r.length ≤ l.length ∧ l.drop (p + r.length) = t := by
  have hl : l.length - p = r.length + t.length := by
    have := congrArg List.length h
    rw [List.length_drop, List.length_append] at this
    exact this
  refine ⟨by rw [h]; exact List.take_left, by omega, ?_⟩
  rw [← List.drop_drop, h]
  exact List.drop_left
theorem cut_nat (ns : List Int) (p m : Nat) (h : p + m ≤ ns.length) : cutV (ns.map V.int) (some (p : Int)) (some ((p : Int) + m)) = ((ns.drop p).take m).map V.int := by
  unfold cutV
  have e : ((p : Int) + m) = ((p + m : Nat) : Int) := by push_cast; rfl
  rw [e, HT.sIx_nat, HT.sIx_nat, List.length_map, Nat.min_eq_left (by omega), Nat.min_eq_left (by omega), show p + m - p = m by omega, ← List.map_drop, ← List.map_take]
section
variable {P : Program} {w : World} {K : PySem.W.Frag} {mg : Str → Option Value} {base : Heap} {CC CL CR CS : Addr}
def sp_Cinit (CC : Addr) : Sp := fun vs H Q _ => ∃ (x sa ta dx : Addr) (c : Sw69.Costs), vs = [.ref x, .ref sa, .ref ta] ∧ H x = some (.ins CC dx []) ∧ LI H sa [(c.miss : Int), c.extra, c.turned, c.out, c.key, c.mode] ∧ ∀ H', Kp x H H' → H' x = some (.ins CC dx (cF c ta)) → Q .non H'
theorem ok_Cinit {f : Addr} {fd : FuncData} (F : Fun K "__init__" "Costs.__init__" s_Costs_init f fd) (T : Tx K mg CC CL CR CS) : FnOk P w K mg base CX0 1 f fd ["self", "singles", "table"] (sp_Cinit CC) := by
  refine F.ok sc_Costs_init (fun vs H Q E h => ?_) (fun cdv A outer s H vs Q E hr h => ?_)
  · obtain ⟨x, sa, ta, dx, c, rfl, _⟩ := h
    rfl
  · obtain ⟨x, sa, ta, dx, c, rfl, hx, hs, kq⟩ := h
    have sx : sa ≠ x := ne_of hs hx (by intro z; cases z)
    refine ⟨_, (pss_cons (ps_fld (pv 0) (pe_ix ix_list (pv 1) pe_int (fun _ _ => rfl)) rfl) (pss_cons (ps_fld (pv 0) (pe_ix ix_list (pv 1) pe_int (fun _ _ => rfl)) rfl) (pss_cons (ps_fld (pv 0) (pe_ix ix_list (pv 1) pe_int (fun _ _ => rfl)) rfl) (pss_cons (ps_fld (pv 0) (pe_ix ix_list (pv 1) pe_int (fun _ _ => rfl)) rfl) (pss_cons (ps_fld (pv 0) (pe_ix ix_list (pv 1) pe_int (fun _ _ => rfl)) rfl) (pss_cons (ps_fld (pv 0) (pe_ix ix_list (pv 1) pe_int (fun _ _ => rfl)) rfl) (pss_one (ps_fld (pv 0) (pv 2) rfl)))))))), ?_⟩
    have st : ∀ (H1 : Hp), Kp x H H1 → LI H1 sa [(c.miss : Int), c.extra, c.turned, c.out, c.key, c.mode] := fun H1 k => k _ _ hs sx
    refine ⟨_, rfl, sa, _, _, _, rfl, rfl, SqL.of hs, atI_nat (j := 0) rfl, _, rfl, x, CC, dx, _, rfl, hx, T.clC, T.n_miss, (by show 0 < 1000; decide), ?_⟩
    have k1 : Kp x H (upd H x (.ins CC dx (putF "miss" (.int c.miss) []))) := Kp.up (Kp.refl _ _)
    have e1 : (upd H x (.ins CC dx (putF "miss" (.int c.miss) []))) x = some (.ins CC dx ([("miss", .int c.miss)] : FL)) := by
      rw [upd_same]
      rfl
    generalize upd H x (.ins CC dx (putF "miss" (.int c.miss) [])) = H1 at k1 e1 ⊢
    refine ⟨_, rfl, sa, _, _, _, rfl, rfl, SqL.of (st _ k1), atI_nat (j := 1) rfl, _, rfl, x, CC, dx, _, rfl, e1, T.clC, T.n_extra, (by show 1 < 1000; decide), ?_⟩
    have k2 : Kp x H (upd H1 x (.ins CC dx (putF "extra" (.int c.extra) ([("miss", .int c.miss)] : FL)))) := Kp.up k1
    have e2 : (upd H1 x (.ins CC dx (putF "extra" (.int c.extra) ([("miss", .int c.miss)] : FL)))) x = some (.ins CC dx ([("miss", .int c.miss), ("extra", .int c.extra)] : FL)) := by
      rw [upd_same, pf_ne (by decide +kernel)]
      rfl
    generalize upd H1 x (.ins CC dx (putF "extra" (.int c.extra) ([("miss", .int c.miss)] : FL))) = H2 at k2 e2 ⊢
    refine ⟨_, rfl, sa, _, _, _, rfl, rfl, SqL.of (st _ k2), atI_nat (j := 2) rfl, _, rfl, x, CC, dx, _, rfl, e2, T.clC, T.n_turned, (by show 2 < 1000; decide), ?_⟩
    have k3 : Kp x H (upd H2 x (.ins CC dx (putF "turned" (.int c.turned) ([("miss", .int c.miss), ("extra", .int c.extra)] : FL)))) := Kp.up k2
    have e3 : (upd H2 x (.ins CC dx (putF "turned" (.int c.turned) ([("miss", .int c.miss), ("extra", .int c.extra)] : FL)))) x = some (.ins CC dx ([("miss", .int c.miss), ("extra", .int c.extra), ("turned", .int c.turned)] : FL)) := by
      rw [upd_same, pf_ne (by decide +kernel), pf_ne (by decide +kernel)]
      rfl
    generalize upd H2 x (.ins CC dx (putF "turned" (.int c.turned) ([("miss", .int c.miss), ("extra", .int c.extra)] : FL))) = H3 at k3 e3 ⊢
    refine ⟨_, rfl, sa, _, _, _, rfl, rfl, SqL.of (st _ k3), atI_nat (j := 3) rfl, _, rfl, x, CC, dx, _, rfl, e3, T.clC, T.n_out, (by show 3 < 1000; decide), ?_⟩
    have k4 : Kp x H (upd H3 x (.ins CC dx (putF "out" (.int c.out) ([("miss", .int c.miss), ("extra", .int c.extra), ("turned", .int c.turned)] : FL)))) := Kp.up k3
    have e4 : (upd H3 x (.ins CC dx (putF "out" (.int c.out) ([("miss", .int c.miss), ("extra", .int c.extra), ("turned", .int c.turned)] : FL)))) x = some (.ins CC dx ([("miss", .int c.miss), ("extra", .int c.extra), ("turned", .int c.turned), ("out", .int c.out)] : FL)) := by
      rw [upd_same, pf_ne (by decide +kernel), pf_ne (by decide +kernel), pf_ne (by decide +kernel)]
      rfl
    generalize upd H3 x (.ins CC dx (putF "out" (.int c.out) ([("miss", .int c.miss), ("extra", .int c.extra), ("turned", .int c.turned)] : FL))) = H4 at k4 e4 ⊢
    refine ⟨_, rfl, sa, _, _, _, rfl, rfl, SqL.of (st _ k4), atI_nat (j := 4) rfl, _, rfl, x, CC, dx, _, rfl, e4, T.clC, T.n_key, (by show 4 < 1000; decide), ?_⟩
    have k5 : Kp x H (upd H4 x (.ins CC dx (putF "key" (.int c.key) ([("miss", .int c.miss), ("extra", .int c.extra), ("turned", .int c.turned), ("out", .int c.out)] : FL)))) := Kp.up k4
    have e5 : (upd H4 x (.ins CC dx (putF "key" (.int c.key) ([("miss", .int c.miss), ("extra", .int c.extra), ("turned", .int c.turned), ("out", .int c.out)] : FL)))) x = some (.ins CC dx ([("miss", .int c.miss), ("extra", .int c.extra), ("turned", .int c.turned), ("out", .int c.out), ("key", .int c.key)] : FL)) := by
      rw [upd_same, pf_ne (by decide +kernel), pf_ne (by decide +kernel), pf_ne (by decide +kernel), pf_ne (by decide +kernel)]
      rfl
    generalize upd H4 x (.ins CC dx (putF "key" (.int c.key) ([("miss", .int c.miss), ("extra", .int c.extra), ("turned", .int c.turned), ("out", .int c.out)] : FL))) = H5 at k5 e5 ⊢
    refine ⟨_, rfl, sa, _, _, _, rfl, rfl, SqL.of (st _ k5), atI_nat (j := 5) rfl, _, rfl, x, CC, dx, _, rfl, e5, T.clC, T.n_mode, (by show 5 < 1000; decide), ?_⟩
    have k6 : Kp x H (upd H5 x (.ins CC dx (putF "mode" (.int c.mode) ([("miss", .int c.miss), ("extra", .int c.extra), ("turned", .int c.turned), ("out", .int c.out), ("key", .int c.key)] : FL)))) := Kp.up k5
    have e6 : (upd H5 x (.ins CC dx (putF "mode" (.int c.mode) ([("miss", .int c.miss), ("extra", .int c.extra), ("turned", .int c.turned), ("out", .int c.out), ("key", .int c.key)] : FL)))) x = some (.ins CC dx ([("miss", .int c.miss), ("extra", .int c.extra), ("turned", .int c.turned), ("out", .int c.out), ("key", .int c.key), ("mode", .int c.mode)] : FL)) := by
      rw [upd_same, pf_ne (by decide +kernel), pf_ne (by decide +kernel), pf_ne (by decide +kernel), pf_ne (by decide +kernel), pf_ne (by decide +kernel)]
      rfl
    generalize upd H5 x (.ins CC dx (putF "mode" (.int c.mode) ([("miss", .int c.miss), ("extra", .int c.extra), ("turned", .int c.turned), ("out", .int c.out), ("key", .int c.key)] : FL))) = H6 at k6 e6 ⊢
    refine ⟨_, rfl, _, rfl, x, CC, dx, _, rfl, e6, T.clC, T.n_table, (by show 6 < 1000; decide), kq _ (Kp.up k6) ?_⟩
    rw [upd_same, pf_ne (by decide +kernel), pf_ne (by decide +kernel), pf_ne (by decide +kernel), pf_ne (by decide +kernel), pf_ne (by decide +kernel), pf_ne (by decide +kernel)]
    rfl
theorem putL {fs : List (Str × V)} {ka ma ca : Addr} (h : fs = [] ∨ ∃ k m c, fs = lF k m c) :
    (putF "kinds" (.ref ka) fs).length < 1000 ∧ (putF "modes" (.ref ma) (putF "kinds" (.ref ka) fs)).length < 1000 ∧ putF "costs" (.ref ca) (putF "modes" (.ref ma) (putF "kinds" (.ref ka) fs)) = lF ka ma ca := by
  rcases h with rfl | ⟨k, m, c, rfl⟩
  · have e1 : putF "kinds" (.ref ka) [] = ([("kinds", .ref ka)] : FL) := rfl
    have e2 : putF "modes" (.ref ma) ([("kinds", V.ref ka)] : FL) = ([("kinds", .ref ka), ("modes", .ref ma)] : FL) := (pf_ne (by decide +kernel)).trans rfl
    have e3 : putF "costs" (.ref ca) ([("kinds", V.ref ka), ("modes", .ref ma)] : FL) = lF ka ma ca := (pf_ne (by decide +kernel)).trans (by rw [pf_ne (by decide +kernel)]; rfl)
    rw [e1, e2]
    exact ⟨by show 1 < 1000; decide, by show 2 < 1000; decide, e3⟩
  · rw [lF_putK, lF_putM, lF_putC]
    exact ⟨by show 3 < 1000; decide, by show 3 < 1000; decide, rfl⟩
def sp_begin (CC CL : Addr) : Sp := fun vs H Q _ => ∃ (x dx : Addr) (fs : List (Str × V)) (N : Addr → Prop), vs = [.ref x] ∧ H x = some (.ins CL dx fs) ∧ (fs = [] ∨ ∃ k m c, fs = lF k m c) ∧ (∀ b, H b = none → N b) ∧ ∀ H', Kp x H H' → LineP N CC CL H' x Sw69.init → Q .non H'
theorem init_ok : StOk Sw69.init := ⟨by decide, by simp [Sw69.init], by decide, by simp [Sw69.init], by decide, by decide, by decide, by decide, by decide, by decide, by decide⟩
theorem ok_begin {f : Addr} {fd : FuncData} (F : Fun K "begin" "Line.begin" s_Line_begin f fd) (T : Tx K mg CC CL CR CS) (m_Costs : KCal P w K mg base 1 CC "Costs" ["self", "singles", "table"] (sp_Cinit CC)) : FnOk P w K mg base CX0 3 f fd ["self"] (sp_begin CC CL) := by
  refine F.ok sc_Line_begin (fun vs H Q E h => ?_) (fun cdv A outer s H vs Q E hr h => ?_)
  · obtain ⟨x, dx, fs, N, rfl, _⟩ := h
    rfl
  · obtain ⟨x, dx, fs, N, rfl, hx, hfs, hN, kq⟩ := h
    have hfl : fs.length < 1000 := by
      rcases hfs with rfl | ⟨k, m, c, rfl⟩
      · decide
      · show 3 < 1000
        decide
    refine ⟨_, (pss_cons (ps_fld (pv 0) (pe_lst pa_nil) rfl) (pss_cons (ps_fld (pv 0) (pe_lst pa_nil) rfl) (pss_one (ps_fld (pv 0) (pmk m_Costs (hr.mono (by decide)) (pa_cons (pe_op op_rep (pe_lst (pa_cons pe_int pa_nil)) (pgI T.SINGLE_COSTS)) (pa_cons (pe_op op_rep (pe_lst (pa_cons pe_int pa_nil)) (pgI T.TABLE_SIZE)) pa_nil))) rfl)))), ?_⟩
    refine ⟨Nat.zero_le _, fun ka hka => ⟨_, rfl, x, CL, dx, fs, rfl, Same.nw (Same.refl _) hka _ _ hx, T.clL, T.n_kinds, hfl, ?_⟩⟩
    have kax : ka ≠ x := (ne_of_none hx hka).symm
    have k1 : Kp x H (upd (upd H ka (.lst [])) x (.ins CL dx (putF "kinds" (.ref ka) fs))) := Kp.up (Kp.of (Same.nw (Same.refl _) hka))
    have x1 : upd (upd H ka (.lst [])) x (.ins CL dx (putF "kinds" (.ref ka) fs)) x = some (.ins CL dx (putF "kinds" (.ref ka) fs)) := upd_same
    have a1 : upd (upd H ka (.lst [])) x (.ins CL dx (putF "kinds" (.ref ka) fs)) ka = some (.lst []) := by rw [upd_ne kax, upd_same]
    generalize upd (upd H ka (.lst [])) x (.ins CL dx (putF "kinds" (.ref ka) fs)) = H1 at k1 x1 a1 ⊢
    refine ⟨Nat.zero_le _, fun ma hma => ⟨_, rfl, x, CL, dx, _, rfl, Same.nw (Same.refl _) hma _ _ x1, T.clL, T.n_modes, (putL (ma := ma) (ca := ma) hfs).1, ?_⟩⟩
    have max' : ma ≠ x := (ne_of_none x1 hma).symm
    have k2 : Kp x H1 (upd (upd H1 ma (.lst [])) x (.ins CL dx (putF "modes" (.ref ma) (putF "kinds" (.ref ka) fs)))) := Kp.up (Kp.of (Same.nw (Same.refl _) hma))
    have x2 : upd (upd H1 ma (.lst [])) x (.ins CL dx (putF "modes" (.ref ma) (putF "kinds" (.ref ka) fs))) x = some (.ins CL dx (putF "modes" (.ref ma) (putF "kinds" (.ref ka) fs))) := upd_same
    have a2 : upd (upd H1 ma (.lst [])) x (.ins CL dx (putF "modes" (.ref ma) (putF "kinds" (.ref ka) fs))) ma = some (.lst []) := by rw [upd_ne max', upd_same]
    generalize upd (upd H1 ma (.lst [])) x (.ins CL dx (putF "modes" (.ref ma) (putF "kinds" (.ref ka) fs))) = H2 at k2 x2 a2 ⊢
    refine ⟨(by show 1 ≤ sizeLine; decide), fun b1 hb1 => ⟨b1, 6, _, rfl, rfl, upd_same, by decide, by decide, (by show 1 * 6 ≤ sizeLine; decide), fun sa hsa => ?_⟩⟩
    have s23 : Same H2 (upd (upd H2 b1 (.lst [.int 0])) sa (.lst (List.replicate (6 : Int).toNat [V.int 0]).flatten)) := Same.nw (Same.nw (Same.refl _) hb1) hsa
    have hs3 : LI (upd (upd H2 b1 (.lst [.int 0])) sa (.lst (List.replicate (6 : Int).toNat [V.int 0]).flatten)) sa [0, 0, 0, 0, 0, 0] := upd_same
    generalize upd (upd H2 b1 (.lst [.int 0])) sa (.lst (List.replicate (6 : Int).toNat [V.int 0]).flatten) = H3 at s23 hs3 ⊢
    refine ⟨(by show 1 ≤ sizeLine; decide), fun b2 hb2 => ⟨b2, 64, _, rfl, rfl, upd_same, by decide, by decide, (by show 1 * 64 ≤ sizeLine; decide), fun ta hta => ?_⟩⟩
    have s34 : Same H3 (upd (upd H3 b2 (.lst [.int 0])) ta (.lst (List.replicate (64 : Int).toNat [V.int 0]).flatten)) := Same.nw (Same.nw (Same.refl _) hb2) hta
    have ht4 : LI (upd (upd H3 b2 (.lst [.int 0])) ta (.lst (List.replicate (64 : Int).toNat [V.int 0]).flatten)) ta (Sw69.free.steps.map fun (n : Nat) => (n : Int)) := upd_same
    generalize upd (upd H3 b2 (.lst [.int 0])) ta (.lst (List.replicate (64 : Int).toNat [V.int 0]).flatten) = H4 at s34 ht4 ⊢
    intro y dy hy hdy hne
    have s24 := s23.trans s34
    have s45 : Same H4 (upd (upd H4 dy (.own y)) y (.ins CC dy [])) := Same.up (Same.nw (Same.refl _) hdy) hy
    have y5 : upd (upd H4 dy (.own y)) y (.ins CC dy []) y = some (.ins CC dy []) := upd_same
    generalize upd (upd H4 dy (.own y)) y (.ins CC dy []) = H5 at s45 y5 ⊢
    refine ⟨y, sa, ta, dy, Sw69.free, rfl, y5, s45 _ _ (s34 _ _ hs3), fun H6 k6 y6 => ?_⟩
    have s46 : Same H4 H6 := fun b o e => k6 _ _ (s45 _ _ e) (ne_of_none e hy)
    have x6 := s46 _ _ (s24 _ _ x2)
    obtain ⟨q1, q2, q3⟩ := putL (ka := ka) (ma := ma) (ca := y) hfs
    refine ⟨rfl, _, rfl, x, CL, dx, _, rfl, x6, T.clL, T.n_costs, q2, kq _ (Kp.up fun b o e n => s46 _ _ (s24 _ _ (k2 _ _ (k1 _ _ e n) n))) ?_⟩
    rw [q3]
    have n6 : ∀ b o, H6 b = some o → b ≠ x → upd H6 x (.ins CL dx (lF ka ma y)) b = some o := fun b o e n => by
      rw [upd_ne n]
      exact e
    have a26 := s46 _ _ (s24 _ _ a2)
    have a16 := s46 _ _ (s24 _ _ (k2 _ _ a1 kax))
    have yx : y ≠ x := (ne_of_none (s24 _ _ x2) hy).symm
    have t6 := s46 _ _ ht4
    have bk : ∀ {Hc : Hp} {b : Addr} {C d : Addr} {gs : List (Str × V)}, Kp x H Hc → Hc x = some (.ins C d gs) → Hc b = none → N b := fun {Hc b C d gs} k hc hb => by
      refine hN _ ?_
      cases e : H b with
      | none => rfl
      | some o =>
        by_cases z : b = x
        · rw [z, hc] at hb
          cases hb
        · rw [k _ _ e z] at hb
          cases hb
    have na : N ka := hN _ hka
    have nm : N ma := bk k1 x1 hma
    have nt : N ta := bk (Hc := H3) (fun b o e n => s23 _ _ (k2 _ _ (k1 _ _ e n) n)) (s23 _ _ x2) ((Same.nw (Same.refl _) hb2).free hta)
    exact ⟨dx, ka, ma, y, dy, ta, upd_same, ⟨na, [], n6 _ _ a16 kax, .nil⟩, ⟨nm, [], n6 _ _ a26 max', .nil⟩, n6 _ _ y6 yx, nt, n6 _ _ t6 (ne_of t6 x6 (by intro z; cases z)), init_ok⟩
def sp_Linit (CC CL : Addr) : Sp := fun vs H Q _ => ∃ (x dx : Addr) (N : Addr → Prop), vs = [.ref x] ∧ H x = some (.ins CL dx []) ∧ (∀ b, H b = none → N b) ∧ ∀ H', Kp x H H' → LineP N CC CL H' x Sw69.init → Q .non H'
theorem ok_Linit {f : Addr} {fd : FuncData} (F : Fun K "__init__" "Line.__init__" s_Line_init f fd) (T : Tx K mg CC CL CR CS) (m_Line_begin : MCal P w K mg base 3 CL "begin" ["self"] (sp_begin CC CL)) : FnOk P w K mg base CX0 4 f fd ["self"] (sp_Linit CC CL) := by
  refine F.ok sc_Line_init (fun vs H Q E h => ?_) (fun cdv A outer s H vs Q E hr h => ?_)
  · obtain ⟨x, dx, N, rfl, _⟩ := h
    rfl
  · obtain ⟨x, dx, N, rfl, hx, hN, kq⟩ := h
    refine ⟨_, (pss_one (ps_expr (pmt0 m_Line_begin (hr.mono (by decide)) (pv 0)))), ?_⟩
    exact ⟨_, rfl, x, dx, [], rfl, hx, rfl, x, dx, [], N, rfl, hx, .inl rfl, hN, fun H' k l => kq H' k l⟩
def sp_Rinit (K : PySem.W.Frag) (CR : Addr) : Sp := fun vs H Q _ => ∃ (x dx b : Addr) (ns : List Int), vs = [.ref x, .ref b] ∧ H x = some (.ins CR dx []) ∧ SqL K H b (ns.map V.int) ∧ ∀ H', Kp x H H' → RdL K CR H' x b ns ns → Q .non H'
theorem ok_Rinit {f : Addr} {fd : FuncData} (F : Fun K "__init__" "Reader.__init__" s_Reader_init f fd) (T : Tx K mg CC CL CR CS) : FnOk P w K mg base CX0 1 f fd ["self", "numbers"] (sp_Rinit K CR) := by
  refine F.ok sc_Reader_init (fun vs H Q E h => ?_) (fun cdv A outer s H vs Q E hr h => ?_)
  · obtain ⟨x, dx, b, ns, rfl, _⟩ := h
    rfl
  · obtain ⟨x, dx, b, ns, rfl, hx, hb, kq⟩ := h
    refine ⟨_, (pss_cons (ps_fld (pv 0) (pv 1) rfl) (pss_one (ps_fld (pv 0) pe_int rfl))), ?_⟩
    refine ⟨_, rfl, _, rfl, x, CR, dx, _, rfl, hx, T.clR, T.n_numbers, by decide, ?_⟩
    have k1 : Kp x H (upd H x (.ins CR dx (putF "numbers" (.ref b) []))) := Kp.up (Kp.refl _ _)
    have e1 : upd H x (.ins CR dx (putF "numbers" (.ref b) [])) x = some (.ins CR dx ([("numbers", .ref b)] : FL)) := by
      rw [upd_same]
      rfl
    generalize upd H x (.ins CR dx (putF "numbers" (.ref b) [])) = H1 at k1 e1 ⊢
    refine ⟨_, rfl, x, CR, dx, _, rfl, e1, T.clR, T.n_place, (by show 1 < 1000; decide), kq _ (Kp.up k1) ⟨dx, 0, ?_, seq_ins hb hx (Kp.up k1), Nat.zero_le _, rfl⟩⟩
    rw [upd_same, pf_ne (by decide +kernel)]
    rfl
def sp_more (K : PySem.W.Frag) (CR : Addr) : Sp := fun vs H Q _ => ∃ (a b : Addr) (ns l : List Int), vs = [.ref a] ∧ RdL K CR H a b ns l ∧ Q (.bl (decide (0 < l.length))) H
theorem ok_more {f : Addr} {fd : FuncData} (F : Fun K "has_more" "Reader.has_more" s_Reader_has_more f fd) (T : Tx K mg CC CL CR CS) : FnOk P w K mg base CX0 1 f fd ["self"] (sp_more K CR) := by
  refine F.ok sc_Reader_has_more (fun vs H Q E h => ?_) (fun cdv A outer s H vs Q E hr h => ?_)
  · obtain ⟨a, b, ns, l, rfl, _⟩ := h
    rfl
  · obtain ⟨a, b, ns, l, rfl, ⟨dx, p, h1, h2, h3, rfl⟩, kq⟩ := h
    refine ⟨_, (pss_one (ps_ret (pe_cmpR op_lt (pe_fld (pv 0) rfl) (pe_callB call_len_seq (by rfl) T.b_len PySem.boot_len (pa_cons (pe_fld (pv 0) rfl) pa_nil)) (nomark _)))), ?_⟩
    refine ⟨_, rfl, a, CR, dx, _, _, rfl, h1, T.clR, T.n_place, rF_place, _, rfl, a, CR, dx, _, _, rfl, h1, T.clR, T.n_numbers, rF_numbers, b, _, rfl, .inl (h2), _, _, rfl, rfl, ?_⟩
    rw [List.length_map]
    rw [List.length_drop] at kq
    have e : decide ((p : Int) < ns.length) = decide (0 < ns.length - p) := by
      by_cases z : 0 < ns.length - p
      · rw [decide_eq_true z, decide_eq_true (by omega)]
      · rw [decide_eq_false z, decide_eq_false (by omega)]
    show Q (V.bl (decide ((p : Int) < ns.length))) H
    rw [e]
    exact kq
def sp_num (K : PySem.W.Frag) (CR : Addr) : Sp := fun vs H Q _ => ∃ (a b : Addr) (z : Int) (ns l : List Int), vs = [.ref a] ∧ RdL K CR H a b ns (z :: l) ∧ ∀ H', Kp a H H' → RdL K CR H' a b ns l → Q (.int z) H'
theorem ok_num {f : Addr} {fd : FuncData} (F : Fun K "number" "Reader.number" s_Reader_number f fd) (T : Tx K mg CC CL CR CS) : FnOk P w K mg base CX0 1 f fd ["self"] (sp_num K CR) := by
  refine F.ok sc_Reader_number (fun vs H Q E h => ?_) (fun cdv A outer s H vs Q E hr h => ?_)
  · obtain ⟨a, b, z, ns, l, rfl, _⟩ := h
    rfl
  · obtain ⟨a, b, z, ns, l, rfl, ⟨dx, p, h1, h2, h3, h4⟩, kq⟩ := h
    obtain ⟨g1, g2, g3⟩ := drop_cons h4
    refine ⟨_, (pss_cons (ps_set (i := 1) sc_Reader_number.nd rfl (by first | exact Or.inl rfl | exact Or.inr rfl) (pe_ix ix_list (pe_fld (pv 0) rfl) (pe_fld (pv 0) rfl) (fun _ _ => rfl))) (pss_cons (ps_fldaug (pv 0) pe_int in_add) (pss_one (ps_ret (pv 1))))), ?_⟩
    refine ⟨_, rfl, a, CR, dx, _, _, rfl, h1, T.clR, T.n_numbers, rF_numbers, _, rfl, a, CR, dx, _, _, rfl, h1, T.clR, T.n_place, rF_place, b, _, _, _, rfl, rfl, h2, atI_nat (j := p) (by rw [List.getElem?_map, g1]; rfl), _, rfl, a, CR, dx, _, _, rfl, h1, T.clR, T.n_place, rF_place, _, _, rfl, rfl, dx, _, h1, (by show 2 < 1000; decide), _, rfl, ?_⟩
    rw [rF_put]
    refine kq _ (Kp.up (Kp.refl _ _)) ⟨dx, p + 1, ?_, seq_ins h2 h1 (Kp.up (Kp.refl _ _)), g2, g3⟩
    rw [upd_same]
    push_cast
    rfl
def sp_sev (K : PySem.W.Frag) (CR : Addr) : Sp := fun vs H Q _ => ∃ (a b : Addr) (r ns l : List Int), vs = [.ref a, .int (r.length : Nat)] ∧ RdL K CR H a b ns (r ++ l) ∧ ∀ H' q, Kp a H H' → H q = none → RdL K CR H' a b ns l → LI H' q r → Q (.ref q) H'
theorem ok_sev {f : Addr} {fd : FuncData} (F : Fun K "several" "Reader.several" s_Reader_several f fd) (T : Tx K mg CC CL CR CS) : FnOk P w K mg base CX0 1 f fd ["self", "how_many"] (sp_sev K CR) := by
  refine F.ok sc_Reader_several (fun vs H Q E h => ?_) (fun cdv A outer s H vs Q E hr h => ?_)
  · obtain ⟨a, b, r, ns, l, rfl, _⟩ := h
    rfl
  · obtain ⟨a, b, r, ns, l, rfl, ⟨dx, p, h1, h2, h3, h4⟩, kq⟩ := h
    obtain ⟨g1, g2, g3⟩ := drop_app h4 h3
    refine ⟨_, (pss_cons (ps_set (i := 2) sc_Reader_several.nd rfl (by first | exact Or.inl rfl | exact Or.inr rfl) (pe_fld (pv 0) rfl)) (pss_cons (ps_fldaug (pv 0) (pv 1) in_add) (pss_one (ps_ret (pe_slice sl_list (pe_fld (pv 0) rfl) (po_some (pv 2)) (po_some (pe_fld (pv 0) rfl))))))), ?_⟩
    refine ⟨_, rfl, a, CR, dx, _, _, rfl, h1, T.clR, T.n_place, rF_place, _, rfl, a, CR, dx, _, _, rfl, h1, T.clR, T.n_place, rF_place, _, rfl, _, _, rfl, rfl, dx, _, h1, (by show 2 < 1000; decide), ?_⟩
    rw [rF_put]
    have k1 : Kp a H (upd H a (.ins CR dx (rF b ((p : Int) + (r.length : Nat))))) := Kp.up (Kp.refl _ _)
    have a1 : upd H a (.ins CR dx (rF b ((p : Int) + (r.length : Nat)))) a = some (.ins CR dx (rF b ((p : Int) + (r.length : Nat)))) := upd_same
    generalize upd H a (.ins CR dx (rF b ((p : Int) + (r.length : Nat)))) = H1 at k1 a1 ⊢
    have b1 := seq_ins h2 h1 k1
    refine ⟨_, rfl, a, CR, dx, _, _, rfl, a1, T.clR, T.n_numbers, rF_numbers, _, rfl, _, rfl, _, rfl, a, CR, dx, _, _, rfl, a1, T.clR, T.n_place, rF_place, _, rfl, b, _, rfl, b1, fun q hq => ?_⟩
    rw [cut_nat _ _ _ g2, g1]
    have s2 : Same H1 (upd H1 q (.lst (r.map V.int))) := Same.nw (Same.refl _) hq
    have hq0 : H q = none := by
      cases e : H q with
      | none => rfl
      | some o =>
        by_cases z : q = a
        · rw [z, a1] at hq
          cases hq
        · rw [k1 _ _ e z] at hq
          cases hq
    refine kq _ q (fun b' o e n => s2 _ _ (k1 _ _ e n)) hq0 ⟨dx, p + r.length, ?_, s2.seq b1, g2, g3⟩ upd_same
    have := s2 _ _ a1
    push_cast
    exact this
def sp_row (K : PySem.W.Frag) (CR : Addr) : Sp := fun vs H Q _ => ∃ (a b : Addr) (r ns l : List Int), vs = [.ref a] ∧ RdL K CR H a b ns ((r.length : Int) :: (r ++ l)) ∧ ∀ H' q, Kp a H H' → H q = none → RdL K CR H' a b ns l → LI H' q r → Q (.ref q) H'
theorem ok_row {f : Addr} {fd : FuncData} (F : Fun K "row" "Reader.row" s_Reader_row f fd) (T : Tx K mg CC CL CR CS) (m_Reader_number : MCal P w K mg base 1 CR "number" ["self"] (sp_num K CR)) (m_Reader_several : MCal P w K mg base 1 CR "several" ["self", "how_many"] (sp_sev K CR)) :
    FnOk P w K mg base CX0 2 f fd ["self"] (sp_row K CR) := by
  refine F.ok sc_Reader_row (fun vs H Q E h => ?_) (fun cdv A outer s H vs Q E hr h => ?_)
  · obtain ⟨a, b, r, ns, l, rfl, _⟩ := h
    rfl
  · obtain ⟨a, b, r, ns, l, rfl, hR, kq⟩ := h
    obtain ⟨dx, fs, ha, hn⟩ := RdL.ins hR
    refine ⟨_, (pss_one (ps_ret (pmt m_Reader_several (hr.mono (by decide)) (pv 0) (pa_cons (pmt0 m_Reader_number (hr.mono (by decide)) (pv 0)) pa_nil)))), ?_⟩
    refine ⟨_, rfl, a, dx, fs, rfl, ha, hn _ (by decide +kernel) (by decide +kernel), _, rfl, a, dx, fs, rfl, ha, hn _ (by decide +kernel) (by decide +kernel), a, b, _, _, _, rfl, hR, fun H1 k1 hR1 => ?_⟩
    refine ⟨a, b, r, _, l, rfl, hR1, fun H2 q k2 hq hR2 hq2 => kq _ q (k1.trans k2) ?_ hR2 hq2⟩
    obtain ⟨dx1, fs1, ha1, _⟩ := RdL.ins hR1
    cases e : H q with
    | none => rfl
    | some o =>
      by_cases z : q = a
      · rw [z, ha1] at hq
        cases hq
      · rw [k1 _ _ e z] at hq
        cases hq
end
end CN
end
section
set_option maxRecDepth 100000
set_option maxHeartbeats 4000000
namespace CN
open PySem PySem.Spec PyProof.Rows L2
def enc (rs : List (List Int)) : List Int := rs.flatMap fun r => (r.length : Int) :: r
theorem enc_cons (r : List Int) (rs : List (List Int)) : enc (r :: rs) = (r.length : Int) :: (r ++ enc rs) := rfl
section
variable {P : Program} {w : World} {K : PySem.W.Frag} {mg : Str → Option Value} {base : Heap} {CC CL CR CS : Addr}
def sp_rows (K : PySem.W.Frag) (CR : Addr) : Sp := fun vs H Q _ => ∃ (a b : Addr) (rs : List (List Int)) (ns l : List Int) (N : Addr → Prop), vs = [.ref a] ∧ RdL K CR H a b ns ((rs.length : Int) :: (enc rs ++ l)) ∧ rs.length ≤ 70 ∧ (∀ b, H b = none → N b) ∧ ∀ H' q, Kp a H H' → H q = none → RdL K CR H' a b ns l → RLP N H' q rs → Q (.ref q) H'
theorem ok_rows {f : Addr} {fd : FuncData} (F : Fun K "rows" "Reader.rows" s_Reader_rows f fd) (T : Tx K mg CC CL CR CS) (m_Reader_number : MCal P w K mg base 1 CR "number" ["self"] (sp_num K CR)) (m_Reader_row : MCal P w K mg base 2 CR "row" ["self"] (sp_row K CR)) :
    FnOk P w K mg base CX0 3 f fd ["self"] (sp_rows K CR) := by
  refine F.ok sc_Reader_rows (fun vs H Q E h => ?_) (fun cdv A outer s H vs Q E hr h => ?_)
  · obtain ⟨a, bs, rs, ns, l, N, rfl, _⟩ := h
    rfl
  · obtain ⟨a, bs, rs, ns, l, N, rfl, hR, hlen, hN, kq⟩ := h
    obtain ⟨dx, fs, ha, hn⟩ := RdL.ins hR
    refine ⟨_, (pss_one (ps_ret (pe_lc (own := [("which", 1)]) rfl sc_Reader_rows.nd (pi_range1 rfl T.b_range (pa_cons (pmt0 m_Reader_number (hr.mono (by decide)) (pv 0)) pa_nil)) (blkOk_by (N := N_Reader_rows) (sc := defScope s_Reader_rows) (by decide +kernel)) (fun _ _ _ _ _ => (pg_name (i := 1) sc_Reader_rows.nd rfl (by first | exact Or.inl rfl | exact Or.inr rfl))) (fun _ _ _ _ _ => pts_nil) (fun _ _ _ _ _ => (pmt0 m_Reader_row (hr.mono (by decide)) (pv 0)))))), ?_⟩
    refine ⟨_, rfl, a, dx, fs, rfl, ha, hn _ (by decide +kernel) (by decide +kernel), a, bs, _, _, _, rfl, hR, fun H1 k1 hR1 => ?_⟩
    obtain ⟨dx1, fs1, ha1, hn1⟩ := RdL.ins hR1
    refine ⟨_, rfl, by omega, by omega, fun D hD => ?_⟩
    have hb1 : SqL K H1 bs (ns.map V.int) := by
      obtain ⟨_, _, _, g, _⟩ := hR1
      exact g
    have Da : D ≠ a := (ne_of_none ha1 hD).symm
    refine lc_it (n := rs.length) (fun i H' => i ≤ rs.length ∧ Kp a H1 H' ∧ RdL K CR H' a bs ns (enc (rs.drop i) ++ l) ∧ ∃ as : List Addr, H' D = some (.lst (as.map V.ref)) ∧ Paired (fun b r => b ≠ D ∧ b ≠ a ∧ LI H' b r ∧ N b) as (rs.take i))
      ⟨Nat.zero_le _, Kp.of (Same.nw (Same.refl _) hD), RdL.mv hR1 (Same.nw (Same.refl _) hD), [], upd_same, .nil⟩ (fun i H' hi _ => hi) (fun H' _ => Nat.le_refl _) (fun i H20 x H2 hi ⟨_, k2, hR2, as, hD2, hP⟩ hy => ?_) (fun H2 ⟨_, k2, hR2, as, hD2, hP⟩ => ?_)
    · obtain ⟨rfl, rfl⟩ := hy
      obtain ⟨r, hr0⟩ : ∃ r, rs[i]? = some r := ⟨_, List.getElem?_eq_getElem hi⟩
      have hdr : rs.drop i = r :: rs.drop (i + 1) := by
        rw [List.drop_eq_getElem_cons hi]
        congr 1
        have z := List.getElem?_eq_getElem hi
        rw [z] at hr0
        exact Option.some.inj hr0
      rw [hdr, enc_cons, List.cons_append, List.append_assoc] at hR2
      obtain ⟨dx2, fs2, ha2, hn2⟩ := RdL.ins hR2
      have hPl := Paired.length hP
      rw [List.length_take] at hPl
      refine ⟨rfl, _, rfl, a, dx2, fs2, rfl, ha2, hn2 _ (by decide +kernel) (by decide +kernel), a, bs, r, _, _, rfl, hR2, fun H3 q k3 hq hR3 hq3 => ?_⟩
      have hD3 := k3 _ _ hD2 Da
      have qD : q ≠ D := (ne_of_none hD2 hq).symm
      have qa : q ≠ a := (ne_of_none ha2 hq).symm
      refine ⟨_, hD3, by rw [List.length_map]; exact smallLt (by omega), hi, ?_, ?_, as ++ [q], by rw [upd_same, List.map_append]; rfl, ?_⟩
      · intro b o e n
        rw [upd_ne (ne_of_none e hD)]
        exact k3 _ _ (k2 _ _ e n) n
      · obtain ⟨dx3, p3, g1, g2, g3⟩ := hR3
        refine ⟨dx3, p3, ?_, ?_, g3⟩
        · rw [upd_ne Da.symm]
          exact g1
        · refine seq_ins hb1 ha1 fun b o e n => ?_
          rw [upd_ne (ne_of_none e hD)]
          exact k3 _ _ (k2 _ _ e n) n
      · rw [take_snoc hr0]
        refine Paired.snoc (Paired.mapP hP fun b r z => ⟨z.1, z.2.1, ?_, z.2.2.2⟩) ⟨qD, qa, ?_, hN _ ?_⟩
        · show upd _ _ _ _ = _
          rw [upd_ne z.1]
          exact k3 _ _ z.2.2.1 z.2.1
        · show upd _ _ _ _ = _
          rw [upd_ne qD]
          exact hq3
        · cases e : H q with
          | none => rfl
          | some o =>
            rw [k2 _ _ (k1 _ _ e qa) qa] at hq
            cases hq
    · rw [List.drop_length] at hR2
      rw [List.take_length] at hP
      have hD0 : H D = none := by
        cases e : H D with
        | none => rfl
        | some o =>
          rw [k1 _ _ e Da] at hD
          cases hD
      exact kq H2 D (k1.trans k2) hD0 hR2 ⟨hN _ hD0, as, hD2, Paired.mapP hP fun b r z => ⟨z.2.2.2, z.2.2.1⟩⟩
def StepC (CS : Addr) (H : Hp) (a ca : Addr) (c : List Int) (B : BB) : Prop := ∃ dx da, H a = some (.ins CS dx (sF ca da)) ∧ LI H ca c ∧ BestAt H da B
def sp_Sinit (CS : Addr) : Sp := fun vs H Q _ => ∃ (x dx ca na : Addr) (c : List Int) (ns : List Sw69.Name), vs = [.ref x, .ref ca, .ref na] ∧ H x = some (.ins CS dx []) ∧ LI H ca c ∧ NL H na ns ∧ ns.length ≤ 100000 ∧ ∀ H', Kp x H H' → StepC CS H' x ca c (bbr ns) → Q .non H'
theorem ok_Sinit {f : Addr} {fd : FuncData} (F : Fun K "__init__" "Step.__init__" s_Step_init f fd) (T : Tx K mg CC CL CR CS) (c_best_by_root : Cal P w K mg base 1 "best_by_root" ["names"] sp_best) : FnOk P w K mg base CX0 2 f fd ["self", "chord", "names"] (sp_Sinit CS) := by
  refine F.ok sc_Step_init (fun vs H Q E h => ?_) (fun cdv A outer s H vs Q E hr h => ?_)
  · obtain ⟨x, dx, ca, na, c, ns, rfl, _⟩ := h
    rfl
  · obtain ⟨x, dx, ca, na, c, ns, rfl, hx, hc, hN, hl, kq⟩ := h
    refine ⟨_, (pss_cons (ps_fld (pv 0) (pv 1) rfl) (pss_one (ps_fld (pv 0) (pcl c_best_by_root (hr.mono (by decide)) (pa_cons (pv 2) pa_nil)) rfl))), ?_⟩
    refine ⟨_, rfl, _, rfl, x, CS, dx, _, rfl, hx, T.clS, T.n_chord, by decide, ?_⟩
    have k1 : Kp x H (upd H x (.ins CS dx (putF "chord" (.ref ca) []))) := Kp.up (Kp.refl _ _)
    have x1 : upd H x (.ins CS dx (putF "chord" (.ref ca) [])) x = some (.ins CS dx ([("chord", .ref ca)] : FL)) := by
      rw [upd_same]
      rfl
    generalize upd H x (.ins CS dx (putF "chord" (.ref ca) [])) = H1 at k1 x1 ⊢
    have hc1 := k1 _ _ hc (ne_of hc hx (by intro z; cases z))
    have hN1 : NL H1 na ns := by
      obtain ⟨as, h1, h2⟩ := hN
      exact ⟨as, k1 _ _ h1 (ne_of h1 hx (by intro z; cases z)), Paired.mapP h2 fun b n z => k1 _ _ z (ne_of z hx (by intro y; cases y))⟩
    refine ⟨_, rfl, na, ns, rfl, hN1, hl, fun H2 d s2 hd hB => ⟨_, rfl, x, CS, dx, _, rfl, s2 _ _ x1, T.clS, T.n_best, (by show 1 < 1000; decide), kq _ (Kp.up fun b o e n => s2 _ _ (k1 _ _ e n)) ?_⟩⟩
    obtain ⟨kvs, g1, g2⟩ := hB
    have x2 := s2 _ _ x1
    have n2 : ∀ b o, H2 b = some o → (∀ C dx fs, o ≠ .ins C dx fs) → ∀ fs, upd H2 x (.ins CS dx fs) b = some o := fun b o e n fs => by
      have : b ≠ x := fun q => by
        rw [q, x2] at e
        exact n _ _ _ (Option.some.inj e).symm
      rw [upd_ne this]
      exact e
    refine ⟨dx, d, ?_, n2 _ _ (s2 _ _ hc1) (by intro _ _ _ z; cases z) _, kvs, n2 _ _ g1 (by intro _ _ _ z; cases z) _, Paired.mapP g2 fun e kv z => BE.mv z fun b xs q => n2 _ _ q (by intro _ _ _ z; cases z) _⟩
    rw [upd_same, pf_ne (by decide +kernel)]
    rfl
end
end CN
end
section
set_option maxRecDepth 100000
set_option maxHeartbeats 4000000
namespace CN
open PySem PySem.Spec PyProof.Rows L2
def CQ (N : Addr → Prop) (CC CL : Addr) (H : Hp) (la : Addr) (st : Sw69.St) (c : Sw69.Call) (Q : VK) : Prop := ∀ H' p, Kp la H H' → LineP N CC CL H' la (Sw69.step st c).1 → LI H' p (Sw69Neutral.out (Sw69.step st c).2) → Q (.ref p) H'
theorem CQ.same {N : Addr → Prop} {CC CL : Addr} {H H' : Hp} {la p : Addr} {st : Sw69.St} {c : Sw69.Call} {Q : VK} {a : Sw69.Ans} (h : CQ N CC CL H la st c Q) (hL : LineP N CC CL H la st) (s : Same H H') (e : Sw69.step st c = (st, a)) (hp : LI H' p (Sw69Neutral.out a)) : Q (.ref p) H' := by
  refine h H' p (Kp.of s) ?_ ?_
  · rw [e]
    exact LineP.mv hL s
  · rw [e]
    exact hp
theorem kind_len {k : List Int} (h : Sw69.kindOk k = true) : k.length ≤ 6 := by
  rw [kindOk_eq, Bool.and_eq_true] at h
  exact of_decide_eq_true h.1
theorem mode_len {k : List Int} (h : Sw69.modeOk k = true) : k.length = 7 := by
  rw [modeOk_eq, Bool.and_eq_true] at h
  exact of_decide_eq_true h.1
section
variable {P : Program} {w : World} {K : PySem.W.Frag} {mg : Str → Option Value} {base : Heap} {CC CL CR CS : Addr}
def sp_ckinds (CC CL : Addr) : Sp := fun vs H Q _ => ∃ (la ra : Addr) (st : Sw69.St) (rs : List (List Int)) (N : Addr → Prop), vs = [.ref la, .ref ra] ∧ LineP N CC CL H la st ∧ RLP N H ra rs ∧ rs.length ≤ 70 ∧ (∀ r ∈ rs, r.length ≤ 70) ∧ CQ N CC CL H la st (.kinds rs) Q
theorem ok_ckinds {f : Addr} {fd : FuncData} (F : Fun K "call_kinds" "call_kinds" s_call_kinds f fd) (T : Tx K mg CC CL CR CS) (c_is_kind : Cal P w K mg base 4 "is_kind" ["numbers"] (spB Sw69.kindOk)) : FnOk P w K mg base CX0 5 f fd ["line", "rows"] (sp_ckinds CC CL) := by
  refine F.ok sc_call_kinds (fun vs H Q E h => ?_) (fun cdv A outer s H vs Q E hr h => ?_)
  · obtain ⟨la, ra, st, rs, N, rfl, _⟩ := h
    rfl
  · obtain ⟨la, ra, st, rs, N, rfl, hL, hR, hl, hl2, kq⟩ := h
    have hRL := RLP.rl hR
    obtain ⟨as, ha, hp⟩ := id hRL
    have hal : as.length = rs.length := Paired.length hp
    have ref : ∀ (H1 : Hp), Same H H1 → (decide (rs.length ≤ 10) && rs.all Sw69.kindOk) = false → ∀ l, H1 l = none → Q (.ref l) (upd H1 l (.lst [.int (-1)])) := fun H1 s1 e l hl => CQ.same kq hL (Same.nw s1 hl) (a := Sw69.ok (-1)) (by show (if _ then _ else _) = _; rw [if_pos e]) upd_same
    refine ⟨_, (pss_cons (ps_if (PW.pt (pw_or (pt_cmpR op_gt (pe_callB call_len_seq (by rfl) T.b_len PySem.boot_len (pa_cons (pv 1) pa_nil)) (pgI T.MOST_KINDS) (nomark _)) (pw_or1 (pt_not (pt_truth (pe_callB (cr_all rfl) (by rfl) T.b_all boot_all (pa_cons (pe_lc (own := [("row", 2)]) rfl sc_call_kinds.nd (pi_list (pv 1)) (blkOk_by (N := N_call_kinds) (sc := defScope s_call_kinds) (by decide +kernel)) (fun _ _ _ _ _ => (pg_name (i := 2) sc_call_kinds.nd rfl (by first | exact Or.inl rfl | exact Or.inr rfl))) (fun _ _ _ _ _ => pts_nil) (fun _ _ _ _ _ => (pcl c_is_kind (hr.mono (by decide)) (pa_cons (pv 2) pa_nil)))) pa_nil)) (fun _ => rfl)))))) (pss_one (ps_ret (pe_lst (pa_cons (pgI T.REFUSED) pa_nil)))) pss_nil) (pss_cons (ps_fld (pv 0) (pv 1) rfl) (pss_one (ps_ret (pe_lst (pa_cons (pe_callB call_len_seq (by rfl) T.b_len PySem.boot_len (pa_cons (pv 1) pa_nil)) pa_nil)))))), ?_⟩
    refine ⟨_, rfl, ra, _, rfl, .inl (SqL.of ha), _, _, rfl, rfl, _, rfl, ite2 (fun q => ?_) (fun q => ?_)⟩
    · have q' := of_decide_eq_true q
      rw [List.length_map] at q'
      refine iteT ⟨(by show 1 ≤ sizeLine; decide), fun l hl => ref _ (Same.refl _) ?_ l hl⟩
      rw [decide_eq_false (by omega), Bool.false_and]
    · have q' : rs.length ≤ 10 := by
        refine Nat.le_of_not_lt fun z => q (decide_eq_true ?_)
        rw [List.length_map]
        omega
      refine ⟨_, rfl, ra, rfl, ⟨_, SqL.of ha⟩, fun D hD => lc_mapR (R0 := LI) (es := rs) (fun r y _ => y = .bl (Sw69.kindOk r)) hRL hD (by omega) (fun _ _ _ _ r _ => r) (fun b r H' acc Qk hm hb s hDH kq => ?_) (fun H1 ys s1 hDH hpy => ?_)⟩
      · exact ⟨rfl, _, rfl, b, r, rfl, s _ _ hb, hl2 _ hm, fun H2 s2 => kq _ _ s2 rfl⟩
      · refine ⟨D, rs.map Sw69.kindOk, rfl, SqL.of (hDH.trans (by rw [Paired.eq_map hpy, List.map_map]; rfl)), _, rfl, ite2 (fun q2 => ?_) (fun q2 => ?_)⟩
        · rw [List.all_map] at q2
          have q2' : rs.all Sw69.kindOk = false := by
            rw [Bool.not_eq_true'] at q2
            exact q2
          refine ⟨(by show 1 ≤ sizeLine; decide), fun l hl => ref _ s1 ?_ l hl⟩
          rw [q2', Bool.and_false]
        · rw [List.all_map] at q2
          have q2' : rs.all Sw69.kindOk = true := by
            cases e : rs.all Sw69.kindOk with
            | true => rfl
            | false => exact absurd (show (!(rs.all Sw69.kindOk)) = true by rw [e]; rfl) q2
          have hs : Sw69.step st (.kinds rs) = ({ st with kinds := rs }, Sw69.ok (rs.length : Nat)) := by
            show (if _ then _ else _) = _
            rw [decide_eq_true q', q2']
            rfl
          obtain ⟨dx, ka, ma, ca, dc, tb, g1, g2, g3, g4, g5, g6, g7⟩ := LineP.mv hL s1
          have hR1 : RLP N H1 ra rs := RLP.mv hR fun b l _ e => s1 _ _ e
          refine ⟨_, rfl, _, rfl, la, CL, dx, _, rfl, g1, T.clL, T.n_kinds, (by show 3 < 1000; decide), ?_⟩
          rw [lF_putK]
          have k2 : Kp la H1 (upd H1 la (.ins CL dx (lF ra ma ca))) := Kp.up (Kp.refl _ _)
          have e2 : upd H1 la (.ins CL dx (lF ra ma ca)) la = some (.ins CL dx (lF ra ma ca)) := upd_same
          generalize upd H1 la (.ins CL dx (lF ra ma ca)) = H2 at k2 e2 ⊢
          have nl : ∀ b l, N b → H1 b = some (.lst l) → H2 b = some (.lst l) := fun b l _ e => k2 _ _ e (ne_of e g1 (by intro z; cases z))
          have hL2 : LineP N CC CL H2 la { st with kinds := rs } := ⟨dx, ra, ma, ca, dc, tb, e2, RLP.mv hR1 nl, RLP.mv g3 nl, k2 _ _ g4 (fun z => by
            rw [z, g1] at g4
            cases g4), g5, nl _ _ g5 g6, ⟨q', fun k hk => kind_len (List.all_eq_true.mp q2' k hk), g7.mn, g7.md, g7.tb, g7.miss, g7.extra, g7.turned, g7.out, g7.key, g7.mode⟩⟩
          have ha2 := nl _ _ hR.1 (s1 _ _ ha)
          refine ⟨_, rfl, ra, _, rfl, .inl (SqL.of ha2), (by show 1 ≤ sizeLine; decide), fun l hl => kq _ l (fun b o e n => Same.nw (Same.refl H2) hl _ _ (k2 _ _ (s1 _ _ e) n)) ?_ ?_⟩
          · rw [hs]
            exact LineP.mv hL2 (Same.nw (Same.refl _) hl)
          · rw [hs]
            show upd _ _ _ _ = _
            rw [upd_same, List.length_map, hal]
            rfl
def sp_cmodes (CC CL : Addr) : Sp := fun vs H Q _ => ∃ (la ra : Addr) (st : Sw69.St) (rs : List (List Int)) (N : Addr → Prop), vs = [.ref la, .ref ra] ∧ LineP N CC CL H la st ∧ RLP N H ra rs ∧ rs.length ≤ 70 ∧ (∀ r ∈ rs, r.length ≤ 70) ∧ CQ N CC CL H la st (.modes rs) Q
theorem ok_cmodes {f : Addr} {fd : FuncData} (F : Fun K "call_modes" "call_modes" s_call_modes f fd) (T : Tx K mg CC CL CR CS) (c_is_mode : Cal P w K mg base 4 "is_mode" ["numbers"] (spB Sw69.modeOk)) : FnOk P w K mg base CX0 5 f fd ["line", "rows"] (sp_cmodes CC CL) := by
  refine F.ok sc_call_modes (fun vs H Q E h => ?_) (fun cdv A outer s H vs Q E hr h => ?_)
  · obtain ⟨la, ra, st, rs, N, rfl, _⟩ := h
    rfl
  · obtain ⟨la, ra, st, rs, N, rfl, hL, hR, hl, hl2, kq⟩ := h
    have hRL := RLP.rl hR
    obtain ⟨as, ha, hp⟩ := id hRL
    have hal : as.length = rs.length := Paired.length hp
    have ref : ∀ (H1 : Hp), Same H H1 → (decide (rs.length ≤ 3) && rs.all Sw69.modeOk) = false → ∀ l, H1 l = none → Q (.ref l) (upd H1 l (.lst [.int (-1)])) := fun H1 s1 e l hl => CQ.same kq hL (Same.nw s1 hl) (a := Sw69.ok (-1)) (by show (if _ then _ else _) = _; rw [if_pos e]) upd_same
    refine ⟨_, (pss_cons (ps_if (PW.pt (pw_or (pt_cmpR op_gt (pe_callB call_len_seq (by rfl) T.b_len PySem.boot_len (pa_cons (pv 1) pa_nil)) (pgI T.MOST_MODES) (nomark _)) (pw_or1 (pt_not (pt_truth (pe_callB (cr_all rfl) (by rfl) T.b_all boot_all (pa_cons (pe_lc (own := [("row", 2)]) rfl sc_call_modes.nd (pi_list (pv 1)) (blkOk_by (N := N_call_modes) (sc := defScope s_call_modes) (by decide +kernel)) (fun _ _ _ _ _ => (pg_name (i := 2) sc_call_modes.nd rfl (by first | exact Or.inl rfl | exact Or.inr rfl))) (fun _ _ _ _ _ => pts_nil) (fun _ _ _ _ _ => (pcl c_is_mode (hr.mono (by decide)) (pa_cons (pv 2) pa_nil)))) pa_nil)) (fun _ => rfl)))))) (pss_one (ps_ret (pe_lst (pa_cons (pgI T.REFUSED) pa_nil)))) pss_nil) (pss_cons (ps_fld (pv 0) (pv 1) rfl) (pss_one (ps_ret (pe_lst (pa_cons (pe_callB call_len_seq (by rfl) T.b_len PySem.boot_len (pa_cons (pv 1) pa_nil)) pa_nil)))))), ?_⟩
    refine ⟨_, rfl, ra, _, rfl, .inl (SqL.of ha), _, _, rfl, rfl, _, rfl, ite2 (fun q => ?_) (fun q => ?_)⟩
    · have q' := of_decide_eq_true q
      rw [List.length_map] at q'
      refine iteT ⟨(by show 1 ≤ sizeLine; decide), fun l hl => ref _ (Same.refl _) ?_ l hl⟩
      rw [decide_eq_false (by omega), Bool.false_and]
    · have q' : rs.length ≤ 3 := by
        refine Nat.le_of_not_lt fun z => q (decide_eq_true ?_)
        rw [List.length_map]
        omega
      refine ⟨_, rfl, ra, rfl, ⟨_, SqL.of ha⟩, fun D hD => lc_mapR (R0 := LI) (es := rs) (fun r y _ => y = .bl (Sw69.modeOk r)) hRL hD (by omega) (fun _ _ _ _ r _ => r) (fun b r H' acc Qk hm hb s hDH kq => ?_) (fun H1 ys s1 hDH hpy => ?_)⟩
      · exact ⟨rfl, _, rfl, b, r, rfl, s _ _ hb, hl2 _ hm, fun H2 s2 => kq _ _ s2 rfl⟩
      · refine ⟨D, rs.map Sw69.modeOk, rfl, SqL.of (hDH.trans (by rw [Paired.eq_map hpy, List.map_map]; rfl)), _, rfl, ite2 (fun q2 => ?_) (fun q2 => ?_)⟩
        · rw [List.all_map] at q2
          have q2' : rs.all Sw69.modeOk = false := by
            rw [Bool.not_eq_true'] at q2
            exact q2
          refine ⟨(by show 1 ≤ sizeLine; decide), fun l hl => ref _ s1 ?_ l hl⟩
          rw [q2', Bool.and_false]
        · rw [List.all_map] at q2
          have q2' : rs.all Sw69.modeOk = true := by
            cases e : rs.all Sw69.modeOk with
            | true => rfl
            | false => exact absurd (show (!(rs.all Sw69.modeOk)) = true by rw [e]; rfl) q2
          have hs : Sw69.step st (.modes rs) = ({ st with modes := rs }, Sw69.ok (rs.length : Nat)) := by
            show (if _ then _ else _) = _
            rw [decide_eq_true q', q2']
            rfl
          obtain ⟨dx, ka, ma, ca, dc, tb, g1, g2, g3, g4, g5, g6, g7⟩ := LineP.mv hL s1
          have hR1 : RLP N H1 ra rs := RLP.mv hR fun b l _ e => s1 _ _ e
          refine ⟨_, rfl, _, rfl, la, CL, dx, _, rfl, g1, T.clL, T.n_modes, (by show 3 < 1000; decide), ?_⟩
          rw [lF_putM]
          have k2 : Kp la H1 (upd H1 la (.ins CL dx (lF ka ra ca))) := Kp.up (Kp.refl _ _)
          have e2 : upd H1 la (.ins CL dx (lF ka ra ca)) la = some (.ins CL dx (lF ka ra ca)) := upd_same
          generalize upd H1 la (.ins CL dx (lF ka ra ca)) = H2 at k2 e2 ⊢
          have nl : ∀ b l, N b → H1 b = some (.lst l) → H2 b = some (.lst l) := fun b l _ e => k2 _ _ e (ne_of e g1 (by intro z; cases z))
          have hL2 : LineP N CC CL H2 la { st with modes := rs } := ⟨dx, ka, ra, ca, dc, tb, e2, RLP.mv g2 nl, RLP.mv hR1 nl, k2 _ _ g4 (fun z => by
            rw [z, g1] at g4
            cases g4), g5, nl _ _ g5 g6, ⟨g7.kn, g7.kd, q', fun k hk => mode_len (List.all_eq_true.mp q2' k hk), g7.tb, g7.miss, g7.extra, g7.turned, g7.out, g7.key, g7.mode⟩⟩
          have ha2 := nl _ _ hR.1 (s1 _ _ ha)
          refine ⟨_, rfl, ra, _, rfl, .inl (SqL.of ha2), (by show 1 ≤ sizeLine; decide), fun l hl => kq _ l (fun b o e n => Same.nw (Same.refl H2) hl _ _ (k2 _ _ (s1 _ _ e) n)) ?_ ?_⟩
          · rw [hs]
            exact LineP.mv hL2 (Same.nw (Same.refl _) hl)
          · rw [hs]
            show upd _ _ _ _ = _
            rw [upd_same, List.length_map, hal]
            rfl
def c6 (c : Sw69.Costs) : List Int := [(c.miss : Int), c.extra, c.turned, c.out, c.key, c.mode]
def cst (c : Sw69.Costs) : List Int := c.steps.map fun (n : Nat) => (n : Int)
def sp_ccosts (CC CL : Addr) : Sp := fun vs H Q _ => ∃ (la sa ta : Addr) (st : Sw69.St) (c : Sw69.Costs) (N : Addr → Prop), vs = [.ref la, .ref sa, .ref ta] ∧ LineP N CC CL H la st ∧ LI H sa (c6 c) ∧ LI H ta (cst c) ∧ N ta ∧ c.steps.length ≤ 70 ∧ CQ N CC CL H la st (.costs c) Q
theorem costs_all (c : Sw69.Costs) : (([c.miss, c.extra, c.turned, c.out, c.key, c.mode] ++ c.steps).all fun n => decide (n ≤ Sw69.COST)) = true ↔ ∀ y ∈ c6 c ++ cst c, y ≤ 10000 := by
  have e : c6 c ++ cst c = ([c.miss, c.extra, c.turned, c.out, c.key, c.mode] ++ c.steps).map fun (n : Nat) => (n : Int) := by
    rw [List.map_append]
    rfl
  rw [e, List.all_eq_true]
  constructor
  · intro h y hy
    obtain ⟨n, hn, rfl⟩ := List.mem_map.mp hy
    have := of_decide_eq_true (h n hn)
    unfold Sw69.COST at this
    omega
  · intro h n hn
    have := h _ (List.mem_map.mpr ⟨n, hn, rfl⟩)
    refine decide_eq_true ?_
    unfold Sw69.COST
    omega
theorem ok_ccosts {f : Addr} {fd : FuncData} (F : Fun K "call_costs" "call_costs" s_call_costs f fd) (T : Tx K mg CC CL CR CS) (m_Costs : KCal P w K mg base 1 CC "Costs" ["self", "singles", "table"] (sp_Cinit CC)) : FnOk P w K mg base CX0 3 f fd ["line", "singles", "table"] (sp_ccosts CC CL) := by
  refine F.ok sc_call_costs (fun vs H Q E h => ?_) (fun cdv A outer s H vs Q E hr h => ?_)
  · obtain ⟨la, sa, ta, st, c, N, rfl, _⟩ := h
    rfl
  · obtain ⟨la, sa, ta, st, c, N, rfl, hL, hS, hT, hN, hl, kq⟩ := h
    have ref : ∀ (H1 : Hp), Same H H1 → Sw69.costsOk c = false → ∀ l, H1 l = none → Q (.ref l) (upd H1 l (.lst [.int (-1)])) := fun H1 s1 e l hl => CQ.same kq hL (Same.nw s1 hl) (a := Sw69.ok (-1)) (by show (if _ then _ else _) = _; rw [if_pos e]) upd_same
    refine ⟨_, (pss_cons (ps_if (PW.pt (pw_or (pt_cmpR op_gt (pe_callB (cr_max rfl) (by rfl) T.b_max boot_max (pa_cons (pe_op op_cat (pv 1) (pv 2)) pa_nil)) (pgI T.HIGHEST_COST) (nomark _)) (pw_or1 (pt_cmpR op_ne (pe_callB call_len_seq (by rfl) T.b_len PySem.boot_len (pa_cons (pv 2) pa_nil)) (pgI T.TABLE_SIZE) (nomark _))))) (pss_one (ps_ret (pe_lst (pa_cons (pgI T.REFUSED) pa_nil)))) pss_nil) (pss_cons (ps_fld (pv 0) (pmk m_Costs (hr.mono (by decide)) (pa_cons (pv 1) (pa_cons (pv 2) pa_nil))) rfl) (pss_one (ps_ret (pe_lst (pa_cons pe_int pa_nil)))))), ?_⟩
    refine ⟨_, rfl, _, rfl, sa, ta, _, _, rfl, rfl, hS, hT, ?_, fun x hx => ?_⟩
    · show (List.map V.int (c6 c)).length + (List.map V.int (cst c)).length ≤ sizeLine
      rw [List.length_map, List.length_map]
      unfold cst c6
      rw [List.length_map]
      exact small (by simp; omega)
    have s1 : Same H (upd H x (.lst ((c6 c).map V.int ++ (cst c).map V.int))) := Same.nw (Same.refl _) hx
    have x1 : LI (upd H x (.lst ((c6 c).map V.int ++ (cst c).map V.int))) x (c6 c ++ cst c) := by
      show upd _ _ _ _ = _
      rw [upd_same, List.map_append]
    generalize upd H x (.lst ((c6 c).map V.int ++ (cst c).map V.int)) = H1 at s1 x1 ⊢
    refine ⟨x, _, rfl, SqL.of x1, by rw [List.length_append]; show 0 < 6 + _; omega, fun m hm hmax => ⟨_, _, rfl, rfl, _, rfl, ite2 (fun q => ?_) (fun q => ?_)⟩⟩
    · have q' := of_decide_eq_true q
      refine iteT ⟨(by show 1 ≤ sizeLine; decide), fun l hl => ref _ s1 ?_ l hl⟩
      unfold Sw69.costsOk
      have : ¬ _ := fun z => absurd ((costs_all c).mp z m hm) (by omega)
      rw [Bool.eq_false_iff.mpr this, Bool.false_and]
    · have q' : m ≤ 10000 := by
        refine Int.not_lt.mp fun z => q (decide_eq_true z)
      have hall := (costs_all c).mpr fun y hy => Int.le_trans (hmax y hy) q'
      have hlen : ((cst c).map V.int).length = c.steps.length := by
        rw [List.length_map]
        exact List.length_map _
      refine ⟨_, rfl, ta, _, rfl, .inl (SqL.of (s1 _ _ hT)), rfl, _, rfl, ite2 (fun q2 => ?_) (fun q2 => ?_)⟩
      · refine ⟨(by show 1 ≤ sizeLine; decide), fun l hl => ref _ s1 ?_ l hl⟩
        unfold Sw69.costsOk
        have : ¬ c.steps.length = 64 := fun z => by
          rw [hlen, z] at q2
          revert q2
          decide
        rw [decide_eq_false this, Bool.and_false]
      · have h64 : c.steps.length = 64 := by
          refine Classical.byContradiction fun z => q2 ?_
          rw [hlen, decide_eq_false (fun y => z (by injection y with y; omega))]
          rfl
        have hs : Sw69.step st (.costs c) = ({ st with costs := c }, Sw69.ok 0) := by
          show (if _ then _ else _) = _
          unfold Sw69.costsOk
          rw [hall, decide_eq_true h64]
          rfl
        refine ⟨_, rfl, _, rfl, fun y dy hy hdy hne => ?_⟩
        have s12 : Same H1 (upd (upd H1 dy (.own y)) y (.ins CC dy [])) := Same.up (Same.nw (Same.refl _) hdy) hy
        have y2 : upd (upd H1 dy (.own y)) y (.ins CC dy []) y = some (.ins CC dy []) := upd_same
        generalize upd (upd H1 dy (.own y)) y (.ins CC dy []) = H2 at s12 y2 ⊢
        refine ⟨y, sa, ta, dy, c, rfl, y2, s12 _ _ (s1 _ _ hS), fun H3 k3 y3 => ?_⟩
        have s13 : Same H1 H3 := fun b o e => k3 _ _ (s12 _ _ e) (ne_of_none e hy)
        have s03 := s1.trans s13
        obtain ⟨dx, ka, ma, ca, dc, tb, g1, g2, g3, g4, g5, g6, g7⟩ := LineP.mv hL s03
        refine ⟨rfl, _, rfl, la, CL, dx, _, rfl, g1, T.clL, T.n_costs, (by show 3 < 1000; decide), ?_⟩
        rw [lF_putC]
        have k4 : Kp la H3 (upd H3 la (.ins CL dx (lF ka ma y))) := Kp.up (Kp.refl _ _)
        have e4 : upd H3 la (.ins CL dx (lF ka ma y)) la = some (.ins CL dx (lF ka ma y)) := upd_same
        generalize upd H3 la (.ins CL dx (lF ka ma y)) = H4 at k4 e4 ⊢
        have nl : ∀ b l, N b → H3 b = some (.lst l) → H4 b = some (.lst l) := fun b l _ e => k4 _ _ e (ne_of e g1 (by intro z; cases z))
        have a6 : ∀ n ∈ [c.miss, c.extra, c.turned, c.out, c.key, c.mode] ++ c.steps, n ≤ 10000 := fun n hn => of_decide_eq_true (List.all_eq_true.mp hall n hn)
        have hL4 : LineP N CC CL H4 la { st with costs := c } := ⟨dx, ka, ma, y, dy, ta, e4, RLP.mv g2 nl, RLP.mv g3 nl, k4 _ _ y3 (fun z => by
          rw [z, g1] at y3
          cases y3), hN, nl _ _ hN (s03 _ _ hT), ⟨g7.kn, g7.kd, g7.mn, g7.md, h64, a6 _ (by simp), a6 _ (by simp), a6 _ (by simp), a6 _ (by simp), a6 _ (by simp), a6 _ (by simp)⟩⟩
        refine ⟨(by show 1 ≤ sizeLine; decide), fun l hl => kq _ l (fun b o e n => Same.nw (Same.refl H4) hl _ _ (k4 _ _ (s03 _ _ e) n)) ?_ ?_⟩
        · rw [hs]
          exact LineP.mv hL4 (Same.nw (Same.refl _) hl)
        · rw [hs]
          exact upd_same
end
end CN
end
section
set_option maxRecDepth 100000
set_option maxHeartbeats 4000000
namespace CN
open PySem PySem.Spec PyProof.Rows L2
theorem enc_snoc (a : List (List Int)) (r : List Int) : enc (a ++ [r]) = enc a ++ ((r.length : Int) :: r) := by
  unfold enc
  rw [List.flatMap_append]
  simp
theorem enc_len {m : Nat} : ∀ {rs : List (List Int)}, (∀ r ∈ rs, r.length ≤ m) → (enc rs).length ≤ rs.length * (m + 1)
  | [], _ => by simp [enc]
  | r :: rs, h => by
    rw [enc_cons, List.length_cons, List.length_append, List.length_cons]
    have h1 := h r List.mem_cons_self
    have h2 := enc_len (rs := rs) fun x hx => h x (List.mem_cons_of_mem _ hx)
    rw [Nat.succ_mul]
    omega
theorem ext_eq (v : Int) (a : List (List Int)) (w : List Int) : (v :: enc a).map V.int ++ (((w.length : Int) :: w).map V.int) = (v :: enc (a ++ [w])).map V.int := by
  rw [enc_snoc, ← List.map_append]
  rfl
theorem out_eq (v : Int) (l : List (List Int)) : Sw69Neutral.out ⟨v, l⟩ = v :: enc l := rfl
theorem chord_facts {c : List Int} (h : Sw69.chordOk c = true) : c ≠ [] ∧ c.length ≤ 8 ∧ c.Nodup := by
  unfold Sw69.chordOk at h
  rw [Bool.and_eq_true, Bool.and_eq_true, Bool.and_eq_true] at h
  obtain ⟨h1, h2, h3, _⟩ := h
  refine ⟨fun z => ?_, of_decide_eq_true h2, (apart_iff c).mp h3⟩
  rw [z] at h1
  cases h1
theorem not_eq {b : Bool} (h : ¬ (!b) = true) : b = true := by
  cases b with
  | true => rfl
  | false => exact absurd rfl h
theorem not_eq' {b : Bool} (h : (!b) = true) : b = false := by
  cases b with
  | true => cases h
  | false => rfl
section
variable {P : Program} {w : World} {K : PySem.W.Frag} {mg : Str → Option Value} {base : Heap} {CC CL CR CS : Addr}
def sp_cnames (CC CL : Addr) : Sp := fun vs H Q _ => ∃ (la ca : Addr) (st : Sw69.St) (most : Nat) (c : List Int) (N : Addr → Prop), vs = [.ref la, .int most, .ref ca] ∧ LineP N CC CL H la st ∧ LI H ca c ∧ c.length ≤ 70 ∧ CQ N CC CL H la st (.names most c) Q
theorem ok_cnames {f : Addr} {fd : FuncData} (F : Fun K "call_names" "call_names" s_call_names f fd) (T : Tx K mg CC CL CR CS) (c_is_chord : Cal P w K mg base 3 "is_chord" ["numbers"] (spB Sw69.chordOk)) (c_names_of : Cal P w K mg base 3 "names_of" ["line", "most", "chord"] (sp_names_of CC CL))
    (c_with_count : Cal P w K mg base 1 "with_count" ["numbers"] sp_with_count) (c_shown_name : Cal P w K mg base 1 "shown_name" ["name"] sp_shown_name) : FnOk P w K mg base CX0 4 f fd ["line", "most", "chord"] (sp_cnames CC CL) := by
  refine F.ok sc_call_names (fun vs H Q E h => ?_) (fun cdv A outer s H vs Q E hr h => ?_)
  · obtain ⟨la, ca, st, most, c, N, rfl, _⟩ := h
    rfl
  · obtain ⟨la, ca, st, most, c, N, rfl, hL, hc, hl, kq⟩ := h
    have ok : StOk st := by obtain ⟨_, _, _, _, _, _, _, _, _, _, _, _, ok⟩ := hL; exact ok
    refine ⟨_, (pss_cons (ps_if (pt_not (pt_truth (pcl c_is_chord (hr.mono (by decide)) (pa_cons (pv 2) pa_nil)) (fun _ => rfl))) (pss_one (ps_ret (pe_lst (pa_cons (pgI T.REFUSED) pa_nil)))) pss_nil) (pss_cons (ps_set (i := 3) sc_call_names.nd rfl (by first | exact Or.inl rfl | exact Or.inr rfl) (pcl c_names_of (hr.mono (by decide)) (pa_cons (pv 0) (pa_cons (pv 1) (pa_cons (pv 2) pa_nil))))) (pss_cons (ps_set (i := 4) sc_call_names.nd rfl (by first | exact Or.inl rfl | exact Or.inr rfl) (pe_lst (pa_cons (pe_callB call_len_seq (by rfl) T.b_len PySem.boot_len (pa_cons (pv 3) pa_nil)) pa_nil))) (pss_cons (ps_for PassesOwn.never rfl (pi_list (pv 3)) (pg_name (i := 5) sc_call_names.nd rfl (by first | exact Or.inl rfl | exact Or.inr rfl)) (pss_one (ps_expr (pe_bm PySem.F.plainAttrs_list PySem.F.slot_list_extend PySem.F.type_list_extend mt_extend (pv 4) (pa_cons (pcl c_with_count (hr.mono (by decide)) (pa_cons (pcl c_shown_name (hr.mono (by decide)) (pa_cons (pv 5) pa_nil)) pa_nil)) pa_nil))))) (pss_one (ps_ret (pv 4))))))), ?_⟩
    refine ⟨_, rfl, ca, c, rfl, hc, hl, fun H1 s1 => ⟨_, rfl, ite2 (fun q => ?_) (fun q => ?_)⟩⟩
    · refine ⟨(by show 1 ≤ sizeLine; decide), fun l hl => CQ.same kq hL (Same.nw s1 hl) (a := Sw69.ok (-1)) ?_ upd_same⟩
      show (if _ then _ else _) = _
      rw [if_pos (not_eq' q)]
    · have hok := not_eq q
      obtain ⟨hne, h8, hnd⟩ := chord_facts hok
      have hs : Sw69.step st (.names most c) = (st, ⟨((Sw69.names st most c).length : Nat), (Sw69.names st most c).map Sw69.nameOut⟩) := by
        show (if _ then _ else _) = _
        rw [hok]
        rfl
      have hnl := names_len ok most h8 hnd
      refine ⟨_, rfl, _, rfl, _, rfl, la, ca, st, most, c, rfl, (LineP.mv hL s1).at, s1 _ _ hc, hne, h8, hnd, fun H2 na s2 hna hN => ?_⟩
      obtain ⟨ns, hN1, hN2⟩ := id hN
      have hnl2 := Paired.length hN2
      refine ⟨_, rfl, na, _, rfl, .inl (SqL.of hN1), (by show 1 ≤ sizeLine; decide), fun an han => ?_⟩
      have s23 : Same H2 (upd H2 an (.lst [.int ((ns.map V.ref).length : Nat)])) := Same.nw (Same.refl _) han
      have a3 : LI (upd H2 an (.lst [.int ((ns.map V.ref).length : Nat)])) an [((Sw69.names st most c).length : Int)] := by
        show upd _ _ _ _ = _
        rw [upd_same, List.length_map, hnl2]
        rfl
      generalize upd H2 an (.lst [.int ((ns.map V.ref).length : Nat)]) = H3 at s23 a3 ⊢
      have hN3 := NL.mv hN s23
      have s03 := (s1.trans s2).trans s23
      have han0 : H an = none := (s1.trans s2).free han
      have naan : na ≠ an := ne_of_none hN1 han
      refine ⟨_, rfl, na, rfl, ⟨_, SqL.of (s23 _ _ hN1)⟩, for_refs2 (R0 := fun H b n => TI H b (nm4 n)) (es := Sw69.names st most c) (H1 := H3) (fun i σ H' => ∃ v5, σ = [some (.ref la), some (.int most), some (.ref ca), some (.ref na), some (.ref an), v5] ∧ Kp an H3 H' ∧ Same H H' ∧ LI H' an (((Sw69.names st most c).length : Int) :: enc (((Sw69.names st most c).take i).map Sw69.nameOut))) hN3
        ⟨none, rfl, Kp.refl _ _, s03, a3⟩ (fun i σ H' ⟨_, _, kp, _⟩ l hl => kp _ _ hl naan) (fun i nb n σ H4 hi hnb ⟨v5, hσ, kp, s4, ha4⟩ => ?_) (fun σ H4 ⟨v5, hσ, kp, s4, ha4⟩ => ?_)⟩
      · subst hσ
        have hnb4 : TI H4 nb (nm4 n) := kp _ _ hnb (ne_of hnb a3 (by intro z; cases z))
        refine ⟨_, rfl, .inl ⟨rfl, _, SqL.of ha4⟩, _, rfl, nb, n, rfl, hnb4, fun H5 q s5 hq hq5 => ⟨q, _, rfl, hq5, (by show 4 < sizeLine; decide), fun H6 q6 s6 hq6 hl6 => ⟨an, q6, _, _, rfl, rfl, s6 _ _ (s5 _ _ ha4), hl6, ?_, ?_⟩⟩⟩
        · have := enc_len (m := 4) (rs := ((Sw69.names st most c).take i).map Sw69.nameOut) (fun r hr => by
            obtain ⟨n, _, rfl⟩ := List.mem_map.mp hr
            exact Nat.le_refl _)
          rw [List.length_map, List.length_take] at this
          rw [List.length_map, List.length_map, List.length_cons, List.length_cons]
          have : (Sw69.nameOut n).length = 4 := rfl
          exact small (by omega)
        · have s46 := s5.trans s6
          refine ⟨_, rfl, Kp.up fun b o e n => s46 _ _ (kp _ _ e n), Same.up (s4.trans s46) han0, ?_⟩
          show upd _ _ _ _ = _
          rw [upd_same, take_snoc hi, List.map_append, ext_eq]
          rfl
      · subst hσ
        rw [List.take_length] at ha4
        exact ⟨_, rfl, CQ.same kq hL s4 hs ha4⟩
def sp_cdegree (CC CL : Addr) : Sp := fun vs H Q _ => ∃ (la na : Addr) (st : Sw69.St) (t : Int) (m : Nat) (l : List Int) (N : Addr → Prop), vs = [.ref la, .int t, .int m, .ref na] ∧ LineP N CC CL H la st ∧ LI H na l ∧ l.length ≤ 70 ∧ CQ N CC CL H la st (.degree ⟨t, m⟩ l) Q
theorem ok_cdegree {f : Addr} {fd : FuncData} (F : Fun K "call_degree" "call_degree" s_call_degree f fd) (T : Tx K mg CC CL CR CS) (c_are_notes : Cal P w K mg base 1 "are_notes" ["numbers"] sp_are_notes) (c_degree_in : Cal P w K mg base 2 "degree_in" ["line", "key", "note"] (sp_degree_in CC CL))
    (c_with_count : Cal P w K mg base 1 "with_count" ["numbers"] sp_with_count) : FnOk P w K mg base CX0 3 f fd ["line", "tonic", "mode", "notes"] (sp_cdegree CC CL) := by
  refine F.ok sc_call_degree (fun vs H Q E h => ?_) (fun cdv A outer s H vs Q E hr h => ?_)
  · obtain ⟨la, na, st, t, m, l, N, rfl, _⟩ := h
    rfl
  · obtain ⟨la, na, st, t, m, l, N, rfl, hL, hn, hl, kq⟩ := h
    obtain ⟨dx, ka, ma, ca, dc, tb, g1, g2, g3, g4, g5, g6, ok⟩ := id hL
    obtain ⟨_, as, hm1, hm2⟩ := g3
    have hml := Paired.length hm2
    have hst : Sw69.step st (.degree ⟨t, m⟩ l) = if st.modes.length ≤ m then (st, Sw69.ok (-2)) else if (decide (-7 ≤ t) && (decide (t ≤ 7) && l.all Sw69.noteOk)) = false then (st, Sw69.ok (-1)) else (st, ⟨(l.length : Nat), [l.map fun x => ((Sw69.degree st ⟨t, m⟩ x : Nat) : Int)]⟩) := rfl
    refine ⟨_, (pss_cons (ps_if (pt_cmpR op_ge (pv 2) (pe_callB call_len_seq (by rfl) T.b_len PySem.boot_len (pa_cons (pe_fld (pv 0) rfl) pa_nil)) (nomark _)) (pss_one (ps_ret (pe_lst (pa_cons (pgI T.NO_SUCH_MODE) pa_nil)))) pss_nil) (pss_cons (ps_if (PW.pt (pw_or (pt_not (pt_chain op_le op_le (pgI T.LOWEST_TONIC) (pv 1) (pgI T.HIGHEST_TONIC))) (pw_or1 (pt_not (pt_truth (pcl c_are_notes (hr.mono (by decide)) (pa_cons (pv 3) pa_nil)) (fun _ => rfl)))))) (pss_one (ps_ret (pe_lst (pa_cons (pgI T.REFUSED) pa_nil)))) pss_nil) (pss_cons (ps_setLc (i := 4) (own := [("note", 5)]) rfl sc_call_degree.nd rfl rfl (sw_true rfl rfl rfl rfl) (pi_list (pv 3)) (blkOk_by (N := N_call_degree) (sc := defScope s_call_degree) (by decide +kernel)) (fun _ _ _ _ _ => (pg_name (i := 5) sc_call_degree.nd rfl (by first | exact Or.inl rfl | exact Or.inr rfl))) (fun _ _ _ _ _ => pts_nil) (fun _ _ _ _ _ => (pcl c_degree_in (hr.mono (by decide)) (pa_cons (pv 0) (pa_cons (pe_tup (pa_cons (pv 1) (pa_cons (pv 2) pa_nil))) (pa_cons (pv 5) pa_nil)))))) (pss_one (ps_ret (pe_op op_cat (pe_lst (pa_cons (pe_callB call_len_seq (by rfl) T.b_len PySem.boot_len (pa_cons (pv 3) pa_nil)) pa_nil)) (pcl c_with_count (hr.mono (by decide)) (pa_cons (pv 4) pa_nil)))))))), ?_⟩
    refine ⟨_, rfl, _, rfl, la, CL, dx, _, _, rfl, g1, T.clL, T.n_modes, lF_modes, ma, _, rfl, .inl (SqL.of hm1), _, _, rfl, rfl, _, rfl, ite2 (fun q => ?_) (fun q => ?_)⟩
    · have q' := of_decide_eq_true q
      rw [List.length_map, hml] at q'
      refine ⟨(by show 1 ≤ sizeLine; decide), fun x hx => CQ.same kq hL (Same.nw (Same.refl _) hx) (a := Sw69.ok (-2)) ?_ upd_same⟩
      rw [hst, if_pos (by omega)]
    · have q' : m < st.modes.length := by
        refine Nat.lt_of_not_le fun z => q (decide_eq_true ?_)
        rw [List.length_map, hml]
        omega
      rw [if_neg (by omega)] at hst
      have ref : ∀ (H1 : Hp), Same H H1 → (decide (-7 ≤ t) && (decide (t ≤ 7) && l.all Sw69.noteOk)) = false → ∀ x, H1 x = none → Q (.ref x) (upd H1 x (.lst [.int (-1)])) := fun H1 s1 e x hx => CQ.same kq hL (Same.nw s1 hx) (a := Sw69.ok (-1)) (by rw [hst, if_pos e]) upd_same
      refine ⟨_, rfl, _, _, rfl, rfl, _, rfl, ite2 (fun q1 => ⟨_, _, rfl, rfl, _, rfl, ite2 (fun q2 => ?_) (fun q2 => ?_)⟩) (fun q1 => ?_)⟩
      · have q2' := of_decide_eq_false (not_eq' q2)
        refine iteT ⟨(by show 1 ≤ sizeLine; decide), fun x hx => ref _ (Same.refl _) ?_ x hx⟩
        rw [decide_eq_false q2', Bool.false_and, Bool.and_false]
      · have q1' := of_decide_eq_true q1
        have q2' := of_decide_eq_true (not_eq q2)
        refine ⟨_, rfl, na, l, rfl, hn, hl, fun H1 s1 => ⟨_, rfl, ite2 (fun q3 => ?_) (fun q3 => ?_)⟩⟩
        · refine ⟨(by show 1 ≤ sizeLine; decide), fun x hx => ref _ s1 ?_ x hx⟩
          rw [not_eq' q3, Bool.and_false, Bool.and_false]
        · rw [if_neg (by rw [decide_eq_true q1', decide_eq_true q2', not_eq q3]; decide)] at hst
          have hn1 := s1 _ _ hn
          refine ⟨_, rfl, na, rfl, ⟨_, SqL.of hn1⟩, fun D hD => lc_map (es := l) (ve := V.int) (fun x y _ => y = V.int (Sw69.degree st ⟨t, m⟩ x : Nat)) (SqL.of hn1) hD (by omega) (fun _ _ _ _ r _ => r) (fun x H' acc Qk hx s' hDH kk => ?_) (fun H2 ys s2 hD2 hpy => ?_)⟩
          · exact ⟨rfl, _, rfl, _, rfl, _, rfl, (by show 2 ≤ sizeLine; decide), fun kb hkb => ⟨_, rfl, la, kb, st, ⟨t, m⟩, x, rfl, (LineP.mv hL ((s1.trans s').trans (Same.nw (Same.refl _) hkb))).at, upd_same, q', kk _ _ (Same.nw (Same.refl _) hkb) rfl⟩⟩
          · have hd2 : LI H2 D (l.map fun x => ((Sw69.degree st ⟨t, m⟩ x : Nat) : Int)) := by
              show H2 D = _
              rw [hD2, Paired.eq_map hpy, List.map_map]
              rfl
            have hn2 := s2 _ _ hn1
            have s02 := s1.trans s2
            refine ⟨_, rfl, na, _, rfl, .inl (SqL.of hn2), (by show 1 ≤ sizeLine; decide), fun b hb => ?_⟩
            have s23 : Same H2 (upd H2 b (.lst [.int ((l.map V.int).length : Nat)])) := Same.nw (Same.refl _) hb
            have b3 : LI (upd H2 b (.lst [.int ((l.map V.int).length : Nat)])) b [(l.length : Int)] := by
              show upd _ _ _ _ = _
              rw [upd_same, List.length_map]
              rfl
            generalize upd H2 b (.lst [.int ((l.map V.int).length : Nat)]) = H3 at s23 b3 ⊢
            refine ⟨_, rfl, D, _, rfl, s23 _ _ hd2, by rw [List.length_map]; exact smallLt (by omega), fun H4 p s4 hp hp4 => ⟨b, p, _, _, rfl, rfl, s4 _ _ b3, hp4, ?_, fun r hr => ?_⟩⟩
            · rw [List.length_map, List.length_map, List.length_cons, List.length_cons, List.length_map]
              exact small (by simp; omega)
            · refine CQ.same kq hL (((s02.trans s23).trans s4).trans (Same.nw (Same.refl _) hr)) hst ?_
              show upd _ _ _ _ = _
              rw [upd_same, ← List.map_append]
              rw [out_eq]
              show _ = some (HO.lst (List.map V.int ((l.length : Int) :: ((((l.map fun x => ((Sw69.degree st ⟨t, m⟩ x : Nat) : Int)).length : Nat) : Int) :: ((l.map fun x => ((Sw69.degree st ⟨t, m⟩ x : Nat) : Int)) ++ [])))))
              rw [List.append_nil]
              rfl
      · have q1' : ¬ (-7 ≤ t) := fun z => q1 (decide_eq_true z)
        refine ⟨_, rfl, iteT (iteT ⟨(by show 1 ≤ sizeLine; decide), fun x hx => ref _ (Same.refl _) ?_ x hx⟩)⟩
        rw [decide_eq_false q1', Bool.false_and]
end
end CN
end
section
set_option maxRecDepth 100000
set_option maxHeartbeats 4000000
namespace CN
open PySem PySem.Spec PyProof.Rows L2
theorem keys_len {st : Sw69.St} (ok : StOk st) : (Sw69.keys st).length ≤ 45 := by
  have h1 := flat_len st.modes.length (List.range 15)
  rw [← keys_eq, List.length_range] at h1
  have h2 := ok.mn
  omega
section
variable {P : Program} {w : World} {K : PySem.W.Frag} {mg : Str → Option Value} {base : Heap} {CC CL CR CS : Addr}
def comP (st : Sw69.St) (rs : List (List Int)) (k : Sw69.Key) : Bool := rs.all fun c => Sw69.outside st k c == 0
def sp_ccommon (CC CL : Addr) : Sp := fun vs H Q _ => ∃ (la ra : Addr) (st : Sw69.St) (rs : List (List Int)) (N : Addr → Prop), vs = [.ref la, .ref ra] ∧ LineP N CC CL H la st ∧ RL H ra rs ∧ rs.length ≤ 70 ∧ (∀ r ∈ rs, r.length ≤ 70) ∧ CQ N CC CL H la st (.common rs) Q
theorem ok_ccommon {f : Addr} {fd : FuncData} (F : Fun K "call_common" "call_common" s_call_common f fd) (T : Tx K mg CC CL CR CS) (c_are_chords : Cal P w K mg base 4 "are_chords" ["rows"] (spBs fun l => decide (l.length ≤ 12) && l.all Sw69.chordOk)) (c_keys_of : Cal P w K mg base 1 "keys_of" ["line"] (sp_keys_of CC CL))
    (c_notes_outside : Cal P w K mg base 3 "notes_outside" ["line", "key", "chord"] (sp_outside CC CL)) (c_with_count : Cal P w K mg base 1 "with_count" ["numbers"] sp_with_count) : FnOk P w K mg base CX0 5 f fd ["line", "chords"] (sp_ccommon CC CL) := by
  refine F.ok sc_call_common (fun vs H Q E h => ?_) (fun cdv A outer s H vs Q E hr h => ?_)
  · obtain ⟨la, ra, st, rs, N, rfl, _⟩ := h
    rfl
  · obtain ⟨la, ra, st, rs, N, rfl, hL, hR, hl, hl2, kq⟩ := h
    have ok : StOk st := by obtain ⟨_, _, _, _, _, _, _, _, _, _, _, _, ok⟩ := hL; exact ok
    have hk45 := keys_len ok
    obtain ⟨as, hR1, hR2⟩ := id hR
    refine ⟨_, (pss_cons (ps_if (pt_not (pt_truth (pcl c_are_chords (hr.mono (by decide)) (pa_cons (pv 1) pa_nil)) (fun _ => rfl))) (pss_one (ps_ret (pe_lst (pa_cons (pgI T.REFUSED) pa_nil)))) pss_nil) (pss_cons (ps_set (i := 2) sc_call_common.nd rfl (by first | exact Or.inl rfl | exact Or.inr rfl) (pe_lst pa_nil)) (pss_cons (ps_for PassesOwn.never rfl (pi_list (pcl c_keys_of (hr.mono (by decide)) (pa_cons (pv 0) pa_nil))) (pg_name (i := 3) sc_call_common.nd rfl (by first | exact Or.inl rfl | exact Or.inr rfl)) (pss_one (ps_if (pt_truth (pe_callB (cr_all rfl) (by rfl) T.b_all boot_all (pa_cons (pe_lc (own := [("chord", 5)]) rfl sc_call_common.nd (pi_list (pv 1)) (blkOk_by (N := N_call_common) (sc := defScope s_call_common) (by decide +kernel)) (fun _ _ _ _ _ => (pg_name (i := 5) sc_call_common.nd rfl (by first | exact Or.inl rfl | exact Or.inr rfl))) (fun _ _ _ _ _ => pts_nil) (fun _ _ _ _ _ => (pe_cmpR op_eq (pcl c_notes_outside (hr.mono (by decide)) (pa_cons (pv 0) (pa_cons (pv 3) (pa_cons (pv 5) pa_nil)))) pe_int (nomark _)))) pa_nil)) (fun _ => rfl)) (pss_one (ps_expr (pe_bm PySem.F.plainAttrs_list PySem.F.slot_list_append PySem.F.type_list_append mt_append (pv 2) (pa_cons (pv 3) pa_nil)))) pss_nil))) (pss_cons (ps_set (i := 4) sc_call_common.nd rfl (by first | exact Or.inl rfl | exact Or.inr rfl) (pe_lst (pa_cons (pe_callB call_len_seq (by rfl) T.b_len PySem.boot_len (pa_cons (pv 2) pa_nil)) pa_nil))) (pss_cons (ps_for PassesOwn.never rfl (pi_list (pv 2)) (pg_name (i := 3) sc_call_common.nd rfl (by first | exact Or.inl rfl | exact Or.inr rfl)) (pss_one (ps_expr (pe_bm PySem.F.plainAttrs_list PySem.F.slot_list_extend PySem.F.type_list_extend mt_extend (pv 4) (pa_cons (pcl c_with_count (hr.mono (by decide)) (pa_cons (pe_callTy call_list_of (by rfl) T.b_list boot_list (pa_cons (pv 3) pa_nil)) pa_nil)) pa_nil))))) (pss_one (ps_ret (pv 4)))))))), ?_⟩
    refine ⟨_, rfl, ra, rs, rfl, hR, hl, hl2, fun H1 s1 => ⟨_, rfl, ite2 (fun q => ?_) (fun q => ?_)⟩⟩
    · refine ⟨(by show 1 ≤ sizeLine; decide), fun l hl => CQ.same kq hL (Same.nw s1 hl) (a := Sw69.ok (-1)) ?_ upd_same⟩
      show (if _ then _ else _) = _
      rw [if_pos (not_eq' q)]
    · have hok := not_eq q
      dsimp only at hok
      have hall : ∀ c ∈ rs, c.length ≤ 8 := fun c hc => by
        rw [Bool.and_eq_true] at hok
        exact (chord_facts (List.all_eq_true.mp hok.2 c hc)).2.1
      have hs : Sw69.step st (.common rs) = (st, ⟨((Sw69.common st rs).length : Nat), (Sw69.common st rs).map ky2⟩) := by
        show (if _ then _ else _) = _
        rw [hok]
        rfl
      refine ⟨Nat.zero_le _, fun fa hfa => ?_⟩
      have s12 : Same H1 (upd H1 fa (.lst [])) := Same.nw (Same.refl _) hfa
      have hf2 : upd H1 fa (.lst []) fa = some (.lst (([] : List Addr).map V.ref)) := upd_same
      generalize upd H1 fa (.lst []) = H2 at s12 hf2 ⊢
      have hfa0 : H fa = none := s1.free hfa
      have s02 := s1.trans s12
      refine ⟨_, rfl, la, st, rfl, (LineP.mv hL s02).at, fun H3 ks s3 hks hK => ?_⟩
      obtain ⟨kas, hK1, hK2⟩ := id hK
      have hf3 := s3 _ _ hf2
      have ksx : ks ≠ fa := (ne_of_none hf2 hks).symm
      have s03 := s02.trans s3
      refine ⟨ks, rfl, ⟨_, SqL.of hK1⟩, for_refs2 (R0 := fun H b k => TI H b (ky2 k)) (es := Sw69.keys st) (H1 := H3) (fun j σ H' => ∃ v3, σ = [some (.ref la), some (.ref ra), some (.ref fa), v3, none, none] ∧ Same H H' ∧ Kp fa H3 H' ∧ KL H' fa (((Sw69.keys st).take j).filter (comP st rs))) hK
        ⟨none, rfl, s03, Kp.refl _ _, [], hf3, .nil⟩ (fun i σ H' ⟨_, _, _, kp, _⟩ l hl => kp _ _ hl ksx) (fun j kb k σ H4 hj hkb ⟨v3, hσ, s4, kp, hF⟩ => ?_) (fun σ H4 ⟨v3, hσ, s4, kp, hF⟩ => ?_)⟩
      · subst hσ
        have hkm : k ∈ Sw69.keys st := List.mem_of_getElem? hj
        have hm := (key_mem hkm).1
        have hkb4 : TI H4 kb (ky2 k) := kp _ _ hkb (ne_of hkb hf3 (by intro z; cases z))
        have hR4 := RL.mv hR s4
        obtain ⟨as4, hR41, _⟩ := id hR4
        have hL4 := LineP.mv hL s4
        refine ⟨_, rfl, ra, rfl, ⟨_, SqL.of hR41⟩, fun D hD => lc_mapR (R0 := LI) (es := rs) (fun c y _ => y = .bl (Sw69.outside st k c == 0)) hR4 hD (by omega) (fun _ _ _ _ r _ => r) (fun b c H' acc Qk hm' hb s' hDH kk => ?_) (fun H5 ys s5 hD5 hpy => ?_)⟩
        · refine ⟨rfl, _, rfl, _, rfl, _, rfl, la, kb, b, st, k, c, rfl, (LineP.mv hL4 s').at, s' _ _ hkb4, hm, s' _ _ hb, hall _ hm', fun H6 s6 => ⟨rfl, kk _ _ s6 ?_⟩⟩
          congr 1
          by_cases z : Sw69.outside st k c = 0
          · rw [z]
            rfl
          · rw [beq_eq_false_iff_ne.mpr z]
            refine decide_eq_false fun y => z ?_
            injection y with y
            omega
        · obtain ⟨fs, hF1, hF2⟩ := hF
          have hFl := Paired.length hF2
          have hle := List.length_filter_le (comP st rs) ((Sw69.keys st).take j)
          rw [List.length_take] at hle
          have hf5 := s5 _ _ hF1
          refine ⟨D, rs.map fun c => Sw69.outside st k c == 0, rfl, SqL.of (hD5.trans (by rw [Paired.eq_map hpy, List.map_map]; rfl)), _, rfl, ite2 (fun q2 => ?_) (fun q2 => ?_)⟩
          · rw [List.all_map] at q2
            have q2' : comP st rs k = true := q2
            refine ⟨_, rfl, .inl ⟨rfl, _, SqL.of hf5⟩, _, rfl, fa, _, _, rfl, rfl, hf5, by rw [List.length_map]; exact smallLt (by omega), ?_⟩
            have tuE : ∀ (L : List V) (b : Addr) (xs : List V), H5 b = some (.tup xs) → upd H5 fa (.lst L) b = some (.tup xs) := fun L b xs z => by
              rw [upd_ne (ne_of z hf5 (by intro y; cases y))]
              exact z
            refine ⟨_, rfl, Same.up (s4.trans s5) hfa0, Kp.up fun b o e n => s5 _ _ (kp _ _ e n), fs ++ [kb], by rw [upd_same, List.map_append]; rfl, ?_⟩
            rw [take_snoc hj, List.filter_append, List.filter_cons, if_pos q2', List.filter_nil]
            exact Paired.snoc (Paired.mapP hF2 fun b k z => tuE _ _ _ (s5 _ _ z)) (tuE _ _ _ (s5 _ _ hkb4))
          · rw [List.all_map] at q2
            have q2' : ¬ comP st rs k = true := q2
            refine ⟨_, rfl, s4.trans s5, fun b o e n => s5 _ _ (kp _ _ e n), fs, hf5, ?_⟩
            rw [take_snoc hj, List.filter_append, List.filter_cons, if_neg q2', List.filter_nil, List.append_nil]
            exact Paired.mapP hF2 fun b k z => s5 _ _ z
      · subst hσ
        rw [List.take_length] at hF
        have hF : KL H4 fa (Sw69.common st rs) := hF
        obtain ⟨fs, hF1, hF2⟩ := id hF
        have hFl := Paired.length hF2
        have hcl : (Sw69.common st rs).length ≤ 45 := Nat.le_trans (List.length_filter_le _ _) hk45
        refine ⟨_, rfl, fa, _, rfl, .inl (SqL.of hF1), (by show 1 ≤ sizeLine; decide), fun an han => ?_⟩
        have s45 : Same H4 (upd H4 an (.lst [.int ((fs.map V.ref).length : Nat)])) := Same.nw (Same.refl _) han
        have a5 : LI (upd H4 an (.lst [.int ((fs.map V.ref).length : Nat)])) an [((Sw69.common st rs).length : Int)] := by
          show upd _ _ _ _ = _
          rw [upd_same, List.length_map, hFl]
          rfl
        generalize upd H4 an (.lst [.int ((fs.map V.ref).length : Nat)]) = H5 at s45 a5 ⊢
        have hF5 := KL.mv hF s45
        have han0 : H an = none := s4.free han
        have faan : fa ≠ an := ne_of_none hF1 han
        refine ⟨_, rfl, fa, rfl, ⟨_, SqL.of (s45 _ _ hF1)⟩, for_refs2 (R0 := fun H b k => TI H b (ky2 k)) (es := Sw69.common st rs) (H1 := H5) (fun i σ H' => ∃ v3, σ = [some (.ref la), some (.ref ra), some (.ref fa), v3, some (.ref an), none] ∧ Kp an H5 H' ∧ Same H H' ∧ LI H' an (((Sw69.common st rs).length : Int) :: enc (((Sw69.common st rs).take i).map ky2))) hF5
          ⟨v3, rfl, Kp.refl _ _, s4.trans s45, a5⟩ (fun i σ H' ⟨_, _, kp, _⟩ l hl => kp _ _ hl faan) (fun i kb k σ H6 hi hkb ⟨v3, hσ, kp, s6, ha6⟩ => ?_) (fun σ H6 ⟨v3, hσ, kp, s6, ha6⟩ => ?_)⟩
        · subst hσ
          have hkb6 : TI H6 kb (ky2 k) := kp _ _ hkb (ne_of hkb a5 (by intro z; cases z))
          refine ⟨_, rfl, .inl ⟨rfl, _, SqL.of ha6⟩, _, rfl, kb, _, rfl, .inr (SqT.of hkb6), fun q hq => ?_⟩
          have s67 : Same H6 (upd H6 q (.lst ((ky2 k).map V.int))) := Same.nw (Same.refl _) hq
          have q7 : LI (upd H6 q (.lst ((ky2 k).map V.int))) q (ky2 k) := upd_same
          generalize upd H6 q (.lst ((ky2 k).map V.int)) = H7 at s67 q7 ⊢
          refine ⟨q, _, rfl, q7, (by show 2 < sizeLine; decide), fun H8 q8 s8 hq8 hl8 => ⟨an, q8, _, _, rfl, rfl, s8 _ _ (s67 _ _ ha6), hl8, ?_, ?_⟩⟩
          · have := enc_len (m := 2) (rs := ((Sw69.common st rs).take i).map ky2) (fun r hr => by
              obtain ⟨n, _, rfl⟩ := List.mem_map.mp hr
              exact Nat.le_refl _)
            rw [List.length_map, List.length_take] at this
            rw [List.length_map, List.length_map, List.length_cons, List.length_cons]
            have : (ky2 k).length = 2 := rfl
            exact small (by omega)
          · have s68 := s67.trans s8
            refine ⟨_, rfl, Kp.up fun b o e n => s68 _ _ (kp _ _ e n), Same.up (s6.trans s68) han0, ?_⟩
            show upd _ _ _ _ = _
            rw [upd_same, take_snoc hi, List.map_append, ext_eq]
            rfl
        · subst hσ
          rw [List.take_length] at ha6
          exact ⟨_, rfl, CQ.same kq hL s6 hs ha6⟩
end
end CN
end
section
set_option maxRecDepth 100000
set_option maxHeartbeats 4000000
namespace CN
open PySem PySem.Spec PyProof.Rows L2
def hid (D : Addr) (H : Hp) : Hp := fun b => if b = D then none else H b
theorem hid_ne {D b : Addr} {H : Hp} {o : HO} (h : H b = some o) (n : b ≠ D) : hid D H b = some o := by
  unfold hid
  rw [if_neg n]
  exact h
theorem hid_some {D b : Addr} {H : Hp} {o : HO} (h : hid D H b = some o) : b ≠ D ∧ H b = some o := by
  unfold hid at h
  by_cases z : b = D
  · rw [if_pos z] at h
    cases h
  · rw [if_neg z] at h
    exact ⟨z, h⟩
theorem hid_same (D : Addr) (H : Hp) : Same (hid D H) H := fun b o h => (hid_some h).2
theorem hid_kp {D : Addr} {H H' : Hp} (k : Kp D H H') : Same (hid D H) (hid D H') := fun b o h => by
  obtain ⟨n, e⟩ := hid_some h
  exact hid_ne (k _ _ e n) n
theorem NL.hid {D b : Addr} {H : Hp} {l : List V} {ns : List Sw69.Name} (h : NL H b ns) (hD : H D = some (.lst l)) (n : b ≠ D) : NL (hid D H) b ns := by
  obtain ⟨as, h1, h2⟩ := h
  exact ⟨as, hid_ne h1 n, Paired.mapP h2 fun b x z => hid_ne z (ne_of z hD (by intro y; cases y))⟩
theorem StepC.hid {CS D b ca : Addr} {H : Hp} {l : List V} {c : List Int} {B : BB} (h : StepC CS H b ca c B) (hD : H D = some (.lst l)) (n : ca ≠ D) : StepAt CS (hid D H) b c B := by
  obtain ⟨dx, da, h1, h2, kvs, h3, h4⟩ := h
  exact ⟨dx, ca, da, hid_ne h1 (ne_of h1 hD (by intro y; cases y)), hid_ne h2 n, kvs, hid_ne h3 (ne_of h3 hD (by intro y; cases y)), Paired.mapP h4 fun e kv z => BE.mv z fun b xs q => hid_ne q (ne_of q hD (by intro y; cases y))⟩
theorem emp_eq {ns : List Addr} {nm : List Sw69.Name} (h : ns.length = nm.length) : (!nm.isEmpty) = !(ns.map V.ref).isEmpty := by
  cases ns with
  | nil =>
    cases nm with
    | nil => rfl
    | cons a l => cases h
  | cons a l =>
    cases nm with
    | nil => cases h
    | cons a l => rfl
theorem names_alls {st : Sw69.St} {most : Nat} {H : Hp} {K : PySem.W.Frag} : ∀ {as : List Addr} {cs : List (List Int)}, Paired (fun b c => NL H b (Sw69.names st most c)) as cs →
    Paired (fun p b => ∃ ys, SqL K H p ys ∧ b = !ys.isEmpty) as (cs.map fun c => !(Sw69.names st most c).isEmpty)
  | _, _, .nil => .nil
  | _, _, .cons ⟨ns, h1, h2⟩ t => by
    exact .cons ⟨_, SqL.of h1, emp_eq (Paired.length h2)⟩ (names_alls t)
section
variable {P : Program} {w : World} {K : PySem.W.Frag} {mg : Str → Option Value} {base : Heap} {CC CL CR CS : Addr}
def sp_cthru (CC CL : Addr) : Sp := fun vs H Q _ => ∃ (la ra : Addr) (st : Sw69.St) (most : Nat) (rs : List (List Int)) (N : Addr → Prop), vs = [.ref la, .int most, .ref ra] ∧ LineP N CC CL H la st ∧ RL H ra rs ∧ rs.length ≤ 70 ∧ (∀ r ∈ rs, r.length ≤ 70) ∧ CQ N CC CL H la st (.through most rs) Q
theorem ok_cthru {f : Addr} {fd : FuncData} (F : Fun K "call_through" "call_through" s_call_through f fd) (T : Tx K mg CC CL CR CS) (c_are_chords : Cal P w K mg base 4 "are_chords" ["rows"] (spBs fun l => decide (l.length ≤ 12) && l.all Sw69.chordOk)) (c_names_of : Cal P w K mg base 3 "names_of" ["line", "most", "chord"] (sp_names_of CC CL))
    (m_Step : KCal P w K mg base 2 CS "Step" ["self", "chord", "names"] (sp_Sinit CS)) (c_onward_costs : Cal P w K mg base 6 "onward_costs" ["line", "steps"] (sp_onward CC CL CS)) (c_cheapest_ways : Cal P w K mg base 2 "cheapest_ways" ["onward"] sp_cways)
    (c_first_way : Cal P w K mg base 6 "first_way" ["line", "steps", "onward"] (sp_fway CC CL CS)) (c_with_count : Cal P w K mg base 1 "with_count" ["numbers"] sp_with_count) : FnOk P w K mg base CX0 7 f fd ["line", "most", "chords"] (sp_cthru CC CL) := by
  refine F.ok sc_call_through (fun vs H Q E h => ?_) (fun cdv A outer s H vs Q E hr h => ?_)
  · obtain ⟨la, ra, st, most, rs, N, rfl, _⟩ := h
    rfl
  · obtain ⟨la, ra, st, most, rs, N, rfl, hL, hR, hl, hl2, kq⟩ := h
    have ok : StOk st := by obtain ⟨_, _, _, _, _, _, _, _, _, _, _, _, ok⟩ := hL; exact ok
    have hk45 := keys_len ok
    obtain ⟨as, hR1, hR2⟩ := id hR
    have hal := Paired.length hR2
    refine ⟨_, (pss_cons (ps_if (pt_not (pt_truth (pcl c_are_chords (hr.mono (by decide)) (pa_cons (pv 2) pa_nil)) (fun _ => rfl))) (pss_one (ps_ret (pe_lst (pa_cons (pgI T.REFUSED) pa_nil)))) pss_nil) (pss_cons (ps_if (pt_not (pt_truth (pv 2) (fun _ => rfl))) (pss_one (ps_ret (pe_op op_cat (pe_lst (pa_cons pe_int pa_nil)) (pcl c_with_count (hr.mono (by decide)) (pa_cons (pe_lst (pa_cons pe_int pa_nil)) pa_nil))))) pss_nil) (pss_cons (ps_setLc (i := 3) (own := [("chord", 9)]) rfl sc_call_through.nd rfl rfl (sw_true rfl rfl rfl rfl) (pi_list (pv 2)) (blkOk_by (N := N_call_through) (sc := defScope s_call_through) (by decide +kernel)) (fun _ _ _ _ _ => (pg_name (i := 9) sc_call_through.nd rfl (by first | exact Or.inl rfl | exact Or.inr rfl))) (fun _ _ _ _ _ => pts_nil) (fun _ _ _ _ _ => (pcl c_names_of (hr.mono (by decide)) (pa_cons (pv 0) (pa_cons (pv 1) (pa_cons (pv 9) pa_nil)))))) (pss_cons (ps_if (PW.pt (pw_or (pt_not (pt_truth (pe_fld (pv 0) rfl) (fun _ => rfl))) (pw_or1 (pt_not (pt_truth (pe_callB (cr_allL rfl) (by rfl) T.b_all boot_all (pa_cons (pv 3) pa_nil)) (fun _ => rfl)))))) (pss_one (ps_ret (pe_lst (pa_cons (pgI T.NO_WAY) pa_nil)))) pss_nil) (pss_cons (ps_setLc (i := 4) (own := [("chord", 9), ("its_names", 10)]) rfl sc_call_through.nd rfl rfl (sw_true rfl rfl rfl rfl) (pi_zip rfl T.b_zip (pa_cons (pv 2) (pa_cons (pv 3) pa_nil))) (blkOk_by (N := N_call_through) (sc := defScope s_call_through) (by decide +kernel)) (fun _ _ _ _ _ => (pg_tupK (K := K) (n := 2) rfl rfl (pgs_cons (pg_name (i := 9) sc_call_through.nd rfl (by first | exact Or.inl rfl | exact Or.inr rfl)) (pgs_cons (pg_name (i := 10) sc_call_through.nd rfl (by first | exact Or.inl rfl | exact Or.inr rfl)) pgs_nil)))) (fun _ _ _ _ _ => pts_nil) (fun _ _ _ _ _ => (pmk m_Step (hr.mono (by decide)) (pa_cons (pv 9) (pa_cons (pv 10) pa_nil))))) (pss_cons (ps_set (i := 5) sc_call_through.nd rfl (by first | exact Or.inl rfl | exact Or.inr rfl) (pcl c_onward_costs (hr.mono (by decide)) (pa_cons (pv 0) (pa_cons (pv 4) pa_nil)))) (pss_cons (ps_set (i := 6) sc_call_through.nd rfl (by first | exact Or.inl rfl | exact Or.inr rfl) (pcl c_cheapest_ways (hr.mono (by decide)) (pa_cons (pe_ix ix_list (pv 5) pe_int (fun _ _ => rfl)) pa_nil))) (pss_cons (ps_set (i := 7) sc_call_through.nd rfl (by first | exact Or.inl rfl | exact Or.inr rfl) (pe_op op_cat (pe_lst (pa_cons (pe_ix ix_tup (pv 6) pe_int (fun _ _ => rfl)) pa_nil)) (pcl c_with_count (hr.mono (by decide)) (pa_cons (pe_lst (pa_cons (pe_ix ix_tup (pv 6) pe_int (fun _ _ => rfl)) pa_nil)) pa_nil)))) (pss_cons (ps_for PassesOwn.never rfl (pi_list (pcl c_first_way (hr.mono (by decide)) (pa_cons (pv 0) (pa_cons (pv 4) (pa_cons (pv 5) pa_nil))))) (pg_name (i := 8) sc_call_through.nd rfl (by first | exact Or.inl rfl | exact Or.inr rfl)) (pss_one (ps_expr (pe_bm PySem.F.plainAttrs_list PySem.F.slot_list_extend PySem.F.type_list_extend mt_extend (pv 7) (pa_cons (pcl c_with_count (hr.mono (by decide)) (pa_cons (pv 8) pa_nil)) pa_nil))))) (pss_one (ps_ret (pv 7)))))))))))), ?_⟩
    refine ⟨_, rfl, ra, rs, rfl, hR, hl, hl2, fun H1 s1 => ⟨_, rfl, ite2 (fun q => ?_) (fun q => ?_)⟩⟩
    · refine ⟨(by show 1 ≤ sizeLine; decide), fun l hl => CQ.same kq hL (Same.nw s1 hl) (a := Sw69.ok (-1)) ?_ upd_same⟩
      show (if _ then _ else _) = _
      rw [if_pos (not_eq' q)]
    have hok := not_eq q
    dsimp only at hok
    have hst : Sw69.step st (.through most rs) = (st, match Sw69.through st most rs with
        | none => Sw69.ok (-6)
        | some b => ⟨(b.cost : Nat), [(b.many : Int)] :: b.way.map Sw69.stepOut⟩) := by
      show (if _ then _ else _) = _
      rw [hok]
      rfl
    rw [Bool.and_eq_true] at hok
    have h12 : rs.length ≤ 12 := of_decide_eq_true hok.1
    have hall : ∀ c ∈ rs, c ≠ [] ∧ c.length ≤ 8 ∧ c.Nodup := fun c hc => chord_facts (List.all_eq_true.mp hok.2 c hc)
    refine ⟨_, rfl, _, .inl ⟨_, SqL.of (s1 _ _ hR1), rfl⟩, ite2 (fun q2 => ?_) (fun q2 => ?_)⟩
    · have hnil : rs = [] := by
        cases rs with
        | nil => rfl
        | cons c l =>
          cases as with
          | nil => cases hal
          | cons a as => cases q2
      subst hnil
      refine ⟨(by show 1 ≤ sizeLine; decide), fun b hb => ?_⟩
      have s12 : Same H1 (upd H1 b (.lst [.int 0])) := Same.nw (Same.refl _) hb
      have b2 : LI (upd H1 b (.lst [.int 0])) b [0] := upd_same
      generalize upd H1 b (.lst [.int 0]) = H2 at s12 b2 ⊢
      refine ⟨(by show 1 ≤ sizeLine; decide), fun b' hb' => ?_⟩
      have s23 : Same H2 (upd H2 b' (.lst [.int 1])) := Same.nw (Same.refl _) hb'
      have b3 : LI (upd H2 b' (.lst [.int 1])) b' [1] := upd_same
      generalize upd H2 b' (.lst [.int 1]) = H3 at s23 b3 ⊢
      refine ⟨b', _, rfl, b3, (by show 1 < sizeLine; decide), fun H4 p s4 hp hp4 => ⟨b, p, _, _, rfl, rfl, s4 _ _ (s23 _ _ b2), hp4, (by show 1 + 2 ≤ sizeLine; decide), fun r hr => ?_⟩⟩
      refine CQ.same kq hL ((((s1.trans s12).trans s23).trans s4).trans (Same.nw (Same.refl _) hr)) hst ?_
      exact upd_same
    · have hne : rs ≠ [] := by
        intro z
        subst z
        cases as with
        | nil => exact q2 rfl
        | cons a l => cases hal
      have hR1' := s1 _ _ hR1
      have hRL1 := RL.mv hR s1
      refine ⟨_, rfl, ra, rfl, ⟨_, SqL.of hR1'⟩, fun D hD => lc_mapR (R0 := LI) (es := rs) (fun c y H => ∃ b, y = V.ref b ∧ NL (hid D H) b (Sw69.names st most c)) hRL1 hD (by omega) (fun c y H H' ⟨b, h1, h2⟩ kk => ⟨b, h1, NL.mv h2 (hid_kp kk)⟩) (fun b c H' acc Qk hm hb s' hDH kk => ?_) (fun H2 ys s2 hD2 hpy => ?_)⟩
      · obtain ⟨f1, f2, f3⟩ := hall c hm
        refine ⟨rfl, _, rfl, _, rfl, _, rfl, la, b, st, most, c, rfl, (LineP.mv hL (s1.trans s')).at, s' _ _ hb, f1, f2, f3, fun H3 p s3 hp hN => kk _ _ s3 ⟨p, rfl, NL.hid hN (s3 _ _ hDH) (ne_of_none hDH hp).symm⟩⟩
      obtain ⟨nas, hny, hP2⟩ := Paired.refs (R := fun b c => NL (hid D H2) b (Sw69.names st most c)) hpy
      have hP : Paired (fun b c => NL H2 b (Sw69.names st most c)) nas rs := Paired.mapP hP2 fun b c z => NL.mv z (hid_same _ _)
      rw [hny] at hD2
      have hnal := Paired.length hP
      have s02 := s1.trans s2
      obtain ⟨dx, ka, ma, ca, dc, tb, g1, g2, g3, g4, g5, g6, g7⟩ := LineP.mv hL s02
      obtain ⟨_, mas, hm1, hm2⟩ := g3
      have hml := Paired.length hm2
      have noway : Sw69.through st most rs = none → ∀ l, H2 l = none → Q (.ref l) (upd H2 l (.lst [.int (-6)])) := fun e l hl => CQ.same kq hL (Same.nw s02 hl) (a := Sw69.ok (-6)) (by rw [hst, e]) upd_same
      refine ⟨_, rfl, la, CL, dx, _, _, rfl, g1, T.clL, T.n_modes, lF_modes, _, .inl ⟨_, SqL.of hm1, rfl⟩, ite2 (fun q3 => ?_) (fun q3 => ?_)⟩
      · have hmn : st.modes = [] := by
          cases e : st.modes with
          | nil => rfl
          | cons m l =>
            rw [e] at hml
            cases mas with
            | nil => cases hml
            | cons a r => cases q3
        exact iteT ⟨(by show 1 ≤ sizeLine; decide), fun l hl => noway (through_none hne (.inr hmn)) l hl⟩
      have hmo : st.modes ≠ [] := by
        intro e
        rw [e] at hml
        cases mas with
        | nil => exact q3 rfl
        | cons a r => cases hml
      refine ⟨_, rfl, D, nas, _, rfl, SqL.of hD2, names_alls hP, _, rfl, ite2 (fun q4 => ?_) (fun q4 => ?_)⟩
      · have q4' := not_eq' q4
        rw [List.all_map] at q4'
        have hex : ∃ c ∈ rs, Sw69.names st most c = [] := by
          obtain ⟨c, hc, hb⟩ := List.all_eq_false.mp q4'
          refine ⟨c, hc, ?_⟩
          cases e : Sw69.names st most c with
          | nil => rfl
          | cons a l =>
            exfalso
            apply hb
            show (!(Sw69.names st most c).isEmpty) = true
            rw [e]
            rfl
        exact ⟨(by show 1 ≤ sizeLine; decide), fun l hl => noway (through_none hne (.inl hex)) l hl⟩
      have hnn : ∀ c ∈ rs, Sw69.names st most c ≠ [] := fun c hc z => by
        have q4' := not_eq q4
        rw [List.all_map] at q4'
        have := List.all_eq_true.mp q4' c hc
        have : (!(Sw69.names st most c).isEmpty) = true := this
        rw [z] at this
        cases this
      have hrow : RowOk st most rs := ⟨⟨hmo, fun c hc => ⟨(hall c hc).2.2, hnn c hc⟩⟩, h12, fun c hc => (hall c hc).2.1⟩
      have hR2' := s02 _ _ hR1
      refine ⟨_, rfl, _, rfl, ra, D, _, _, rfl, SqL.of hR2', SqL.of hD2, fun D2 hDD => lc_mapE (es := rs) (fun c y H => ∃ b, y = V.ref b ∧ StepAt CS (hid D2 H) b c (bbr (Sw69.names st most c))) hDD (by omega) (fun c y H H' ⟨b, h1, h2⟩ kk => ⟨b, h1, StepAt.mv h2 (hid_kp kk)⟩)
        (fun n H' hn s => ⟨_, _, _, _, SqL.of (s _ _ hR2'), SqL.of (s _ _ hD2), List.getElem?_eq_getElem (by rw [List.length_map]; omega), List.getElem?_eq_getElem (by rw [List.length_map]; omega)⟩) (fun H' s => ⟨_, _, SqL.of (s _ _ hR2'), SqL.of (s _ _ hD2), .inl (by rw [List.length_map]; omega)⟩) (fun n c H3 x H30 acc Qk hn s3 hDH hy kk => ?_) (fun H3 ys2 s3 hD3 hpy2 => ?_)⟩
      · obtain ⟨T0, x0, y0, rfl, hT0, rfl, hx0, hy0⟩ := hy
        obtain ⟨cb, hcb, hci⟩ := Paired.at1 hR2 hn
        obtain ⟨nb, hnb, hni⟩ := Paired.at1 hP hn
        have ex := hx0 _ (SqL.of (s3 _ _ hR2'))
        rw [List.getElem?_map, hcb] at ex
        have ex' : x0 = V.ref cb := (Option.some.inj ex).symm
        have ey := hy0 _ (SqL.of (s3 _ _ hD2))
        rw [List.getElem?_map, hnb] at ey
        have ey' : y0 = V.ref nb := (Option.some.inj ey).symm
        subst ex' ey'
        have up1 : Same H3 (upd H3 T0 (.tup [V.ref cb, V.ref nb])) := Same.nw (Same.refl _) hT0
        refine ⟨T0, _, rfl, SqT.of upd_same, rfl, _, _, rfl, _, _, rfl, rfl, rfl, ?_⟩
        generalize upd H3 T0 (.tup [V.ref cb, V.ref nb]) = H4 at up1 ⊢
        refine ⟨_, rfl, _, rfl, fun y dy hy hdy hne' => ?_⟩
        have s45 : Same H4 (upd (upd H4 dy (.own y)) y (.ins CS dy [])) := Same.up (Same.nw (Same.refl _) hdy) hy
        have y5 : upd (upd H4 dy (.own y)) y (.ins CS dy []) y = some (.ins CS dy []) := upd_same
        generalize upd (upd H4 dy (.own y)) y (.ins CS dy []) = H5 at s45 y5 ⊢
        have s35 := up1.trans s45
        have hc5 : LI H5 cb c := s35 _ _ (s3 _ _ (s02 _ _ hci))
        have hcm := List.mem_of_getElem? hn
        have hnl := names_len ok most (hall c hcm).2.1 (hall c hcm).2.2
        refine ⟨y, dy, cb, nb, c, Sw69.names st most c, rfl, y5, hc5, NL.mv (NL.mv hni s3) s35, by omega, fun H6 k6 hS => ⟨rfl, kk _ _ (fun b o e => k6 _ _ (s35 _ _ e) (ne_of_none (up1 _ _ e) hy)) ⟨y, rfl, ?_⟩⟩⟩
        have hD6 : H6 D2 = some (.lst acc) := k6 _ _ (s35 _ _ hDH) (ne_of_none (up1 _ _ hDH) hy)
        exact StepC.hid hS hD6 (ne_of_none (s02 _ _ hci) hDD)
      obtain ⟨sas, hsy, hS2⟩ := Paired.refs (R := fun b c => StepAt CS (hid D2 H3) b c (bbr (Sw69.names st most c))) hpy2
      have hSL : SL CS st most H3 D2 rs := ⟨sas, by rw [hD3, hsy], Paired.mapP hS2 fun b c z => StepAt.mv z (hid_same _ _)⟩
      have s03 := s02.trans s3
      obtain ⟨c0, l0, rfl⟩ : ∃ c l, rs = c :: l := by
        cases rs with
        | nil => exact absurd rfl hne
        | cons c l => exact ⟨c, l, rfl⟩
      obtain ⟨b, hthr, hbst⟩ := through_eq hrow.good
      rw [hthr] at hst
      have hst : Sw69.step st (.through most (c0 :: l0)) = (st, ⟨(b.cost : Nat), [(b.many : Int)] :: b.way.map Sw69.stepOut⟩) := hst
      refine ⟨_, rfl, _, rfl, la, D2, st, most, c0 :: l0, rfl, (LineP.mv hL s03).at, hSL, hrow, fun H4 oa s4 hoa hTL => ?_⟩
      have s04 := s03.trans s4
      obtain ⟨oas, hO1, hO2⟩ := id hTL
      obtain ⟨o0, ho0, hT0⟩ := Paired.at1 (i := 0) hO2 rfl
      have hcm0 : c0 ∈ c0 :: l0 := List.mem_cons_self
      have hnl0 := names_len ok most (hall c0 hcm0).2.1 (hall c0 hcm0).2.2
      have hBl0 := bbr_len (Sw69.names st most c0)
      have hOrd0 := (names_raw st most (hall c0 hcm0).2.2).1
      have htv := tabVals_onw st most (c0, l0)
      refine ⟨_, rfl, oa, _, _, _, rfl, rfl, SqL.of hO1, atI_nat (j := 0) (by rw [List.getElem?_map, ho0]; rfl), o0, onwT st most (c0, l0), rfl, hT0, ?_, ?_, fun H5 lp r s5 hlp hr5 hlt => ?_⟩
      · intro z
        rw [htv] at z
        have z' : bst ((Sw69.keys st).flatMap fun k => (bbr (Sw69.names st most c0)).map fun e => onw st most c0 l0 k e) = none := by
          have z2 : ((Sw69.keys st).flatMap fun k => (bbr (Sw69.names st most c0)).map fun e => onw st most c0 l0 k e) = [] := z
          rw [z2]
          rfl
        rw [hbst] at z'
        cases z'
      · rw [htv, List.length_flatMap]
        have : ∀ ks : List Sw69.Key, (ks.map fun k => ((bbr (Sw69.names st most (c0, l0).1)).map fun e => onw st most (c0, l0).1 (c0, l0).2 k e).length).sum ≤ ks.length * 80 := by
          intro ks
          induction ks with
          | nil => simp
          | cons k ks ih =>
            rw [List.map_cons, List.sum_cons, List.length_cons, List.length_map, Nat.succ_mul]
            have : (bbr (Sw69.names st most (c0, l0).1)).length ≤ 80 := Nat.le_trans hBl0 hnl0
            omega
        have := this (Sw69.keys st)
        omega
      have hr : r = pr b := by
        rw [htv] at hr5
        have hr5' : bst ((Sw69.keys st).flatMap fun k => (bbr (Sw69.names st most c0)).map fun e => onw st most c0 l0 k e) = some r := hr5
        rw [hbst] at hr5'
        exact (Option.some.inj hr5').symm
      subst hr
      have s05 := s04.trans s5
      have hlt' : H5 lp = some (.tup [.int (b.cost : Nat), .int (b.many : Nat)]) := hlt
      refine ⟨_, rfl, lp, _, _, _, rfl, rfl, SqT.of hlt', atI_nat (j := 0) rfl, (by show 1 ≤ sizeLine; decide), fun b1 hb1 => ?_⟩
      have s56 : Same H5 (upd H5 b1 (.lst [.int (b.cost : Nat)])) := Same.nw (Same.refl _) hb1
      have b16 : LI (upd H5 b1 (.lst [.int (b.cost : Nat)])) b1 [(b.cost : Int)] := upd_same
      generalize upd H5 b1 (.lst [.int (b.cost : Nat)]) = H6 at s56 b16 ⊢
      refine ⟨_, rfl, lp, _, _, _, rfl, rfl, SqT.of (s56 _ _ hlt'), atI_nat (j := 1) rfl, (by show 1 ≤ sizeLine; decide), fun b2 hb2 => ?_⟩
      have s67 : Same H6 (upd H6 b2 (.lst [.int (b.many : Nat)])) := Same.nw (Same.refl _) hb2
      have b27 : LI (upd H6 b2 (.lst [.int (b.many : Nat)])) b2 [(b.many : Int)] := upd_same
      generalize upd H6 b2 (.lst [.int (b.many : Nat)]) = H7 at s67 b27 ⊢
      refine ⟨b2, _, rfl, b27, (by show 1 < sizeLine; decide), fun H8 p8 s8 hp8 hl8 => ⟨b1, p8, _, _, rfl, rfl, s8 _ _ (s67 _ _ b16), hl8, (by show 1 + 2 ≤ sizeLine; decide), fun an han => ?_⟩⟩
      have s89 : Same H8 (upd H8 an (.lst ([(b.cost : Int)].map V.int ++ ((([(b.many : Int)].length : Nat) : Int) :: [(b.many : Int)]).map V.int))) := Same.nw (Same.refl _) han
      have a9 : LI (upd H8 an (.lst ([(b.cost : Int)].map V.int ++ ((([(b.many : Int)].length : Nat) : Int) :: [(b.many : Int)]).map V.int))) an ((b.cost : Int) :: enc [[(b.many : Int)]]) := upd_same
      generalize upd H8 an (.lst ([(b.cost : Int)].map V.int ++ ((([(b.many : Int)].length : Nat) : Int) :: [(b.many : Int)]).map V.int)) = H9 at s89 a9 ⊢
      have s48 := ((s5.trans s56).trans s67).trans s8
      have s49 := s48.trans s89
      have s09 := s04.trans s49
      have han0 : H an = none := (s04.trans s48).free han
      refine ⟨_, rfl, _, rfl, _, rfl, la, D2, oa, st, most, c0 :: l0, b, rfl, (LineP.mv hL s09).at, SL.mv hSL (s4.trans s49), TL.mv hTL s49, hrow, hne, hthr, fun Ha wa sa hwa hW hwl => ?_⟩
      obtain ⟨was, hW1, hW2⟩ := id hW
      have aa := sa _ _ a9
      have waan : wa ≠ an := (ne_of_none a9 hwa).symm
      have h12' : b.way.length ≤ 12 := by rw [hwl]; exact h12
      refine ⟨wa, rfl, ⟨_, SqL.of hW1⟩, for_refs2 (R0 := LI) (es := b.way.map Sw69.stepOut) (H1 := Ha) (fun i σ H' => ∃ v8, σ = [some (.ref la), some (.int most), some (.ref ra), some (.ref D), some (.ref D2), some (.ref oa), some (.ref lp), some (.ref an), v8, none, none] ∧ Kp an Ha H' ∧ Same H H' ∧ LI H' an ((b.cost : Int) :: enc ([(b.many : Int)] :: (b.way.map Sw69.stepOut).take i))) hW
        ⟨none, rfl, Kp.refl _ _, s09.trans sa, aa⟩ (fun i σ H' ⟨_, _, kp, _⟩ l hl => kp _ _ hl waan) (fun i sb x σ Hb hi hsb ⟨v8, hσ, kp, sb0, hab⟩ => ?_) (fun σ Hb ⟨v8, hσ, kp, sb0, hab⟩ => ?_)⟩
      · subst hσ
        have hx6 : x.length = 6 := by
          have := List.mem_of_getElem? hi
          obtain ⟨y, _, rfl⟩ := List.mem_map.mp this
          rfl
        have sban : sb ≠ an := fun z => by
          rw [z] at hsb
          have e := hsb.symm.trans aa
          injection e with e
          injection e with e
          have := congrArg List.length e
          rw [List.length_map, List.length_map, hx6] at this
          cases this
        have hsb' := kp _ _ hsb sban
        refine ⟨_, rfl, .inl ⟨rfl, _, SqL.of hab⟩, _, rfl, sb, x, rfl, hsb', by rw [hx6]; decide, fun Hc q6 sc hq6 hl6 => ⟨an, q6, _, _, rfl, rfl, sc _ _ hab, hl6, ?_, ?_⟩⟩
        · have := enc_len (m := 6) (rs := [(b.many : Int)] :: (b.way.map Sw69.stepOut).take i) (fun r hr => by
            rcases List.mem_cons.mp hr with rfl | hr
            · show 1 ≤ 6
              decide
            · obtain ⟨n, _, rfl⟩ := List.mem_map.mp (List.mem_of_mem_take hr)
              exact Nat.le_refl _)
          rw [List.length_cons, List.length_take, List.length_map] at this
          rw [List.length_map, List.length_map, List.length_cons, List.length_cons]
          exact small (by omega)
        · refine ⟨_, rfl, Kp.up fun b o e n => sc _ _ (kp _ _ e n), Same.up (sb0.trans sc) han0, ?_⟩
          show upd _ _ _ _ = _
          rw [upd_same, take_snoc hi, ext_eq]
          rfl
      · subst hσ
        rw [List.take_length] at hab
        exact ⟨_, rfl, CQ.same kq hL sb0 hst hab⟩
end
end CN
end
section
set_option maxRecDepth 100000
set_option maxHeartbeats 4000000
namespace CN
open PySem PySem.Spec PyProof.Rows L2
open Sw69Neutral (many_ listIn intIn natIn rowIn costsIn all_ callOf)
theorem intIn_inv {l l' : List Int} {z : Int} (h : intIn l = some (z, l')) : l = z :: l' := by
  cases l with
  | nil => cases h
  | cons a r =>
    have h : (if -(2 ^ 31) ≤ a ∧ a < 2 ^ 31 then some (a, r) else none) = some (z, l') := h
    split at h
    · cases h; rfl
    · cases h
theorem natIn_inv {l l' : List Int} {n : Nat} (h : natIn l = some (n, l')) : l = (n : Int) :: l' := by
  cases l with
  | nil => cases h
  | cons a r =>
    have h : (if 0 ≤ a ∧ a < 2 ^ 32 then some (a.toNat, r) else none) = some (n, l') := h
    split at h
    · rename_i q
      have e := Option.some.inj h
      injection e with e1 e2
      subst e2
      congr 1
      omega
    · cases h
theorem many_inv {A : Type} {p : List Int → Option (A × List Int)} {f : A → List Int} (hp : ∀ l x l', p l = some (x, l') → l = f x ++ l') : ∀ (k : Nat) {l l' : List Int} {xs : List A}, many_ p k l = some (xs, l') → xs.length = k ∧ l = xs.flatMap f ++ l'
  | 0, l, l', xs, h => by
    unfold many_ at h
    cases h
    exact ⟨rfl, rfl⟩
  | k + 1, l, l', xs, h => by
    unfold many_ at h
    cases e : p l with
    | none => rw [e] at h; cases h
    | some y =>
      obtain ⟨x, l1⟩ := y
      rw [e] at h
      have h : (many_ p k l1).map (fun y => (x :: y.1, y.2)) = some (xs, l') := h
      cases e2 : many_ p k l1 with
      | none => rw [e2] at h; cases h
      | some y =>
        obtain ⟨ys, l2⟩ := y
        rw [e2] at h
        cases h
        obtain ⟨i1, i2⟩ := many_inv hp k e2
        refine ⟨by rw [List.length_cons, i1], ?_⟩
        rw [hp _ _ _ e, i2, List.flatMap_cons, List.append_assoc]
theorem many_all {A : Type} {p : List Int → Option (A × List Int)} {R : A → Prop} (hp : ∀ l x l', p l = some (x, l') → R x) : ∀ (k : Nat) {l l' : List Int} {xs : List A}, many_ p k l = some (xs, l') → ∀ x ∈ xs, R x
  | 0, l, l', xs, h => by
    unfold many_ at h
    cases h
    intro x hx
    cases hx
  | k + 1, l, l', xs, h => by
    unfold many_ at h
    cases e : p l with
    | none => rw [e] at h; cases h
    | some y =>
      obtain ⟨x, l1⟩ := y
      rw [e] at h
      have h : (many_ p k l1).map (fun y => (x :: y.1, y.2)) = some (xs, l') := h
      cases e2 : many_ p k l1 with
      | none => rw [e2] at h; cases h
      | some y =>
        obtain ⟨ys, l2⟩ := y
        rw [e2] at h
        cases h
        intro z hz
        rcases List.mem_cons.mp hz with rfl | hz
        · exact hp _ _ _ e
        · exact many_all hp k e2 z hz
theorem listIn_inv {A : Type} {p : List Int → Option (A × List Int)} {f : A → List Int} (hp : ∀ l x l', p l = some (x, l') → l = f x ++ l') {l l' : List Int} {xs : List A} (h : listIn p l = some (xs, l')) : xs.length ≤ 70 ∧ l = (xs.length : Int) :: (xs.flatMap f ++ l') := by
  cases l with
  | nil => cases h
  | cons n r =>
    have h : (if 0 ≤ n ∧ n ≤ 70 then many_ p n.toNat r else none) = some (xs, l') := h
    split at h
    · rename_i q
      obtain ⟨i1, i2⟩ := many_inv hp _ h
      refine ⟨by omega, ?_⟩
      rw [← i2]
      congr 1
      omega
    · cases h
theorem listIn_all {A : Type} {p : List Int → Option (A × List Int)} {R : A → Prop} (hp : ∀ l x l', p l = some (x, l') → R x) {l l' : List Int} {xs : List A} (h : listIn p l = some (xs, l')) : ∀ x ∈ xs, R x := by
  cases l with
  | nil => cases h
  | cons n r =>
    have h : (if 0 ≤ n ∧ n ≤ 70 then many_ p n.toNat r else none) = some (xs, l') := h
    split at h
    · exact many_all hp _ h
    · cases h
theorem flat_one {A : Type} (g : A → Int) : ∀ l : List A, (l.flatMap fun x => [g x]) = l.map g
  | [] => rfl
  | a :: l => by rw [List.flatMap_cons, flat_one g l]; rfl
theorem rowIn_inv {l l' r : List Int} (h : rowIn l = some (r, l')) : r.length ≤ 70 ∧ l = (r.length : Int) :: (r ++ l') := by
  obtain ⟨h1, h2⟩ := listIn_inv (f := fun z => [z]) (fun l x l' e => intIn_inv e) h
  rw [flat_one, List.map_id'] at h2
  exact ⟨h1, h2⟩
theorem rowsIn_inv {l l' : List Int} {rs : List (List Int)} (h : listIn rowIn l = some (rs, l')) : rs.length ≤ 70 ∧ (∀ r ∈ rs, r.length ≤ 70) ∧ l = (rs.length : Int) :: (enc rs ++ l') := by
  obtain ⟨h1, h2⟩ := listIn_inv (f := fun r => (r.length : Int) :: r) (fun l x l' e => (rowIn_inv e).2) h
  exact ⟨h1, listIn_all (fun l x l' e => (rowIn_inv e).1) h, h2⟩
theorem nats_inv {l l' : List Int} {ns : List Nat} (h : listIn natIn l = some (ns, l')) : ns.length ≤ 70 ∧ l = (ns.length : Int) :: ((ns.map fun (n : Nat) => (n : Int)) ++ l') := by
  obtain ⟨h1, h2⟩ := listIn_inv (f := fun (n : Nat) => [(n : Int)]) (fun l x l' e => natIn_inv e) h
  rw [flat_one] at h2
  exact ⟨h1, h2⟩
theorem all_inv {A : Type} {x : Option (A × List Int)} {a : A} (h : all_ x = some a) : x = some (a, []) := by
  unfold all_ at h
  cases x with
  | none => cases h
  | some y =>
    obtain ⟨b, l⟩ := y
    have h : (if l.isEmpty = true then some b else none) = some a := h
    split at h
    · rename_i q
      cases h
      cases l with
      | nil => rfl
      | cons z r => cases q
    · cases h
theorem bind_inv {A B : Type} {x : Option A} {f : A → Option B} {b : B} (h : x.bind f = some b) : ∃ a, x = some a ∧ f a = some b := by
  cases x with
  | none => cases h
  | some a => exact ⟨a, rfl, h⟩
theorem map_inv {A B : Type} {x : Option A} {f : A → B} {b : B} (h : x.map f = some b) : ∃ a, x = some a ∧ f a = b := by
  cases x with
  | none => cases h
  | some a => exact ⟨a, rfl, Option.some.inj h⟩
theorem costsIn_inv {l l' : List Int} {c : Sw69.Costs} (h : costsIn l = some (c, l')) : c.steps.length ≤ 70 ∧ l = c6 c ++ ((((cst c).length : Nat) : Int) :: (cst c ++ l')) := by
  unfold costsIn at h
  obtain ⟨⟨a, l1⟩, e1, h⟩ := bind_inv h
  obtain ⟨⟨b, l2⟩, e2, h⟩ := bind_inv h
  obtain ⟨⟨d, l3⟩, e3, h⟩ := bind_inv h
  obtain ⟨⟨e, l4⟩, e4, h⟩ := bind_inv h
  obtain ⟨⟨f, l5⟩, e5, h⟩ := bind_inv h
  obtain ⟨⟨g, l6⟩, e6, h⟩ := bind_inv h
  obtain ⟨⟨t, l7⟩, e7, h⟩ := map_inv h
  cases h
  obtain ⟨n1, n2⟩ := nats_inv e7
  refine ⟨n1, ?_⟩
  have q1 := natIn_inv e1
  have q2 := natIn_inv e2
  have q3 := natIn_inv e3
  have q4 := natIn_inv e4
  have q5 := natIn_inv e5
  have q6 := natIn_inv e6
  simp only at q1 q2 q3 q4 q5 q6 n2
  rw [q1, q2, q3, q4, q5, q6, n2]
  unfold c6 cst
  rw [List.length_map]
  rfl
def Shape : Sw69.Call → List Int → Prop
  | .begins, l => l = [0]
  | .kinds rs, l => l = 1 :: (rs.length : Int) :: (enc rs ++ []) ∧ rs.length ≤ 70 ∧ ∀ r ∈ rs, r.length ≤ 70
  | .modes rs, l => l = 2 :: (rs.length : Int) :: (enc rs ++ []) ∧ rs.length ≤ 70 ∧ ∀ r ∈ rs, r.length ≤ 70
  | .costs c, l => l = 3 :: (c6 c ++ ((((cst c).length : Nat) : Int) :: (cst c ++ []))) ∧ c.steps.length ≤ 70
  | .names most c, l => l = 4 :: (most : Int) :: (c.length : Int) :: (c ++ []) ∧ c.length ≤ 70
  | .degree k c, l => l = 5 :: k.tonic :: (k.mode : Int) :: (c.length : Int) :: (c ++ []) ∧ c.length ≤ 70
  | .common rs, l => l = 6 :: (rs.length : Int) :: (enc rs ++ []) ∧ rs.length ≤ 70 ∧ ∀ r ∈ rs, r.length ≤ 70
  | .through most rs, l => l = 7 :: (most : Int) :: (rs.length : Int) :: (enc rs ++ []) ∧ rs.length ≤ 70 ∧ ∀ r ∈ rs, r.length ≤ 70
theorem callOf_inv {l : List Int} {c : Sw69.Call} (h : callOf l = some c) : Shape c l := by
  unfold callOf at h
  split at h
  · cases h
    rfl
  · obtain ⟨rs, e, rfl⟩ := map_inv h
    obtain ⟨h1, h2, h3⟩ := rowsIn_inv (all_inv e)
    exact ⟨by rw [h3], h1, h2⟩
  · obtain ⟨rs, e, rfl⟩ := map_inv h
    obtain ⟨h1, h2, h3⟩ := rowsIn_inv (all_inv e)
    exact ⟨by rw [h3], h1, h2⟩
  · obtain ⟨c, e, rfl⟩ := map_inv h
    obtain ⟨h1, h2⟩ := costsIn_inv (all_inv e)
    exact ⟨by rw [h2], h1⟩
  · obtain ⟨⟨m, l1⟩, e1, h⟩ := bind_inv (all_inv h)
    obtain ⟨⟨r, l2⟩, e2, h⟩ := map_inv h
    cases h
    obtain ⟨h1, h2⟩ := rowIn_inv e2
    have q1 := natIn_inv e1
    simp only at q1 h2
    exact ⟨by rw [q1, h2], h1⟩
  · obtain ⟨⟨t, l0⟩, e0, h⟩ := bind_inv (all_inv h)
    obtain ⟨⟨m, l1⟩, e1, h⟩ := bind_inv h
    obtain ⟨⟨r, l2⟩, e2, h⟩ := map_inv h
    cases h
    obtain ⟨h1, h2⟩ := rowIn_inv e2
    have q0 := intIn_inv e0
    have q1 := natIn_inv e1
    simp only at q0 q1 h2
    exact ⟨by rw [q0, q1, h2], h1⟩
  · obtain ⟨rs, e, rfl⟩ := map_inv h
    obtain ⟨h1, h2, h3⟩ := rowsIn_inv (all_inv e)
    exact ⟨by rw [h3], h1, h2⟩
  · obtain ⟨⟨m, l1⟩, e1, h⟩ := bind_inv (all_inv h)
    obtain ⟨⟨r, l2⟩, e2, h⟩ := map_inv h
    cases h
    obtain ⟨h1, h2, h3⟩ := rowsIn_inv e2
    have q1 := natIn_inv e1
    simp only at q1 h3
    exact ⟨by rw [q1, h3], h1, h2⟩
  · cases h
def cenc (xs : List (List Int)) : List Int := xs.flatMap fun x => 0 :: (x.length : Int) :: x
theorem cenc_cons (x : List Int) (xs : List (List Int)) : cenc (x :: xs) = 0 :: (x.length : Int) :: (x ++ cenc xs) := rfl
theorem call_inv {l t : List Int} {c : List (List Int)} (h : PyFlat.call PySw69.shape l = some (c, t)) : ∃ x, c = [[0], x] ∧ l = 0 :: (x.length : Int) :: (x ++ t) := by
  cases l with
  | nil => cases h
  | cons p r =>
    have h : (match PySw69.shape p with
      | none => none
      | some (n, k) => if r.length < n then none else match PyFlat.rows k (r.drop n) with
        | none => none
        | some (xs, t) => some ((p :: r.take n) :: xs, t)) = some (c, t) := h
    by_cases hp : p = 0
    · subst hp
      have e : PySw69.shape 0 = some (0, 1) := rfl
      rw [e] at h
      simp only [Nat.not_lt_zero, if_false, List.drop_zero, List.take_zero] at h
      unfold PyFlat.rows at h
      cases e1 : PyFlat.row r with
      | none => rw [e1] at h; cases h
      | some y =>
        obtain ⟨x, s⟩ := y
        rw [e1] at h
        unfold PyFlat.rows at h
        cases h
        refine ⟨x, rfl, ?_⟩
        cases r with
        | nil => cases e1
        | cons n r =>
          have e1 : (if 0 ≤ n ∧ n.toNat ≤ r.length then some (r.take n.toNat, r.drop n.toNat) else none) = some (x, t) := e1
          split at e1
          · rename_i q
            have e2 := Option.some.inj e1
            injection e2 with e2 e3
            subst e2 e3
            rw [List.take_append_drop, List.length_take, Nat.min_eq_left q.2]
            congr 2
            omega
          · cases e1
    · have e : PySw69.shape p = none := if_neg hp
      rw [e] at h
      cases h
theorem calls_inv : ∀ (f : Nat) {l : List Int} {cs : List (List (List Int))}, PyFlat.calls PySw69.shape f l = some cs → ∃ xs : List (List Int), cs = xs.map (fun x => [[0], x]) ∧ l = cenc xs
  | f, [], cs, h => by
    have e : PyFlat.calls PySw69.shape f [] = some [] := by cases f <;> rfl
    rw [e] at h
    cases h
    exact ⟨[], rfl, rfl⟩
  | 0, p :: r, cs, h => by cases h
  | f + 1, p :: r, cs, h => by
    unfold PyFlat.calls at h
    cases e : PyFlat.call PySw69.shape (p :: r) with
    | none => rw [e] at h; cases h
    | some y =>
      obtain ⟨c, t⟩ := y
      rw [e] at h
      simp only at h
      cases e2 : PyFlat.calls PySw69.shape f t with
      | none => rw [e2] at h; cases h
      | some cs' =>
        rw [e2] at h
        cases h
        obtain ⟨x, rfl, h1⟩ := call_inv e
        obtain ⟨xs, rfl, h2⟩ := calls_inv f e2
        exact ⟨x :: xs, rfl, by rw [h1, h2]; rfl⟩
def play : Sw69.St → List (List Int) → List (List Int)
  | _, [] => []
  | s, x :: r => (Sw69Neutral.step s x).2 :: play (Sw69Neutral.step s x).1 r
theorem played_eq : ∀ (xs : List (List Int)) (s : Sw69.St), PyFlat.played (fun s c => Sw69Neutral.step s (c.headD [])) s (xs.map fun x => [x]) = play s xs
  | [], s => rfl
  | x :: r, s => by
    show (Sw69Neutral.step s x).2 :: PyFlat.played _ (Sw69Neutral.step s x).1 (r.map fun x => [x]) = _
    rw [played_eq r]
    rfl
theorem play_len : ∀ (xs : List (List Int)) (s : Sw69.St), (enc (play s xs)).length = Sw69Neutral.many s xs + xs.length
  | [], s => rfl
  | x :: r, s => by
    show (enc ((Sw69Neutral.step s x).2 :: play (Sw69Neutral.step s x).1 r)).length = _
    rw [enc_cons, List.length_cons, List.length_append, play_len r]
    show _ = (Sw69Neutral.step s x).2.length + Sw69Neutral.many (Sw69Neutral.step s x).1 r + (r.length + 1)
    omega
theorem asked_inv {l : List Int} (h : PySw69.answers_asked l = true) : ∃ xs : List (List Int), l = cenc xs ∧ PySw69.answers l = enc (play Sw69.init xs) ∧ (∀ x ∈ xs, ∃ c, callOf x = some c) ∧ (enc (play Sw69.init xs)).length ≤ 1000030 := by
  unfold PySw69.answers_asked at h
  cases e : PySw69.calls l with
  | none => rw [e] at h; cases h
  | some cs =>
    rw [e] at h
    have e' := e
    unfold PySw69.calls at e'
    cases e2 : PyFlat.calls PySw69.shape l.length l with
    | none => rw [e2] at e'; cases e'
    | some cs0 =>
      rw [e2] at e'
      obtain ⟨xs, rfl, hl⟩ := calls_inv _ e2
      have hcs : cs = xs.map fun x => [x] := by
        have := (Option.some.inj e').symm
        rw [this, List.map_map]
        rfl
      subst hcs
      simp only at h
      rw [Bool.and_eq_true] at h
      have hm : ((xs.map fun x => [x]).map fun c => c.headD []) = xs := by
        rw [List.map_map]
        exact List.map_id' xs
      rw [hm] at h
      obtain ⟨_, h⟩ := h
      unfold Sw69Neutral.asked at h
      rw [Bool.and_eq_true, Bool.and_eq_true, Bool.and_eq_true] at h
      obtain ⟨h1, h2, h3, h4⟩ := h
      have h3 := of_decide_eq_true h3
      have h4 := of_decide_eq_true h4
      refine ⟨xs, hl, ?_, fun x hx => ?_, ?_⟩
      · unfold PySw69.answers
        rw [e]
        show PyFlat.told (PyFlat.played _ Sw69Neutral.start _) = _
        rw [played_eq]
        rfl
      · have := List.all_eq_true.mp h1 x hx
        exact Option.isSome_iff_exists.mp this
      · rw [play_len]
        have h4 : Sw69Neutral.many Sw69.init xs ≤ 1000000 := h4
        omega
end CN
end
section
set_option maxRecDepth 100000
set_option maxHeartbeats 4000000
namespace CN
open PySem PySem.Spec PyProof.Rows L2
def Kp2 (x y : Addr) (H H' : Hp) : Prop := ∀ b o, H b = some o → b ≠ x → b ≠ y → H' b = some o
theorem free_kp {a b : Addr} {H H1 : Hp} {o : HO} (k : Kp a H H1) (h : H1 a = some o) (n : H1 b = none) : H b = none := by
  cases e : H b with
  | none => rfl
  | some u =>
    by_cases z : b = a
    · rw [z, h] at n
      cases n
    · rw [k _ _ e z] at n
      cases n
theorem eqT {z k : Int} {A B : Prop} (h : z = k) (a : A) : if decide (V.int z = V.int k) = true then A else B := by
  rw [decide_eq_true (by rw [h]), if_pos rfl]
  exact a
theorem eqF {z k : Int} {A B : Prop} (h : z ≠ k) (b : B) : if decide (V.int z = V.int k) = true then A else B := by
  rw [decide_eq_false (fun y => h (by injection y)), if_neg Bool.false_ne_true]
  exact b
section
variable {P : Program} {w : World} {K : PySem.W.Frag} {mg : Str → Option Value} {base : Heap} {CC CL CR CS : Addr}
def sp_aof (K : PySem.W.Frag) (CC CL CR : Addr) : Sp := fun vs H Q _ => ∃ (la ra b : Addr) (st : Sw69.St) (x : List Int) (c : Sw69.Call) (N : Addr → Prop), vs = [.ref la, .ref ra] ∧ LineP N CC CL H la st ∧ RdL K CR H ra b x x ∧ Shape c x ∧ (∀ b, H b = none → N b) ∧
  ∀ H' p, Kp2 la ra H H' → LineP N CC CL H' la (Sw69.step st c).1 → LI H' p (Sw69Neutral.out (Sw69.step st c).2) → Q (.ref p) H'
theorem ok_aof {f : Addr} {fd : FuncData} (F : Fun K "answer_of" "answer_of" s_answer_of f fd) (T : Tx K mg CC CL CR CS) (m_Reader_number : MCal P w K mg base 1 CR "number" ["self"] (sp_num K CR)) (m_Reader_several : MCal P w K mg base 1 CR "several" ["self", "how_many"] (sp_sev K CR)) (m_Reader_row : MCal P w K mg base 2 CR "row" ["self"] (sp_row K CR)) (m_Reader_rows : MCal P w K mg base 3 CR "rows" ["self"] (sp_rows K CR))
    (m_Line_begin : MCal P w K mg base 3 CL "begin" ["self"] (sp_begin CC CL)) (c_call_kinds : Cal P w K mg base 5 "call_kinds" ["line", "rows"] (sp_ckinds CC CL)) (c_call_modes : Cal P w K mg base 5 "call_modes" ["line", "rows"] (sp_cmodes CC CL)) (c_call_costs : Cal P w K mg base 3 "call_costs" ["line", "singles", "table"] (sp_ccosts CC CL))
    (c_call_names : Cal P w K mg base 4 "call_names" ["line", "most", "chord"] (sp_cnames CC CL)) (c_call_degree : Cal P w K mg base 3 "call_degree" ["line", "tonic", "mode", "notes"] (sp_cdegree CC CL)) (c_call_common : Cal P w K mg base 5 "call_common" ["line", "chords"] (sp_ccommon CC CL)) (c_call_through : Cal P w K mg base 7 "call_through" ["line", "most", "chords"] (sp_cthru CC CL)) :
    FnOk P w K mg base CX0 8 f fd ["line", "reader"] (sp_aof K CC CL CR) := by
  refine F.ok sc_answer_of (fun vs H Q E h => ?_) (fun cdv A outer s H vs Q E hr h => ?_)
  · obtain ⟨la, ra, b, st, x, c, N, rfl, _⟩ := h
    rfl
  · obtain ⟨la, ra, b, st, x, c, N, rfl, hL, hR, hS, hN, kq⟩ := h
    obtain ⟨dx, fs, hra, hno⟩ := RdL.ins hR
    have num : ∀ (v2 : Option V) (H1 : Hp) (z : Int) (l : List Int), RdL K CR H1 ra b x (z :: l) → ∀ Q' : VK, (∀ H2, Kp ra H1 H2 → RdL K CR H2 ra b x l → Q' (.int z) H2) → tMeth CR ("number" : Str) (sp_num K CR) [] E0 (tVar 1) tNil [some (.ref la), some (.ref ra), v2] H1 Q' := fun v2 H1 z l hR1 Q' k => by
      obtain ⟨dx1, fs1, h1, h2⟩ := RdL.ins hR1
      exact ⟨_, rfl, ra, dx1, fs1, rfl, h1, h2 _ (by decide +kernel) (by decide +kernel), ra, b, z, x, l, rfl, hR1, k⟩
    have row : ∀ (v2 : Option V) (H1 : Hp) (r l : List Int), RdL K CR H1 ra b x ((r.length : Int) :: (r ++ l)) → ∀ Q' : VK, (∀ H2 q, Kp ra H1 H2 → H1 q = none → RdL K CR H2 ra b x l → LI H2 q r → Q' (.ref q) H2) → tMeth CR ("row" : Str) (sp_row K CR) [] E0 (tVar 1) tNil [some (.ref la), some (.ref ra), v2] H1 Q' := fun v2 H1 r l hR1 Q' k => by
      obtain ⟨dx1, fs1, h1, h2⟩ := RdL.ins hR1
      exact ⟨_, rfl, ra, dx1, fs1, rfl, h1, h2 _ (by decide +kernel) (by decide +kernel), ra, b, r, x, l, rfl, hR1, k⟩
    have rows : ∀ (v2 : Option V) (H1 : Hp) (rs : List (List Int)) (l : List Int), RdL K CR H1 ra b x ((rs.length : Int) :: (enc rs ++ l)) → rs.length ≤ 70 → Kp ra H H1 → ∀ Q' : VK, (∀ H2 q, Kp ra H H2 → RLP N H2 q rs → LineP N CC CL H2 la st → Q' (.ref q) H2) → tMeth CR ("rows" : Str) (sp_rows K CR) [] E0 (tVar 1) tNil [some (.ref la), some (.ref ra), v2] H1 Q' := fun v2 H1 rs l hR1 hl k1 Q' k => by
      obtain ⟨dx1, fs1, h1, h2⟩ := RdL.ins hR1
      exact ⟨_, rfl, ra, dx1, fs1, rfl, h1, h2 _ (by decide +kernel) (by decide +kernel), ra, b, rs, x, l, N, rfl, hR1, hl, fun b n => hN _ (free_kp k1 h1 n), fun H2 q k2 hq hR2 hq2 => k H2 q (k1.trans k2) hq2 (LineP.kr hL hR (k1.trans k2))⟩
    have done : ∀ (H1 : Hp), Kp ra H H1 → LineP N CC CL H1 la st → CQ N CC CL H1 la st c Q := fun H1 k1 _ H2 p k2 hL2 hp2 => kq H2 p (fun b o e n1 n2 => k2 _ _ (k1 _ _ e n2) n1) hL2 hp2
    refine ⟨_, (pss_cons (ps_set (i := 2) sc_answer_of.nd rfl (by first | exact Or.inl rfl | exact Or.inr rfl) (pmt0 m_Reader_number (hr.mono (by decide)) (pv 1))) (pss_cons (ps_if (pt_cmpR op_eq (pv 2) (pgI T.BEGINS) (nomark _)) (pss_cons (ps_expr (pmt0 m_Line_begin (hr.mono (by decide)) (pv 0))) (pss_one (ps_ret (pe_lst (pa_cons pe_int pa_nil))))) pss_nil) (pss_cons (ps_if (pt_cmpR op_eq (pv 2) (pgI T.KINDS) (nomark _)) (pss_one (ps_ret (pcl c_call_kinds (hr.mono (by decide)) (pa_cons (pv 0) (pa_cons (pmt0 m_Reader_rows (hr.mono (by decide)) (pv 1)) pa_nil))))) pss_nil) (pss_cons (ps_if (pt_cmpR op_eq (pv 2) (pgI T.MODES) (nomark _)) (pss_one (ps_ret (pcl c_call_modes (hr.mono (by decide)) (pa_cons (pv 0) (pa_cons (pmt0 m_Reader_rows (hr.mono (by decide)) (pv 1)) pa_nil))))) pss_nil) (pss_cons (ps_if (pt_cmpR op_eq (pv 2) (pgI T.COSTS) (nomark _)) (pss_one (ps_ret (pcl c_call_costs (hr.mono (by decide)) (pa_cons (pv 0) (pa_cons (pmt m_Reader_several (hr.mono (by decide)) (pv 1) (pa_cons (pgI T.SINGLE_COSTS) pa_nil)) (pa_cons (pmt0 m_Reader_row (hr.mono (by decide)) (pv 1)) pa_nil)))))) pss_nil) (pss_cons (ps_if (pt_cmpR op_eq (pv 2) (pgI T.NAMES) (nomark _)) (pss_one (ps_ret (pcl c_call_names (hr.mono (by decide)) (pa_cons (pv 0) (pa_cons (pmt0 m_Reader_number (hr.mono (by decide)) (pv 1)) (pa_cons (pmt0 m_Reader_row (hr.mono (by decide)) (pv 1)) pa_nil)))))) pss_nil) (pss_cons (ps_if (pt_cmpR op_eq (pv 2) (pgI T.DEGREE) (nomark _)) (pss_one (ps_ret (pcl c_call_degree (hr.mono (by decide)) (pa_cons (pv 0) (pa_cons (pmt0 m_Reader_number (hr.mono (by decide)) (pv 1)) (pa_cons (pmt0 m_Reader_number (hr.mono (by decide)) (pv 1)) (pa_cons (pmt0 m_Reader_row (hr.mono (by decide)) (pv 1)) pa_nil))))))) pss_nil) (pss_cons (ps_if (pt_cmpR op_eq (pv 2) (pgI T.COMMON) (nomark _)) (pss_one (ps_ret (pcl c_call_common (hr.mono (by decide)) (pa_cons (pv 0) (pa_cons (pmt0 m_Reader_rows (hr.mono (by decide)) (pv 1)) pa_nil))))) pss_nil) (pss_one (ps_ret (pcl c_call_through (hr.mono (by decide)) (pa_cons (pv 0) (pa_cons (pmt0 m_Reader_number (hr.mono (by decide)) (pv 1)) (pa_cons (pmt0 m_Reader_rows (hr.mono (by decide)) (pv 1)) pa_nil)))))))))))))), ?_⟩
    cases c with
    | begins =>
      have hS : x = [0] := hS
      subst hS
      refine (num _ H 0 [] hR _ fun H1 k1 hR1 => ⟨_, rfl, rfl, _, rfl, eqT rfl ?_⟩)
      have hL1 := LineP.kr hL hR k1
      obtain ⟨dl, ka, ma, ca, dc, tb, g1, _⟩ := id hL1
      obtain ⟨dx1, fs1, h1, _⟩ := RdL.ins hR1
      refine ⟨_, rfl, la, dl, _, rfl, g1, lF_no (by decide +kernel) (by decide +kernel) (by decide +kernel), la, dl, _, N, rfl, g1, .inr ⟨ka, ma, ca, rfl⟩, fun b n => hN _ (free_kp k1 h1 n), fun H2 k2 hL2 => ?_⟩
      refine ⟨(by show 1 ≤ sizeLine; decide), fun p hp => kq _ p (fun b o e n1 n2 => Same.nw (Same.refl H2) hp _ _ (k2 _ _ (k1 _ _ e n2) n1)) (LineP.mv hL2 (Same.nw (Same.refl _) hp)) upd_same⟩
    | kinds rs =>
      obtain ⟨hx, hl1, hl2⟩ := hS
      subst hx
      refine (num _ H 1 _ hR _ fun H1 k1 hR1 => ⟨_, rfl, rfl, _, rfl, eqF (by decide) ⟨_, rfl, rfl, _, rfl, eqT rfl ?_⟩⟩)
      exact ⟨_, rfl, rows _ H1 rs [] hR1 hl1 k1 _ fun H2 q k2 hq hL2 => ⟨la, q, st, rs, N, rfl, hL2, hq, hl1, hl2, done H2 k2 hL2⟩⟩
    | modes rs =>
      obtain ⟨hx, hl1, hl2⟩ := hS
      subst hx
      refine (num _ H 2 _ hR _ fun H1 k1 hR1 => ⟨_, rfl, rfl, _, rfl, eqF (by decide) ⟨_, rfl, rfl, _, rfl, eqF (by decide) ⟨_, rfl, rfl, _, rfl, eqT rfl ?_⟩⟩⟩)
      exact ⟨_, rfl, rows _ H1 rs [] hR1 hl1 k1 _ fun H2 q k2 hq hL2 => ⟨la, q, st, rs, N, rfl, hL2, hq, hl1, hl2, done H2 k2 hL2⟩⟩
    | costs c =>
      obtain ⟨hx, hl1⟩ := hS
      subst hx
      refine (num _ H 3 _ hR _ fun H1 k1 hR1 => ⟨_, rfl, rfl, _, rfl, eqF (by decide) ⟨_, rfl, rfl, _, rfl, eqF (by decide) ⟨_, rfl, rfl, _, rfl, eqF (by decide) ⟨_, rfl, rfl, _, rfl, eqT rfl ?_⟩⟩⟩⟩)
      obtain ⟨dx1, fs1, h1, h2⟩ := RdL.ins hR1
      refine ⟨_, rfl, _, rfl, ra, dx1, fs1, rfl, h1, h2 _ (by decide +kernel) (by decide +kernel), ra, b, c6 c, _, _, rfl, hR1, fun H2 sa k2 hsa hR2 hs2 => ?_⟩
      refine (row _ H2 (cst c) [] hR2 _ fun H3 ta k3 hta hR3 ht3 => ?_)
      obtain ⟨dx2, fs2, h3, _⟩ := RdL.ins hR2
      have k12 := k1.trans k2
      have k13 := k12.trans k3
      have hL3 := LineP.kr hL hR k13
      exact ⟨la, sa, ta, st, c, N, rfl, hL3, k3 _ _ hs2 (ne_of hs2 h3 (by intro z; cases z)), ht3, hN _ (free_kp k12 h3 hta), hl1, done H3 k13 hL3⟩
    | names most c =>
      obtain ⟨hx, hl1⟩ := hS
      subst hx
      refine (num _ H 4 _ hR _ fun H1 k1 hR1 => ⟨_, rfl, rfl, _, rfl, eqF (by decide) ⟨_, rfl, rfl, _, rfl, eqF (by decide) ⟨_, rfl, rfl, _, rfl, eqF (by decide) ⟨_, rfl, rfl, _, rfl, eqF (by decide) ⟨_, rfl, rfl, _, rfl, eqT rfl ?_⟩⟩⟩⟩⟩)
      refine ⟨_, rfl, num _ H1 most _ hR1 _ fun H2 k2 hR2 => (row _ H2 c [] hR2 _ fun H3 ca k3 hca hR3 hc3 => ?_)⟩
      have k13 := (k1.trans k2).trans k3
      have hL3 := LineP.kr hL hR k13
      exact ⟨la, ca, st, most, c, N, rfl, hL3, hc3, hl1, done H3 k13 hL3⟩
    | degree k l =>
      obtain ⟨hx, hl1⟩ := hS
      subst hx
      refine (num _ H 5 _ hR _ fun H1 k1 hR1 => ⟨_, rfl, rfl, _, rfl, eqF (by decide) ⟨_, rfl, rfl, _, rfl, eqF (by decide) ⟨_, rfl, rfl, _, rfl, eqF (by decide) ⟨_, rfl, rfl, _, rfl, eqF (by decide) ⟨_, rfl, rfl, _, rfl, eqF (by decide) ⟨_, rfl, rfl, _, rfl, eqT rfl ?_⟩⟩⟩⟩⟩⟩)
      refine ⟨_, rfl, num _ H1 k.tonic _ hR1 _ fun H2 k2 hR2 => (num _ H2 k.mode _ hR2 _ fun H3 k3 hR3 => (row _ H3 l [] hR3 _ fun H4 ca k4 hca hR4 hc4 => ?_))⟩
      have k14 := ((k1.trans k2).trans k3).trans k4
      have hL4 := LineP.kr hL hR k14
      exact ⟨la, ca, st, k.tonic, k.mode, l, N, rfl, hL4, hc4, hl1, done H4 k14 hL4⟩
    | common rs =>
      obtain ⟨hx, hl1, hl2⟩ := hS
      subst hx
      refine (num _ H 6 _ hR _ fun H1 k1 hR1 => ⟨_, rfl, rfl, _, rfl, eqF (by decide) ⟨_, rfl, rfl, _, rfl, eqF (by decide) ⟨_, rfl, rfl, _, rfl, eqF (by decide) ⟨_, rfl, rfl, _, rfl, eqF (by decide) ⟨_, rfl, rfl, _, rfl, eqF (by decide) ⟨_, rfl, rfl, _, rfl, eqF (by decide) ⟨_, rfl, rfl, _, rfl, eqT rfl ?_⟩⟩⟩⟩⟩⟩⟩)
      exact ⟨_, rfl, rows _ H1 rs [] hR1 hl1 k1 _ fun H2 q k2 hq hL2 => ⟨la, q, st, rs, N, rfl, hL2, RLP.rl hq, hl1, hl2, done H2 k2 hL2⟩⟩
    | through most rs =>
      obtain ⟨hx, hl1, hl2⟩ := hS
      subst hx
      refine (num _ H 7 _ hR _ fun H1 k1 hR1 => ⟨_, rfl, rfl, _, rfl, eqF (by decide) ⟨_, rfl, rfl, _, rfl, eqF (by decide) ⟨_, rfl, rfl, _, rfl, eqF (by decide) ⟨_, rfl, rfl, _, rfl, eqF (by decide) ⟨_, rfl, rfl, _, rfl, eqF (by decide) ⟨_, rfl, rfl, _, rfl, eqF (by decide) ⟨_, rfl, rfl, _, rfl, eqF (by decide) ?_⟩⟩⟩⟩⟩⟩⟩)
      exact ⟨_, rfl, num _ H1 most _ hR1 _ fun H2 k2 hR2 => (rows _ H2 rs [] hR2 hl1 (k1.trans k2) _ fun H3 q k3 hq hL3 => ⟨la, q, st, most, rs, N, rfl, hL3, RLP.rl hq, hl1, hl2, done H3 k3 hL3⟩)⟩
end
end CN
end
section
set_option maxRecDepth 100000
set_option maxHeartbeats 4000000
namespace CN
open PySem PySem.Spec PyProof.Rows L2
theorem LineP.up {N N' : Addr → Prop} {CC CL : Addr} {H : Hp} {la : Addr} {st : Sw69.St} (h : LineP N CC CL H la st) (hn : ∀ b l, H b = some (.lst l) → N' b) : LineP N' CC CL H la st := by
  have r : ∀ {a : Addr} {xs : List (List Int)}, RLP N H a xs → RLP N' H a xs := fun {a xs} ⟨_, as, h1, h2⟩ => ⟨hn _ _ h1, as, h1, Paired.mapP h2 fun b r z => ⟨hn _ _ z.2, z.2⟩⟩
  obtain ⟨dx, ka, ma, ca, dc, tb, h1, h2, h3, h4, h5, h6, h7⟩ := h
  exact ⟨dx, ka, ma, ca, dc, tb, h1, r h2, r h3, h4, hn _ _ h6, h6, h7⟩
theorem big {n : Nat} (h : n ≤ 1000030) : n ≤ sizeLine := by rw [sizeLine_eq]; omega
theorem play_cons (s : Sw69.St) (x : List Int) (r : List (List Int)) : play s (x :: r) = (Sw69Neutral.step s x).2 :: play (Sw69Neutral.step s x).1 r := rfl
theorem seq_kp2 {K : PySem.W.Frag} {H H' : Hp} {b x y C D dx dy : Addr} {fs gs : FL} {xs : List V} (h : SqL K H b xs) (hx : H x = some (.ins C dx fs)) (hy : H y = some (.ins D dy gs)) (k : Kp2 x y H H') : SqL K H' b xs := by
  rcases h with (h | ⟨o, h⟩) | h
  · exact .inl (.inl (k _ _ h (ne_of h hx (by intro z; cases z)) (ne_of h hy (by intro z; cases z))))
  · exact .inl (.inr ⟨o, k _ _ h (ne_of h hx (by intro z; cases z)) (ne_of h hy (by intro z; cases z))⟩)
  · exact .inr h
theorem seq_ne {K : PySem.W.Frag} {H H' : Hp} {b x : Addr} {xs : List V} (h : SqL K H b xs) (n : b ≠ x) (k : Kp x H H') : SqL K H' b xs := by
  rcases h with (h | ⟨o, h⟩) | h
  · exact .inl (.inl (k _ _ h n))
  · exact .inl (.inr ⟨o, k _ _ h n⟩)
  · exact .inr h
section
variable {P : Program} {w : World} {K : PySem.W.Frag} {mg : Str → Option Value} {base : Heap} {CC CL CR CS : Addr}
def sp_ans (K : PySem.W.Frag) : Sp := fun vs H Q _ => ∃ (a : Addr) (ns : List Int), vs = [.ref a] ∧ SqL K H a (ns.map V.int) ∧ PySw69.answers_asked ns = true ∧ ∀ (H' : Hp) (p : Addr), LI H' p (PySw69.answers ns) → Q (.ref p) H'
theorem ok_ans {f : Addr} {fd : FuncData} (F : Fun K "answers" "answers" s_answers f fd) (T : Tx K mg CC CL CR CS) (m_Line : KCal P w K mg base 4 CL "Line" ["self"] (sp_Linit CC CL)) (m_Reader : KCal P w K mg base 1 CR "Reader" ["self", "numbers"] (sp_Rinit K CR)) (m_Reader_has_more : MCal P w K mg base 1 CR "has_more" ["self"] (sp_more K CR))
    (m_Reader_number : MCal P w K mg base 1 CR "number" ["self"] (sp_num K CR)) (m_Reader_row : MCal P w K mg base 2 CR "row" ["self"] (sp_row K CR)) (c_with_count : Cal P w K mg base 1 "with_count" ["numbers"] sp_with_count) (c_answer_of : Cal P w K mg base 8 "answer_of" ["line", "reader"] (sp_aof K CC CL CR)) :
    FnOk P w K mg base CX0 9 f fd ["calls"] (sp_ans K) := by
  refine F.ok sc_answers (fun vs H Q E h => ?_) (fun cdv A outer s H vs Q E hr h => ?_)
  · obtain ⟨a, ns, rfl, _⟩ := h
    rfl
  · obtain ⟨a, ns, rfl, ha, hask, kq⟩ := h
    obtain ⟨xs, hxs, hA, hcall, hlen⟩ := asked_inv hask
    rw [hA] at kq
    generalize hO : enc (play Sw69.init xs) = out0 at hA kq hlen
    refine ⟨_, (pss_cons (ps_set (i := 1) sc_answers.nd rfl (by first | exact Or.inl rfl | exact Or.inr rfl) (pmk0 m_Line (hr.mono (by decide)))) (pss_cons (ps_set (i := 2) sc_answers.nd rfl (by first | exact Or.inl rfl | exact Or.inr rfl) (pmk m_Reader (hr.mono (by decide)) (pa_cons (pv 0) pa_nil))) (pss_cons (ps_set (i := 3) sc_answers.nd rfl (by first | exact Or.inl rfl | exact Or.inr rfl) (pe_lst pa_nil)) (pss_cons (ps_while PassesOwn.never (pt_truth (pmt0 m_Reader_has_more (hr.mono (by decide)) (pv 2)) (fun _ => rfl)) (pss_cons (ps_expr (pmt0 m_Reader_number (hr.mono (by decide)) (pv 2))) (pss_one (ps_expr (pe_bm PySem.F.plainAttrs_list PySem.F.slot_list_extend PySem.F.type_list_extend mt_extend (pv 3) (pa_cons (pcl c_with_count (hr.mono (by decide)) (pa_cons (pcl c_answer_of (hr.mono (by decide)) (pa_cons (pv 1) (pa_cons (pmk m_Reader (hr.mono (by decide)) (pa_cons (pmt0 m_Reader_row (hr.mono (by decide)) (pv 2)) pa_nil)) pa_nil))) pa_nil)) pa_nil)))))) (pss_one (ps_ret (pv 3))))))), ?_⟩
    -- line = Line()
    intro la dl hla hdl hne
    have s1 : Same H (upd (upd H dl (.own la)) la (.ins CL dl [])) := Same.up (Same.nw (Same.refl _) hdl) hla
    have e1 : upd (upd H dl (.own la)) la (.ins CL dl []) la = some (.ins CL dl []) := upd_same
    generalize upd (upd H dl (.own la)) la (.ins CL dl []) = H1 at s1 e1 ⊢
    refine ⟨la, dl, fun _ => True, rfl, e1, fun _ _ => trivial, fun H2 k2 hL2 => ⟨rfl, ?_⟩⟩
    have ha2 : SqL K H2 a (ns.map V.int) := seq_ins (s1.seq ha) e1 k2
    -- reader = Reader(calls)
    refine ⟨_, rfl, fun ra dr hra hdr hne2 => ?_⟩
    have s3 : Same H2 (upd (upd H2 dr (.own ra)) ra (.ins CR dr [])) := Same.up (Same.nw (Same.refl _) hdr) hra
    have e3 : upd (upd H2 dr (.own ra)) ra (.ins CR dr []) ra = some (.ins CR dr []) := upd_same
    generalize upd (upd H2 dr (.own ra)) ra (.ins CR dr []) = H3 at s3 e3 ⊢
    refine ⟨ra, dr, a, ns, rfl, e3, s3.seq ha2, fun H4 k4 hR4 => ⟨rfl, ?_⟩⟩
    have hL4 : LineP (fun _ => True) CC CL H4 la Sw69.init := LineP.mv hL2 fun b o e => k4 _ _ (s3 _ _ e) (ne_of_none e hra)
    -- given = []
    refine ⟨Nat.zero_le _, fun g hg => ?_⟩
    have s45 : Same H4 (upd H4 g (.lst [])) := Same.nw (Same.refl _) hg
    have g5 : LI (upd H4 g (.lst [])) g [] := upd_same
    have hag : (∀ H', SqL K H' a ((cenc xs).map V.int)) ∨ a ≠ g := by
      obtain ⟨_, _, _, w, _⟩ := id hR4
      rw [← hxs]
      rcases w with (h | ⟨o, h⟩) | h
      · exact .inr (ne_of_none h hg)
      · exact .inr (ne_of_none h hg)
      · exact .inl fun _ => .inr h
    have hL4' : LineP (fun b => b ≠ g) CC CL H4 la Sw69.init := LineP.up hL4 fun b l e => ne_of_none e hg
    generalize upd H4 g (.lst []) = H5 at s45 g5 ⊢
    have hL5 := LineP.mv hL4' s45
    have hR5 := RdL.mv hR4 s45
    rw [hxs] at hR5
    have hm : ∀ x ∈ xs, ∃ c, Sw69Neutral.callOf x = some c := hcall
    refine ⟨fun m σ H' => ∃ (st : Sw69.St) (ys : List (List Int)) (out : List Int), m = ys.length ∧ σ = [some (.ref a), some (.ref la), some (.ref ra), some (.ref g)] ∧ LineP (fun b => b ≠ g) CC CL H' la st ∧ RdL K CR H' ra a (cenc xs) (cenc ys) ∧ LI H' g out ∧ out ++ enc (play st ys) = out0 ∧ (∀ x ∈ ys, ∃ c, Sw69Neutral.callOf x = some c), ⟨_, Sw69.init, xs, [], rfl, rfl, hL5, hR5, g5, ?_, hcall⟩, ?_⟩
    · exact hO
    · rintro m σ H6 ⟨st, ys, out, rfl, rfl, hL6, hR6, hg6, hout, hc6⟩
      obtain ⟨d6, f6, i6, n6⟩ := RdL.ins hR6
      refine ⟨_, rfl, ra, d6, f6, rfl, i6, n6 _ (by decide +kernel) (by decide +kernel), ra, a, _, _, rfl, hR6, _, rfl, ite2 (fun q => ?_) (fun q => ?_)⟩
      · obtain ⟨x, ys, rfl⟩ : ∃ x l, ys = x :: l := by
          cases ys with
          | nil => cases q
          | cons x l => exact ⟨x, l, rfl⟩
        obtain ⟨c, hc⟩ := hc6 x List.mem_cons_self
        have hstep : Sw69Neutral.step st x = ((Sw69.step st c).1, Sw69Neutral.out (Sw69.step st c).2) := by
          unfold Sw69Neutral.step
          rw [hc]
        rw [cenc_cons] at hR6
        rw [play_cons, enc_cons, hstep] at hout
        dsimp only at hout
        refine ⟨_, fun σ' H' z => ⟨ys.length, by simp, z⟩, ?_⟩
        -- reader.number()
        refine ⟨_, rfl, ra, d6, f6, rfl, i6, n6 _ (by decide +kernel) (by decide +kernel), ra, a, 0, _, _, rfl, hR6, fun H7 k7 hR7 => ?_⟩
        have hL7 := LineP.kr hL6 hR6 k7
        have hg7 := k7 _ _ hg6 (ne_of hg6 i6 (by intro z; cases z))
        obtain ⟨d7, f7, i7, n7⟩ := RdL.ins hR7
        -- reader.row()
        refine ⟨_, rfl, .inl ⟨rfl, _, SqL.of hg7⟩, _, rfl, _, rfl, ra, d7, f7, rfl, i7, n7 _ (by decide +kernel) (by decide +kernel), ra, a, x, _, cenc ys, rfl, hR7, fun H8 q8 k8 hq8 hR8 hl8 => fun y dy hy hdy hne3 => ?_⟩
        have hL8 := LineP.kr hL7 hR7 k8
        have hg8 := k8 _ _ hg7 (ne_of hg7 i7 (by intro z; cases z))
        have s89 : Same H8 (upd (upd H8 dy (.own y)) y (.ins CR dy [])) := Same.up (Same.nw (Same.refl _) hdy) hy
        have y9 : upd (upd H8 dy (.own y)) y (.ins CR dy []) y = some (.ins CR dy []) := upd_same
        generalize upd (upd H8 dy (.own y)) y (.ins CR dy []) = H9 at s89 y9 ⊢
        refine ⟨y, dy, q8, x, rfl, y9, SqL.of (s89 _ _ hl8), fun HA kA hRA => ?_⟩
        have s8A : Same H8 HA := fun b o e => kA _ _ (s89 _ _ e) (ne_of_none e hy)
        have hLA := LineP.mv hL8 s8A
        have hROA := RdL.mv hR8 s8A
        have hgA := s8A _ _ hg8
        obtain ⟨dA, fA, iA, _⟩ := RdL.ins hRA
        obtain ⟨dl2, ka2, ma2, ca2, dc2, tb2, lA, _⟩ := id hLA
        refine ⟨rfl, la, y, q8, st, x, c, fun b => b ≠ g, rfl, hLA, hRA, callOf_inv hc, fun b n => ?_, fun HB p kB hLB hpB => ?_⟩
        · exact (ne_of_none hgA n).symm
        have hgB := kB _ _ hgA (ne_of hgA lA (by intro z; cases z)) (ne_of hgA iA (by intro z; cases z))
        have hROB : RdL K CR HB ra a (cenc xs) (cenc ys) := by
          obtain ⟨dr2, pr2, w1, w2, w3⟩ := id hROA
          refine ⟨dr2, pr2, kB _ _ w1 (fun z => ?_) (fun z => ?_), seq_kp2 w2 lA iA kB, w3⟩
          · rw [z, lA] at w1
            cases w1
          · obtain ⟨_, _, w4, _⟩ := hR8
            exact ne_of_none w4 hy z
        have hsz : out.length + (1 + ((Sw69Neutral.out (Sw69.step st c).2).length + (enc (play (Sw69.step st c).1 ys)).length)) = out0.length := by
          rw [← hout, List.length_append, List.length_cons, List.length_append]
          omega
        refine ⟨p, _, rfl, hpB, Nat.lt_of_lt_of_le (Nat.lt_succ_self _) (big (by omega)), fun HC r sC hr hrC => ⟨g, r, _, _, rfl, rfl, sC _ _ hgB, hrC, ?_, ?_⟩⟩
        · rw [List.length_map, List.length_map, List.length_cons]
          exact big (by omega)
        · have kD : Kp g HC (upd HC g (.lst (out.map V.int ++ (((Sw69Neutral.out (Sw69.step st c).2).length : Int) :: Sw69Neutral.out (Sw69.step st c).2).map V.int))) := Kp.up (Kp.refl _ _)
          have gD : LI (upd HC g (.lst (out.map V.int ++ (((Sw69Neutral.out (Sw69.step st c).2).length : Int) :: Sw69Neutral.out (Sw69.step st c).2).map V.int))) g (out ++ (((Sw69Neutral.out (Sw69.step st c).2).length : Int) :: Sw69Neutral.out (Sw69.step st c).2)) := by
            show upd _ _ _ _ = _
            rw [upd_same, List.map_append]
          generalize upd HC g (.lst (out.map V.int ++ (((Sw69Neutral.out (Sw69.step st c).2).length : Int) :: Sw69Neutral.out (Sw69.step st c).2).map V.int)) = HD at kD gD ⊢
          have hgC := sC _ _ hgB
          refine ⟨(Sw69.step st c).1, ys, _, rfl, rfl, LineP.kl (LineP.mv hLB sC) hgC (fun b z => z) kD, ?_, gD, ?_, fun x hx => hc6 x (List.mem_cons_of_mem _ hx)⟩
          · obtain ⟨dr3, pr3, w1, w2, w3⟩ := RdL.mv hROB sC
            refine ⟨dr3, pr3, kD _ _ w1 (ne_of w1 hgC (by intro z; cases z)), ?_, w3⟩
            rcases hag with hag | hag
            · exact hag _
            · exact seq_ne w2 hag kD
          · rw [← hout, List.append_assoc]
            rfl
      · have hn : ys = [] := by
          cases ys with
          | nil => rfl
          | cons x l =>
            exfalso
            apply q
            rw [cenc_cons]
            rfl
        subst hn
        refine ⟨_, rfl, kq H6 g ?_⟩
        have : out = out0 := by
          rw [← hout]
          exact (List.append_nil _).symm
        rw [← this]
        exact hg6
end
end CN
end
section
set_option maxRecDepth 100000
set_option maxHeartbeats 4000000
namespace CN
open PySem PySem.Spec PyProof.Rows L2
/-- a def of the module, found -/
structure FG (K : PySem.W.Frag) (mg : Str → Option Value) (x : Str) (st : Stmt) : Prop where
  ex : ∃ (f : Addr) (fd : FuncData), Fun K x x st f fd ∧ mg x = some (.ref f) ∧ PySem.W.keepIn K (.ref f) = true
/-- a method, found -/
structure MG (K : PySem.W.Frag) (C : Addr) (m qual : Str) (st : Stmt) : Prop where
  ex : ∃ (f : Addr) (fd : FuncData), Fun K m qual st f fd ∧ Meth K C m f
/-- a class, found -/
structure KG (K : PySem.W.Frag) (mg : Str → Option Value) (C : Addr) (x : Str) : Prop where
  cl : Cls K C
  mks : PySem.W.makesIn K C = true
  kp : PySem.W.keepIn K (.ref C) = true
  at_ : mg x = some (.ref C)
section
variable {P : Program} {w : World} {K : PySem.W.Frag} {mg : Str → Option Value} {base : Heap} {h : Heap}
theorem with_fun {G : Prop} (X : K.In h) (Gl : h.Ns mainGlobals mg) {x : Str} {st : Stmt} {f : Addr} {oc : Value} {od an : Option Addr} {osl : Array (Option Value)} {kV doc pm cdv ct : Value} (a : PySem.W.nsIn K mainGlobals x = some (some (.ref f)))
    (l : K.lookup f = some ⟨oc, od, .func (PySem.W.fnOf x x (defArgs st) (defBody st) (defScope st) .none kV doc pm an cdv ct), osl⟩) (c : PySem.W.codeIn K cdv x = true) (k : PySem.W.keepIn K (.ref f) = true) (go : FG K mg x st → G) : G :=
  go ⟨f, _, fun_mk l c k, PySem.W.mg_of X Gl a, k⟩
theorem with_meth {G : Prop} {C : Addr} {m qual : Str} {st : Stmt} {f : Addr} {oc : Value} {od an : Option Addr} {osl : Array (Option Value)} {kV doc pm cdv ct : Value} (a : PySem.W.findIn K (.ref C) m = some (some (.ref f))) (i : PySem.W.isFn K (.ref f) = true)
    (l : K.lookup f = some ⟨oc, od, .func (PySem.W.fnOf m qual (defArgs st) (defBody st) (defScope st) .none kV doc pm an cdv ct), osl⟩) (c : PySem.W.codeIn K cdv qual = true) (k : PySem.W.keepIn K (.ref f) = true) (go : MG K C m qual st → G) : G :=
  go ⟨f, _, fun_mk l c k, a, i, k⟩
theorem with_cls {G : Prop} (X : K.In h) (Gl : h.Ns mainGlobals mg) {x : Str} {C : Addr} (a : PySem.W.nsIn K mainGlobals x = some (some (.ref C))) (pg : PySem.W.plainGet K C Str.empty = true) (hd : PySem.W.hasDictIn K C = true) (po : PySem.W.plainOver K C = true) (sa : PySem.W.findIn K (.ref C) "__setattr__" = some (some (.builtin "object.__setattr__")))
    (mk : PySem.W.makesIn K C = true) (kc : PySem.W.keepIn K (.ref C) = true) (go : KG K mg C x → G) : G := go ⟨⟨pg, hd, po, sa⟩, mk, kc, PySem.W.mg_of X Gl a⟩
theorem with_int {G : Prop} (X : K.In h) (Gl : h.Ns mainGlobals mg) {x : Str} {n : Int} {t : Tok} (a : PySem.W.nsIn K mainGlobals x = some (some (.int n t))) (go : IntG mg x n → G) : G := go ⟨t, PySem.W.mg_of X Gl a⟩
theorem with_blt {G : Prop} (X : K.In h) (Gl : h.Ns mainGlobals mg) {x : Str} (a : PySem.W.nsIn K mainGlobals x = some none) (go : mg x = none → G) : G := go (PySem.W.mg_none_of X Gl a)
theorem with_no {G : Prop} {C : Addr} {x : Str} (a : PySem.W.findIn K (.ref C) x = some none) (go : NoAttr K C x → G) : G := go a
theorem noat {G : Prop} {C : Addr} {y x : Str} (_ : KG K mg C y) (a : PySem.W.findIn K (.ref C) x = some none) (go : NoAttr K C x → G) : G := go a
theorem metat {G : Prop} {C : Addr} {y m qual : Str} {st : Stmt} {f : Addr} {oc : Value} {od an : Option Addr} {osl : Array (Option Value)} {kV doc pm cdv ct : Value} (_ : KG K mg C y) (a : PySem.W.findIn K (.ref C) m = some (some (.ref f))) (i : PySem.W.isFn K (.ref f) = true)
    (l : K.lookup f = some ⟨oc, od, .func (PySem.W.fnOf m qual (defArgs st) (defBody st) (defScope st) .none kV doc pm an cdv ct), osl⟩) (c : PySem.W.codeIn K cdv qual = true) (k : PySem.W.keepIn K (.ref f) = true) (go : MG K C m qual st → G) : G :=
  go ⟨f, _, fun_mk l c k, a, i, k⟩
theorem FG.cal {x : Str} {st : Stmt} {k : Nat} {ps : List Str} {sp : Sp} (g : FG K mg x st) (ok : ∀ f fd, Fun K x x st f fd → FnOk P w K mg base CX0 k f fd ps sp)
    (b : ∀ (kV doc pm : Value) (an : Option Addr) (cdv ct : Value) (us : List Value), us.length = ps.length → bindArgs (PySem.W.fnOf x x (defArgs st) (defBody st) (defScope st) .none kV doc pm an cdv ct) ⟨us, []⟩ = pure (ps.zip us)) : Cal P w K mg base k x ps sp := by
  obtain ⟨f, fd, F, hm, hk⟩ := g.ex
  exact ⟨f, fd, ok f fd F, hm, hk, F.binds b⟩
theorem MG.cal {C : Addr} {m qual : Str} {st : Stmt} {k : Nat} {ps : List Str} {sp : Sp} (g : MG K C m qual st) (cl : Cls K C) (ok : ∀ f fd, Fun K m qual st f fd → FnOk P w K mg base CX0 k f fd ps sp)
    (b : ∀ (kV doc pm : Value) (an : Option Addr) (cdv ct : Value) (us : List Value), us.length = ps.length → bindArgs (PySem.W.fnOf m qual (defArgs st) (defBody st) (defScope st) .none kV doc pm an cdv ct) ⟨us, []⟩ = pure (ps.zip us)) : MCal P w K mg base k C m ps sp := by
  obtain ⟨f, fd, F, M⟩ := g.ex
  exact ⟨f, fd, ok f fd F, cl, M, F.binds b⟩
theorem MG.kal {C : Addr} {x qual : Str} {st : Stmt} {k : Nat} {ps : List Str} {sp : Sp} (g : MG K C "__init__" qual st) (kg : KG K mg C x) (ok : ∀ f fd, Fun K "__init__" qual st f fd → FnOk P w K mg base CX0 k f fd ps sp)
    (b : ∀ (kV doc pm : Value) (an : Option Addr) (cdv ct : Value) (us : List Value), us.length = ps.length → bindArgs (PySem.W.fnOf "__init__" qual (defArgs st) (defBody st) (defScope st) .none kV doc pm an cdv ct) ⟨us, []⟩ = pure (ps.zip us)) : KCal P w K mg base k C x ps sp := by
  obtain ⟨f, fd, F, M⟩ := g.ex
  exact ⟨f, fd, ok f fd F, ⟨kg.mks, M.at_, M.fn, kg.kp⟩, kg.at_, F.binds b⟩
theorem all_mk {CC CL CR CS fa : Addr} (hfa : mg "answers" = some (.ref fa)) (T : Tx K mg CC CL CR CS) (K_Costs : KG K mg CC "Costs") (K_Line : KG K mg CL "Line") (K_Reader : KG K mg CR "Reader") (K_Step : KG K mg CS "Step")
    (g_are_notes : FG K mg "are_notes" s_are_notes)
    (g_are_different_notes : FG K mg "are_different_notes" s_are_different_notes)
    (g_begins_at_root : FG K mg "begins_at_root" s_begins_at_root)
    (g_is_chord : FG K mg "is_chord" s_is_chord)
    (g_is_kind : FG K mg "is_kind" s_is_kind)
    (g_is_mode : FG K mg "is_mode" s_is_mode)
    (g_are_chords : FG K mg "are_chords" s_are_chords)
    (g_place_in : FG K mg "place_in" s_place_in)
    (g_with_count : FG K mg "with_count" s_with_count)
    (g_shown_name : FG K mg "shown_name" s_shown_name)
    (g_name_of : FG K mg "name_of" s_name_of)
    (g_names_of : FG K mg "names_of" s_names_of)
    (g_best_by_root : FG K mg "best_by_root" s_best_by_root)
    (g_keys_of : FG K mg "keys_of" s_keys_of)
    (g_degree_in : FG K mg "degree_in" s_degree_in)
    (g_notes_outside : FG K mg "notes_outside" s_notes_outside)
    (g_key_change_cost : FG K mg "key_change_cost" s_key_change_cost)
    (g_root_change_cost : FG K mg "root_change_cost" s_root_change_cost)
    (g_cheapest : FG K mg "cheapest" s_cheapest)
    (g_step_and_behind : FG K mg "step_and_behind" s_step_and_behind)
    (g_into_key : FG K mg "into_key" s_into_key)
    (g_behind_step : FG K mg "behind_step" s_behind_step)
    (g_onward_costs : FG K mg "onward_costs" s_onward_costs)
    (g_entry_cost : FG K mg "entry_cost" s_entry_cost)
    (g_first_step : FG K mg "first_step" s_first_step)
    (g_first_way : FG K mg "first_way" s_first_way)
    (g_cheapest_ways : FG K mg "cheapest_ways" s_cheapest_ways)
    (g_Costs_init : MG K CC "__init__" "Costs.__init__" s_Costs_init)
    (g_Line_begin : MG K CL "begin" "Line.begin" s_Line_begin)
    (g_Line_init : MG K CL "__init__" "Line.__init__" s_Line_init)
    (g_Reader_init : MG K CR "__init__" "Reader.__init__" s_Reader_init)
    (g_Reader_has_more : MG K CR "has_more" "Reader.has_more" s_Reader_has_more)
    (g_Reader_number : MG K CR "number" "Reader.number" s_Reader_number)
    (g_Reader_several : MG K CR "several" "Reader.several" s_Reader_several)
    (g_Reader_row : MG K CR "row" "Reader.row" s_Reader_row)
    (g_Reader_rows : MG K CR "rows" "Reader.rows" s_Reader_rows)
    (g_Step_init : MG K CS "__init__" "Step.__init__" s_Step_init)
    (g_call_kinds : FG K mg "call_kinds" s_call_kinds)
    (g_call_modes : FG K mg "call_modes" s_call_modes)
    (g_call_costs : FG K mg "call_costs" s_call_costs)
    (g_call_names : FG K mg "call_names" s_call_names)
    (g_call_degree : FG K mg "call_degree" s_call_degree)
    (g_call_common : FG K mg "call_common" s_call_common)
    (g_call_through : FG K mg "call_through" s_call_through)
    (g_answer_of : FG K mg "answer_of" s_answer_of)
    (g_answers : FG K mg "answers" s_answers) :
    ∃ fd : FuncData, (∀ (s : Shared) (us : List Value), us.length = (["calls"] : List Str).length → BindsTo s fd ⟨us, []⟩ ((["calls"] : List Str).zip us)) ∧ ∀ base : Heap, K.In base → base.Ns mainGlobals mg → FnOk P w K mg base CX0 9 fa fd ["calls"] (sp_ans K) := by
  obtain ⟨f, fd, F, hm, hk⟩ := g_answers.ex
  have e := hfa.symm.trans hm
  cases e
  obtain ⟨oc, od, kV, doc, pm, an, cdv, ct, osl, rfl, lk, hcd⟩ := id F.ex
  refine ⟨PySem.W.fnOf "answers" "answers" (defArgs s_answers) (defBody s_answers) (defScope s_answers) .none kV doc pm an cdv ct, fun s us hu => match us, hu with | [_], _ => .of_eq rfl, fun base _ _ => ?_⟩
  have c_are_notes : Cal P w K mg base 1 "are_notes" ["numbers"] sp_are_notes := g_are_notes.cal (fun f fd F => ok_are_notes F T ) (fun _ _ _ _ _ _ us hl => match us, hl with | [_], _ => rfl)
  have c_are_different_notes : Cal P w K mg base 2 "are_different_notes" ["numbers"] (spB difP) := g_are_different_notes.cal (fun f fd F => ok_dif F T c_are_notes) (fun _ _ _ _ _ _ us hl => match us, hl with | [_], _ => rfl)
  have c_begins_at_root : Cal P w K mg base 3 "begins_at_root" ["numbers"] (spB begP) := g_begins_at_root.cal (fun f fd F => ok_beg F T c_are_different_notes) (fun _ _ _ _ _ _ us hl => match us, hl with | [_], _ => rfl)
  have c_is_chord : Cal P w K mg base 3 "is_chord" ["numbers"] (spB Sw69.chordOk) := g_is_chord.cal (fun f fd F => ok_chord F T c_are_different_notes) (fun _ _ _ _ _ _ us hl => match us, hl with | [_], _ => rfl)
  have c_is_kind : Cal P w K mg base 4 "is_kind" ["numbers"] (spB Sw69.kindOk) := g_is_kind.cal (fun f fd F => ok_kind F T c_begins_at_root) (fun _ _ _ _ _ _ us hl => match us, hl with | [_], _ => rfl)
  have c_is_mode : Cal P w K mg base 4 "is_mode" ["numbers"] (spB Sw69.modeOk) := g_is_mode.cal (fun f fd F => ok_mode F T c_begins_at_root) (fun _ _ _ _ _ _ us hl => match us, hl with | [_], _ => rfl)
  have c_are_chords : Cal P w K mg base 4 "are_chords" ["rows"] (spBs fun l => decide (l.length ≤ 12) && l.all Sw69.chordOk) := g_are_chords.cal (fun f fd F => ok_chords F T c_is_chord) (fun _ _ _ _ _ _ us hl => match us, hl with | [_], _ => rfl)
  have c_place_in : Cal P w K mg base 1 "place_in" ["numbers", "number"] sp_place_in := g_place_in.cal (fun f fd F => ok_place_in F T ) (fun _ _ _ _ _ _ us hl => match us, hl with | [_, _], _ => rfl)
  have c_with_count : Cal P w K mg base 1 "with_count" ["numbers"] sp_with_count := g_with_count.cal (fun f fd F => ok_with_count F T ) (fun _ _ _ _ _ _ us hl => match us, hl with | [_], _ => rfl)
  have c_shown_name : Cal P w K mg base 1 "shown_name" ["name"] sp_shown_name := g_shown_name.cal (fun f fd F => ok_shown_name F T ) (fun _ _ _ _ _ _ us hl => match us, hl with | [_], _ => rfl)
  have c_name_of : Cal P w K mg base 2 "name_of" ["line", "chord", "root", "kind"] (sp_name_of CC CL) := g_name_of.cal (fun f fd F => ok_name_of F T c_place_in) (fun _ _ _ _ _ _ us hl => match us, hl with | [_, _, _, _], _ => rfl)
  have c_names_of : Cal P w K mg base 3 "names_of" ["line", "most", "chord"] (sp_names_of CC CL) := g_names_of.cal (fun f fd F => ok_names_of F T c_name_of) (fun _ _ _ _ _ _ us hl => match us, hl with | [_, _, _], _ => rfl)
  have c_best_by_root : Cal P w K mg base 1 "best_by_root" ["names"] sp_best := g_best_by_root.cal (fun f fd F => ok_best F T ) (fun _ _ _ _ _ _ us hl => match us, hl with | [_], _ => rfl)
  have c_keys_of : Cal P w K mg base 1 "keys_of" ["line"] (sp_keys_of CC CL) := g_keys_of.cal (fun f fd F => ok_keys_of F T ) (fun _ _ _ _ _ _ us hl => match us, hl with | [_], _ => rfl)
  have c_degree_in : Cal P w K mg base 2 "degree_in" ["line", "key", "note"] (sp_degree_in CC CL) := g_degree_in.cal (fun f fd F => ok_degree_in F T c_place_in) (fun _ _ _ _ _ _ us hl => match us, hl with | [_, _, _], _ => rfl)
  have c_notes_outside : Cal P w K mg base 3 "notes_outside" ["line", "key", "chord"] (sp_outside CC CL) := g_notes_outside.cal (fun f fd F => ok_outside F T c_degree_in) (fun _ _ _ _ _ _ us hl => match us, hl with | [_, _, _], _ => rfl)
  have c_key_change_cost : Cal P w K mg base 1 "key_change_cost" ["line", "before", "after"] (sp_kcost CC CL) := g_key_change_cost.cal (fun f fd F => ok_kcost F T ) (fun _ _ _ _ _ _ us hl => match us, hl with | [_, _, _], _ => rfl)
  have c_root_change_cost : Cal P w K mg base 3 "root_change_cost" ["line", "key", "before", "after"] (sp_rcost CC CL) := g_root_change_cost.cal (fun f fd F => ok_rcost F T c_degree_in) (fun _ _ _ _ _ _ us hl => match us, hl with | [_, _, _, _], _ => rfl)
  have c_cheapest : Cal P w K mg base 1 "cheapest" ["pairs"] sp_cheapest := g_cheapest.cal (fun f fd F => ok_cheapest F T ) (fun _ _ _ _ _ _ us hl => match us, hl with | [_], _ => rfl)
  have c_step_and_behind : Cal P w K mg base 4 "step_and_behind" ["line", "step", "behind"] (sp_sab CC CL CS) := g_step_and_behind.cal (fun f fd F => ok_sab F T c_keys_of c_notes_outside) (fun _ _ _ _ _ _ us hl => match us, hl with | [_, _, _], _ => rfl)
  have c_into_key : Cal P w K mg base 4 "into_key" ["line", "root", "key", "by_root"] (sp_into CC CL) := g_into_key.cal (fun f fd F => ok_into F T c_root_change_cost c_cheapest) (fun _ _ _ _ _ _ us hl => match us, hl with | [_, _, _, _], _ => rfl)
  have c_behind_step : Cal P w K mg base 5 "behind_step" ["line", "step", "onward"] (sp_beh CC CL CS) := g_behind_step.cal (fun f fd F => ok_beh F T c_keys_of c_into_key c_key_change_cost c_cheapest) (fun _ _ _ _ _ _ us hl => match us, hl with | [_, _, _], _ => rfl)
  have c_onward_costs : Cal P w K mg base 6 "onward_costs" ["line", "steps"] (sp_onward CC CL CS) := g_onward_costs.cal (fun f fd F => ok_onward F T c_behind_step c_step_and_behind) (fun _ _ _ _ _ _ us hl => match us, hl with | [_, _], _ => rfl)
  have c_entry_cost : Cal P w K mg base 4 "entry_cost" ["line", "before", "key", "root"] (sp_entry CC CL) := g_entry_cost.cal (fun f fd F => ok_entry F T c_key_change_cost c_root_change_cost) (fun _ _ _ _ _ _ us hl => match us, hl with | [_, _, _, _], _ => rfl)
  have c_first_step : Cal P w K mg base 5 "first_step" ["line", "before", "step", "onward"] (sp_first CC CL CS) := g_first_step.cal (fun f fd F => ok_first F T c_keys_of c_entry_cost) (fun _ _ _ _ _ _ us hl => match us, hl with | [_, _, _, _], _ => rfl)
  have c_first_way : Cal P w K mg base 6 "first_way" ["line", "steps", "onward"] (sp_fway CC CL CS) := g_first_way.cal (fun f fd F => ok_fway F T c_first_step c_shown_name) (fun _ _ _ _ _ _ us hl => match us, hl with | [_, _, _], _ => rfl)
  have c_cheapest_ways : Cal P w K mg base 2 "cheapest_ways" ["onward"] sp_cways := g_cheapest_ways.cal (fun f fd F => ok_cways F T c_cheapest) (fun _ _ _ _ _ _ us hl => match us, hl with | [_], _ => rfl)
  have m_Costs : KCal P w K mg base 1 CC "Costs" ["self", "singles", "table"] (sp_Cinit CC) := g_Costs_init.kal K_Costs (fun f fd F => ok_Cinit F T ) (fun _ _ _ _ _ _ us hl => match us, hl with | [_, _, _], _ => rfl)
  have m_Line_begin : MCal P w K mg base 3 CL "begin" ["self"] (sp_begin CC CL) := g_Line_begin.cal T.clL (fun f fd F => ok_begin F T m_Costs) (fun _ _ _ _ _ _ us hl => match us, hl with | [_], _ => rfl)
  have m_Line : KCal P w K mg base 4 CL "Line" ["self"] (sp_Linit CC CL) := g_Line_init.kal K_Line (fun f fd F => ok_Linit F T m_Line_begin) (fun _ _ _ _ _ _ us hl => match us, hl with | [_], _ => rfl)
  have m_Reader : KCal P w K mg base 1 CR "Reader" ["self", "numbers"] (sp_Rinit K CR) := g_Reader_init.kal K_Reader (fun f fd F => ok_Rinit F T ) (fun _ _ _ _ _ _ us hl => match us, hl with | [_, _], _ => rfl)
  have m_Reader_has_more : MCal P w K mg base 1 CR "has_more" ["self"] (sp_more K CR) := g_Reader_has_more.cal T.clR (fun f fd F => ok_more F T ) (fun _ _ _ _ _ _ us hl => match us, hl with | [_], _ => rfl)
  have m_Reader_number : MCal P w K mg base 1 CR "number" ["self"] (sp_num K CR) := g_Reader_number.cal T.clR (fun f fd F => ok_num F T ) (fun _ _ _ _ _ _ us hl => match us, hl with | [_], _ => rfl)
  have m_Reader_several : MCal P w K mg base 1 CR "several" ["self", "how_many"] (sp_sev K CR) := g_Reader_several.cal T.clR (fun f fd F => ok_sev F T ) (fun _ _ _ _ _ _ us hl => match us, hl with | [_, _], _ => rfl)
  have m_Reader_row : MCal P w K mg base 2 CR "row" ["self"] (sp_row K CR) := g_Reader_row.cal T.clR (fun f fd F => ok_row F T m_Reader_number m_Reader_several) (fun _ _ _ _ _ _ us hl => match us, hl with | [_], _ => rfl)
  have m_Reader_rows : MCal P w K mg base 3 CR "rows" ["self"] (sp_rows K CR) := g_Reader_rows.cal T.clR (fun f fd F => ok_rows F T m_Reader_number m_Reader_row) (fun _ _ _ _ _ _ us hl => match us, hl with | [_], _ => rfl)
  have m_Step : KCal P w K mg base 2 CS "Step" ["self", "chord", "names"] (sp_Sinit CS) := g_Step_init.kal K_Step (fun f fd F => ok_Sinit F T c_best_by_root) (fun _ _ _ _ _ _ us hl => match us, hl with | [_, _, _], _ => rfl)
  have c_call_kinds : Cal P w K mg base 5 "call_kinds" ["line", "rows"] (sp_ckinds CC CL) := g_call_kinds.cal (fun f fd F => ok_ckinds F T c_is_kind) (fun _ _ _ _ _ _ us hl => match us, hl with | [_, _], _ => rfl)
  have c_call_modes : Cal P w K mg base 5 "call_modes" ["line", "rows"] (sp_cmodes CC CL) := g_call_modes.cal (fun f fd F => ok_cmodes F T c_is_mode) (fun _ _ _ _ _ _ us hl => match us, hl with | [_, _], _ => rfl)
  have c_call_costs : Cal P w K mg base 3 "call_costs" ["line", "singles", "table"] (sp_ccosts CC CL) := g_call_costs.cal (fun f fd F => ok_ccosts F T m_Costs) (fun _ _ _ _ _ _ us hl => match us, hl with | [_, _, _], _ => rfl)
  have c_call_names : Cal P w K mg base 4 "call_names" ["line", "most", "chord"] (sp_cnames CC CL) := g_call_names.cal (fun f fd F => ok_cnames F T c_is_chord c_names_of c_with_count c_shown_name) (fun _ _ _ _ _ _ us hl => match us, hl with | [_, _, _], _ => rfl)
  have c_call_degree : Cal P w K mg base 3 "call_degree" ["line", "tonic", "mode", "notes"] (sp_cdegree CC CL) := g_call_degree.cal (fun f fd F => ok_cdegree F T c_are_notes c_degree_in c_with_count) (fun _ _ _ _ _ _ us hl => match us, hl with | [_, _, _, _], _ => rfl)
  have c_call_common : Cal P w K mg base 5 "call_common" ["line", "chords"] (sp_ccommon CC CL) := g_call_common.cal (fun f fd F => ok_ccommon F T c_are_chords c_keys_of c_notes_outside c_with_count) (fun _ _ _ _ _ _ us hl => match us, hl with | [_, _], _ => rfl)
  have c_call_through : Cal P w K mg base 7 "call_through" ["line", "most", "chords"] (sp_cthru CC CL) := g_call_through.cal (fun f fd F => ok_cthru F T c_are_chords c_names_of m_Step c_onward_costs c_cheapest_ways c_first_way c_with_count) (fun _ _ _ _ _ _ us hl => match us, hl with | [_, _, _], _ => rfl)
  have c_answer_of : Cal P w K mg base 8 "answer_of" ["line", "reader"] (sp_aof K CC CL CR) := g_answer_of.cal (fun f fd F => ok_aof F T m_Reader_number m_Reader_several m_Reader_row m_Reader_rows m_Line_begin c_call_kinds c_call_modes c_call_costs c_call_names c_call_degree c_call_common c_call_through) (fun _ _ _ _ _ _ us hl => match us, hl with | [_, _], _ => rfl)
  exact ok_ans F T m_Line m_Reader m_Reader_has_more m_Reader_number m_Reader_row c_with_count c_answer_of
end
end CN
end
/-! These names stand so that no quick twins of the snapshots are laid: a twin's equation is long, and the file's compiled form must stay small. -/
def PySem.W.Fast.tw5731437707952934014 : Unit := ()
def PySem.W.Fast.tw5676579223322203950 : Unit := ()
def PySem.W.Fast.tw12134459976520064131 : Unit := ()
def PySem.W.Fast.tw11270776680839516926 : Unit := ()
def PySem.W.Fast.tw6345067218883345164 : Unit := ()
def PySem.W.Fast.tw11627486821857914922 : Unit := ()
def PySem.W.Fast.tw14362610098892697908 : Unit := ()
def PySem.W.Fast.tw17610298910389060658 : Unit := ()
def PySem.W.Fast.tw12539402617252040376 : Unit := ()
def PySem.W.Fast.tw9808338916067888144 : Unit := ()
def PySem.W.Fast.tw2030484604892310126 : Unit := ()
def PySem.W.Fast.tw14804358573873465922 : Unit := ()
def PySem.W.Fast.tw5049892720097459357 : Unit := ()
def PySem.W.Fast.tw9499956453516595484 : Unit := ()
def PySem.W.Fast.tw4101443130618390514 : Unit := ()
def PySem.W.Fast.tw14306831900940445115 : Unit := ()
def PySem.W.Fast.tw8607804595700320837 : Unit := ()
def PySem.W.Fast.tw2927008241595424993 : Unit := ()
def PySem.W.Fast.tw14541995220796970197 : Unit := ()
def PySem.W.Fast.tw10886518105120941157 : Unit := ()
def PySem.W.Fast.tw14264622811104372581 : Unit := ()
def PySem.W.Fast.tw3100872618116382535 : Unit := ()
open PySem PySem.W PyProof.Rows
set_option maxRecDepth 100000 in
set_option maxHeartbeats 0 in
theorem PySem.Challenge.cw_chordnames_s01_answers_holds : PySem.Challenge.rw_chordnames_s01_answers.Holds := by
  w_on; k_headS; (case hw => exact ⟨[.list [.int 0, .int 1, .int 0]], by decide +kernel, by decide +kernel⟩)
  k_fillS
  refine L2.walk_specK (r := PySem.Challenge.rw_chordnames_s01_answers) (k := 9) (CX := L2.CX0) (ps := ["calls"]) (sp := CN.sp_ans) (by decide +kernel) rfl rfl ⟨rfl, by decide, by decide⟩ (fun w h Y => PySem.W.kIn_of Y) ?F ?S (fun _ _ _ _ z => z)
  case F =>
    intro w mg fa h Y KX G hmg
    refine' CN.with_cls KX G (x := "Costs") ?a ?pg ?hd ?po ?sa ?mk ?kc ?go; (case a => k_is); (case pg => k_is); (case hd => k_is); (case po => k_is); (case sa => k_is); (case mk => k_is); (case kc => k_is)
    case go =>
    intro K_Costs
    refine' CN.with_cls KX G (x := "Line") ?a ?pg ?hd ?po ?sa ?mk ?kc ?go; (case a => k_is); (case pg => k_is); (case hd => k_is); (case po => k_is); (case sa => k_is); (case mk => k_is); (case kc => k_is)
    case go =>
    intro K_Line
    refine' CN.with_cls KX G (x := "Reader") ?a ?pg ?hd ?po ?sa ?mk ?kc ?go; (case a => k_is); (case pg => k_is); (case hd => k_is); (case po => k_is); (case sa => k_is); (case mk => k_is); (case kc => k_is)
    case go =>
    intro K_Reader
    refine' CN.with_cls KX G (x := "Step") ?a ?pg ?hd ?po ?sa ?mk ?kc ?go; (case a => k_is); (case pg => k_is); (case hd => k_is); (case po => k_is); (case sa => k_is); (case mk => k_is); (case kc => k_is)
    case go =>
    intro K_Step
    refine' CN.noat K_Costs (x := "miss") ?a ?go; (case a => k_is)
    case go =>
    intro t_n_miss
    refine' CN.noat K_Costs (x := "extra") ?a ?go; (case a => k_is)
    case go =>
    intro t_n_extra
    refine' CN.noat K_Costs (x := "turned") ?a ?go; (case a => k_is)
    case go =>
    intro t_n_turned
    refine' CN.noat K_Costs (x := "out") ?a ?go; (case a => k_is)
    case go =>
    intro t_n_out
    refine' CN.noat K_Costs (x := "key") ?a ?go; (case a => k_is)
    case go =>
    intro t_n_key
    refine' CN.noat K_Costs (x := "mode") ?a ?go; (case a => k_is)
    case go =>
    intro t_n_mode
    refine' CN.noat K_Costs (x := "table") ?a ?go; (case a => k_is)
    case go =>
    intro t_n_table
    refine' CN.noat K_Line (x := "kinds") ?a ?go; (case a => k_is)
    case go =>
    intro t_n_kinds
    refine' CN.noat K_Line (x := "modes") ?a ?go; (case a => k_is)
    case go =>
    intro t_n_modes
    refine' CN.noat K_Line (x := "costs") ?a ?go; (case a => k_is)
    case go =>
    intro t_n_costs
    refine' CN.noat K_Reader (x := "numbers") ?a ?go; (case a => k_is)
    case go =>
    intro t_n_numbers
    refine' CN.noat K_Reader (x := "place") ?a ?go; (case a => k_is)
    case go =>
    intro t_n_place
    refine' CN.noat K_Step (x := "chord") ?a ?go; (case a => k_is)
    case go =>
    intro t_n_chord
    refine' CN.noat K_Step (x := "best") ?a ?go; (case a => k_is)
    case go =>
    intro t_n_best
    refine' CN.with_int KX G (x := "LOWEST_NOTE") (n := (-20)) ?a ?go; (case a => k_is)
    case go =>
    intro t_LOWEST_NOTE
    refine' CN.with_int KX G (x := "HIGHEST_NOTE") (n := (20)) ?a ?go; (case a => k_is)
    case go =>
    intro t_HIGHEST_NOTE
    refine' CN.with_int KX G (x := "LOWEST_TONIC") (n := (-7)) ?a ?go; (case a => k_is)
    case go =>
    intro t_LOWEST_TONIC
    refine' CN.with_int KX G (x := "HIGHEST_TONIC") (n := (7)) ?a ?go; (case a => k_is)
    case go =>
    intro t_HIGHEST_TONIC
    refine' CN.with_int KX G (x := "MOST_CHORD_NOTES") (n := (8)) ?a ?go; (case a => k_is)
    case go =>
    intro t_MOST_CHORD_NOTES
    refine' CN.with_int KX G (x := "MOST_KIND_NOTES") (n := (6)) ?a ?go; (case a => k_is)
    case go =>
    intro t_MOST_KIND_NOTES
    refine' CN.with_int KX G (x := "MODE_NOTES") (n := (7)) ?a ?go; (case a => k_is)
    case go =>
    intro t_MODE_NOTES
    refine' CN.with_int KX G (x := "MOST_KINDS") (n := (10)) ?a ?go; (case a => k_is)
    case go =>
    intro t_MOST_KINDS
    refine' CN.with_int KX G (x := "MOST_MODES") (n := (3)) ?a ?go; (case a => k_is)
    case go =>
    intro t_MOST_MODES
    refine' CN.with_int KX G (x := "MOST_CHORDS") (n := (12)) ?a ?go; (case a => k_is)
    case go =>
    intro t_MOST_CHORDS
    refine' CN.with_int KX G (x := "HIGHEST_COST") (n := (10000)) ?a ?go; (case a => k_is)
    case go =>
    intro t_HIGHEST_COST
    refine' CN.with_int KX G (x := "SINGLE_COSTS") (n := (6)) ?a ?go; (case a => k_is)
    case go =>
    intro t_SINGLE_COSTS
    refine' CN.with_int KX G (x := "TABLE_SIDE") (n := (8)) ?a ?go; (case a => k_is)
    case go =>
    intro t_TABLE_SIDE
    refine' CN.with_int KX G (x := "TABLE_SIZE") (n := (64)) ?a ?go; (case a => k_is)
    case go =>
    intro t_TABLE_SIZE
    refine' CN.with_int KX G (x := "REFUSED") (n := (-1)) ?a ?go; (case a => k_is)
    case go =>
    intro t_REFUSED
    refine' CN.with_int KX G (x := "NO_SUCH_MODE") (n := (-2)) ?a ?go; (case a => k_is)
    case go =>
    intro t_NO_SUCH_MODE
    refine' CN.with_int KX G (x := "NO_WAY") (n := (-6)) ?a ?go; (case a => k_is)
    case go =>
    intro t_NO_WAY
    refine' CN.with_int KX G (x := "BEGINS") (n := (0)) ?a ?go; (case a => k_is)
    case go =>
    intro t_BEGINS
    refine' CN.with_int KX G (x := "KINDS") (n := (1)) ?a ?go; (case a => k_is)
    case go =>
    intro t_KINDS
    refine' CN.with_int KX G (x := "MODES") (n := (2)) ?a ?go; (case a => k_is)
    case go =>
    intro t_MODES
    refine' CN.with_int KX G (x := "COSTS") (n := (3)) ?a ?go; (case a => k_is)
    case go =>
    intro t_COSTS
    refine' CN.with_int KX G (x := "NAMES") (n := (4)) ?a ?go; (case a => k_is)
    case go =>
    intro t_NAMES
    refine' CN.with_int KX G (x := "DEGREE") (n := (5)) ?a ?go; (case a => k_is)
    case go =>
    intro t_DEGREE
    refine' CN.with_int KX G (x := "COMMON") (n := (6)) ?a ?go; (case a => k_is)
    case go =>
    intro t_COMMON
    refine' CN.with_blt KX G (x := "len") ?a ?go; (case a => k_is)
    case go =>
    intro t_b_len
    refine' CN.with_blt KX G (x := "all") ?a ?go; (case a => k_is)
    case go =>
    intro t_b_all
    refine' CN.with_blt KX G (x := "abs") ?a ?go; (case a => k_is)
    case go =>
    intro t_b_abs
    refine' CN.with_blt KX G (x := "sum") ?a ?go; (case a => k_is)
    case go =>
    intro t_b_sum
    refine' CN.with_blt KX G (x := "min") ?a ?go; (case a => k_is)
    case go =>
    intro t_b_min
    refine' CN.with_blt KX G (x := "max") ?a ?go; (case a => k_is)
    case go =>
    intro t_b_max
    refine' CN.with_blt KX G (x := "sorted") ?a ?go; (case a => k_is)
    case go =>
    intro t_b_sorted
    refine' CN.with_blt KX G (x := "set") ?a ?go; (case a => k_is)
    case go =>
    intro t_b_set
    refine' CN.with_blt KX G (x := "list") ?a ?go; (case a => k_is)
    case go =>
    intro t_b_list
    refine' CN.with_blt KX G (x := "reversed") ?a ?go; (case a => k_is)
    case go =>
    intro t_b_reversed
    refine' CN.with_blt KX G (x := "range") ?a ?go; (case a => k_is)
    case go =>
    intro t_b_range
    refine' CN.with_blt KX G (x := "zip") ?a ?go; (case a => k_is)
    case go =>
    intro t_b_zip
    refine' CN.metat K_Costs (m := "__init__") (qual := "Costs.__init__") (st := CN.s_Costs_init) ?a ?i ?l ?c ?k ?go; (case a => k_is); (case i => k_is); (case l => k_is); (case c => k_is); (case k => k_is)
    case go =>
    intro g_Costs_init
    refine' CN.metat K_Line (m := "__init__") (qual := "Line.__init__") (st := CN.s_Line_init) ?a ?i ?l ?c ?k ?go; (case a => k_is); (case i => k_is); (case l => k_is); (case c => k_is); (case k => k_is)
    case go =>
    intro g_Line_init
    refine' CN.metat K_Line (m := "begin") (qual := "Line.begin") (st := CN.s_Line_begin) ?a ?i ?l ?c ?k ?go; (case a => k_is); (case i => k_is); (case l => k_is); (case c => k_is); (case k => k_is)
    case go =>
    intro g_Line_begin
    refine' CN.metat K_Reader (m := "__init__") (qual := "Reader.__init__") (st := CN.s_Reader_init) ?a ?i ?l ?c ?k ?go; (case a => k_is); (case i => k_is); (case l => k_is); (case c => k_is); (case k => k_is)
    case go =>
    intro g_Reader_init
    refine' CN.metat K_Reader (m := "has_more") (qual := "Reader.has_more") (st := CN.s_Reader_has_more) ?a ?i ?l ?c ?k ?go; (case a => k_is); (case i => k_is); (case l => k_is); (case c => k_is); (case k => k_is)
    case go =>
    intro g_Reader_has_more
    refine' CN.metat K_Reader (m := "number") (qual := "Reader.number") (st := CN.s_Reader_number) ?a ?i ?l ?c ?k ?go; (case a => k_is); (case i => k_is); (case l => k_is); (case c => k_is); (case k => k_is)
    case go =>
    intro g_Reader_number
    refine' CN.metat K_Reader (m := "several") (qual := "Reader.several") (st := CN.s_Reader_several) ?a ?i ?l ?c ?k ?go; (case a => k_is); (case i => k_is); (case l => k_is); (case c => k_is); (case k => k_is)
    case go =>
    intro g_Reader_several
    refine' CN.metat K_Reader (m := "row") (qual := "Reader.row") (st := CN.s_Reader_row) ?a ?i ?l ?c ?k ?go; (case a => k_is); (case i => k_is); (case l => k_is); (case c => k_is); (case k => k_is)
    case go =>
    intro g_Reader_row
    refine' CN.metat K_Reader (m := "rows") (qual := "Reader.rows") (st := CN.s_Reader_rows) ?a ?i ?l ?c ?k ?go; (case a => k_is); (case i => k_is); (case l => k_is); (case c => k_is); (case k => k_is)
    case go =>
    intro g_Reader_rows
    refine' CN.metat K_Step (m := "__init__") (qual := "Step.__init__") (st := CN.s_Step_init) ?a ?i ?l ?c ?k ?go; (case a => k_is); (case i => k_is); (case l => k_is); (case c => k_is); (case k => k_is)
    case go =>
    intro g_Step_init
    refine' CN.with_fun KX G (x := "are_notes") (st := CN.s_are_notes) ?a ?l ?c ?k ?go; (case a => k_is); (case l => k_is); (case c => k_is); (case k => k_is)
    case go =>
    intro g_are_notes
    refine' CN.with_fun KX G (x := "are_different_notes") (st := CN.s_are_different_notes) ?a ?l ?c ?k ?go; (case a => k_is); (case l => k_is); (case c => k_is); (case k => k_is)
    case go =>
    intro g_are_different_notes
    refine' CN.with_fun KX G (x := "begins_at_root") (st := CN.s_begins_at_root) ?a ?l ?c ?k ?go; (case a => k_is); (case l => k_is); (case c => k_is); (case k => k_is)
    case go =>
    intro g_begins_at_root
    refine' CN.with_fun KX G (x := "is_chord") (st := CN.s_is_chord) ?a ?l ?c ?k ?go; (case a => k_is); (case l => k_is); (case c => k_is); (case k => k_is)
    case go =>
    intro g_is_chord
    refine' CN.with_fun KX G (x := "are_chords") (st := CN.s_are_chords) ?a ?l ?c ?k ?go; (case a => k_is); (case l => k_is); (case c => k_is); (case k => k_is)
    case go =>
    intro g_are_chords
    refine' CN.with_fun KX G (x := "is_kind") (st := CN.s_is_kind) ?a ?l ?c ?k ?go; (case a => k_is); (case l => k_is); (case c => k_is); (case k => k_is)
    case go =>
    intro g_is_kind
    refine' CN.with_fun KX G (x := "is_mode") (st := CN.s_is_mode) ?a ?l ?c ?k ?go; (case a => k_is); (case l => k_is); (case c => k_is); (case k => k_is)
    case go =>
    intro g_is_mode
    refine' CN.with_fun KX G (x := "place_in") (st := CN.s_place_in) ?a ?l ?c ?k ?go; (case a => k_is); (case l => k_is); (case c => k_is); (case k => k_is)
    case go =>
    intro g_place_in
    refine' CN.with_fun KX G (x := "name_of") (st := CN.s_name_of) ?a ?l ?c ?k ?go; (case a => k_is); (case l => k_is); (case c => k_is); (case k => k_is)
    case go =>
    intro g_name_of
    refine' CN.with_fun KX G (x := "names_of") (st := CN.s_names_of) ?a ?l ?c ?k ?go; (case a => k_is); (case l => k_is); (case c => k_is); (case k => k_is)
    case go =>
    intro g_names_of
    refine' CN.with_fun KX G (x := "shown_name") (st := CN.s_shown_name) ?a ?l ?c ?k ?go; (case a => k_is); (case l => k_is); (case c => k_is); (case k => k_is)
    case go =>
    intro g_shown_name
    refine' CN.with_fun KX G (x := "best_by_root") (st := CN.s_best_by_root) ?a ?l ?c ?k ?go; (case a => k_is); (case l => k_is); (case c => k_is); (case k => k_is)
    case go =>
    intro g_best_by_root
    refine' CN.with_fun KX G (x := "keys_of") (st := CN.s_keys_of) ?a ?l ?c ?k ?go; (case a => k_is); (case l => k_is); (case c => k_is); (case k => k_is)
    case go =>
    intro g_keys_of
    refine' CN.with_fun KX G (x := "degree_in") (st := CN.s_degree_in) ?a ?l ?c ?k ?go; (case a => k_is); (case l => k_is); (case c => k_is); (case k => k_is)
    case go =>
    intro g_degree_in
    refine' CN.with_fun KX G (x := "notes_outside") (st := CN.s_notes_outside) ?a ?l ?c ?k ?go; (case a => k_is); (case l => k_is); (case c => k_is); (case k => k_is)
    case go =>
    intro g_notes_outside
    refine' CN.with_fun KX G (x := "key_change_cost") (st := CN.s_key_change_cost) ?a ?l ?c ?k ?go; (case a => k_is); (case l => k_is); (case c => k_is); (case k => k_is)
    case go =>
    intro g_key_change_cost
    refine' CN.with_fun KX G (x := "root_change_cost") (st := CN.s_root_change_cost) ?a ?l ?c ?k ?go; (case a => k_is); (case l => k_is); (case c => k_is); (case k => k_is)
    case go =>
    intro g_root_change_cost
    refine' CN.with_fun KX G (x := "cheapest") (st := CN.s_cheapest) ?a ?l ?c ?k ?go; (case a => k_is); (case l => k_is); (case c => k_is); (case k => k_is)
    case go =>
    intro g_cheapest
    refine' CN.with_fun KX G (x := "step_and_behind") (st := CN.s_step_and_behind) ?a ?l ?c ?k ?go; (case a => k_is); (case l => k_is); (case c => k_is); (case k => k_is)
    case go =>
    intro g_step_and_behind
    refine' CN.with_fun KX G (x := "into_key") (st := CN.s_into_key) ?a ?l ?c ?k ?go; (case a => k_is); (case l => k_is); (case c => k_is); (case k => k_is)
    case go =>
    intro g_into_key
    refine' CN.with_fun KX G (x := "behind_step") (st := CN.s_behind_step) ?a ?l ?c ?k ?go; (case a => k_is); (case l => k_is); (case c => k_is); (case k => k_is)
    case go =>
    intro g_behind_step
    refine' CN.with_fun KX G (x := "onward_costs") (st := CN.s_onward_costs) ?a ?l ?c ?k ?go; (case a => k_is); (case l => k_is); (case c => k_is); (case k => k_is)
    case go =>
    intro g_onward_costs
    refine' CN.with_fun KX G (x := "entry_cost") (st := CN.s_entry_cost) ?a ?l ?c ?k ?go; (case a => k_is); (case l => k_is); (case c => k_is); (case k => k_is)
    case go =>
    intro g_entry_cost
    refine' CN.with_fun KX G (x := "first_step") (st := CN.s_first_step) ?a ?l ?c ?k ?go; (case a => k_is); (case l => k_is); (case c => k_is); (case k => k_is)
    case go =>
    intro g_first_step
    refine' CN.with_fun KX G (x := "first_way") (st := CN.s_first_way) ?a ?l ?c ?k ?go; (case a => k_is); (case l => k_is); (case c => k_is); (case k => k_is)
    case go =>
    intro g_first_way
    refine' CN.with_fun KX G (x := "cheapest_ways") (st := CN.s_cheapest_ways) ?a ?l ?c ?k ?go; (case a => k_is); (case l => k_is); (case c => k_is); (case k => k_is)
    case go =>
    intro g_cheapest_ways
    refine' CN.with_fun KX G (x := "with_count") (st := CN.s_with_count) ?a ?l ?c ?k ?go; (case a => k_is); (case l => k_is); (case c => k_is); (case k => k_is)
    case go =>
    intro g_with_count
    refine' CN.with_fun KX G (x := "call_kinds") (st := CN.s_call_kinds) ?a ?l ?c ?k ?go; (case a => k_is); (case l => k_is); (case c => k_is); (case k => k_is)
    case go =>
    intro g_call_kinds
    refine' CN.with_fun KX G (x := "call_modes") (st := CN.s_call_modes) ?a ?l ?c ?k ?go; (case a => k_is); (case l => k_is); (case c => k_is); (case k => k_is)
    case go =>
    intro g_call_modes
    refine' CN.with_fun KX G (x := "call_costs") (st := CN.s_call_costs) ?a ?l ?c ?k ?go; (case a => k_is); (case l => k_is); (case c => k_is); (case k => k_is)
    case go =>
    intro g_call_costs
    refine' CN.with_fun KX G (x := "call_names") (st := CN.s_call_names) ?a ?l ?c ?k ?go; (case a => k_is); (case l => k_is); (case c => k_is); (case k => k_is)
    case go =>
    intro g_call_names
    refine' CN.with_fun KX G (x := "call_degree") (st := CN.s_call_degree) ?a ?l ?c ?k ?go; (case a => k_is); (case l => k_is); (case c => k_is); (case k => k_is)
    case go =>
    intro g_call_degree
    refine' CN.with_fun KX G (x := "call_common") (st := CN.s_call_common) ?a ?l ?c ?k ?go; (case a => k_is); (case l => k_is); (case c => k_is); (case k => k_is)
    case go =>
    intro g_call_common
    refine' CN.with_fun KX G (x := "call_through") (st := CN.s_call_through) ?a ?l ?c ?k ?go; (case a => k_is); (case l => k_is); (case c => k_is); (case k => k_is)
    case go =>
    intro g_call_through
    refine' CN.with_fun KX G (x := "answer_of") (st := CN.s_answer_of) ?a ?l ?c ?k ?go; (case a => k_is); (case l => k_is); (case c => k_is); (case k => k_is)
    case go =>
    intro g_answer_of
    refine' CN.with_fun KX G (x := "answers") (st := CN.s_answers) ?a ?l ?c ?k ?go; (case a => k_is); (case l => k_is); (case c => k_is); (case k => k_is)
    case go =>
    intro g_answers
    exact CN.all_mk hmg ⟨K_Costs.cl, K_Line.cl, K_Reader.cl, K_Step.cl, t_n_miss, t_n_extra, t_n_turned, t_n_out, t_n_key, t_n_mode, t_n_table, t_n_kinds, t_n_modes, t_n_costs, t_n_numbers, t_n_place, t_n_chord, t_n_best, t_LOWEST_NOTE, t_HIGHEST_NOTE, t_LOWEST_TONIC, t_HIGHEST_TONIC, t_MOST_CHORD_NOTES, t_MOST_KIND_NOTES, t_MODE_NOTES, t_MOST_KINDS, t_MOST_MODES, t_MOST_CHORDS, t_HIGHEST_COST, t_SINGLE_COSTS, t_TABLE_SIDE, t_TABLE_SIZE, t_REFUSED, t_NO_SUCH_MODE, t_NO_WAY, t_BEGINS, t_KINDS, t_MODES, t_COSTS, t_NAMES, t_DEGREE, t_COMMON, t_b_len, t_b_all, t_b_abs, t_b_sum, t_b_min, t_b_max, t_b_sorted, t_b_set, t_b_list, t_b_reversed, t_b_range, t_b_zip⟩ K_Costs K_Line K_Reader K_Step g_are_notes g_are_different_notes g_begins_at_root g_is_chord g_is_kind g_is_mode g_are_chords g_place_in g_with_count g_shown_name g_name_of g_names_of g_best_by_root g_keys_of g_degree_in g_notes_outside g_key_change_cost g_root_change_cost g_cheapest g_step_and_behind g_into_key g_behind_step g_onward_costs g_entry_cost g_first_step g_first_way g_cheapest_ways g_Costs_init g_Line_begin g_Line_init g_Reader_init g_Reader_has_more g_Reader_number g_Reader_several g_Reader_row g_Reader_rows g_Step_init g_call_kinds g_call_modes g_call_costs g_call_names g_call_degree g_call_common g_call_through g_answer_of g_answers
  case S =>
    intro K H xs a hO hwi hask hx
    cases hx with
    | cons h1 h2 =>
      cases h2
      cases h1 with
      | lst hs ha =>
        have e := L2.ints_dw a.1 _ ha
        subst e
        exact ⟨_, a.1, rfl, hs, hask, fun H' p hp => .lst (L2.SqL.of hp) (L2.dw_ints _)⟩
#print axioms PySem.Challenge.cw_chordnames_s01_answers_holds
